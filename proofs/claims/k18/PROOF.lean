import PyProof.Rows.All
import Wide.All
import OpenK.AllK
import Wide.FinOn
import KE.KStateDown
import HandS.Base
import HandS.Call
import HandS.List
import HandS.Comp
import HandS.Ends
import HandS.Dict
import HandS.Iter
import HandS.Text
import HandS.StrMore
import HandS.More
import HandS.Words
import HandS.WordsList
import HandS.WordsExc
import HandS.Exc
import HandS.ExcOwn
import HandS.ExcIs
import HandS.TryOnly
import HandS.IsInst
import HandS.Codes
import HandS.Defaults
import HandS.Wide
import HandS.Gcd
import KE.KOpsOwn
import KE.HD0
import KE.HD1
import KE.HD2
import KE.HD3
import HandS.Head0
import HandS.Head1
import HandS.Head2
import HandS.HeadEnd
import HandS.HeadHook1
import HandS.HeadHook2
import HandS.HeadHook3
import HandS.HeadHook4
import Flt.Len
import PyProof.NoPylong
import HandS.ExcInit
import HandS.ExcField
import HandS.FStr
import HandS.Evl
import HandS.WideBits
import HandS.Style
import HandS.Walk
import HandS.OwnEq
import HandS.Finally
import HandS.DictComp
import HandS.MakeKw
import HandS.More
import KE.SortData
import PySem.Challenge.RW_linkwork_k18_counts_of_systems
set_option Elab.async false
set_option linter.all false
set_option maxRecDepth 100000
namespace Lk
open PySem PySem.Spec L2
open PyProof.Rows hiding St
/-! ### the head's facts, the interpreter's own statics among what is written -/
def asS (g : Addr → Option Obj) (n : Nat) : List Addr := He.asD g n ++ [cStatics]
abbrev AlS : Type := He.AlD × Bool
def obsS (n : Nat) (fa : List He.Fa) (fn : List He.DefD) (ex : PySem.W.Frag → Bool) (g : Addr → Option Obj) : AlS := (He.obsD fa fn (He.frT g (asS g n)), ex (He.frT g (asS g n)))
structure SaysS (fa : List He.Fa) (fn : List He.DefD) (ex : PySem.W.Frag → Bool) (K : PySem.W.Frag) : Prop where
  d : He.SaysD fa fn K
  more : ex K = true
def hookS (n : Nat) (fa : List He.Fa) (fn : List He.DefD) (ex : PySem.W.Frag → Bool) : PySem.W.Hook where
  α := AlS
  obs := fun s => obsS n fa fn ex s.heap.get?
  val := fun _ => (He.valD fn, true)
  says := fun _ h => ∃ K : PySem.W.Frag, K.In h ∧ SaysS fa fn ex K
  of := fun _ _ e => ⟨_, He.frT_in, ⟨congrArg (fun z : AlS => z.1) e, congrArg (fun z : AlS => z.2) e⟩⟩
  keeps := fun _ _ _ z k => by
    obtain ⟨K, hK, c⟩ := z
    exact ⟨K, PySem.W.Frag.In.keeps hK k, c⟩
theorem obsS_eq {n : Nat} {fa : List He.Fa} {fn : List He.DefD} {ex : PySem.W.Frag → Bool} {g : Addr → Option Obj} {s : Shared} (h : ∀ a, g a = s.heap.get? a) : obsS n fa fn ex g = (hookS n fa fn ex).obs s := by
  have e : g = s.heap.get? := funext h
  rw [e] <;> rfl
/-! ### .. and tables of the top with text keys -/
abbrev TabS : Type := (PySem.W.Frag → Addr) × List Str
abbrev AlU : Type := AlS × List (Option (List (Option (Str × Int))))
def obsU (n : Nat) (fa : List He.Fa) (fn : List He.DefD) (ex : PySem.W.Frag → Bool) (ts : List TabS) (g : Addr → Option Obj) : AlU := (obsS n fa fn ex g, ts.map fun t => He.dicW (He.frT g (asS g n)) (t.1 (He.frT g (asS g n))))
structure SaysU (fa : List He.Fa) (fn : List He.DefD) (ex : PySem.W.Frag → Bool) (ts : List TabS) (w : World) (K : PySem.W.Frag) : Prop where
  d : He.SaysD fa fn K
  more : ex K = true
  tab : (ts.map fun t => He.dicW K (t.1 K)) = ts.map fun t => some (He.keysIn w.params t.2)
def hookU (n : Nat) (fa : List He.Fa) (fn : List He.DefD) (ex : PySem.W.Frag → Bool) (ts : List TabS) : PySem.W.Hook where
  α := AlU
  obs := fun s => obsU n fa fn ex ts s.heap.get?
  val := fun w => ((He.valD fn, true), ts.map fun t => some (He.keysIn w.params t.2))
  says := fun w h => ∃ K : PySem.W.Frag, K.In h ∧ SaysU fa fn ex ts w K
  of := fun w s e => by
    have e' : obsU n fa fn ex ts s.heap.get? = ((He.valD fn, true), ts.map fun t : TabS => some (He.keysIn w.params t.2)) := e
    have e1 : (obsU n fa fn ex ts s.heap.get?).1 = (He.valD fn, true) := by rw [e']
    have e2 : (obsU n fa fn ex ts s.heap.get?).2 = ts.map fun t : TabS => some (He.keysIn w.params t.2) := by rw [e']
    exact ⟨_, He.frT_in, ⟨congrArg (fun z : AlS => z.1) e1, congrArg (fun z : AlS => z.2) e1, e2⟩⟩
  keeps := fun _ _ _ z k => by
    obtain ⟨K, hK, c⟩ := z
    exact ⟨K, PySem.W.Frag.In.keeps hK k, c⟩
theorem obsU_eq {n : Nat} {fa : List He.Fa} {fn : List He.DefD} {ex : PySem.W.Frag → Bool} {ts : List TabS} {g : Addr → Option Obj} {s : Shared} (h : ∀ a, g a = s.heap.get? a) : obsU n fa fn ex ts g = (hookU n fa fn ex ts).obs s := by
  have e : g = s.heap.get? := funext h
  rw [e] <;> rfl
theorem SaysU.kd {fa : List He.Fa} {fn : List He.DefD} {ex : PySem.W.Frag → Bool} {ts : List TabS} {w : World} {K : PySem.W.Frag} (c : SaysU fa fn ex ts w K) (i : Nat) {t : TabS} (h : ts[i]? = some t) : ∃ es n, KDict K w (t.1 K) es n := by
  have e2 : (ts.map fun t => He.dicW K (t.1 K))[i]? = (ts.map fun t => some (He.keysIn w.params t.2))[i]? := by rw [c.tab]
  rw [List.getElem?_map, List.getElem?_map, h] at e2
  exact He.dicW_ok (Option.some.inj e2)
/-- whether a table holds a text -/
def inTab (K : PySem.W.Frag) (a : Addr) (x : Str) (b : Bool) : Bool := match PySem.W.nsIn K a x with
  | some r => r.isSome == b
  | none => false
theorem inTab_ok {K : PySem.W.Frag} {a : Addr} {x : Str} {b : Bool} (h : inTab K a x b = true) : ∃ r, PySem.W.nsIn K a x = some r ∧ r.isSome = b := by
  unfold inTab at h
  split at h
  · rename_i r e
    exact ⟨r, e, by simpa using h⟩
  · cases h
/-! ### steps of a reading, from the left -/
section
variable {σ : St} {H : Hp} {Q : VK} {ta tb te : TE} {i : Nat} {v x y : V} {nx : St → Hp → Prop} {rt : VK} {bk ct : St → Hp → Prop} {t u : TS} {c : TT}
theorem r_seq (h : t ⟨fun σ H => u ⟨nx, rt, bk, ct⟩ σ H, rt, bk, ct⟩ σ H) : tSeq t u ⟨nx, rt, bk, ct⟩ σ H := h
theorem r_set (h : te σ H fun x H1 => nx (σ.set i (some x)) H1) : tAsg te (gName i) ⟨nx, rt, bk, ct⟩ σ H := h
theorem r_ret (h : te σ H rt) : tRet te ⟨nx, rt, bk, ct⟩ σ H := h
theorem r_next (h : nx σ H) : tNext ⟨nx, rt, bk, ct⟩ σ H := h
theorem r_drop (h : te σ H fun _ H1 => nx σ H1) : tDrop te ⟨nx, rt, bk, ct⟩ σ H := h
theorem r_if (h : c σ H fun b H1 => if b = true then t ⟨nx, rt, bk, ct⟩ σ H1 else u ⟨nx, rt, bk, ct⟩ σ H1) : tIfS c t u ⟨nx, rt, bk, ct⟩ σ H := h
theorem r_brk (h : bk σ H) : tBreak ⟨nx, rt, bk, ct⟩ σ H := h
theorem r_cont (h : ct σ H) : tCont ⟨nx, rt, bk, ct⟩ σ H := h
theorem r_var (e : σ[i]? = some (some v)) (h : Q v H) : tVar i σ H Q := ⟨v, e, h⟩
theorem r_c (h : Q v H) : tC v σ H Q := h
theorem r_op {r : R2} (h : ta σ H fun x H1 => tb σ H1 fun y H2 => r x y H2 Q) : tOp r ta tb σ H Q := h
theorem r_un {r : V → Hp → VK → Prop} (h : ta σ H fun x H1 => r x H1 Q) : tUn r ta σ H Q := h
theorem r_I0 {g : Int → Int → V} {i j : Int} (h : Q (g i j) H) : rI0 g (.int i) (.int j) H Q := ⟨i, j, rfl, rfl, h⟩
theorem r_I {C : Int → Int → Prop} {g : Int → Int → V} {i j : Int} (hc : C i j) (h : Q (g i j) H) : rI C g (.int i) (.int j) H Q := ⟨i, j, rfl, rfl, hc, h⟩
theorem r_U {g : Int → V} {i : Int} (h : Q (g i) H) : rU g (.int i) H Q := ⟨i, rfl, h⟩
theorem r_eq (hs : scal x y = true) (h : Q (.bl (decide (x = y))) H) : rEq x y H Q := ⟨hs, h⟩
theorem r_ne (hs : scal x y = true) (h : Q (.bl (!decide (x = y))) H) : rNe x y H Q := ⟨hs, h⟩
theorem r_test {P : Bool → Hp → Prop} (h : te σ H fun x H' => ∃ k, x = .bl k ∧ P k H') : tTest te σ H P := h
theorem r_B {P : Bool → Hp → Prop} (h : te σ H fun x H' => ∃ k, x = .bl k ∧ P k H') : tB te σ H P := h
theorem r_bl {b : Bool} {P : Bool → Prop} (h : P b) : ∃ k, V.bl b = .bl k ∧ P k := ⟨b, rfl, h⟩
theorem r_nilA {P : List V → Hp → Prop} (h : P [] H) : tNil σ H P := h
theorem r_consA {tr : TA} {P : List V → Hp → Prop} (h : te σ H fun x H1 => tr σ H1 fun xs H2 => P (x :: xs) H2) : tCons te tr σ H P := h
theorem r_call {sp : Sp} {dvs : List V} {E : XK} {t : TA} (h : t σ H fun vs H1 => sp (vs ++ dvs) H1 Q E) : tCall sp dvs E t σ H Q := h
theorem r_callS {sp : Sp} {E : St → XK} {t : TA} (h : t σ H fun vs H1 => sp vs H1 Q (E σ)) : tCallS sp E t σ H Q := h
theorem r_CB {r : List V → Hp → VK → Prop} {t : TA} (h : t σ H fun vs H1 => r vs H1 Q) : tCB r t σ H Q := h
theorem r_tup {t : TA} (h : t σ H fun xs H1 => xs.length ≤ sizeLine ∧ ∀ p, H1 p = none → Q (.ref p) (upd H1 p (.tup xs))) : tTup t σ H Q := h
theorem r_lst {t : TA} (h : t σ H fun xs H1 => xs.length ≤ sizeLine ∧ ∀ p, H1 p = none → Q (.ref p) (upd H1 p (.lst xs))) : tLst t σ H Q := h
theorem r_and {u : TT} {P : Bool → Hp → Prop} (h : c σ H fun k H1 => if k = true then u σ H1 P else P false H1) : tAnd c u σ H P := h
theorem r_or {u : TT} {P : Bool → Hp → Prop} (h : c σ H fun k H1 => if k = true then P true H1 else u σ H1 P) : tOr c u σ H P := h
theorem r_not {P : Bool → Hp → Prop} (h : c σ H fun k H1 => P (!k) H1) : tNot c σ H P := h
theorem r_andV (h : ta σ H fun x H1 => ∃ k, x = .bl k ∧ if k = true then tb σ H1 Q else Q (.bl false) H1) : tAndV ta tb σ H Q := h
theorem r_orV (h : ta σ H fun x H1 => ∃ k, x = .bl k ∧ if k = true then Q (.bl true) H1 else tb σ H1 Q) : tOrV ta tb σ H Q := h
theorem r_notV (h : ta σ H fun x H1 => ∃ k, x = .bl k ∧ Q (.bl (!k)) H1) : tNotV ta σ H Q := h
theorem r_ifE (h : c σ H fun k H1 => if k = true then ta σ H1 Q else tb σ H1 Q) : tIf c ta tb σ H Q := h
theorem r_ixL {K : PySem.W.Frag} {p : Addr} {xs : List V} {i : Int} (hs : SqL K H p xs) (ha : atI xs i = some v) (h : Q v H) : rIxL K (.ref p) (.int i) H Q := ⟨p, xs, i, v, rfl, rfl, hs, ha, h⟩
theorem r_ixT {K : PySem.W.Frag} {p : Addr} {xs : List V} {i : Int} (hs : SqT K H p xs) (ha : atI xs i = some v) (h : Q v H) : rIxT K (.ref p) (.int i) H Q := ⟨p, xs, i, v, rfl, rfl, hs, ha, h⟩
theorem r_fld {K : PySem.W.Frag} {f : Str} (h : ta σ H fun x H1 => ∃ a C dx fs v, x = .ref a ∧ H1 a = some (.ins C dx fs) ∧ Cls K C ∧ NoAttr K C f ∧ fs.lookup f = some v ∧ Q v H1) : tFld K ta f σ H Q := h
theorem r_sub {to ti : TE} {ts : TSet} {D : St → Hp → Prop} (h : to σ H fun o H1 => ti σ H1 fun i H2 => ts o i v H2 fun H3 => D σ H3) : gSub to ti ts v σ H D := h
theorem r_asg {g : TG} (h : te σ H fun x H1 => g x σ H1 nx) : tAsg te g ⟨nx, rt, bk, ct⟩ σ H := h
theorem r_setL {D : Hp → Prop} {p : Addr} {xs : List V} {k : Int} {j : Nat} (hp : H p = some (.lst xs)) (hj : ixN xs.length k = some j) (h : D (upd H p (.lst (xs.set j v)))) : rSetL (.ref p) (.int k) v H D := ⟨p, xs, k, j, rfl, rfl, hp, hj, h⟩
theorem r_par {i j : Nat} {ta : TA} (h : ta σ H fun vs H1 => ∃ v w, vs = [v, w] ∧ nx ((σ.set i (some v)).set j (some w)) H1) : tPar i j ta ⟨nx, rt, bk, ct⟩ σ H := h
theorem r_par2 {v w : V} {P : V → V → Prop} (h : P v w) : ∃ a b, [v, w] = [a, b] ∧ P a b := ⟨v, w, rfl, h⟩
theorem ite_d {p A B : Prop} [Decidable p] (h1 : p → A) (h2 : ¬ p → B) : if decide p = true then A else B := by
  by_cases h : p
  · rw [if_pos (decide_eq_true h)]; exact h1 h
  · rw [if_neg (by simp [h])]; exact h2 h
theorem ite_nd {p A B : Prop} [Decidable p] (h1 : ¬ p → A) (h2 : p → B) : if (!decide p) = true then A else B := by
  by_cases h : p
  · rw [if_neg (by simp [h])]; exact h2 h
  · rw [if_pos (by simp [h])]; exact h1 h
theorem ite_b {b : Bool} {A B : Prop} (h1 : b = true → A) (h2 : b = false → B) : if b = true then A else B := by
  cases b with
  | true => exact if_pos rfl ▸ h1 rfl
  | false => exact if_neg Bool.false_ne_true ▸ h2 rfl
theorem vint_inj {i j : Int} (h : V.int i = V.int j) : i = j := V.int.inj h
theorem vint_ne {i j : Int} (h : ¬ V.int i = V.int j) : ¬ i = j := fun e => h (congrArg V.int e)
theorem vstr_inj {i j : Str} (h : V.str i = V.str j) : i = j := V.str.inj h
end
/-- a module's constant -/
theorem pe_globE {X : Cx} {x : Str} {v : V} {pos : Pos} (hg : Gl X x) (h : ∃ u, X.mg x = some u ∧ RelV v u) (hd : (x == ("__debug__" : Str)) = false := by decide) : PE X (.Name x pos) (tC v) := by
  obtain ⟨u, hm, r⟩ := h
  exact pe_glob hg hm r hd
/-- // of any divisor but 0 below 2 ^ 9000 -/
def CDivG (_ j : Int) : Prop := j ≠ 0 ∧ j.natAbs.log2 < 9000
theorem op_fdivG {X : Cx} : OpR X (binaryOp .FloorDiv) (rI CDivG fun i j => .int (i.fdiv j)) := opI fun i j _ _ _ _ _ hc q => floordiv_int hc.1 q (.inl (PyProof.noPylong_of_log2 hc.2))
theorem cdivG {i j : Int} {b : Nat} (h : j ≠ 0) (hb : j.natAbs < 2 ^ b) (h0 : 0 < b) (h9 : b ≤ 9000) : CDivG i j := ⟨h, Nat.lt_of_lt_of_le (PySem.Flt.log2_lt_of h0 hb) h9⟩
theorem r_int1 {H : Hp} {Q : VK} {i : Int} (h : Q (.int i) H) : (∃ j, [V.int i] = [.int j] ∧ Q (.int j) H) ∨ ∃ k, [V.int i] = [.bl k] ∧ Q (.int (if k then 1 else 0)) H := .inl ⟨i, rfl, h⟩
theorem r_intB {H : Hp} {Q : VK} {k : Bool} (h : Q (.int (if k then 1 else 0)) H) : (∃ j, [V.bl k] = [.int j] ∧ Q (.int j) H) ∨ ∃ k', [V.bl k] = [.bl k'] ∧ Q (.int (if k' then 1 else 0)) H := .inr ⟨k, rfl, h⟩
theorem r_abs {H : Hp} {Q : VK} {i : Int} (h : Q (.int (if i < 0 then -i else i)) H) : ∃ j, [V.int i] = [.int j] ∧ Q (.int (if j < 0 then -j else j)) H := ⟨i, rfl, h⟩
/-! ### one step, at the goal's head -/

theorem r_lenL {K : PySem.W.Frag} {H : Hp} {Q : VK} {p : Addr} {ys : List V} (hs : SqL K H p ys) (h : Q (.int ys.length) H) : ∃ q zs, [V.ref p] = [.ref q] ∧ (SqL K H q zs ∨ SqT K H q zs) ∧ Q (.int zs.length) H := ⟨p, ys, rfl, .inl hs, h⟩
theorem r_lenT {K : PySem.W.Frag} {H : Hp} {Q : VK} {p : Addr} {ys : List V} (hs : SqT K H p ys) (h : Q (.int ys.length) H) : ∃ q zs, [V.ref p] = [.ref q] ∧ (SqL K H q zs ∨ SqT K H q zs) ∧ Q (.int zs.length) H := ⟨p, ys, rfl, .inr hs, h⟩
theorem r_listL {K : PySem.W.Frag} {H : Hp} {Q : VK} {p : Addr} {ys : List V} (hs : SqL K H p ys) (h : ∀ l, H l = none → Q (.ref l) (upd H l (.lst ys))) : ∃ q zs, [V.ref p] = [.ref q] ∧ (SqL K H q zs ∨ SqT K H q zs) ∧ ∀ l, H l = none → Q (.ref l) (upd H l (.lst zs)) := ⟨p, ys, rfl, .inl hs, h⟩
theorem r_sfld {K : PySem.W.Frag} {ta tv : TE} {f : Str} {nx : St → Hp → Prop} {rt : VK} {bk ct : St → Hp → Prop} {σ : St} {H : Hp}
    (h : tv σ H fun y H1 => ta σ H1 fun x H2 => ∃ a C dx fs, x = .ref a ∧ H2 a = some (.ins C dx fs) ∧ Cls K C ∧ NoAttr K C f ∧ fs.length < 1000 ∧ nx σ (upd H2 a (.ins C dx (putF f y fs)))) : sFld K ta tv f ⟨nx, rt, bk, ct⟩ σ H := h
/-! ### how large an int is -/
def Bits (b : Nat) (i : Int) : Prop := i.natAbs < 2 ^ b
theorem Bits.mono {a b : Nat} {i : Int} (h : Bits a i) (l : a ≤ b) : Bits b i := Nat.lt_of_lt_of_le h (Nat.pow_le_pow_right (by decide) l)
theorem Bits.mul {a b : Nat} {i j : Int} (h : Bits a i) (g : Bits b j) : Bits (a + b) (i * j) := wide_lt h g
theorem Bits.add {a b c : Nat} {i j : Int} (h : Bits a i) (g : Bits b j) (l1 : a < c) (l2 : b < c) : Bits c (i + j) := by
  have h2 : i.natAbs < 2 ^ (c - 1) := Bits.mono (b := c - 1) h (by omega)
  have g2 : j.natAbs < 2 ^ (c - 1) := Bits.mono (b := c - 1) g (by omega)
  have e : 2 ^ c = 2 ^ (c - 1) + 2 ^ (c - 1) := by
    obtain ⟨k, rfl⟩ : ∃ k, c = k + 1 := ⟨c - 1, by omega⟩
    rw [Nat.add_sub_cancel, Nat.pow_succ]
    omega
  show (i + j).natAbs < 2 ^ c
  rw [e]
  have := Int.natAbs_add_le i j
  omega
theorem Bits.neg {a : Nat} {i : Int} (h : Bits a i) : Bits a (-i) := by
  show (-i).natAbs < _
  rw [Int.natAbs_neg]
  exact h
theorem Bits.sub {a b c : Nat} {i j : Int} (h : Bits a i) (g : Bits b j) (l1 : a < c) (l2 : b < c) : Bits c (i - j) := by
  rw [Int.sub_eq_add_neg]
  exact Bits.add h g.neg l1 l2
theorem Bits.small {i : Int} {b : Nat} (h : i.natAbs < 18446744073709551616) (l : 64 ≤ b) : Bits b i := Bits.mono (a := 64) (show i.natAbs < 2 ^ 64 from h) l
theorem Bits.mulW {a b : Nat} {i j : Int} (h : Bits a i) (g : Bits b j) (l : a + b + 2 ≤ 1000000) : CMulW i j := wide_mul (h.mono (Nat.le_succ a)) (g.mono (Nat.le_succ b)) (Nat.succ_pos _) (Nat.succ_pos _) (by omega)
theorem Bits.divG {b : Nat} {i j : Int} (h : j ≠ 0) (g : Bits b j) (l : b + 1 ≤ 9000) : CDivG i j := cdivG h (g.mono (Nat.le_succ b)) (Nat.succ_pos _) l
theorem Bits.of_le {b : Nat} {i j : Int} (h : i.natAbs ≤ j.natAbs) (g : Bits b j) : Bits b i := Nat.lt_of_le_of_lt h g
theorem ite_nt {A B : Prop} (h : B) : if (!true) = true then A else B := iteF h
theorem ite_nf {A B : Prop} (h : A) : if (!false) = true then A else B := iteT h
/-! ### the law's stream: a list of the script's copy and three ints; told as ONE thing, so that a draw leaves the abstract heap as it is -/
def okS (j k : Int) : Prop := 0 ≤ j ∧ 0 ≤ k ∧ k < 2147483648
def phiS (s l : Addr) : Heap → Prop := fun h => ∃ (i j k : Int) (t u v : Tok) (n : Nat), h.get? s = some { cls := .type "list", data := .seq #[.ref l, .int i t, .int j u, .int k v] n } ∧ okS j k
def Strm (H : Hp) (s : Addr) : Prop := ∃ (l : Addr) (ns : List Int), H s = some (.ext (phiS s l)) ∧ H l = some (.lst (ns.map V.int)) ∧ ns.length ≤ 63
theorem Strm.mono {H H' : Hp} {s : Addr} (h : Strm H s) (e : Same H H') : Strm H' s := by
  obtain ⟨l, ns, h1, h2, h3⟩ := h
  exact ⟨l, ns, e _ _ h1, e _ _ h2, h3⟩
def cellsV (l : Addr) (i j k : Int) : List V := [.ref l, .int i, .int j, .int k]
theorem Vals.cells {l : Addr} {i j k : Int} {us : List Value} (h : Vals (cellsV l i j k) us) : ∃ t u v, us = [.ref l, .int i t, .int j u, .int k v] := by
  unfold cellsV at h
  cases h with
  | cons r0 h => cases h with
    | cons r1 h => cases h with
      | cons r2 h => cases h with
        | cons r3 h =>
          cases h
          obtain ⟨t, rfl⟩ := r1
          obtain ⟨u, rfl⟩ := r2
          obtain ⟨v, rfl⟩ := r3
          cases (show _ = Value.ref l from r0)
          exact ⟨t, u, v, rfl⟩
section
variable {X : Cx} {pins : List (Addr × Obj)} {σ : St} {H : Hp} {s : Shared} {a l : Addr}
/-- the abstract heap is told otherwise at one address, the heap stays -/
theorem Inv.retell {o o' : HO} (I : Inv X pins σ H s) (ha : H a = some o) (m : Mut (some o)) (m' : Mut (some o')) (new : ObjOk X.prog X.w (upd H a o') s.heap a o') : Inv X pins σ (upd H a o') s := by
  have hx : ∀ b u, H b = some u → ¬ Mut (some u) → b ≠ a := fun b u e nm z => by
    rw [z, ha] at e
    cases e
    exact nm m
  have un : Un X.fs [] H (upd H a o') s.heap s.heap := ⟨fun _ _ e _ _ _ => e, fun b ob e _ _ _ => ⟨ob.slots, e⟩, fun b ob e n _ => by
      rw [upd_ne (show b ≠ a from fun z => by rw [z, ha] at n; cases n)]; exact n, fun b ob e _ => ⟨ob, e⟩,
    fun b xs e => by rw [upd_ne (hx b _ e fun z => z)]; exact e, fun b ob u e => by rw [upd_ne (hx b _ e fun z => z)]; exact e, fun b ps e => ⟨#[], by rw [upd_ne (hx b _ e fun z => z), e]; simp⟩⟩
  have mu : Mut (H a) := by rw [ha]; exact m
  have hk : HOk X.prog X.w (upd H a o') s.heap := by
    obtain ⟨u, hu⟩ := objOk_get (I.hok a _ ha)
    exact I.hok.write mu (.inl rfl) (fun _ _ _ e => e) ⟨u, hu⟩ new
  exact I.un (h' := s.heap) (t' := s.toks) un hk
theorem phi_open {h : Heap} (P : Program) (w : World) (H : Hp) (x : ObjOk P w H h a (.ext (phiS a l))) : ∃ i j k : Int, okS j k ∧ ObjOk P w (upd H a (.lst (cellsV l i j k))) h a (.lst (cellsV l i j k)) := by
  obtain ⟨⟨i, j, k, t, u, v, n, e, hj⟩, _⟩ := x
  exact ⟨i, j, k, hj, (by show 4 ≤ sizeLine; decide), _, n, .cons rfl (.cons ⟨t, rfl⟩ (.cons ⟨u, rfl⟩ (.cons ⟨v, rfl⟩ .nil))), e⟩
theorem phi_close {h : Heap} {P : Program} {w : World} {H H' : Hp} {i j k : Int} (x : ObjOk P w H h a (.lst (cellsV l i j k))) (hj : okS j k) : ObjOk P w H' h a (.ext (phiS a l)) := by
  obtain ⟨_, its, n, r, e⟩ := x
  obtain ⟨t, u, v, rfl⟩ := Vals.cells r
  refine ⟨⟨i, j, k, t, u, v, n, e, hj⟩, ⟨_, e⟩, fun h1 h2 ⟨i, j, k, t, u, v, n, e, hj⟩ st => ⟨i, j, k, t, u, v, n, st _ e, hj⟩⟩
/-- within: the stream's four cells are told; behind: one thing again -/
def shutS (a l : Addr) (N : St → Hp → Prop) : St → Hp → Prop := fun σ H => ∃ i j k : Int, H a = some (.lst (cellsV l i j k)) ∧ okS j k ∧ N σ (upd H a (.ext (phiS a l)))
def shutV (a l : Addr) (N : VK) : VK := fun v H => ∃ i j k : Int, H a = some (.lst (cellsV l i j k)) ∧ okS j k ∧ N v (upd H a (.ext (phiS a l)))
def tOpen (a l : Addr) (t : TS) : TS := fun D σ H => H a = some (.ext (phiS a l)) ∧ ∀ i j k : Int, okS j k → t ⟨shutS a l D.nx, shutV a l D.rt, shutS a l D.bk, shutS a l D.ct⟩ σ (upd H a (.lst (cellsV l i j k)))
theorem Inv.shut {i j k : Int} (I : Inv X pins σ H s) (ha : H a = some (.lst (cellsV l i j k))) (hj : okS j k) : Inv X pins σ (upd H a (.ext (phiS a l))) s :=
  Inv.retell I ha trivial trivial (phi_close (I.hok a _ ha) hj)
theorem r_open {t : TS} {nx : St → Hp → Prop} {rt : VK} {bk ct : St → Hp → Prop} (h : H a = some (.ext (phiS a l))) (k : ∀ i j k : Int, okS j k → t ⟨shutS a l nx, shutV a l rt, shutS a l bk, shutS a l ct⟩ σ (upd H a (.lst (cellsV l i j k)))) : tOpen a l t ⟨nx, rt, bk, ct⟩ σ H := ⟨h, k⟩
theorem pss_open {body : List Stmt} {t : TS} (a l : Addr) (h : PSs X body t) : PSs X body (tOpen a l t) := by
  refine ⟨fun pins s σ H D I q => ?_⟩
  obtain ⟨ha, q⟩ := q
  obtain ⟨i, j, k, hj, ok⟩ := phi_open (a := a) (l := l) X.prog X.w H (I.hok a _ ha)
  refine thn (h.run pins s σ _ _ (Inv.retell (o' := .lst (cellsV l i j k)) I ha trivial trivial ok) (q i j k hj)) fun f s1 z => ?_
  cases f with
  | next =>
    obtain ⟨σ', H', I', i, j, k, e, hj, n⟩ := z
    exact ⟨σ', _, Inv.shut I' e hj, n⟩
  | brk =>
    obtain ⟨σ', H', I', i, j, k, e, hj, n⟩ := z
    exact ⟨σ', _, Inv.shut I' e hj, n⟩
  | cont =>
    obtain ⟨σ', H', I', i, j, k, e, hj, n⟩ := z
    exact ⟨σ', _, Inv.shut I' e hj, n⟩
  | ret u =>
    obtain ⟨v, σ', H', I', r, i, j, k, e, hj, n⟩ := z
    exact ⟨v, σ', _, Inv.shut I' e hj, r, n⟩
/-- a list of four is told as a stream where it is handed back -/
def tShut (t : TS) : TS := fun D σ H => t ⟨D.nx, fun v H' => ∃ (a l : Addr) (i j k : Int), v = .ref a ∧ H' a = some (.lst (cellsV l i j k)) ∧ okS j k ∧ D.rt v (upd H' a (.ext (phiS a l))), D.bk, D.ct⟩ σ H
theorem r_shut {t : TS} {nx : St → Hp → Prop} {rt : VK} {bk ct : St → Hp → Prop} (h : t ⟨nx, fun v H' => ∃ (a l : Addr) (i j k : Int), v = .ref a ∧ H' a = some (.lst (cellsV l i j k)) ∧ okS j k ∧ rt v (upd H' a (.ext (phiS a l))), bk, ct⟩ σ H) : tShut t ⟨nx, rt, bk, ct⟩ σ H := h
theorem pss_shut {body : List Stmt} {t : TS} (h : PSs X body t) : PSs X body (tShut t) := by
  refine ⟨fun pins s σ H D I q => ?_⟩
  refine thn (h.run pins s σ _ _ I q) fun f s1 z => ?_
  cases f with
  | ret u =>
    obtain ⟨v, σ', H', I', r, a, l, i, j, k, rfl, e, hj, n⟩ := z
    exact ⟨_, σ', _, Inv.shut I' e hj, r, n⟩
  | next => exact z
  | brk => exact z
  | cont => exact z
end
/-- what the stream leaves behind is the heap ahead -/
theorem upd_back {H : Hp} {a : Addr} {o o' : HO} (h : H a = some o') : upd (upd H a o) a o' = H := by
  funext b
  by_cases e : b = a
  · rw [e, upd_same, h]
  · rw [upd_ne e, upd_ne e]
theorem upd_back2 {H : Hp} {a : Addr} {o o1 o' : HO} (h : H a = some o') : upd (upd (upd H a o) a o1) a o' = H := by
  rw [upd_upd, upd_back h]
theorem upd_back3 {H : Hp} {a : Addr} {o o1 o2 o' : HO} (h : H a = some o') : upd (upd (upd (upd H a o) a o1) a o2) a o' = H := by
  rw [upd_upd, upd_upd, upd_back h]
/-! ### C(..) where what its __init__ raises is wished for at the slots -/
section
variable {X : Cx} {CX : CXT} {k : Nat} {f C : Addr} {fd : FuncData} {ps : List Str} {sp : Sp} {dvs : List V} {ds : List Value} {E : St → XK} {x : Str} {p pos : Pos} {e : Expr} {es : List Expr} {t : TA}
def tMakeS (C : Addr) (sp : Sp) (dvs : List V) (E : St → XK) (t : TA) : TE := fun σ H Q => t σ H fun vs H1 => ∀ x dx, H1 x = none → H1 dx = none → dx ≠ x →
  sp (.ref x :: (vs ++ dvs)) (upd (upd H1 dx (.own x)) x (.ins C dx [])) (fun v H2 => v = .non ∧ Q (.ref x) H2) (E σ)
theorem make_atS {pins : List (Addr × Obj)} {σ : St} {H : Hp} {s : Shared} {Q : VK} {us : List Value} {vs : List V} (mk : Mk X.K C f) (ok : FnOk X.prog X.w X.K X.mg X.base CX k f fd ps sp) (room : Room (k + 1) X.A) (bd : Binds X.K fd ps ds) (dv : Vals dvs ds)
    (pass : PassesAt CX X σ (E σ)) (I : Inv X pins σ H s) (rel : Vals vs us)
    (ask : ∀ x dx, H x = none → H dx = none → dx ≠ x → sp (.ref x :: (vs ++ dvs)) (upd (upd H dx (.own x)) x (.ins C dx [])) (fun v H2 => v = .non ∧ Q (.ref x) H2) (E σ)) :
    wpAny (model X.prog X.w) X.A (call (.ref C) us) (EP X pins σ Q) X.xe s := by
  let n := s.heap.objs.size
  have want := ask (n + 1) n (I.hok.fresh (Nat.le_succ _)) (I.hok.fresh (Nat.le_refl _)) (by show n ≠ n + 1; omega)
  have J := Inv.made (C := C) I
  have relS : Vals (V.ref (n + 1) :: (vs ++ dvs)) (Value.ref (n + 1) :: (us ++ ds)) := .cons rfl (rel.append dv)
  have many : (Value.ref (n + 1) :: us ++ ds).length = ps.length := relS.length.symm.trans (ok.len _ _ _ _ want)
  have go := ok.run _ X.stack _ _ ⟨Value.ref (n + 1) :: us, []⟩ (Value.ref (n + 1) :: (us ++ ds)) _ _ (E σ) (room.make C us []) (J.env0.make C us []) (bd _ (Value.ref (n + 1) :: us) J.kIn many) relS want
  refine wpAny_call (make_map (f := f) I.kIn mk.makes mk.init (beq_iff_eq.mp mk.fn) (codeAny_mono go fun out s' end_ => ?_))
  match out, end_ with
  | .error e, end_ => exact pass pins _ _ e s' J end_
  | .ok (.ret u), end_ =>
    obtain ⟨v, H', I3, rv, ev, q3⟩ := J.after end_
    cases ev
    exact ⟨rv, V.ref (n + 1), H', I3, rfl, q3⟩
  | .ok .next, end_ => exact end_.elim
  | .ok .brk, end_ => exact end_.elim
  | .ok .cont, end_ => exact end_.elim
theorem pe_makeS (mk : Mk X.K C f) (ok : FnOk X.prog X.w X.K X.mg X.base CX k f fd ps sp) (room : Room (k + 1) X.A) (gl : Gl X x) (gm : X.mg x = some (.ref C)) (bd : Binds X.K fd ps ds) (dv : Vals dvs ds) (pass : ∀ σ, PassesAt CX X σ (E σ))
    (args : PA X (e :: es) t) (d1 : (x == ("__debug__" : Str)) = false := by decide) (d2 : starEach (e :: es) X.env = (false, eval e X.env) :: starEach es X.env := by rfl) (d3 : (backTo pos (starEach es X.env)).any (·.1) = false := by rfl) :
    PE X (.Call (.Name x p) (e :: es) [] pos) (tMakeS C sp dvs E t) :=
  ⟨fun pins s σ H Q I h => wpAny_Call_Name_kw (ld_glob I gl gm (PySem.W.callWith_K (h₀ := X.base) I.ok.mod.kin mk.kp (thn (args.run pos pins s σ H _ I h) fun us s1 ⟨vs, H1, I1, r, q⟩ => ⟨I1.kIn, make_atS mk ok room bd dv (pass σ) I1 r q⟩) d2 d3) d1)⟩
theorem passX {E : XK} (tk : Takes X (fun cls d _ H => E cls d H)) : Passes (L2.CX X.prog X.w) X E := fun pins σ H s e s' I c => passes_call tk (fun _ _ _ _ z => z) pins σ H s e s' I c
end
section
variable {σ : St} {H : Hp} {Q : VK} {C : Addr} {sp : Sp} {dvs : List V} {t : TA}
theorem r_make {E : XK} (h : t σ H fun vs H1 => ∀ x dx, H1 x = none → H1 dx = none → dx ≠ x → sp (.ref x :: (vs ++ dvs)) (upd (upd H1 dx (.own x)) x (.ins C dx [])) (fun v H2 => v = .non ∧ Q (.ref x) H2) E) : tMake C sp dvs E t σ H Q := h
theorem r_makeS {E : St → XK} (h : t σ H fun vs H1 => ∀ x dx, H1 x = none → H1 dx = none → dx ≠ x → sp (.ref x :: (vs ++ dvs)) (upd (upd H1 dx (.own x)) x (.ins C dx [])) (fun v H2 => v = .non ∧ Q (.ref x) H2) (E σ)) : tMakeS C sp dvs E t σ H Q := h
end
/-! ### loops -/
def forR (J : It) (g : TG) (tb : TS) (D : Ends) (σ : St) (H : Hp) : Prop := ∃ W : Nat → Nat → St → Hp → Prop, (∃ m, W 0 m σ H) ∧ ∀ i m σ H, W i m σ H →
  (J.stop i H ∧ D.nx σ H) ∨ (J.go i H ∧ ∃ N : St → Hp → Prop, (∀ σ' H', N σ' H' → ∃ m', m' < m ∧ W (i + 1) m' σ' H') ∧ ∀ x H', J.yld i H x H' → g x σ H' fun σ2 H2 => tb { D with nx := N, ct := N, bk := D.nx } σ2 H2)
section
variable {σ : St} {H : Hp} {wi : TI} {g : TG} {tb : TS} {nx : St → Hp → Prop} {rt : VK} {bk ct : St → Hp → Prop} {ta : TA} {tl : TE} {K : PySem.W.Frag} {a : Addr} {xs : List V} {k : Nat} {c : TT}
theorem r_for (h : wi σ H fun J H1 => forR J g tb ⟨nx, rt, bk, ct⟩ σ H1) : tFor wi g tb ⟨nx, rt, bk, ct⟩ σ H := h
theorem r_iRng1 {R : It → Hp → Prop} (h : ta σ H fun vs H1 => ∃ j : Int, vs = [.int j] ∧ -(2 ^ 62) ≤ j ∧ j < 2 ^ 62 ∧ R (Itr 0 j.toNat) H1) : iRng1 ta σ H R := h
theorem r_iList {R : It → Hp → Prop} (h : tl σ H fun x H1 => ∃ a, x = .ref a ∧ (∃ xs, SqL K H1 a xs) ∧ R (Itl K a) H1) : iList K tl σ H R := h
theorem r_rng1 {i : Int} {P : It → Prop} (h1 : -(2 ^ 62) ≤ i) (h2 : i < 2 ^ 62) (h : P (Itr 0 i.toNat)) : ∃ j : Int, [V.int i] = [.int j] ∧ -(2 ^ 62) ≤ j ∧ j < 2 ^ 62 ∧ P (Itr 0 j.toNat) := ⟨i, rfl, h1, h2, h⟩
theorem r_lstI {P : It → Prop} (hs : SqL K H a xs) (h : P (Itl K a)) : ∃ b, V.ref a = .ref b ∧ (∃ xs, SqL K H b xs) ∧ P (Itl K b) := ⟨a, rfl, ⟨xs, hs⟩, h⟩
theorem for_rng {lo : Int} {n : Nat} (Pv : Nat → St → Hp → Prop) (h0 : Pv 0 σ H) (hs : ∀ i σ H, i < n → Pv i σ H → tb ⟨Pv (i + 1), rt, nx, Pv (i + 1)⟩ (σ.set k (some (.int (lo + (i : Int))))) H) (hd : ∀ σ H, Pv n σ H → nx σ H) :
    forR (Itr lo n) (gName k) tb ⟨nx, rt, bk, ct⟩ σ H := for_range (D := ⟨nx, rt, bk, ct⟩) Pv h0 hs hd
theorem for_lst (Pv : Nat → St → Hp → Prop) (h0 : Pv 0 σ H) (hl : ∀ i σ H, i ≤ xs.length → Pv i σ H → SqL K H a xs) (hs : ∀ i x σ H, xs[i]? = some x → Pv i σ H → tb ⟨Pv (i + 1), rt, nx, Pv (i + 1)⟩ (σ.set k (some x)) H) (hd : ∀ σ H, Pv xs.length σ H → nx σ H) :
    forR (Itl K a) (gName k) tb ⟨nx, rt, bk, ct⟩ σ H := for_list (D := ⟨nx, rt, bk, ct⟩) Pv h0 hl hs hd
/-- a while by a word with a measure; behind the test: ⟨_, fun _ _ n => n, ..⟩ -/
theorem r_while (W : Nat → St → Hp → Prop) (m0 : Nat) (h0 : W m0 σ H) (hs : ∀ m σ H, W m σ H → c σ H fun b H1 => if b = true then ∃ N : St → Hp → Prop, (∀ σ' H', N σ' H' → ∃ m', m' < m ∧ W m' σ' H') ∧ tb ⟨N, rt, nx, N⟩ σ H1 else nx σ H1) :
    tWhile c tb ⟨nx, rt, bk, ct⟩ σ H := ⟨W, ⟨m0, h0⟩, hs⟩
theorem r_cut {t u : TS} (Mid : St → Hp → Prop) (h1 : t ⟨Mid, rt, bk, ct⟩ σ H) (h2 : ∀ σ H, Mid σ H → u ⟨nx, rt, bk, ct⟩ σ H) : C8.tCut t u ⟨nx, rt, bk, ct⟩ σ H := ⟨Mid, h1, h2⟩
end
theorem same_new {H : Hp} {p : Addr} {o : HO} (h : H p = none) : Same H (upd H p o) := fun b u e => by rw [upd_ne (ne_of_none e h)]; exact e
theorem same_mk {H : Hp} {x dx : Addr} {o u : HO} (h1 : H x = none) (h2 : H dx = none) : Same H (upd (upd H dx o) x u) := fun b v e => by
  rw [upd_ne (ne_of_none e h1), upd_ne (ne_of_none e h2)]
  exact e
/-! ### facts of the top that the head tells as Bools -/
def excCB (K : PySem.W.Frag) (D : Addr) : Bool := [He.eqO (PySem.W.findIn K (.ref D) "__getattribute__") (some (some (.builtin "BaseException.__getattribute__"))), He.eqO (PySem.W.findIn K (.ref D) "__getattr__") (some none), decide (PySem.W.subIn K (.ref D) (.type "BaseException") = some true),
  PySem.W.hasDictIn K D, He.eqO (PySem.W.findIn K (.ref D) "__class__") (some (some (.builtin "object.__class__"))), He.eqO (PySem.W.specialIn K (.builtin "object.__class__") "__get__") (some (some (.builtin "getset_descriptor.__get__"))),
  decide (PySem.W.takesIn K (.builtin "object.__class__") = some true), decide (PySem.W.mroIn K D (.type "object") = some true)].all id
theorem all8 {b1 b2 b3 b4 b5 b6 b7 b8 : Bool} (h : [b1, b2, b3, b4, b5, b6, b7, b8].all id = true) : b1 = true ∧ b2 = true ∧ b3 = true ∧ b4 = true ∧ b5 = true ∧ b6 = true ∧ b7 = true ∧ b8 = true := by
  simpa using h
theorem excCB_ok {K : PySem.W.Frag} {D : Addr} (h : excCB K D = true) : ExcC K D := by
  obtain ⟨h1, h2, h3, h4, h5, h6, h7, h8⟩ := all8 h
  exact ⟨He.eqO_ok h1, He.eqO_ok h2, of_decide_eq_true h3, h4, He.eqO_ok h5, He.eqO_ok h6, of_decide_eq_true h7, of_decide_eq_true h8⟩
def isiCB (K : PySem.W.Frag) (D : Addr) : Bool := [He.eqO (PySem.W.findIn K (.ref D) "__class__") (some (some (.builtin "object.__class__"))), He.eqO (PySem.W.specialIn K (.builtin "object.__class__") "__get__") (some (some (.builtin "getset_descriptor.__get__"))),
  decide (PySem.W.takesIn K (.builtin "object.__class__") = some true), decide (PySem.W.mroIn K D (.type "object") = some true), true, true, true, true].all id
theorem isi_ins {K : PySem.W.Frag} {H : Hp} {a D dx : Addr} {fs : List (Str × V)} (h : isiCB K D = true) (c : Cls K D) (e : H a = some (.ins D dx fs)) : TyX K H (.ref a) (.ref D) := by
  obtain ⟨h1, h2, h3, h4, _⟩ := all8 h
  exact .base (.ins e c (He.eqO_ok h1) (He.eqO_ok h2) (of_decide_eq_true h3) (of_decide_eq_true h4))
theorem pss_given {X : Cx} {body : List Stmt} {t : TS} {P : Prop} (h : P → PSs X body t) : PSs X body (fun D σ H => P ∧ t D σ H) := ⟨fun pins s σ H D I q => (h q.1).run pins s σ H D I q.2⟩
theorem r_isi {K : PySem.W.Frag} {H : Hp} {Q : VK} {x c : V} {t u : Value} {b : Bool} (hx : TyX K H x t) (hc : ClsV c u) (e : PySem.W.kitOne K t u = some b) (h : Q (.bl b) H) : rIsi K [x, c] H Q := ⟨x, c, t, u, b, rfl, hc, hx, e, h⟩
/-! ### operators that a class of the program's own defines -/
section
variable {X : Cx} {CX : CXT} {n : Nat} {C g : Addr} {fd : FuncData} {ps : List Str} {sp : Sp} {E : XK}
def rBin (C : Addr) (sp : Sp) (E : XK) : R2 := fun x y H Q => ∃ a b dx dy fs gs, x = .ref a ∧ y = .ref b ∧ H a = some (.ins C dx fs) ∧ H b = some (.ins C dy gs) ∧ sp [.ref a, .ref b] H Q E
theorem back_of {R : Value → Shared → Prop} {z : V} {v : Value} {s' : Shared} (r : RelV z v) (h : R v s') : PySem.W.CmpBack R v s' := by
  cases z with
  | non => cases (show v = Value.none from r); exact h
  | bl b => cases (show v = Value.bool b from r); exact h
  | int i => obtain ⟨t, rfl⟩ := (show ∃ t, v = Value.int i t from r); exact h
  | str i => obtain ⟨t, rfl⟩ := (show ∃ t, v = Value.str i t from r); exact h
  | byt i => obtain ⟨t, rfl⟩ := (show ∃ t, v = Value.bytes i t from r); exact h
  | flt i => obtain ⟨t, rfl⟩ := (show ∃ t, v = Value.float i t from r); exact h
  | ref i => cases (show v = Value.ref i from r); exact h
  | ty i => cases (show v = Value.type i from r); exact h
theorem ins_inst {pins : List (Addr × Obj)} {σ : St} {H : Hp} {s : Shared} {a dx : Addr} {fs : List (Str × V)} (I : Inv X pins σ H s) (h : H a = some (.ins C dx fs)) : ∃ od, PySem.W.InstAt s.heap a (PySem.W.instObj C dx) C (some od) := by
  obtain ⟨mA, J, _⟩ := ins_get I.hok h
  obtain ⟨od, J, _⟩ := J.look
  exact ⟨od, J⟩
theorem op_bin {op : Operator} (first : PySem.W.selfFirst X.K C = true) (m : Meth X.K C (PySem.dunder op.info.2) g) (F : FnOk X.prog X.w X.K X.mg X.base CX n g fd ps sp) (bd : Binds X.K fd ps []) (room : Room n X.A) (pass : Passes CX X E) : OpR X (binaryOp op) (rBin C sp E) := by
  intro pins s σ H x y v u Q I rx ry h
  obtain ⟨a, b, dx, dy, fs, gs, rfl, rfl, ha, hb, q⟩ := h
  cases (show v = Value.ref a from rx)
  cases (show u = Value.ref b from ry)
  obtain ⟨od, J⟩ := ins_inst I ha
  obtain ⟨od', J'⟩ := ins_inst I hb
  obtain ⟨mF, hF⟩ := I.fr
  refine PySem.W.binop_K hF I.ok.mod.kin J J'.type first m.at_ m.fn ?_
  refine wpAny_mono (run_fn (vs := [.ref a, .ref b]) (us := [.ref a, .ref b]) F room bd .nil pass I (.cons rfl (.cons rfl .nil)) (by rw [List.append_nil]; exact q)) (fun w s' z => ?_) fun _ _ e => e
  obtain ⟨z', H', I', rz, qz⟩ := z
  exact back_of rz ⟨z', H', I', rz, qz⟩
def rUnO (C : Addr) (sp : Sp) (E : XK) : V → Hp → VK → Prop := fun x H Q => ∃ a dx fs, x = .ref a ∧ H a = some (.ins C dx fs) ∧ sp [.ref a] H Q E
theorem un_negO (m : Meth X.K C "__neg__" g) (F : FnOk X.prog X.w X.K X.mg X.base CX n g fd ps sp) (bd : Binds X.K fd ps []) (room : Room n X.A) (pass : Passes CX X E) : UnR X (unaryOp .USub) (rUnO C sp E) := by
  intro pins s σ H x v Q I rx h
  obtain ⟨a, dx, fs, rfl, ha, q⟩ := h
  cases (show v = Value.ref a from rx)
  obtain ⟨od, J⟩ := ins_inst I ha
  obtain ⟨mF, hF⟩ := I.fr
  exact PySem.W.ksp_neg hF I.ok.mod.kin J m.at_ m.fn (run_fn (vs := [.ref a]) (us := [.ref a]) F room bd .nil pass I (.cons rfl .nil) (by rw [List.append_nil]; exact q))
/-- == by an own __eq__, both answers -/
theorem op_eqO (m : Meth X.K C "__eq__" g) (F : FnOk X.prog X.w X.K X.mg X.base CX n g fd ps sp) (bd : Binds X.K fd ps []) (room : Room n X.A) (pass : Passes CX X E) : OpR X (compareOp .Eq) (rBin C sp E) := by
  intro pins s σ H x y v u Q I rx ry h
  obtain ⟨a, b, dx, dy, fs, gs, rfl, rfl, ha, hb, q⟩ := h
  cases (show v = Value.ref a from rx)
  cases (show u = Value.ref b from ry)
  obtain ⟨od, J⟩ := ins_inst I ha
  obtain ⟨od', J'⟩ := ins_inst I hb
  obtain ⟨mF, hF⟩ := I.fr
  show wpAny (model X.prog X.w) X.A (richCompare .Eq (.ref a) (.ref b)) (EP X pins σ Q) X.xe s
  refine PySem.W.cmp_K (op := .Eq) (tb := .ref C) room.units0 hF I.ok.mod.kin J J'.type (by simp [PySem.W.notFirst]) m.at_ m.fn ?_
  refine wpAny_mono (run_fn (vs := [.ref a, .ref b]) (us := [.ref a, .ref b]) F room bd .nil pass I (.cons rfl (.cons rfl .nil)) (by rw [List.append_nil]; exact q)) (fun w s' z => ?_) fun _ _ e => e
  obtain ⟨z', H', I', rz, qz⟩ := z
  exact back_of rz ⟨z', H', I', rz, qz⟩
end
/-! ### the rules with the written part by its letter -/
section
variable {X : Cx} {K : PySem.W.Frag} {e o : Expr} {f : Str} {pos pos' : Pos} {ta tv : TE} {value : Expr} {tg : Expr} {tl : TE}
theorem ix_listK (h : X.K = K) : IxR X (rIxL K) := by subst h; exact ix_list
theorem ix_tupK (h : X.K = K) : IxR X (rIxT K) := by subst h; exact ix_tup
theorem call_isiK' (h : X.K = K) : CallR X (.builtin "isinstance") (rIsi K) := by subst h; exact call_isi
theorem call_lenK (h : X.K = K) : CallR X (.builtin "len") (fun xs H Q => ∃ p ys, xs = [.ref p] ∧ (SqL K H p ys ∨ SqT K H p ys) ∧ Q (.int ys.length) H) := by subst h; exact call_len_seq
theorem call_listK (h : X.K = K) : CallR X (.type "list") (fun xs H Q => ∃ p ys, xs = [.ref p] ∧ (SqL K H p ys ∨ SqT K H p ys) ∧ ∀ l, H l = none → Q (.ref l) (upd H l (.lst ys))) := by subst h; exact call_list_of
theorem pe_fldK (h : X.K = K) (he : PE X e ta) (hb : attributeBase e f X.env (eval e X.env) = eval e X.env) : PE X (.Attribute e f pos) (tFld K ta f) := by subst h; exact pe_fld he hb
theorem ps_fldK (h : X.K = K) (ha : PE X o ta) (hv : PE X value tv) (hs : swapsWith value (some (.Attribute o f pos')) pos.line X.env = pure false) : PS X (.Assign [.Attribute o f pos'] value pos) (sFld K ta tv f) := by subst h; exact ps_fld ha hv hs
theorem pi_listK (h : X.K = K) (hl : PE X e tl) : PI X tg e (iList K tl) := by subst h; exact pi_list hl
theorem pi_tupK (h : X.K = K) (hl : PE X e tl) : PI X tg e (iTup K tl) := by subst h; exact pi_tup hl
theorem op_eqDK (h : X.K = K) (hu : X.A.units + 64 < cLine) : OpR X (compareOp .Eq) (rEqD K) := by subst h; exact op_eqD hu
theorem op_neDK (h : X.K = K) (hu : X.A.units + 64 < cLine) : OpR X (compareOp .NotEq) (rNeD K) := by subst h; exact op_neD hu
theorem op_inK (h : X.K = K) : OpR X (compareOp .In) (rIn K false) := by subst h; exact op_in_seq
theorem op_notInK (h : X.K = K) : OpR X (compareOp .NotIn) (rIn K true) := by subst h; exact op_notIn_seq
end
/-! ### a tuple of texts that the module holds -/
def strOf : Value → Option Str
  | .str x _ => some x
  | _ => none
def tupStrs (K : PySem.W.Frag) (a : Addr) (xs : List Str) : Bool := match K.lookup a with
  | some ⟨.type "tuple", _, .seq its _, _⟩ => decide (its.toList.map strOf = xs.map some)
  | _ => false
theorem vals_strs : ∀ (us : List Value) (xs : List Str), us.map strOf = xs.map some → Vals (xs.map V.str) us
  | [], [], _ => .nil
  | [], _ :: _, h => by cases h
  | _ :: _, [], h => by cases h
  | u :: us, x :: xs, h => by
    have h1 := (List.cons.inj h).1
    have h2 := (List.cons.inj h).2
    refine .cons ?_ (vals_strs us xs h2)
    cases u with
    | str y t => exact ⟨t, by rw [Option.some.inj h1]⟩
    | _ => cases h1
theorem tupStrs_ok {K : PySem.W.Frag} {H : Hp} {a : Addr} {xs : List Str} (h : tupStrs K a xs = true) (hl : xs.length ≤ 1000) : SqT K H a (xs.map V.str) := by
  unfold tupStrs at h
  split at h
  · rename_i od its n sl hk
    have e := of_decide_eq_true h
    have l := congrArg List.length e
    rw [List.length_map, List.length_map, Array.length_toList] at l
    exact .inr ⟨_, its, n, hk, rfl, rfl, by rw [l, sizeLine_eq]; omega, vals_strs _ _ e⟩
  · cases h
/-! ### an own exception whose __init__ calls its base's with a text, and keeps one field -/
def lwB (K : PySem.W.Frag) (L : Addr) : Bool := He.eqO (PySem.W.specialIn K (.ref L) "__getattribute__") (some (some (.builtin "type.__getattribute__"))) && (PySem.W.readsIn K L (.type "type") &&
  (match PySem.W.findCls K (.ref L) (.type "type") "__init__" with | some (.val v) => decide (v = .builtin "ValueError.__init__") | _ => false))
theorem lwB_ok {K : PySem.W.Frag} {L : Addr} (h : lwB K L = true) : PySem.W.specialIn K (.ref L) "__getattribute__" = some (some (.builtin "type.__getattribute__")) ∧ PySem.W.readsIn K L (.type "type") = true ∧
    PySem.W.findCls K (.ref L) (.type "type") "__init__" = some (.val (.builtin "ValueError.__init__")) := by
  unfold lwB at h
  obtain ⟨h1, h⟩ := Bool.and_eq_true_iff.mp h
  obtain ⟨h2, h3⟩ := Bool.and_eq_true_iff.mp h
  refine ⟨He.eqO_ok h1, h2, ?_⟩
  split at h3
  · rename_i v e
    rw [e, of_decide_eq_true h3]
  · cases h3
def oexB (K : PySem.W.Frag) (C fI : Addr) : Bool := [(match K.lookup C with
    | some ⟨.type "type", _, .cls cd, sl⟩ => (match cd.mro, sl.toList with
      | .ref D :: bm, [_, _, _, _, some (.builtin n), _] => [decide (D = C), decide (n = "ValueError.__new__"), !cd.hasDel, cd.hasDict, PySem.HandSPX.refsVE bm].all id
      | _, _ => false)
    | _ => false),
  He.eqO (PySem.W.findIn K (.ref C) "__setattr__") (some (some (.builtin "object.__setattr__"))), decide (PySem.W.subIn K (.ref C) (.type "BaseException") = some true), decide (PySem.W.typeIn K (.ref C) = some (.type "type")), PySem.W.keepIn K (.ref C),
  He.eqO (PySem.W.findIn K (.ref C) "__init__") (some (some (.ref fI))), decide (PySem.W.typeIn K (.ref fI) = some (.type "function")), true].all id
theorem oexB_ok {K : PySem.W.Frag} {C fI : Addr} (h : oexB K C fI = true) : OexC K C ∧ PySem.W.findIn K (.ref C) "__init__" = some (some (.ref fI)) ∧ PySem.W.typeIn K (.ref fI) = some (.type "function") := by
  obtain ⟨h1, h2, h3, h4, h5, h6, h7, _⟩ := all8 h
  refine ⟨⟨?_, He.eqO_ok h2, of_decide_eq_true h3, of_decide_eq_true h4, h5⟩, He.eqO_ok h6, of_decide_eq_true h7⟩
  split at h1
  · rename_i dd cd sl ho
    split at h1
    · rename_i D bm k0 k1 k2 k3 n k5 hm hs
      simp only [List.all_cons, List.all_nil, id_eq, Bool.and_true, Bool.and_eq_true, decide_eq_true_eq, Bool.not_eq_true'] at h1
      obtain ⟨rfl, rfl, hdel, hdct, hv⟩ := h1
      obtain ⟨nm, bs, mro, ns, qn, hd, sn, sub, ab, col, del⟩ := cd
      dsimp only at hm hdel hdct
      subst hm hdel hdct
      have hsl : sl = #[k0, k1, k2, k3, some (.builtin "ValueError.__new__"), k5] := by
        obtain ⟨l⟩ := sl
        simp only at hs
        rw [hs]
      subst hsl
      exact ⟨nm, qn, ns, bs, bm, sn, sub, ab, col, dd, k0, k1, k2, k3, k5, ho, hv⟩
    · cases h1
  · cases h1
section
variable {X : Cx} {e : Expr} {es : List Expr} {ta : TA} {x : Str} {L : Addr} {p1 p2 pos : Pos}
theorem pe_lwinit {pl : Sem Bool} (hB : lwB X.K L = true) (hg : Gl X x) (hm : X.mg x = some (.ref L)) (ha : PA X (e :: es) ta) (hdb : (x == ("__debug__" : Str)) = false := by decide)
    (hc : eval (.Call (.Attribute (.Name x p1) "__init__" p2) (e :: es) [] pos) X.env = (do
      let ov ← eval (.Name x p1) X.env
      standAt p2.atName
      let (f, first) ← holding [ov] (getMethod ov "__init__" pl)
      callWith pos f first (backTo pos (starEach (e :: es) X.env)) (backToKw pos (keywordEach [] X.env))) := by rfl)
    (he : starEach (e :: es) X.env = (false, eval e X.env) :: starEach es X.env := by rfl) (hpl : (backTo pos (starEach es X.env)).any (·.1) = false := by rfl) :
    PE X (.Call (.Attribute (.Name x p1) "__init__" p2) (e :: es) [] pos) (tVeI X.K ta) := by
  refine ⟨fun pins s σ H Q I h => ?_⟩
  obtain ⟨b1, b2, b3⟩ := lwB_ok hB
  refine PySem.W.methodCall_KW (ld_glob I hg hm ?_ hdb) hc
  obtain ⟨m, fr⟩ := I.fr
  refine PySem.W.method_of_cls fr I.ok.mod.kin b1 (PySem.W.cls_value (I.ok.mod.kin.keeps fr.keep) b2 b3 (by decide +kernel) ?_)
  show wpAny _ _ (callWith pos (Value.builtin "ValueError.__init__") [] (backTo pos (starEach (e :: es) X.env)) []) _ _ _
  refine PyProof.Rows.callWith_method1 (thn (ha.run pos pins _ σ H _ (I.tok _) h) fun us s1 hu => ?_) he hpl
  obtain ⟨vs, H1, I1, r1, a, C, ws, ev, hl, T, ea, q⟩ := hu
  subst ev
  cases r1 with
  | @cons _ u0 _ ur ra rw' =>
    obtain rfl : u0 = Value.ref a := ra
    exact oinit_ok T I1 ea (by rw [← Paired.length rw', sizeLine_eq]; omega) fun s' J => ⟨.non, H1, J, rfl, q⟩
end
/-- C(i) leaves behind: the class, and its dict with the one field -/
theorem upd_raise {H : Hp} {a d dx : Addr} {o1 o2 o3 o4 : HO} (ha : H a = none) (hd : H d = none) (ne : dx ≠ a) (e : d = dx) : upd (del (upd (upd (upd H a o1) dx o2) a o3) a) d o4 = upd H d o4 := by
  subst e
  funext b
  by_cases h1 : b = d
  · rw [h1, upd_same, upd_same]
  · rw [upd_ne h1, upd_ne h1]
    by_cases h2 : b = a
    · rw [h2, del_same, ha]
    · rw [del_ne h2, upd_ne h2, upd_ne h1, upd_ne h2]
def spExc (K : PySem.W.Frag) (C : Addr) (f : Str) (ok : V → Prop) : Sp := fun vs H Q _ => ∃ (a : Addr) (v : V), vs = [.ref a, v] ∧ H a = some (exo a C none) ∧ ok v ∧ ∀ dx, H dx = none → dx ≠ a → Q .non (upd (upd H dx (exd dx [(f, v)])) a (exo a C (some dx)))
theorem exd_inj {d e : Addr} {fs gs : List (Str × V)} (h : exd d fs = exd d gs) : True := trivial
/-- raise C(v), C's __init__ keeping spExc -/
theorem r_raiseE {K : PySem.W.Frag} {C : Addr} {f : Str} {ok : V → Prop} {t : TA} {σ : St} {H : Hp} {Q : XK}
    (h : t σ H fun vs H1 => ∃ v, vs = [v] ∧ ok v ∧ ∀ d, H1 d = none → Q (.ref C) (some d) (upd H1 d (.xd [(f, v)]))) (mono : ∀ P P' : List V → Hp → Prop, (∀ vs H1, P vs H1 → P' vs H1) → t σ H P → t σ H P') : tMkO C (spExc K C f ok) [] t σ H Q := by
  refine mono _ _ (fun vs H1 q => ?_) h
  obtain ⟨v, rfl, hv, k⟩ := q
  refine ⟨by show 1 ≤ 1000; decide, fun a ha => ⟨a, v, rfl, upd_same, hv, fun dx hdx ne => ⟨rfl, dx, [(f, v)], upd_same, by rw [upd_ne ne, upd_same], ?_, ?_⟩⟩⟩
  · rw [upd_ne ne] at hdx
    exact hdx
  · have hd : H1 dx = none := by
      rw [upd_ne ne] at hdx
      exact hdx
    rw [upd_raise ha hd ne rfl]
    exact k dx hd
theorem op_mul_str {X : Cx} : OpR X (binaryOp .Mult) (fun x y H Q => ∃ z n, x = .str z ∧ y = .int n ∧ MulOk z n ∧ Q (.str (Txt.mul z n)) H) := by
  intro pins s σ H x y v u Q I rx ry h
  obtain ⟨z, n, rfl, rfl, hz, q⟩ := h
  obtain ⟨t, rfl⟩ := rx
  obtain ⟨t', rfl⟩ := ry
  exact PySem.SB.mul hz fun t' tk => ⟨.str (Txt.mul z n), H, I.tok _, ⟨_, rfl⟩, q⟩
section
variable {σ : St} {H : Hp} {g : TG} {tb : TS} {nx : St → Hp → Prop} {rt : VK} {bk ct : St → Hp → Prop} {tl : TE} {K : PySem.W.Frag} {a : Addr} {xs : List V} {k : Nat}
theorem r_iTup {R : It → Hp → Prop} (h : tl σ H fun x H1 => ∃ a, x = .ref a ∧ (∃ xs, SqT K H1 a xs) ∧ R (Itt K a) H1) : iTup K tl σ H R := h
theorem r_tupI {P : It → Prop} (hs : SqT K H a xs) (h : P (Itt K a)) : ∃ b, V.ref a = .ref b ∧ (∃ xs, SqT K H b xs) ∧ P (Itt K b) := ⟨a, rfl, ⟨xs, hs⟩, h⟩
theorem for_tpl (Pv : Nat → St → Hp → Prop) (h0 : Pv 0 σ H) (hl : ∀ i σ H, i ≤ xs.length → Pv i σ H → SqT K H a xs) (hs : ∀ i x σ H, xs[i]? = some x → Pv i σ H → tb ⟨Pv (i + 1), rt, nx, Pv (i + 1)⟩ (σ.set k (some x)) H) (hd : ∀ σ H, Pv xs.length σ H → nx σ H) :
    forR (Itt K a) (gName k) tb ⟨nx, rt, bk, ct⟩ σ H := for_tup (D := ⟨nx, rt, bk, ct⟩) Pv h0 hl hs hd
theorem r_tXf {x : V} {cls : Value} {d : Option Addr} {C : Addr} {f : Str} {te : TE} {Q : VK} (h : te σ H fun x H1 => x = .ref a ∧ cls = .ref C ∧ ∃ (dd : Addr) (fs : List (Str × V)) (v : V), d = some dd ∧ H1 dd = some (.xd fs) ∧ fs.lookup f = some v ∧ Q v H1) : tXf a cls d C f te σ H Q := h
end
/-! ### isinstance of a caught error that has a dict of its own -/
namespace Xd
open PySem.W PySem.Calls
section
variable {prog : Program} {w : World} {A : Around} {E : Value → Shared → Prop} {s : Shared} {K : Frag} {x D : Addr} {ox : Obj}
theorem find_cls {od : Option Obj} (C : ExcC K D) : findObj K D od "__class__" = some (.bind (.builtin "getset_descriptor.__get__") (.builtin "object.__class__")) := by
  obtain ⟨cd, hc, _⟩ := any_some C.hd
  unfold findObj
  rw [hc, Option.bind_some, C.ha, Option.bind_some]
  simp [C.hn, C.ht]
theorem cls_of {Q : Option Value → Shared → Prop} {od : Option Obj} (C : ExcC K D) (X : K.In s.heap) (I : PySem.W.InstAt s.heap x ox D od) (h : Q (some (.ref D)) { s with toks := s.toks + 1 }) : wpAny (model prog w) A (getAttr? (.ref x) "__class__") Q E s := by
  have hf := find_cls (od := od) C
  obtain ⟨hp, g, d, t, os⟩ := s
  have T0 := I.type (M := model prog w)
  have T1 := looks_findIn (M := model prog w) X C.hg
  have T2 := looks_findIn (M := model prog w) X C.hk
  have T3 := looks_find (M := model prog w) X I hf
  have sub : Looks (model prog w) hp (isInstance (.ref x) (.type "BaseException")) true := T0.andThen (looks_subIn X C.hs)
  have n2 : (Value.builtin "BaseException.__getattribute__" == Value.builtin "object.__getattribute__") = false := by decide +kernel
  unfold getAttr? getAttrBy? getAttrBy
  refine wpAny_bind (wpAny_mkText (wpAny_bind (wpAny_attempt (wpAny_holding (wpAny_bind (T0.at (wpAny_bind (T1.at ?_))))))))
  show wpAny _ _ (if (onTheHeap (Value.ref D) && Value.builtin "BaseException.__getattribute__" == Value.builtin "object.__getattribute__") = true then _ else _) _ _ _
  rw [n2, Bool.and_false, if_neg Bool.false_ne_true]
  (unfold getAttrByItsOwn hookBefore; refine wpAny_bind ?_; rw [if_pos (show onTheHeap (Value.ref D) = true from rfl)])
  refine T2.at (wpAny_bind (wpAny_attempt (wpAny_holding ?_)))
  (unfold callGetattribute; rw [show (false && onTheHeap (Value.builtin "BaseException.__getattribute__")) = false from rfl, if_neg Bool.false_ne_true])
  (unfold boundAndCalled; rw [PySem.F.excAttr_ValueError.ga.bind (.ref x)])
  refine wpAny_bind (wpAny_pure ?_)
  show wpAny _ _ (call (.builtin "BaseException.__getattribute__") [.ref x, .str "__class__" t]) _ _ _
  refine wpAny_call (codeAny_call_builtin PySem.F.excAttr_ValueError.ga.plain PySem.F.entry_bexc_ga (@check_slot (model prog w) _ _ ⟨hp, g, d, t + 1, os⟩ "BaseException.__getattribute__" "BaseException" "__getattribute__" (.ref x) [.str "__class__" t] [] _ (by decide +kernel) (by decide +kernel) sub (PySem.F.args_bexc_ga (.ref x) (.str "__class__" t)) ?_))
  (unfold Builtin.«object.__getattribute__»; refine wpAny_bind (wpAny_of_eq (a := ((Value.ref x : Value), [Value.str "__class__" t])) (by first | rfl | (simp only [slotArgs]; rfl)) ?_))
  refine wpAny_bind (wpAny_pure (wpAny_bind (T0.at (wpAny_bind (T3.at ?_)))))
  show wpAny _ _ (holding [Value.builtin "object.__class__"] (call (.builtin "getset_descriptor.__get__") [.builtin "object.__class__", .ref x, .ref D]) >>= ret) _ _ _
  refine wpAny_bind (wpAny_holding (wpAny_call (class_get (s := ⟨hp, g, d, t + 1, os⟩) (ox := ox) (od := od) X I C.hm (wpAny_pure ?_))))
  (show wpAny _ _ (handedOut (.ref D)) _ _ _; rw [handedOut_of (v := .ref D) rfl])
  first
    | exact wpAny_pure (wpAny_pure h)
    | exact wpAny_pure (wpAny_bind (wpAny_pure (wpAny_pure h)))
theorem not_cls {h : Heap} {o : Obj} {D' : Addr} (hd : hasDictIn K D = true) (X : K.In h) (e : h.get? D' = some o) (hs : ∀ cd, o.data ≠ .cls cd) : D ≠ D' := fun z => by
  obtain ⟨cdD, hcD, _⟩ := any_some hd
  unfold clsIn at hcD
  split at hcD
  · rename_i c' d' cd' sl' ho
    rw [← z, X _ _ ho] at e
    cases e
    exact hs cd' rfl
  · cases hcD
theorem kit (C : ExcC K D) : KitX K (.ref x) (.ref D) (fun h => ∃ od, PySem.W.InstAt h x ox D od) where
  ty := fun M h X I => by
    obtain ⟨od, I⟩ := I
    exact I.type
  it := fun M h X _ => (handS_kitx_exc (x := x) (ox := ox) C.hg C.hk C.hs C.hd C.ha C.hn C.ht C.hm).it M h X |> fun f => by
    obtain ⟨cdD, hcD, _⟩ := any_some C.hd
    unfold clsIn at hcD
    split at hcD
    · rename_i c' d' cd' sl' ho
      intro A' Q' E' s' k q
      (unfold isType loadHead; exact wpAny_bind (wpAny_loadPart (k _ _ (X _ _ ho)) (wpAny_pure q)))
    · cases hcD
  ne := fun h tp dd its n sl X htp => Bool.eq_false_iff.mpr fun q => not_cls C.hd X htp (fun cd z => by cases z) (Value.ref.inj (beq_iff_eq.mp q))
  ca := fun X I k => by
    obtain ⟨od, I⟩ := I
    exact cls_of C X I k
end
end Xd
def rIsD (K : PySem.W.Frag) (D a : Addr) (d : Option Addr) : List V → Hp → VK → Prop := fun xs H Q => ∃ (c : V) (cv : Value) (b : Bool) (dd : Addr) (fs : List (Str × V)), xs = [.ref a, c] ∧ (∀ u, RelV c u → u = cv) ∧ PySem.W.kitOne K (.ref D) cv = some b ∧ d = some dd ∧ H dd = some (.xd fs) ∧ Q (.bl b) H
theorem call_isD {X : Cx} {a D : Addr} {d : Option Addr} {oe : Obj} {pn : List (Addr × Obj)} {cls : Value} (ec : cls = .ref D) (C : ExcC X.K D) (hz : Zc cls d oe) (hf : ∃ vs, oe.data = .fields vs) : CallR (X.suite a ((a, oe) :: pn)) (.builtin "isinstance") (rIsD X.K D a d) := by
  intro pins s σ H xs us Q I r h
  subst ec
  obtain ⟨c, cv, b, dd, fs, rfl, hcv, e, rfl, hdd, q⟩ := h
  cases r with
  | cons rx rr =>
    cases rr with
    | cons rt rr =>
      cases rr
      cases rx
      obtain rfl := hcv _ rt
      obtain ⟨hget, _⟩ := I.pin (a, oe) (List.mem_append.mpr (.inl List.mem_cons_self))
      obtain ⟨vs, hv⟩ := hf
      obtain ⟨od, hod⟩ := objOk_get (I.hok dd _ hdd)
      have J : PySem.W.InstAt s.heap a oe D (some od) := by
        obtain ⟨oc, ob, oda, osl⟩ := oe
        obtain ⟨h1, h2⟩ := hz
        (dsimp only at h1 h2 hv; subst h1 h2 hv)
        exact ⟨hget, rfl, rfl, hod⟩
      exact PySem.W.kia_one (Xd.kit C) I.kIn ⟨_, J⟩ e (fun z => nomatch z) fun tk => ⟨.bl b, H, I.kept (t' := tk) fun _ _ z => z, rfl, q⟩
/-! ### what reads as data; sorted of such -/
mutual
inductive DatV (K : PySem.W.Frag) (H : Hp) : V → PyData → Prop
  | non : DatV K H .non .none
  | bl (b : Bool) : DatV K H (.bl b) (.bool b)
  | int (i : Int) : DatV K H (.int i) (.int i)
  | str (x : Str) : DatV K H (.str x) (.str x)
  | tup {a : Addr} {xs : List V} {ds : List PyData} : SqT K H a xs → DatsV K H xs ds → DatV K H (.ref a) (.tuple ds)
inductive DatsV (K : PySem.W.Frag) (H : Hp) : List V → List PyData → Prop
  | nil : DatsV K H [] []
  | cons {x : V} {d : PyData} {xs : List V} {ds : List PyData} : DatV K H x d → DatsV K H xs ds → DatsV K H (x :: xs) (d :: ds)
end
section
variable {X : Cx} {pins : List (Addr × Obj)} {σ : St} {H : Hp} {s : Shared}
mutual
theorem DatV.reads (I : Inv X pins σ H s) : ∀ (x : V) (d : PyData) (u : Value), DatV X.K H x d → RelV x u → ∃ as, Reads s.heap u d as
  | _, _, u, h, r => by
    cases h with
    | non => cases r; exact ⟨_, .none⟩
    | bl b => cases r; exact ⟨_, .bool b⟩
    | int i => obtain ⟨t, rfl⟩ := r; exact ⟨_, .int i t⟩
    | str z => obtain ⟨t, rfl⟩ := r; exact ⟨_, .str z t⟩
    | tup hs hd =>
      cases r
      obtain ⟨its, rv, l1, _⟩ := I.tuple hs
      obtain ⟨o, h1, h2, n, h3⟩ := l1
      obtain ⟨as, ra⟩ := DatsV.reads I _ _ _ hd rv
      exact ⟨_, .tuple h1 h2 h3 (by simpa using ra)⟩
theorem DatsV.reads (I : Inv X pins σ H s) : ∀ (xs : List V) (ds : List PyData) (us : List Value), DatsV X.K H xs ds → Vals xs us → ∃ as, ReadsAll s.heap us ds as
  | _, _, us, h, r => by
    cases h with
    | nil => cases r; exact ⟨_, .nil⟩
    | cons h1 h2 =>
      cases r with
      | cons r1 r2 =>
        obtain ⟨as, q1⟩ := DatV.reads I _ _ _ h1 r1
        obtain ⟨bs, q2⟩ := DatsV.reads I _ _ _ h2 r2
        exact ⟨_, .cons q1 q2⟩
end
end
abbrev VD : Type := V × PyData
def sortD (bs : List VD) : List VD := bs.mergeSort (PySem.W.dataLe false (fun b : VD => b.2))
theorem sortD_perm (bs : List VD) : (sortD bs).Perm bs := List.mergeSort_perm _ _
def rSortedD (K : PySem.W.Frag) : List V → Hp → VK → Prop := fun vs H Q => ∃ (a : Addr) (bs : List VD), vs = [.ref a] ∧ SqL K H a (bs.map (·.1)) ∧ (∀ b ∈ bs, DatV K H b.1 b.2 ∧ b.2.depth ≤ 8) ∧ PySem.W.AllAlike (bs.map (·.2)) ∧ PySem.W.Sortable (bs.map (·.2)) ∧
  ∀ p, H p = none → Q (.ref p) (upd H p (.lst ((sortD bs).map (·.1))))
theorem each_vals : ∀ {bs : List VD} {us : List Value}, Vals (bs.map (·.1)) us → PySem.W.EachIs (fun u (b : VD) => RelV b.1 u) us bs
  | [], _, h => by cases h; exact .nil
  | _ :: _, _, h => by
    cases h with
    | cons r rs => exact .cons r (each_vals rs)
theorem vals_each : ∀ {bs : List VD} {us : List Value}, PySem.W.EachIs (fun u (b : VD) => RelV b.1 u) us bs → Vals (bs.map (·.1)) us
  | [], _, h => by cases h; exact .nil
  | _ :: _, _, h => by
    cases h with
    | cons r rs => exact .cons r (vals_each rs)
theorem each_and {R S : Value → VD → Prop} : ∀ {bs : List VD} {us : List Value}, PySem.W.EachIs R us bs → (∀ b ∈ bs, ∀ u, R u b → S u b) → PySem.W.EachIs S us bs
  | [], _, h, _ => by cases h; exact .nil
  | b :: _, _, h, f => by
    cases h with
    | cons r rs => exact .cons (f b List.mem_cons_self _ r) (each_and rs fun b hb => f b (List.mem_cons_of_mem _ hb))
theorem cr_sortedD {X : Cx} (hu : X.A.units + 64 < cLine) : CallR X (.builtin "sorted") (rSortedD X.K) := by
  intro pins s σ H vs us Q I r h
  obtain ⟨a, bs, rfl, hs, hd, hal, hk, q⟩ := h
  obtain ⟨its, rv, hl, hz⟩ := I.list hs
  rw [Vals.ref1 r]
  have e := each_vals rv
  have hL : bs.length ≤ sizeLine := by rw [List.length_map] at hz; exact hz
  refine PySem.W.sorted_data (enc := fun b : VD => b.2) hl.isList e (each_and e fun b hb u ru => DatV.reads I _ _ _ (hd b hb).1 ru) hal hk hL (fun b hb => by have := (hd b hb).2; omega) fun out hlen ho => ?_
  obtain ⟨ep, he'⟩ := PyProof.Rows.sortedAll_at s.heap its out.toArray
  have lo : ((sortD bs).map (·.1)).length ≤ sizeLine := by
    rw [List.length_map, (sortD_perm bs).length_eq]
    exact hL
  exact ⟨.ref _, upd H (s.heap.objs.size + 1) (.lst ((sortD bs).map (·.1))), I.laid (t' := s.toks) (fun _ _ => PyProof.Rows.sortedAll_old) (Nat.le_succ _) ⟨lo, out, ep, vals_each ho, he'⟩, rfl, q _ (I.hok.fresh (Nat.le_succ _))⟩
/-! ### != of equal lists and tuples, == and != of equal dicts, where own ==s are asked on the way -/
namespace NeG
open PySem.SeqAt AutoSeq1 MeetsSeq MeetsSeq2 MeetsSeq3 SeqRoads2 GQ
section
variable {prog : Program} {w : World} {A : Around} {R : Result → Shared → Prop}
theorem nloop (p q : Addr) (N : Nat) (J : Nat → Shared → Prop) (each : ListI prog w A (fun e s' => R (.error e) s') p q N J) (done : ∀ s, J N s → R (.ok (.ret (.bool false))) s) (m : Nat) :
    ∀ j : Nat, N - j = m → j ≤ N → ∀ s, J j s → wpAny (model prog w) A.in1 (Builtin.«list.__eq__.loop» ⟨[.ref p, .ref q, rawInt j, rawInt 3], []⟩) (FinOf prog w A R) (fun e s' => R (.error e) s') s := by
  induction m with
  | zero =>
    intro j hm hj s h
    obtain ⟨xs, ys, n1, n2, gp, gq, zx, zy, _⟩ := each _ _ h
    obtain rfl : j = N := by omega
    have fin := done s h
    obtain ⟨hp, g, d, tk, os⟩ := s
    (wp_walk using wpAny_loadPart' gp, wpAny_loadPart' gq)
    rw [show xs[((j : Nat) : Int).toNat]? = none from by simp; omega, show ys[((j : Nat) : Int).toNat]? = none from by simp; omega]
    (wp_walk using wpAny_loadPart' gp, wpAny_loadPart' gq)
    show R (.ok (.ret (.bool (xs.size != ys.size)))) _
    rw [zx, zy]
    simpa using fin
  | succ m ih =>
    intro j hm hj s h
    obtain ⟨xs, ys, n1, n2, gp, gq, zx, zy, t⟩ := each _ _ h
    have l1 : j < xs.size := by omega
    have l2 : j < ys.size := by omega
    have t := t l1 l2
    obtain ⟨hp, g, d, tk, os⟩ := s
    (wp_walk using wpAny_loadPart' gp, wpAny_loadPart' gq)
    have up : ((j : Int) + 1) = ((j + 1 : Nat) : Int) := by omega
    rw [show xs[((j : Nat) : Int).toNat]? = some xs[j] from by simp [l1], show ys[((j : Nat) : Int).toNat]? = some ys[j] from by simp [l2]]
    refine wpAny_bind (wpAny_mono t (fun r s2 k2 => ?_) fun _ _ z => z)
    obtain ⟨rfl, k2⟩ := k2
    have more := ih (j + 1) (by omega) (by omega) s2 k2
    obtain ⟨hp2, g2, d2, tk2, os2⟩ := s2
    wp_walk
    rw [up]
    exact ⟨plainId_quiet plain_eq_loop _, codeAny_builtin entry_eq_loop (by rw [Around.under_plainId plain_eq_loop _]; exact more)⟩
theorem nlist (p q : Addr) (N : Nat) (J : Nat → Shared → Prop) (each : ListI prog w A (fun e s' => R (.error e) s') p q N J) (done : ∀ s, J N s → R (.ok (.ret (.bool false))) s) {s : Shared} (h : J 0 s) :
    wpAny (model prog w) A.in1 (Builtin.«list.__ne__» ⟨[.ref p, .ref q], []⟩) (FinOf prog w A R) (fun e s' => R (.error e) s') s := by
  obtain ⟨xs, ys, n1, n2, gp, gq, zx, zy, _⟩ := each _ _ h
  have more := nloop (A := A) (R := R) p q N J each done _ 0 rfl (Nat.zero_le _) s h
  obtain ⟨hp, g, d, tk, os⟩ := s
  have sub := AutoSeq1.sub_list_list
  have same : ¬ (xs.size != ys.size) = true := by simp [zx, zy]
  (wp_walk using wpAny_loadPart' gp, wpAny_loadPart' gq)
  exact ⟨plainId_quiet plain_eq_loop _, codeAny_builtin entry_eq_loop (by rw [Around.under_plainId plain_eq_loop _]; exact more)⟩
theorem ntup (p q : Addr) (xs ys : Array Value) (n1 n2 : Nat) (d1 d2 : Option Addr) (sl1 sl2 : Array (Option Value)) (hz : xs.size = ys.size) (J : Nat → Shared → Prop)
    (each : ∀ j (h1 : j < xs.size) (h2 : j < ys.size) s, J j s → wpAny (model prog w) A.in1 (eqBool xs[j] ys[j]) (fun r s' => r = true ∧ J (j + 1) s') (fun e s' => R (.error e) s') s)
    (done : ∀ s, J xs.size s → R (.ok (.ret (.bool false))) s) {s : Shared} (gp : s.heap.get? p = some { cls := .type "tuple", dict := d1, data := .seq xs n1, slots := sl1 }) (gq : s.heap.get? q = some { cls := .type "tuple", dict := d2, data := .seq ys n2, slots := sl2 }) (h : J 0 s) :
    wpAny (model prog w) A.in1 (Builtin.«tuple.__ne__» ⟨[.ref p, .ref q], []⟩) (FinOf prog w A R) (fun e s' => R (.error e) s') s := by
  have sub := AutoSeq1.sub_tuple_tuple
  have zl : (xs.toList.zip ys.toList).length = xs.size := by simp [hz]
  have start := h
  obtain ⟨hp, g, d, tk, os⟩ := s
  (wp_walk using wpAny_loadPart' gp, wpAny_loadPart' gq, wpAny_forIn_list _ (fun rest b s' => b.1 = none ∧ ∃ j, rest = (xs.toList.zip ys.toList).drop j ∧ j ≤ xs.size ∧ J j s') _)
  case turn =>
    rintro ⟨y, x⟩ rest b s' ⟨hb, j, ez, hj, k⟩
    have lj : j < (xs.toList.zip ys.toList).length := Nat.lt_of_not_le fun z => by rw [List.drop_of_length_le z] at ez; cases ez
    have l1 : j < xs.size := zl ▸ lj
    have l2 : j < ys.size := hz ▸ l1
    rw [List.drop_eq_getElem_cons lj] at ez
    injection ez with e1 e2
    obtain rfl : y = xs[j] := by simpa using congrArg Prod.fst e1
    obtain rfl : x = ys[j] := by simpa using congrArg Prod.snd e1
    refine wpAny_bind (wpAny_mono (each j l1 l2 s' k) (fun r s2 k2 => ?_) fun _ _ z => z)
    obtain ⟨rfl, k2⟩ := k2
    wp_walk
    exact ⟨rfl, j + 1, e2, l1, k2⟩
  case fin =>
    rintro ⟨b1, b2⟩ s' ⟨hb, j, ez, hj, k⟩
    (simp only at hb; subst hb)
    have ge : xs.size ≤ j := Nat.le_of_not_lt fun z => by rw [List.drop_eq_getElem_cons (zl.symm ▸ z)] at ez; cases ez
    have fin := done s' ((show j = xs.size from by omega) ▸ k)
    wp_walk
    simpa [Builtin.Tuple.tupleCompareSizes, hz] using fin
  case h => exact ⟨rfl, 0, rfl, Nat.zero_le _, start⟩
end
section
variable {prog : Program} {w : World} {A : Around} {E : Value → Shared → Prop} {s : Shared}
theorem rc_nlist {p q : Addr} {N : Nat} {Q : Value → Shared → Prop} (hu : A.units < cLine) (J : Nat → Shared → Prop) (each : ListI prog w A E p q N J) (done : ∀ s, J N s → Q (.bool false) s) (h : J 0 s) :
    wpAny (model prog w) A (richCompare .NotEq (.ref p) (.ref q)) Q E s := by
  obtain ⟨xs, ys, n1, n2, gp, gq, _, _, _⟩ := each _ _ h
  refine wpAny_richCompare_same_room (op := .NotEq) ⟨_, gp, rfl⟩ ⟨_, gq, rfl⟩ PySem.F.slot_list_ne (call_here PySem.F.slot_list_ne ⟨_, gp, rfl⟩ PySem.F.entry_list_ne (PySem.F.args_list_ne_2 _ _) ?_) hu
  exact nlist (R := wants (fun v s' => v ≠ .notImplemented ∧ Q v s') E) p q N J each (fun s' z => ⟨(fun x => nomatch x), done s' z⟩) h
theorem rc_ntup {p q : Addr} {xs ys : Array Value} {Q : Value → Shared → Prop} (hz : xs.size = ys.size) (hu : A.units < cLine) (J : Nat → Shared → Prop) (gp : s.heap.IsTuple p xs) (gq : s.heap.IsTuple q ys)
    (each : ∀ j (h1 : j < xs.size) (h2 : j < ys.size) s, J j s → wpAny (model prog w) A.in1 (eqBool xs[j] ys[j]) (fun r s' => r = true ∧ J (j + 1) s') E s) (done : ∀ s, J xs.size s → Q (.bool false) s) (h : J 0 s) :
    wpAny (model prog w) A (richCompare .NotEq (.ref p) (.ref q)) Q E s := by
  obtain ⟨⟨c1, d1, t1, sl1⟩, ho, hc, n1, hd⟩ := id gp
  obtain ⟨⟨c2, d2, t2, sl2⟩, ho2, hc2, n2, hd2⟩ := id gq
  (simp only at hc hd hc2 hd2; subst hc hd hc2 hd2)
  refine wpAny_richCompare_same_room (op := .NotEq) ⟨_, ho, rfl⟩ ⟨_, ho2, rfl⟩ PySem.F.slot_tuple_ne (call_here PySem.F.slot_tuple_ne ⟨_, ho, rfl⟩ PySem.F.entry_tuple_ne (PySem.F.args_tuple_ne_2 _ _) ?_) hu
  exact ntup (R := wants (fun v s' => v ≠ .notImplemented ∧ Q v s') E) p q xs ys n1 n2 d1 d2 sl1 sl2 hz J each (fun s' z => ⟨(fun x => nomatch x), done s' z⟩) ho ho2 h
end
end NeG
/-- != gives False for what D says, and only makes objects -/
def RnG (X : Cx) (n : Nat) (D : Eqv) : Prop :=
  ∀ (A : Around) (pins : List (Addr × Obj)) (s : Shared) (σ : St) (H : Hp) (x y : V) (u v : Value), Sub X n A → Inv X pins σ H s → RelV x u → RelV y v → D x y H →
    wpAny (model X.prog X.w) A (richCompare .NotEq u v) (fun r s' => r = .bool false ∧ ∃ H', Inv X pins σ H' s' ∧ Ext H H') X.xe s
section
variable {X : Cx} {n : Nat} {D : Eqv}
theorem rnG_list (hD : Mon D) (h : EqG X n D) : RnG X (n + 1) (DList D) := by
  intro A pins s σ H x y u v sb I rx ry d
  obtain ⟨a, b, xs, ys, rfl, rfl, ha, hb, p⟩ := d
  (cases rx; cases ry)
  refine NeG.rc_nlist (N := xs.length) sb.room.units0 (fun _ s' => LoopI X pins σ H s') (fun i s' q => ?_) (fun s' q => ⟨rfl, q⟩) ⟨H, I, Ext.rfl'⟩
  obtain ⟨H1, I1, e1⟩ := id q
  obtain ⟨_, us, k, r, e⟩ := I1.hok a _ (e1 _ _ ha)
  obtain ⟨_, vs, k2, r2, e2⟩ := I1.hok b _ (e1 _ _ hb)
  exact ⟨us.toArray, vs.toArray, k, k2, e, e2, by rw [List.size_toArray, ← r.length], by rw [List.size_toArray, ← r2.length, ← p.1], fun h1 h2 => turnG hD h sb p r r2 i h1 h2 s' q⟩
theorem rnG_tup (hD : Mon D) (h : EqG X n D) : RnG X (n + 1) (DTup X.K D) := by
  intro A pins s σ H x y u v sb I rx ry d
  obtain ⟨a, b, xs, ys, rfl, rfl, ha, hb, p⟩ := d
  (cases rx; cases ry)
  obtain ⟨us, r, e, _⟩ := I.tuple ha
  obtain ⟨vs, r2, e2, _⟩ := I.tuple hb
  have hz : us.toArray.size = vs.toArray.size := by rw [List.size_toArray, List.size_toArray, ← r.length, ← r2.length]; exact p.1
  exact NeG.rc_ntup hz sb.room.units0 (fun _ s' => LoopI X pins σ H s') e e2 (fun i h1 h2 s' q => turnG hD h sb p r r2 i h1 h2 s' q) (fun s' q => ⟨rfl, q⟩) ⟨H, I, Ext.rfl'⟩
def rNeG (D : Eqv) : R2 := fun x y H Q => D x y H ∧ ∀ H', Ext H H' → Q (.bl false) H'
theorem op_neG (h : RnG X n D) (hr : Room n X.A) : OpR X (compareOp .NotEq) (rNeG D) := by
  intro pins s σ H x y v u Q I rx ry hq
  obtain ⟨d, q⟩ := hq
  show wpAny (model X.prog X.w) X.A (richCompare .NotEq v u) (EP X pins σ Q) X.xe s
  refine wpAny_mono (h X.A pins s σ H x y v u ⟨hr, rfl⟩ I rx ry d) (fun r s' z => ?_) fun _ _ z => z
  obtain ⟨rfl, H', I', e⟩ := z
  exact ⟨.bl false, H', I', rfl, q H' e⟩
end
/-! ### == and != of two dicts of the same keys, whose values are equal one by one, own ==s asked on the way -/
namespace DeG
open PySem.W PySem.Calls
section
variable {prog : Program} {w : World} {K : Type} [DecidableEq K] {knd : KeyKind prog w K} {A : Around} {E : Value → Shared → Prop} {s : Shared}
theorem pairs {nm : String} {a b : Addr} {oa ob : Obj} {es et : Array DictEntry} {p1 p2 : Nat} {ka kb : List (K × Value)} {Q : Bool → Shared → Prop} (na : (a == sysModules) = false) (nb : (b == sysModules) = false)
    (da : oa.data = .dict es p1) (db : ob.data = .dict et p2) (ua : KeysOf knd es) (ub : KeysOf knd et) (va : Pairs knd es.toList ka) (vb : Pairs knd et.toList kb) (hl : ka.length = kb.length) (J : Nat → Shared → Prop)
    (at_ : ∀ i s, J i s → s.heap.get? a = some oa ∧ s.heap.get? b = some ob)
    (each : ∀ i k v s, ka[i]? = some (k, v) → J i s → ∃ y, valueAt kb k = some y ∧ wpAny (model prog w) A (eqBool v y) (fun r s' => r = true ∧ J (i + 1) s') E s)
    (start : J 0 s) (done : ∀ s, J ka.length s → Q true s) : wpAny (model prog w) A (Builtin.Dict.samePairs nm a b) Q E s := by
  have za : ka.length = es.size := (va.length.symm.trans Array.length_toList)
  have zb : kb.length = et.size := (vb.length.symm.trans Array.length_toList)
  have look : ∀ k, findBy knd.is et k = valueAt kb k := fun k => by
    rw [← vb.find k]
    (clear zb vb ub db; obtain ⟨l⟩ := et; simp [findBy])
  have sz : es.size = et.size := by omega
  obtain ⟨g1, g2⟩ := at_ _ _ start
  unfold Builtin.Dict.samePairs Builtin.Dict.showsAll
  rw [if_neg (by rw [na]; exact Bool.false_ne_true), if_neg (by rw [nb]; exact Bool.false_ne_true)]
  refine wpAny_bind (wpAny_pure (wpAny_bind (wpAny_pure (wpAny_bind (wpAny_dictEntries g1 da ?_)))))
  dsimp only
  refine wpAny_bind (wpAny_dictEntries g2 db ?_)
  rw [if_neg (by rw [sz]; simp)]
  refine wpAny_bind (wpAny_dictEpoch g1 da (wpAny_bind ?_))
  rw [Std.Legacy.Range.forIn_eq_forIn_range']
  simp only [Std.Legacy.Range.size, Nat.sub_zero, Nat.add_sub_cancel, Nat.div_one]
  refine wpAny_forIn_list _ (fun rest q s' => q = (none, ()) ∧ ∃ i, rest = List.range' i (es.size - i) ∧ i ≤ es.size ∧ J i s') _ ?_ ?_ _ _ ⟨rfl, 0, by simp, Nat.zero_le _, start⟩
  · rintro x rest q s' ⟨rfl, i, hr, hi, hj⟩
    have lt : i < es.size := Nat.lt_of_not_le fun z => by rw [Nat.sub_eq_zero_of_le z] at hr; simp at hr
    obtain ⟨rfl, hrest⟩ : x = i ∧ rest = List.range' (i + 1) (es.size - (i + 1)) := by
      rw [show es.size - i = (es.size - (i + 1)) + 1 by omega, List.range'_succ] at hr
      exact ⟨(List.cons.inj hr).1, (List.cons.inj hr).2⟩
    obtain ⟨g1, g2⟩ := at_ _ _ hj
    refine wpAny_bind (wpAny_dictEntries g1 da ?_)
    rw [Array.getElem?_eq_getElem lt]
    have lt' : x < ka.length := by rw [za]; exact lt
    obtain ⟨k, v, kv⟩ : ∃ k v, ka[x] = (k, v) := ⟨_, _, rfl⟩
    have kv' : ka[x]? = some (k, v) := by rw [List.getElem?_eq_getElem lt', kv]
    obtain ⟨isk, isv⟩ := va.get? (i := x) (e := es[x]) (k := k) (v := v) (by rw [Array.getElem?_toList]; exact Array.getElem?_eq_getElem lt) kv'
    obtain ⟨k', isk', hh⟩ := ua es[x] (Array.getElem_mem lt)
    rw [knd.inj _ _ _ isk' isk] at hh
    obtain ⟨y, hy, run⟩ := each x k v s' kv' hj
    show wpAny _ _ (holding [es[x].key, es[x].val] _ >>= _) _ _ _
    rw [hh]
    refine wpAny_bind (wpAny_holding (wpAny_bind (wpAny_dictFind_of isk g2 db ub ?_)))
    cases fj : et.findIdx? fun e => knd.is k e.key with
    | none =>
      rw [← look k, findBy_of_findIdx?, fj] at hy
      exact nomatch hy
    | some j =>
      obtain ⟨lj, _, _⟩ := Array.findIdx?_eq_some_iff_getElem.mp fj
      have ev : et[j].val = y := by
        rw [← look k, findBy_of_findIdx?, fj] at hy
        simpa [Array.getElem?_eq_getElem lj] using hy
      refine wpAny_bind (wpAny_dictEntries g2 db ?_)
      rw [Array.getElem?_eq_getElem lj]
      rw [← ev, ← isv] at run
      refine wpAny_holding (wpAny_mono run (fun r s2 z => ?_) fun _ _ z => z)
      obtain ⟨rfl, hj2⟩ := z
      obtain ⟨g1, g2⟩ := at_ _ _ hj2
      show wpAny _ _ (if (!true) = true then _ else _) _ _ _
      rw [if_neg (by decide)]
      refine wpAny_bind (wpAny_dictEpoch g1 da ?_)
      rw [if_neg (by simp)]
      exact wpAny_pure ⟨rfl, x + 1, hrest, lt, hj2⟩
  · rintro q s' ⟨rfl, i, hr, hi, hj⟩
    have e : i = es.size := Nat.le_antisymm hi (Nat.le_of_not_lt fun z => by
      rw [show es.size - i = (es.size - (i + 1)) + 1 by omega, List.range'_succ] at hr
      exact nomatch hr)
    exact wpAny_pure (done s' (by rw [za, ← e]; exact hj))
theorem eqd {a b : Addr} {Q : Value → Shared → Prop} (ta : s.TypeIs (.ref a) "dict") (tb : s.TypeIs (.ref b) "dict") (hu : A.units < cLine)
    (h : ∀ nm, wpAny (model prog w) A.in1 (Builtin.Dict.samePairs nm a b) (fun r s' => Q (.bool r) s') E s) : wpAny (model prog w) A (richCompare .Eq (.ref a) (.ref b)) Q E s := by
  refine wpAny_richCompare_same_room (op := .Eq) ta tb PySem.F.slot_dict_eq (wpAny_call_entry PySem.F.slot_dict_eq ta PySem.F.entry_dict_eq ?_ (PySem.F.args_dict_eq_2 _ _)) hu
  (show wpAny _ _ (Builtin.Dict.dictSlotArgs "__eq__" ⟨[.ref a, .ref b], []⟩ >>= _) _ _ s; refine wpAny_bind ?_; unfold Builtin.Dict.dictSlotArgs)
  refine wpAny_bind (wpAny_notOrdered_dict ta ?_)
  (show wpAny _ _ (pure (Value.ref a, Value.ref b)) _ _ s; refine wpAny_pure (wpAny_bind (wpAny_isInstance (T := "dict") tb PySem.F.sub_dict_dict ?_)))
  (simp only [Bool.not_true, Bool.false_eq_true, if_false]; refine wpAny_bind (wpAny_pure (wpAny_bind (wpAny_pure (wpAny_bind (wpAny_mono (h _) (fun r s' q => ?_) fun _ _ z => z))))))
  refine wpAny_pure ⟨_, rfl, (fun x => nomatch x), ?_⟩
  simpa using q
theorem ned {a b : Addr} {Q : Value → Shared → Prop} (ta : s.TypeIs (.ref a) "dict") (tb : s.TypeIs (.ref b) "dict") (hu : A.units < cLine)
    (h : ∀ nm, wpAny (model prog w) A.in1 (Builtin.Dict.samePairs nm a b) (fun r s' => Q (.bool (!r)) s') E s) : wpAny (model prog w) A (richCompare .NotEq (.ref a) (.ref b)) Q E s := by
  refine wpAny_richCompare_same_room (op := .NotEq) ta tb PySem.F.slot_dict_ne (wpAny_call_entry PySem.F.slot_dict_ne ta PySem.F.entry_dict_ne ?_ (PySem.F.args_dict_ne_2 _ _)) hu
  (show wpAny _ _ (Builtin.Dict.dictSlotArgs "__ne__" ⟨[.ref a, .ref b], []⟩ >>= _) _ _ s; refine wpAny_bind ?_; unfold Builtin.Dict.dictSlotArgs)
  refine wpAny_bind (wpAny_notOrdered_dict ta ?_)
  (show wpAny _ _ (pure (Value.ref a, Value.ref b)) _ _ s; refine wpAny_pure (wpAny_bind (wpAny_isInstance (T := "dict") tb PySem.F.sub_dict_dict ?_)))
  (simp only [Bool.not_true, Bool.false_eq_true, if_false]; refine wpAny_bind (wpAny_pure (wpAny_bind (wpAny_pure (wpAny_bind (wpAny_mono (h _) (fun r s' q => ?_) fun _ _ z => z))))))
  refine wpAny_pure ⟨_, rfl, (fun x => nomatch x), ?_⟩
  cases r <;> exact q
end
end DeG
theorem kv_get {ka : List (Key × V)} {va : List (Key × Value)} (r : KV ka va) : ∀ {i : Nat} {p : Key × V} {q : Key × Value}, ka[i]? = some p → va[i]? = some q → p.1 = q.1 ∧ RelV p.2 q.2 := by
  unfold KV at r
  induction r with
  | nil => intro i p q h; simp at h
  | cons h t ih =>
    intro i p q h1 h2
    cases i with
    | zero => simp at h1 h2; subst h1 h2; exact h
    | succ i => simp at h1 h2; exact ih h1 h2
/-- the abstract heap without two of its things -/
def hide2 (H : Hp) (a b : Addr) : Hp := fun c => if c = a ∨ c = b then none else H c
theorem ext_hide {H H' : Hp} {a b : Addr} (h : ∀ c, c ≠ a → c ≠ b → H' c = H c) : Ext (hide2 H a b) H' := fun c o e => by
  unfold hide2 at e
  split at e
  · cases e
  · rename_i q
    rw [h c (fun z => q (.inl z)) (fun z => q (.inr z))]
    exact e
def DDict (D : Eqv) : Eqv := fun x y H => ∃ (a b : Addr) (ka kb : List (Key × V)), x = .ref a ∧ y = .ref b ∧ a ≠ b ∧ H a = some (.dK ka) ∧ H b = some (.dK kb) ∧ ka.length = kb.length ∧ ∀ (i : Nat) (k : Key) (v : V), ka[i]? = some (k, v) → ∃ u, valV kb k = some u ∧ D v u (hide2 H a b)
section
variable {X : Cx} {n : Nat} {D : Eqv}
theorem dict_run (hD : Mon D) (h : EqG X n D) {A : Around} {pins : List (Addr × Obj)} {s : Shared} {σ : St} {H : Hp} {a b : Addr} {ka kb : List (Key × V)} (sb : Sub X (n + 1) A) (I : Inv X pins σ H s) (ne : a ≠ b) (ha : H a = some (.dK ka)) (hb : H b = some (.dK kb)) (hl : ka.length = kb.length)
    (hv : ∀ (i : Nat) (k : Key) (v : V), ka[i]? = some (k, v) → ∃ u, valV kb k = some u ∧ D v u (hide2 H a b)) (nm : String) :
    s.TypeIs (.ref a) "dict" ∧ s.TypeIs (.ref b) "dict" ∧ wpAny (model X.prog X.w) A.in1 (Builtin.Dict.samePairs nm a b) (fun r s' => r = true ∧ ∃ H', Inv X pins σ H' s' ∧ Ext H H') X.xe s := by
  obtain ⟨od, I1⟩ := I.lock ha trivial
  obtain ⟨ob, I2⟩ := I1.lock (show upd H a (.frz od (.dK ka)) b = some (.dK kb) by rw [upd_ne (Ne.symm ne)]; exact hb) trivial
  have ea : upd (upd H a (.frz od (.dK ka))) b (.frz ob (.dK kb)) a = some (.frz od (.dK ka)) := by rw [upd_ne ne, upd_same]
  have eb : upd (upd H a (.frz od (.dK ka))) b (.frz ob (.dK kb)) b = some (.frz ob (.dK kb)) := upd_same
  generalize hH : upd (upd H a (.frz od (.dK ka))) b (.frz ob (.dK kb)) = H0 at I2 ea eb
  obtain ⟨ga, xa⟩ := (show ObjOk X.prog X.w H0 s.heap a (.frz od (.dK ka)) from I2.hok a _ ea)
  obtain ⟨gb, xb⟩ := (show ObjOk X.prog X.w H0 s.heap b (.frz ob (.dK kb)) from I2.hok b _ eb)
  obtain ⟨_, na, va, ra, dA⟩ := (show ObjOk X.prog X.w H0 s.heap a (.dK ka) from xa)
  obtain ⟨_, nb, vb, rb, dB⟩ := (show ObjOk X.prog X.w H0 s.heap b (.dK kb) from xb)
  refine ⟨dA.typeIs, dB.typeIs, ?_⟩
  obtain ⟨o1, es, p1, g1, _, d1, u1, w1, _⟩ := dA
  obtain ⟨o2, et, p2, g2, _, d2, u2, w2, _⟩ := dB
  rw [ga] at g1
  rw [gb] at g2
  (cases g1; cases g2)
  have up : Ext (hide2 H a b) H0 := ext_hide fun c h1 h2 => by rw [← hH, upd_ne h2, upd_ne h1]
  refine DeG.pairs na nb d1 d2 u1 u2 w1 w2 (by rw [← ra.length, ← rb.length]; exact hl) (fun _ s' => LoopI X pins σ H0 s') (fun i s' ⟨H', I', e'⟩ => ?_) (fun i k v s' hi ⟨H', I', e'⟩ => ?_) ⟨H0, I2, Ext.rfl'⟩ (fun s' ⟨H', I', e'⟩ => ⟨rfl, ?_⟩)
  · exact ⟨(show ObjOk X.prog X.w H' s'.heap a (.frz od (.dK ka)) from I'.hok a _ (e' _ _ ea)).1, (show ObjOk X.prog X.w H' s'.heap b (.frz ob (.dK kb)) from I'.hok b _ (e' _ _ eb)).1⟩
  · have li : i < ka.length := by rw [ra.length]; exact (List.getElem?_eq_some_iff.mp hi).1
    obtain ⟨⟨k0, x⟩, hx⟩ : ∃ p, ka[i]? = some p := ⟨_, List.getElem?_eq_getElem li⟩
    obtain ⟨k1, r1⟩ := kv_get ra hx hi
    obtain rfl : k0 = k := k1
    obtain ⟨u, hu, hd⟩ := hv i k0 x hx
    have rr : RelO (some u) (valueAt vb k0) := by rw [← hu]; exact rb.val k0
    obtain ⟨y, hy, ry⟩ := rr.some_of
    refine ⟨y, hy, wpAny_mono (h A.in1 pins s' σ H' x u v y sb.in1 I' r1 ry (hD _ _ _ _ e' (hD _ _ _ _ up hd))) (fun r s2 z => ?_) fun _ _ z => z⟩
    obtain ⟨rfl, H2, I3, e2⟩ := z
    exact ⟨rfl, H2, I3, e'.trans e2⟩
  · have f1 : H' b = some (.frz ob (.dK kb)) := e' _ _ eb
    have f2 : upd H' b (.dK kb) a = some (.frz od (.dK ka)) := by rw [upd_ne ne]; exact e' _ _ ea
    refine ⟨_, (I'.unlock f1 (I.nofrz hb trivial)).unlock f2 (I.nofrz ha trivial), fun c o e => ?_⟩
    by_cases c1 : c = a
    · rw [c1, upd_same, ← ha, ← c1]; exact e
    · rw [upd_ne c1]
      by_cases c2 : c = b
      · rw [c2, upd_same, ← hb, ← c2]; exact e
      · rw [upd_ne c2]
        exact e' _ _ (by rw [← hH, upd_ne c2, upd_ne c1]; exact e)
theorem rcG_dict (hD : Mon D) (h : EqG X n D) : RcG X (n + 1) (DDict D) := by
  intro A pins s σ H x y u v sb I rx ry d
  obtain ⟨a, b, ka, kb, rfl, rfl, ne, ha, hb, hl, hv⟩ := d
  (cases rx; cases ry)
  obtain ⟨ta, tb, _⟩ := dict_run hD h sb I ne ha hb hl hv ""
  refine DeG.eqd ta tb sb.room.units0 fun nm => wpAny_mono (dict_run hD h sb I ne ha hb hl hv nm).2.2 (fun r s' z => ?_) fun _ _ z => z
  obtain ⟨rfl, q⟩ := z
  exact ⟨rfl, q⟩
theorem rnG_dict (hD : Mon D) (h : EqG X n D) : RnG X (n + 1) (DDict D) := by
  intro A pins s σ H x y u v sb I rx ry d
  obtain ⟨a, b, ka, kb, rfl, rfl, ne, ha, hb, hl, hv⟩ := d
  (cases rx; cases ry)
  obtain ⟨ta, tb, _⟩ := dict_run hD h sb I ne ha hb hl hv ""
  refine DeG.ned ta tb sb.room.units0 fun nm => wpAny_mono (dict_run hD h sb I ne ha hb hl hv nm).2.2 (fun r s' z => ?_) fun _ _ z => z
  obtain ⟨rfl, q⟩ := z
  exact ⟨rfl, q⟩
theorem mon_dict (hD : Mon D) : Mon (DDict D) := fun x y H H' e d => by
  obtain ⟨a, b, ka, kb, hx, hy, ne, ha, hb, hl, hv⟩ := d
  refine ⟨a, b, ka, kb, hx, hy, ne, e _ _ ha, e _ _ hb, hl, fun i k v hi => ?_⟩
  obtain ⟨u, hu, hd⟩ := hv i k v hi
  refine ⟨u, hu, hD _ _ _ _ (fun c o q => ?_) hd⟩
  unfold hide2 at q ⊢
  split at q
  · cases q
  · rename_i z
    rw [if_neg z]
    exact e _ _ q
theorem eqG_dict (hD : Mon D) (h : EqG X n D) : EqG X (n + 1) (DDict D) := (rcG_dict hD h).eqG fun _ _ _ d => let ⟨a, b, _, _, hx, hy, _⟩ := d; ⟨a, b, hx, hy⟩
end
/-! ### what stays: all but lists and dicts -/
def Soft : HO → Bool
  | .lst _ => true
  | .dK _ => true
  | .dT _ => true
  | _ => false
def Keep (H H' : Hp) : Prop := ∀ b o, H b = some o → Soft o = false → H' b = some o
theorem Keep.refl (H : Hp) : Keep H H := fun _ _ h _ => h
theorem Keep.trans {H H1 H2 : Hp} (a : Keep H H1) (b : Keep H1 H2) : Keep H H2 := fun c o h s => b c o (a c o h s) s
theorem Same.keep {H H' : Hp} (e : Same H H') : Keep H H' := fun b o h _ => e b o h
theorem keep_upd {H : Hp} {a : Addr} {o o' : HO} (h : H a = some o) (s : Soft o = true) : Keep H (upd H a o') := fun b u e su => by
  by_cases z : b = a
  · rw [z, h] at e
    cases e
    rw [s] at su
    cases su
  · rw [upd_ne z]
    exact e
theorem keep_hide {H : Hp} {a b : Addr} {o o' : HO} (h : H a = some o) (s : Soft o = true) (h' : H b = some o') (s' : Soft o' = true) : Keep H (hide2 H a b) := fun c u e su => by
  unfold hide2
  by_cases z : c = a ∨ c = b
  · rcases z with z | z
    · rw [z, h] at e
      cases e
      rw [s] at su
      cases su
    · rw [z, h'] at e
      cases e
      rw [s'] at su
      cases su
  · rw [if_neg z]
    exact e
theorem SqT.keep {K : PySem.W.Frag} {H H' : Hp} {a : Addr} {xs : List V} (h : SqT K H a xs) (e : Keep H H') : SqT K H' a xs :=
  h.elim (fun h => .inl (h.elim (fun h => .inl (e _ _ h rfl)) fun ⟨o, h⟩ => .inr ⟨o, e _ _ h rfl⟩)) fun h => .inr h
theorem SqT.same {K : PySem.W.Frag} {H H' : Hp} {a : Addr} {xs : List V} (h : SqT K H a xs) (e : Same H H') : SqT K H' a xs := SqT.keep h (Same.keep e)
theorem SqL.same {K : PySem.W.Frag} {H H' : Hp} {a : Addr} {xs : List V} (h : SqL K H a xs) (e : Same H H') : SqL K H' a xs :=
  h.elim (fun h => .inl (h.elim (fun h => .inl (e _ _ h)) fun ⟨o, h⟩ => .inr ⟨o, e _ _ h⟩)) fun h => .inr h
theorem same_upd {H H' : Hp} {a : Addr} {o : HO} (e : Same H H') (h : H a = none) : Same H (upd H' a o) := fun b u q => by
  rw [upd_ne (ne_of_none q h)]
  exact e b u q
theorem Paired.at_ {α β : Type} {F : α → β → Prop} : ∀ {xs : List α} {ys : List β} {i : Nat} {x : α} {y : β}, Paired F xs ys → xs[i]? = some x → ys[i]? = some y → F x y
  | _, _, _, _, _, .nil, h, _ => by simp at h
  | _, _, 0, _, _, .cons r _, h, h' => by simp at h h'; rw [← h, ← h']; exact r
  | _, _, i + 1, _, _, .cons _ t, h, h' => Paired.at_ (i := i) t (by simpa using h) (by simpa using h')
theorem Paired.some {α β : Type} {F : α → β → Prop} : ∀ {xs : List α} {ys : List β} {i : Nat} {x : α}, Paired F xs ys → xs[i]? = some x → ∃ y, ys[i]? = some y ∧ F x y
  | _, _, _, _, .nil, h => by simp at h
  | _, _, 0, _, .cons r _, h => by simp at h; exact ⟨_, rfl, h ▸ r⟩
  | _, _, i + 1, _, .cons _ t, h => by
    obtain ⟨y, h1, h2⟩ := Paired.some (i := i) t (by simpa using h)
    exact ⟨y, by simpa using h1, h2⟩
theorem Paired.take {α β : Type} {F : α → β → Prop} : ∀ {xs : List α} {ys : List β} (n : Nat), Paired F xs ys → Paired F (xs.take n) (ys.take n)
  | _, _, 0, _ => .nil
  | _, _, _ + 1, .nil => .nil
  | _, _, n + 1, .cons r t => .cons r (Paired.take n t)
theorem Paired.drop {α β : Type} {F : α → β → Prop} : ∀ {xs : List α} {ys : List β} (n : Nat), Paired F xs ys → Paired F (xs.drop n) (ys.drop n)
  | _, _, 0, r => r
  | _, _, _ + 1, .nil => .nil
  | _, _, n + 1, .cons _ t => Paired.drop n t
theorem Paired.app {α β : Type} {F : α → β → Prop} : ∀ {xs xs' : List α} {ys ys' : List β}, Paired F xs ys → Paired F xs' ys' → Paired F (xs ++ xs') (ys ++ ys')
  | _, _, _, _, .nil, s => s
  | _, _, _, _, .cons r t, s => .cons r (Paired.app t s)
theorem Paired.set {α β : Type} {F : α → β → Prop} {x : α} {y : β} (r : F x y) : ∀ {xs : List α} {ys : List β} (i : Nat), Paired F xs ys → Paired F (xs.set i x) (ys.set i y)
  | _, _, _, .nil => .nil
  | _, _, 0, .cons _ t => .cons r t
  | _, _, i + 1, .cons q t => .cons q (Paired.set r i t)
theorem Paired.imp {α β : Type} {F G : α → β → Prop} (h : ∀ a b, F a b → G a b) : ∀ {xs : List α} {ys : List β}, Paired F xs ys → Paired G xs ys
  | _, _, .nil => .nil
  | _, _, .cons r t => .cons (h _ _ r) (Paired.imp h t)
/-! ### a for over a list, any target; comprehensions over a list -/
section
variable {σ : St} {H H1 : Hp} {g : TG} {tb : TS} {nx : St → Hp → Prop} {rt : VK} {bk ct : St → Hp → Prop} {K : PySem.W.Frag} {a : Addr} {xs : List V} {wi : TI} {tt : TT} {te : TE} {vs : List Nat} {Q : VK}
theorem for_lstG (Pv : Nat → St → Hp → Prop) (h0 : Pv 0 σ H) (hl : ∀ i σ H, i ≤ xs.length → Pv i σ H → SqL K H a xs) (hs : ∀ i x σ H, xs[i]? = some x → Pv i σ H → g x σ H fun σ2 H2 => tb ⟨Pv (i + 1), rt, nx, Pv (i + 1)⟩ σ2 H2) (hd : ∀ σ H, Pv xs.length σ H → nx σ H) :
    forR (Itl K a) g tb ⟨nx, rt, bk, ct⟩ σ H := by
  refine ⟨fun i m σ H => m = xs.length - i ∧ i ≤ xs.length ∧ Pv i σ H, ⟨xs.length, by simp, Nat.zero_le _, h0⟩, ?_⟩
  rintro i m σ H ⟨rfl, hi, p⟩
  have q := hl i σ H hi p
  by_cases lt : i < xs.length
  · refine .inr ⟨⟨xs, xs[i], q, by simp [lt]⟩, Pv (i + 1), fun σ' H' p' => ⟨xs.length - (i + 1), by omega, rfl, lt, p'⟩, fun x H' y => ?_⟩
    obtain ⟨rfl, y⟩ := y
    exact hs i x σ H' (y xs q) p
  · obtain rfl : i = xs.length := by omega
    exact .inl ⟨⟨xs, q, Nat.le_refl _⟩, hd σ H p⟩
def lcR (J : It) (g : TG) (tt : TT) (te : TE) (vs : List Nat) (σ : St) (H1 : Hp) (Q : VK) : Prop := ∀ D, H1 D = none → ∃ W : Nat → Nat → Hp → Prop, (∃ m, W 0 m (upd H1 D (.lst []))) ∧ ∀ i m H, W i m H → (J.stop i H ∧ Q (.ref D) H) ∨
  (J.go i H ∧ ∃ N : Hp → Prop, (∀ H', N H' → ∃ m', m' < m ∧ W (i + 1) m' H') ∧ ∀ x H', J.yld i H x H' → g x (wipe σ vs) H' fun σ2 H2 => wipe σ2 vs = wipe σ vs ∧ tt σ2 H2 fun b H3 =>
    if b = true then te σ2 H3 fun y H4 => ∃ acc, H4 D = some (.lst acc) ∧ acc.length < sizeLine ∧ N (upd H4 D (.lst (acc ++ [y]))) else N H3)
theorem r_lc (h : wi σ H fun J H1 => lcR J g tt te vs σ H1 Q) : tLc wi g tt te vs σ H Q := h
/-- behind a turn of a comprehension -/
def LcN (H1 : Hp) (D : Addr) (Pv : Nat → List V → Hp → Prop) (i : Nat) (H : Hp) : Prop := Same H1 H ∧ ∃ acc, acc.length ≤ i ∧ H D = some (.lst acc) ∧ Pv i acc H
theorem lc_add {Pv : Nat → List V → Hp → Prop} {D : Addr} {i : Nat} {acc : List V} {y : V} {H4 : Hp} (hD : H1 D = none) (hS : Same H1 H) (s : Same H H4) (ha : H D = some (.lst acc)) (hl : acc.length ≤ i) (hi : i < 100000) (p : Pv (i + 1) (acc ++ [y]) (upd H4 D (.lst (acc ++ [y])))) :
    ∃ acc, H4 D = some (.lst acc) ∧ acc.length < sizeLine ∧ LcN H1 D Pv (i + 1) (upd H4 D (.lst (acc ++ [y]))) :=
  ⟨acc, s _ _ ha, by rw [sizeLine_eq]; omega, same_upd (hS.trans s) hD, _, by rw [List.length_append, List.length_singleton]; omega, upd_same, p⟩
theorem lc_skip {Pv : Nat → List V → Hp → Prop} {D : Addr} {i : Nat} {acc : List V} {H4 : Hp} (hS : Same H1 H) (s : Same H H4) (ha : H D = some (.lst acc)) (hl : acc.length ≤ i) (p : Pv (i + 1) acc H4) : LcN H1 D Pv (i + 1) H4 :=
  ⟨hS.trans s, acc, Nat.le_succ_of_le hl, s _ _ ha, p⟩
/-- [te for g in xs if tt]: what holds of the part taken -/
theorem lc_lst (hl : SqL K H1 a xs) (hz : xs.length ≤ 100000) (Pv : Nat → List V → Hp → Prop) (h0 : ∀ D, H1 D = none → Pv 0 [] (upd H1 D (.lst [])))
    (hs : ∀ D i x acc H, H1 D = none → xs[i]? = some x → i < 100000 → Same H1 H → H D = some (.lst acc) → acc.length ≤ i → Pv i acc H → g x (wipe σ vs) H fun σ2 H2 => wipe σ2 vs = wipe σ vs ∧ tt σ2 H2 fun b H3 =>
      if b = true then te σ2 H3 fun y H4 => ∃ acc, H4 D = some (.lst acc) ∧ acc.length < sizeLine ∧ LcN H1 D Pv (i + 1) (upd H4 D (.lst (acc ++ [y]))) else LcN H1 D Pv (i + 1) H3)
    (hd : ∀ D acc H, H1 D = none → Same H1 H → H D = some (.lst acc) → Pv xs.length acc H → Q (.ref D) H) : lcR (Itl K a) g tt te vs σ H1 Q := by
  intro D hD
  refine ⟨fun i m H => m = xs.length - i ∧ i ≤ xs.length ∧ LcN H1 D Pv i H, ⟨xs.length, by simp, Nat.zero_le _, same_new hD, [], Nat.le_refl _, upd_same, h0 D hD⟩, ?_⟩
  rintro i m H ⟨rfl, hi, hS, acc, ha, hD2, p⟩
  have q := SqL.same hl hS
  by_cases lt : i < xs.length
  · refine .inr ⟨⟨xs, xs[i], q, by simp [lt]⟩, LcN H1 D Pv (i + 1), fun H' p' => ⟨xs.length - (i + 1), by omega, rfl, lt, p'⟩, fun x H' y => ?_⟩
    obtain ⟨rfl, y⟩ := y
    exact hs D i x acc H' hD (y xs q) (by omega) hS hD2 ha p
  · obtain rfl : i = xs.length := by omega
    exact .inl ⟨⟨xs, q, Nat.le_refl _⟩, hd D acc H hD hS hD2 p⟩
end
/-! ### more steps of a reading -/
section
variable {σ : St} {H : Hp} {K : PySem.W.Frag} {a : Addr} {xs : List V} {g : TG} {gs : TGs} {N : St → Hp → Prop} {Q : VK} {v : V} {n i : Nat} {te : TE} {ts : List TE} {acc : Str} {J : Str → Hp → Prop}
theorem r_gname (h : N (σ.set i (some v)) H) : gName i v σ H N := h
theorem r_gnil (h : N σ H) : gNil [] σ H N := ⟨rfl, h⟩
theorem r_gcons {vs : List V} (h : g v σ H fun σ' H' => gs vs σ' H' N) : gCons g gs (v :: vs) σ H N := ⟨v, vs, rfl, h⟩
theorem r_gtup (hs : SqT K H a xs) (hn : xs.length = n) (h : gs xs σ H N) : gTup K n gs (.ref a) σ H N := ⟨a, xs, rfl, hs, hn, h⟩
theorem r_jnil (h : J acc H) : tJs [] acc σ H J := h
theorem r_jcons (h : te σ H fun x H1 => ∃ y : Str, x = .str y ∧ (acc ++ y).length ≤ sizeLine ∧ tJs ts (acc ++ y) σ H1 J) : tJs (te :: ts) acc σ H J := h
theorem r_jstr {y : Str} (hz : (acc ++ y).length ≤ sizeLine) (h : tJs ts (acc ++ y) σ H J) : tJs (tC (.str y) :: ts) acc σ H J := ⟨y, rfl, hz, h⟩
theorem r_jvar {y : Str} (e : σ[i]? = some (some (.str y))) (hy : y.length ≤ sizeLine) (hz : (acc ++ y).length ≤ sizeLine) (h : tJs ts (acc ++ y) σ H J) : tJs (tFmt (tVar i) :: ts) acc σ H J := ⟨_, e, .inl ⟨y, rfl, hy, y, rfl, hz, h⟩⟩
theorem r_fmt (h : te σ H fun x H1 => (∃ y : Str, x = .str y ∧ y.length ≤ sizeLine ∧ Q (.str y) H1) ∨ ∃ i : Int, x = .int i ∧ i.natAbs.log2 < 1920 ∧ Q (.str (toString i)) H1) : tFmt te σ H Q := h
theorem r_fmtS {y : Str} {R : V → Prop} (hy : y.length ≤ sizeLine) (h : R (.str y)) : (∃ z : Str, V.str y = .str z ∧ z.length ≤ sizeLine ∧ R (.str z)) ∨ ∃ i : Int, V.str y = .int i ∧ i.natAbs.log2 < 1920 ∧ R (.str (toString i)) := .inl ⟨y, rfl, hy, h⟩
theorem r_dnew (h : ∀ p, H p = none → Q (.ref p) (upd H p (.dK []))) : tDNewK σ H Q := h
theorem r_dput {td ty tv : TE} {nx : St → Hp → Prop} {rt : VK} {bk ct : St → Hp → Prop} (h : tv σ H fun v H1 => td σ H1 fun x H2 => ty σ H2 fun y H3 => ∃ a H4, x = .ref a ∧ DPut H3 a y v H4 ∧ nx σ H4) : sDPut td ty tv ⟨nx, rt, bk, ct⟩ σ H := h
theorem sapp_len (x y : Str) : (x ++ y).length = x.length + y.length := by simp [Str.length, Str.cps_append]
theorem sapp_nil (x : Str) : Str.empty ++ x = x := by
  show Str.mk (Str.empty.cps ++ x.cps) = x
  simp [Str.empty]
end
/-! ### one step, at the goal's head -/
local macro_rules | `(tactic| walk_at "go1") => `(tactic| first
  | (with_reducible apply r_seq) | (with_reducible apply r_set) | (with_reducible apply r_if) | (with_reducible apply r_ret) | (with_reducible apply r_next)
  | (with_reducible apply r_op) | (with_reducible apply r_c) | ((with_reducible apply r_var); exact rfl) | (with_reducible apply r_consA) | (with_reducible apply r_nilA)
  | (with_reducible apply r_call) | (with_reducible apply r_callS) | (with_reducible apply r_CB) | (with_reducible apply r_I0) | (with_reducible apply r_test) | (with_reducible apply r_bl)
  | (with_reducible apply r_B) | (with_reducible apply r_un) | (with_reducible apply r_U) | ((with_reducible apply r_eq); exact rfl) | ((with_reducible apply r_ne); exact rfl)
  | (with_reducible apply r_and) | (with_reducible apply r_or) | (with_reducible apply r_not) | (with_reducible apply r_andV) | (with_reducible apply r_orV) | (with_reducible apply r_notV) | (with_reducible apply r_ifE)
  | (with_reducible apply r_asg) | (with_reducible apply r_sub) | (with_reducible apply r_par) | (with_reducible apply r_drop) | (with_reducible apply r_brk) | (with_reducible apply r_cont)
  | (with_reducible apply r_fld) | (with_reducible apply r_tup) | (with_reducible apply r_lst))
local macro_rules | `(tactic| walk_at "go") => `(tactic| repeat walk_at "go1")
local macro_rules | `(tactic| walk_at "go1") => `(tactic| first | (with_reducible apply r_make) | (with_reducible apply r_makeS))
local macro_rules | `(tactic| walk_at "go1") => `(tactic| first | (with_reducible apply r_for) | (with_reducible apply r_iRng1) | (with_reducible apply r_iList))
local macro_rules | `(tactic| walk_at "go1") => `(tactic| first | ((with_reducible apply r_ixL); exact SqL.of upd_same; exact rfl) | ((with_reducible apply r_ixT); exact SqT.of upd_same; exact rfl))
local macro_rules | `(tactic| walk_at "go2") => `(tactic| first | (refine Or.inl ⟨_, rfl, ?_⟩) | (refine ⟨_, rfl, ?_⟩) | (refine ⟨_, _, rfl, ?_⟩) | (refine ⟨_, _, rfl, rfl, ?_⟩))
local macro_rules | `(tactic| walk_at "go") => `(tactic| repeat first | walk_at "go1" | walk_at "go2")
local macro_rules | `(tactic| walk_at "go1") => `(tactic| ((with_reducible apply r_setL); exact upd_same; exact rfl))
local macro_rules | `(tactic| walk_at "go2") => `(tactic| (refine And.intro (by first | omega | (dsimp only; omega) | decide) ?_))
local macro_rules | `(tactic| walk_at "go1") => `(tactic| (with_reducible apply r_sfld))
local macro_rules | `(tactic| walk_at "go2") => `(tactic| (refine And.intro (show CPow _ _ from ⟨by decide, by decide, by decide⟩) ?_))
local macro_rules | `(tactic| walk_at "go2") => `(tactic| (refine And.intro (by assumption) ?_))
local macro_rules | `(tactic| walk_at "go1") => `(tactic| first | (with_reducible apply ite_nt) | (with_reducible apply ite_nf) | (with_reducible apply iteT) | (with_reducible apply iteF))
local macro_rules | `(tactic| walk_at "go1") => `(tactic| first | (with_reducible apply r_gname) | (with_reducible apply r_gcons) | (with_reducible apply r_gnil) | (with_reducible apply r_dput) | (with_reducible apply r_dnew) | (with_reducible apply r_lc) | (with_reducible apply r_fmt) | (with_reducible apply r_jnil) | (with_reducible apply r_jcons))
local macro_rules | `(tactic| walk_at "js") => `(tactic| repeat first | walk_at "go1" | (refine And.intro (by ((try dsimp only); (try simp only [sapp_nil, sapp_len]); omega)) ?_) | (refine ⟨_, rfl, (by ((try dsimp only); (try simp only [sapp_nil, sapp_len]); omega)), ?_⟩) | walk_at "go2")
/-! ### the text by places -/
def top (i : Nat) : Stmt := PySem.Challenge.pw_linkwork_k18_counts_of_systems.main.body.getD i (.Pass ⟨0, 0, 0, 0⟩)
abbrev s_Ratio___init__ : Stmt := inClass (top 5) 0
abbrev s_Ratio___eq__ : Stmt := inClass (top 5) 1
abbrev s_Ratio___add__ : Stmt := inClass (top 5) 2
abbrev s_Ratio___sub__ : Stmt := inClass (top 5) 3
abbrev s_Ratio___mul__ : Stmt := inClass (top 5) 4
abbrev s_Ratio___neg__ : Stmt := inClass (top 5) 5
abbrev s_Variable___init__ : Stmt := inClass (top 7) 0
abbrev s_System___init__ : Stmt := inClass (top 8) 0
abbrev s__copied_when : Stmt := top 9
abbrev s_counts : Stmt := top 11
abbrev s_is_balanced : Stmt := top 12
abbrev s__assignments : Stmt := top 13
abbrev s__is_even : Stmt := top 14
abbrev s__law_stream : Stmt := top 16
abbrev s__law_draw : Stmt := top 17
abbrev s__law_small_ratio : Stmt := top 18
abbrev s__law_number : Stmt := top 19
abbrev s__law_truth : Stmt := top 20
abbrev s__law_spec : Stmt := top 21
abbrev s__law_known : Stmt := top 22
abbrev s__law_act : Stmt := top 23
abbrev s__law_raw : Stmt := top 24
abbrev s__law_variable : Stmt := top 25
abbrev s__law_made : Stmt := top 26
abbrev s_law : Stmt := top 27
/-! ### the head's facts -/
def d_Ratio___init__ : He.DefD := ⟨(("Ratio" : Str), some ("__init__" : Str)), ("__init__" : Str), ("Ratio.__init__" : Str), defArgs s_Ratio___init__, defBody s_Ratio___init__, defScope s_Ratio___init__, [(.int (1))], []⟩
def d_Ratio___eq__ : He.DefD := ⟨(("Ratio" : Str), some ("__eq__" : Str)), ("__eq__" : Str), ("Ratio.__eq__" : Str), defArgs s_Ratio___eq__, defBody s_Ratio___eq__, defScope s_Ratio___eq__, [], []⟩
def d_Ratio___add__ : He.DefD := ⟨(("Ratio" : Str), some ("__add__" : Str)), ("__add__" : Str), ("Ratio.__add__" : Str), defArgs s_Ratio___add__, defBody s_Ratio___add__, defScope s_Ratio___add__, [], []⟩
def d_Ratio___sub__ : He.DefD := ⟨(("Ratio" : Str), some ("__sub__" : Str)), ("__sub__" : Str), ("Ratio.__sub__" : Str), defArgs s_Ratio___sub__, defBody s_Ratio___sub__, defScope s_Ratio___sub__, [], []⟩
def d_Ratio___mul__ : He.DefD := ⟨(("Ratio" : Str), some ("__mul__" : Str)), ("__mul__" : Str), ("Ratio.__mul__" : Str), defArgs s_Ratio___mul__, defBody s_Ratio___mul__, defScope s_Ratio___mul__, [], []⟩
def d_Ratio___neg__ : He.DefD := ⟨(("Ratio" : Str), some ("__neg__" : Str)), ("__neg__" : Str), ("Ratio.__neg__" : Str), defArgs s_Ratio___neg__, defBody s_Ratio___neg__, defScope s_Ratio___neg__, [], []⟩
def d_Variable___init__ : He.DefD := ⟨(("Variable" : Str), some ("__init__" : Str)), ("__init__" : Str), ("Variable.__init__" : Str), defArgs s_Variable___init__, defBody s_Variable___init__, defScope s_Variable___init__, [(.bl false), (.non), (.non), (.bl false)], []⟩
def d_System___init__ : He.DefD := ⟨(("System" : Str), some ("__init__" : Str)), ("__init__" : Str), ("System.__init__" : Str), defArgs s_System___init__, defBody s_System___init__, defScope s_System___init__, [], []⟩
def d__copied_when : He.DefD := ⟨(("_copied_when" : Str), none), ("_copied_when" : Str), ("_copied_when" : Str), defArgs s__copied_when, defBody s__copied_when, defScope s__copied_when, [], []⟩
def d_counts : He.DefD := ⟨(("counts" : Str), none), ("counts" : Str), ("counts" : Str), defArgs s_counts, defBody s_counts, defScope s_counts, [], []⟩
def d_is_balanced : He.DefD := ⟨(("is_balanced" : Str), none), ("is_balanced" : Str), ("is_balanced" : Str), defArgs s_is_balanced, defBody s_is_balanced, defScope s_is_balanced, [], []⟩
def d__assignments : He.DefD := ⟨(("_assignments" : Str), none), ("_assignments" : Str), ("_assignments" : Str), defArgs s__assignments, defBody s__assignments, defScope s__assignments, [], []⟩
def d__is_even : He.DefD := ⟨(("_is_even" : Str), none), ("_is_even" : Str), ("_is_even" : Str), defArgs s__is_even, defBody s__is_even, defScope s__is_even, [], []⟩
def d__law_stream : He.DefD := ⟨(("_law_stream" : Str), none), ("_law_stream" : Str), ("_law_stream" : Str), defArgs s__law_stream, defBody s__law_stream, defScope s__law_stream, [], []⟩
def d__law_draw : He.DefD := ⟨(("_law_draw" : Str), none), ("_law_draw" : Str), ("_law_draw" : Str), defArgs s__law_draw, defBody s__law_draw, defScope s__law_draw, [], []⟩
def d__law_small_ratio : He.DefD := ⟨(("_law_small_ratio" : Str), none), ("_law_small_ratio" : Str), ("_law_small_ratio" : Str), defArgs s__law_small_ratio, defBody s__law_small_ratio, defScope s__law_small_ratio, [], []⟩
def d__law_number : He.DefD := ⟨(("_law_number" : Str), none), ("_law_number" : Str), ("_law_number" : Str), defArgs s__law_number, defBody s__law_number, defScope s__law_number, [], []⟩
def d__law_truth : He.DefD := ⟨(("_law_truth" : Str), none), ("_law_truth" : Str), ("_law_truth" : Str), defArgs s__law_truth, defBody s__law_truth, defScope s__law_truth, [], []⟩
def d__law_spec : He.DefD := ⟨(("_law_spec" : Str), none), ("_law_spec" : Str), ("_law_spec" : Str), defArgs s__law_spec, defBody s__law_spec, defScope s__law_spec, [], []⟩
def d__law_known : He.DefD := ⟨(("_law_known" : Str), none), ("_law_known" : Str), ("_law_known" : Str), defArgs s__law_known, defBody s__law_known, defScope s__law_known, [], []⟩
def d__law_act : He.DefD := ⟨(("_law_act" : Str), none), ("_law_act" : Str), ("_law_act" : Str), defArgs s__law_act, defBody s__law_act, defScope s__law_act, [], []⟩
def d__law_raw : He.DefD := ⟨(("_law_raw" : Str), none), ("_law_raw" : Str), ("_law_raw" : Str), defArgs s__law_raw, defBody s__law_raw, defScope s__law_raw, [], []⟩
def d__law_variable : He.DefD := ⟨(("_law_variable" : Str), none), ("_law_variable" : Str), ("_law_variable" : Str), defArgs s__law_variable, defBody s__law_variable, defScope s__law_variable, [], []⟩
def d__law_made : He.DefD := ⟨(("_law_made" : Str), none), ("_law_made" : Str), ("_law_made" : Str), defArgs s__law_made, defBody s__law_made, defScope s__law_made, [], []⟩
def d_law : He.DefD := ⟨(("law" : Str), none), ("law" : Str), ("law" : Str), defArgs s_law, defBody s_law, defScope s_law, [], []⟩
def fnL : List He.DefD := [d_Ratio___init__, d_Ratio___eq__, d_Ratio___add__, d_Ratio___sub__, d_Ratio___mul__, d_Ratio___neg__, d_Variable___init__, d_System___init__, d__copied_when, d_counts, d_is_balanced, d__assignments, d__is_even, d__law_stream, d__law_draw, d__law_small_ratio, d__law_number, d__law_truth, d__law_spec, d__law_known, d__law_act, d__law_raw, d__law_variable, d__law_made, d_law]
def faL : List He.Fa := [.glo ("_copied_when" : Str), .glo ("counts" : Str), .glo ("is_balanced" : Str), .glo ("_assignments" : Str), .glo ("_is_even" : Str), .glo ("_law_stream" : Str), .glo ("_law_draw" : Str), .glo ("_law_small_ratio" : Str), .glo ("_law_number" : Str), .glo ("_law_truth" : Str), .glo ("_law_spec" : Str), .glo ("_law_known" : Str), .glo ("_law_act" : Str), .glo ("_law_raw" : Str), .glo ("_law_variable" : Str), .glo ("_law_made" : Str), .glo ("law" : Str), .glo ("LinkworkError" : Str), .glo ("ByZero" : Str), .glo ("Ratio" : Str), .glo ("Variable" : Str), .glo ("System" : Str), .free ("abs" : Str), .free ("bool" : Str), .free ("dict" : Str), .free ("int" : Str), .free ("isinstance" : Str), .free ("len" : Str), .free ("list" : Str), .free ("range" : Str), .free ("str" : Str), .free ("tuple" : Str), .exc ("LinkworkError" : Str), .exc ("ByZero" : Str), .cls ("Ratio" : Str), .noat ("Ratio" : Str) ("top" : Str), .noat ("Ratio" : Str) ("bottom" : Str), .mkr ("Ratio" : Str), .meth ("Ratio" : Str) ("__eq__" : Str), .meth ("Ratio" : Str) ("__add__" : Str), .meth ("Ratio" : Str) ("__sub__" : Str), .meth ("Ratio" : Str) ("__mul__" : Str), .meth ("Ratio" : Str) ("__neg__" : Str), .cls ("Variable" : Str), .noat ("Variable" : Str) ("name" : Str), .noat ("Variable" : Str) ("kind" : Str), .noat ("Variable" : Str) ("truth" : Str), .noat ("Variable" : Str) ("value" : Str), .noat ("Variable" : Str) ("start" : Str), .noat ("Variable" : Str) ("fixed" : Str), .mkr ("Variable" : Str), .cls ("System" : Str), .noat ("System" : Str) ("variables" : Str), .noat ("System" : Str) ("equations" : Str), .noat ("System" : Str) ("initials" : Str), .noat ("System" : Str) ("whens" : Str), .mkr ("System" : Str), .exm ("ByZero" : Str) ("ByZero" : Str) true]
def ex_imp_gcd (K : PySem.W.Frag) : Bool := He.eqO (PySem.W.nsIn K mainGlobals ("gcd" : Str)) (some (some (.builtin "math.gcd")))
def ex_excC_LinkworkError (K : PySem.W.Frag) : Bool := excCB K (He.ga K ("LinkworkError" : Str))
def ex_excC_ByZero (K : PySem.W.Frag) : Bool := excCB K (He.ga K ("ByZero" : Str))
def ex_isi_Ratio (K : PySem.W.Frag) : Bool := isiCB K (He.ga K ("Ratio" : Str))
def ex_first_Ratio (K : PySem.W.Frag) : Bool := PySem.W.selfFirst K (He.ga K ("Ratio" : Str))
def ex_isi_Variable (K : PySem.W.Frag) : Bool := isiCB K (He.ga K ("Variable" : Str))
def ex_first_Variable (K : PySem.W.Frag) : Bool := PySem.W.selfFirst K (He.ga K ("Variable" : Str))
def ex_isi_System (K : PySem.W.Frag) : Bool := isiCB K (He.ga K ("System" : Str))
def ex_first_System (K : PySem.W.Frag) : Bool := PySem.W.selfFirst K (He.ga K ("System" : Str))
def ex_kit_ByZero_LinkworkError (K : PySem.W.Frag) : Bool := decide (PySem.W.kitOne K (.ref (He.ga K ("ByZero" : Str))) (.ref (He.ga K ("LinkworkError" : Str))) = some true)
def ex_kit_Ratio_Ratio (K : PySem.W.Frag) : Bool := decide (PySem.W.kitOne K (.ref (He.ga K ("Ratio" : Str))) (.ref (He.ga K ("Ratio" : Str))) = some true)
def ex_kit_t_tuple_t_tuple (K : PySem.W.Frag) : Bool := decide (PySem.W.kitOne K (.type "tuple") (.type "tuple") = some true)
def ex_kit_t_list_t_list (K : PySem.W.Frag) : Bool := decide (PySem.W.kitOne K (.type "list") (.type "list") = some true)
def ex_kit_t_bool_t_bool (K : PySem.W.Frag) : Bool := decide (PySem.W.kitOne K (.type "bool") (.type "bool") = some true)
def exL : List (PySem.W.Frag → Bool) := [ex_imp_gcd, ex_excC_LinkworkError, ex_excC_ByZero, ex_isi_Ratio, ex_first_Ratio, ex_isi_Variable, ex_first_Variable, ex_isi_System, ex_first_System, ex_kit_ByZero_LinkworkError, ex_kit_Ratio_Ratio, ex_kit_t_tuple_t_tuple, ex_kit_t_list_t_list, ex_kit_t_bool_t_bool]
def exB (K : PySem.W.Frag) : Bool := exL.all fun f => f K
abbrev R : PySem.W.OpenRow := PySem.W.OpenLaw.row PySem.Challenge.rw_linkwork_k18_counts_of_systems
abbrev hk : PySem.W.Hook := hookS 5 faL fnL exB
def ob (s : PySem.W.SharedT) : AlS := obsS 5 faL fnL exB (HeadRun.getT s)
theorem ob_eq (s : PySem.W.SharedT) : ob s = hk.obs s.abs := obsS_eq (HeadRun.getT_eq s)
def looseL : List PySem.Str := [("__name__" : Str), ("LinkworkError" : Str), ("ByZero" : Str), ("Ratio" : Str), ("Variable" : Str), ("System" : Str), ("_copied_when" : Str), ("counts" : Str), ("is_balanced" : Str), ("_assignments" : Str), ("_is_even" : Str), ("_law_stream" : Str), ("_law_draw" : Str), ("_law_small_ratio" : Str), ("_law_number" : Str), ("_law_truth" : Str), ("_law_spec" : Str), ("_law_known" : Str), ("_law_act" : Str), ("_law_raw" : Str), ("_law_variable" : Str), ("_law_made" : Str)]
abbrev qv : Program := PySem.W.view R.prog [0, 27]
theorem run (w : World) : HeadRun.RunEqI R qv hk ob 4000 looseL w := by
  unfold HeadRun.RunEqI
  kernel_rfl
/-! ### the facts by names -/
def Top (w : World) (K : PySem.W.Frag) (mg : Str → Option Value) : Prop := ∃ h : Heap, K.In h ∧ h.Ns mainGlobals mg ∧ SaysS faL fnL exB K
noncomputable def fdOf (K : PySem.W.Frag) (d : He.DefD) : FuncData := @Classical.epsilon FuncData ⟨PySem.W.fnOf d.name d.qual d.params d.body d.scope .none .none .none .none none .none .none⟩ fun fd => FunD K d.name d.qual d.params d.body d.scope (d.dvs K) (d.kws K) (He.fAd K d.at_) fd
section
variable {w : World} {K : PySem.W.Frag} {mg : Str → Option Value}
theorem Top.fun_ (T : Top w K mg) (i : Nat) {d : He.DefD} (h : fnL[i]? = some d) : FunD K d.name d.qual d.params d.body d.scope (d.dvs K) (d.kws K) (He.fAd K d.at_) (fdOf K d) := by
  obtain ⟨_, _, _, c⟩ := T
  exact Classical.epsilon_spec (c.d.def_ i h)
theorem Top.fact (T : Top w K mg) (i : Nat) {f : He.Fa} (h : faL[i]? = some f) : f.ok K = true := by
  obtain ⟨_, _, _, c⟩ := T
  exact c.d.fact i h
theorem Top.ex (T : Top w K mg) (i : Nat) {f : PySem.W.Frag → Bool} (h : exL[i]? = some f) : f K = true := by
  obtain ⟨_, _, _, c⟩ := T
  exact List.all_eq_true.mp (show (exL.all fun f => f K) = true from c.more) f (List.mem_of_getElem? h)
theorem Top.g__copied_when (T : Top w K mg) : mg ("_copied_when" : Str) = some (.ref (He.ga K ("_copied_when" : Str))) := by obtain ⟨h, X, G, c⟩ := T; exact He.glo_ok X G (c.d.fact 0 rfl)
theorem Top.g_counts (T : Top w K mg) : mg ("counts" : Str) = some (.ref (He.ga K ("counts" : Str))) := by obtain ⟨h, X, G, c⟩ := T; exact He.glo_ok X G (c.d.fact 1 rfl)
theorem Top.g_is_balanced (T : Top w K mg) : mg ("is_balanced" : Str) = some (.ref (He.ga K ("is_balanced" : Str))) := by obtain ⟨h, X, G, c⟩ := T; exact He.glo_ok X G (c.d.fact 2 rfl)
theorem Top.g__assignments (T : Top w K mg) : mg ("_assignments" : Str) = some (.ref (He.ga K ("_assignments" : Str))) := by obtain ⟨h, X, G, c⟩ := T; exact He.glo_ok X G (c.d.fact 3 rfl)
theorem Top.g__is_even (T : Top w K mg) : mg ("_is_even" : Str) = some (.ref (He.ga K ("_is_even" : Str))) := by obtain ⟨h, X, G, c⟩ := T; exact He.glo_ok X G (c.d.fact 4 rfl)
theorem Top.g__law_stream (T : Top w K mg) : mg ("_law_stream" : Str) = some (.ref (He.ga K ("_law_stream" : Str))) := by obtain ⟨h, X, G, c⟩ := T; exact He.glo_ok X G (c.d.fact 5 rfl)
theorem Top.g__law_draw (T : Top w K mg) : mg ("_law_draw" : Str) = some (.ref (He.ga K ("_law_draw" : Str))) := by obtain ⟨h, X, G, c⟩ := T; exact He.glo_ok X G (c.d.fact 6 rfl)
theorem Top.g__law_small_ratio (T : Top w K mg) : mg ("_law_small_ratio" : Str) = some (.ref (He.ga K ("_law_small_ratio" : Str))) := by obtain ⟨h, X, G, c⟩ := T; exact He.glo_ok X G (c.d.fact 7 rfl)
theorem Top.g__law_number (T : Top w K mg) : mg ("_law_number" : Str) = some (.ref (He.ga K ("_law_number" : Str))) := by obtain ⟨h, X, G, c⟩ := T; exact He.glo_ok X G (c.d.fact 8 rfl)
theorem Top.g__law_truth (T : Top w K mg) : mg ("_law_truth" : Str) = some (.ref (He.ga K ("_law_truth" : Str))) := by obtain ⟨h, X, G, c⟩ := T; exact He.glo_ok X G (c.d.fact 9 rfl)
theorem Top.g__law_spec (T : Top w K mg) : mg ("_law_spec" : Str) = some (.ref (He.ga K ("_law_spec" : Str))) := by obtain ⟨h, X, G, c⟩ := T; exact He.glo_ok X G (c.d.fact 10 rfl)
theorem Top.g__law_known (T : Top w K mg) : mg ("_law_known" : Str) = some (.ref (He.ga K ("_law_known" : Str))) := by obtain ⟨h, X, G, c⟩ := T; exact He.glo_ok X G (c.d.fact 11 rfl)
theorem Top.g__law_act (T : Top w K mg) : mg ("_law_act" : Str) = some (.ref (He.ga K ("_law_act" : Str))) := by obtain ⟨h, X, G, c⟩ := T; exact He.glo_ok X G (c.d.fact 12 rfl)
theorem Top.g__law_raw (T : Top w K mg) : mg ("_law_raw" : Str) = some (.ref (He.ga K ("_law_raw" : Str))) := by obtain ⟨h, X, G, c⟩ := T; exact He.glo_ok X G (c.d.fact 13 rfl)
theorem Top.g__law_variable (T : Top w K mg) : mg ("_law_variable" : Str) = some (.ref (He.ga K ("_law_variable" : Str))) := by obtain ⟨h, X, G, c⟩ := T; exact He.glo_ok X G (c.d.fact 14 rfl)
theorem Top.g__law_made (T : Top w K mg) : mg ("_law_made" : Str) = some (.ref (He.ga K ("_law_made" : Str))) := by obtain ⟨h, X, G, c⟩ := T; exact He.glo_ok X G (c.d.fact 15 rfl)
theorem Top.g_law (T : Top w K mg) : mg ("law" : Str) = some (.ref (He.ga K ("law" : Str))) := by obtain ⟨h, X, G, c⟩ := T; exact He.glo_ok X G (c.d.fact 16 rfl)
theorem Top.g_LinkworkError (T : Top w K mg) : mg ("LinkworkError" : Str) = some (.ref (He.ga K ("LinkworkError" : Str))) := by obtain ⟨h, X, G, c⟩ := T; exact He.glo_ok X G (c.d.fact 17 rfl)
theorem Top.g_ByZero (T : Top w K mg) : mg ("ByZero" : Str) = some (.ref (He.ga K ("ByZero" : Str))) := by obtain ⟨h, X, G, c⟩ := T; exact He.glo_ok X G (c.d.fact 18 rfl)
theorem Top.g_Ratio (T : Top w K mg) : mg ("Ratio" : Str) = some (.ref (He.ga K ("Ratio" : Str))) := by obtain ⟨h, X, G, c⟩ := T; exact He.glo_ok X G (c.d.fact 19 rfl)
theorem Top.g_Variable (T : Top w K mg) : mg ("Variable" : Str) = some (.ref (He.ga K ("Variable" : Str))) := by obtain ⟨h, X, G, c⟩ := T; exact He.glo_ok X G (c.d.fact 20 rfl)
theorem Top.g_System (T : Top w K mg) : mg ("System" : Str) = some (.ref (He.ga K ("System" : Str))) := by obtain ⟨h, X, G, c⟩ := T; exact He.glo_ok X G (c.d.fact 21 rfl)
theorem Top.n_abs (T : Top w K mg) : mg ("abs" : Str) = none := by obtain ⟨h, X, G, c⟩ := T; exact He.free_ok X G (c.d.fact 22 rfl)
theorem Top.n_bool (T : Top w K mg) : mg ("bool" : Str) = none := by obtain ⟨h, X, G, c⟩ := T; exact He.free_ok X G (c.d.fact 23 rfl)
theorem Top.n_dict (T : Top w K mg) : mg ("dict" : Str) = none := by obtain ⟨h, X, G, c⟩ := T; exact He.free_ok X G (c.d.fact 24 rfl)
theorem Top.n_int (T : Top w K mg) : mg ("int" : Str) = none := by obtain ⟨h, X, G, c⟩ := T; exact He.free_ok X G (c.d.fact 25 rfl)
theorem Top.n_isinstance (T : Top w K mg) : mg ("isinstance" : Str) = none := by obtain ⟨h, X, G, c⟩ := T; exact He.free_ok X G (c.d.fact 26 rfl)
theorem Top.n_len (T : Top w K mg) : mg ("len" : Str) = none := by obtain ⟨h, X, G, c⟩ := T; exact He.free_ok X G (c.d.fact 27 rfl)
theorem Top.n_list (T : Top w K mg) : mg ("list" : Str) = none := by obtain ⟨h, X, G, c⟩ := T; exact He.free_ok X G (c.d.fact 28 rfl)
theorem Top.n_range (T : Top w K mg) : mg ("range" : Str) = none := by obtain ⟨h, X, G, c⟩ := T; exact He.free_ok X G (c.d.fact 29 rfl)
theorem Top.n_str (T : Top w K mg) : mg ("str" : Str) = none := by obtain ⟨h, X, G, c⟩ := T; exact He.free_ok X G (c.d.fact 30 rfl)
theorem Top.n_tuple (T : Top w K mg) : mg ("tuple" : Str) = none := by obtain ⟨h, X, G, c⟩ := T; exact He.free_ok X G (c.d.fact 31 rfl)
theorem Top.exc_LinkworkError (T : Top w K mg) : PySem.W.excIn K (He.ga K ("LinkworkError" : Str)) He.veBase "ValueError.__new__" = true ∧ PySem.W.keepIn K (.ref (He.ga K ("LinkworkError" : Str))) = true ∧ PySem.W.subIn K (.ref (He.ga K ("LinkworkError" : Str))) (.type "BaseException") = some true ∧ PySem.W.typeIn K (.ref (He.ga K ("LinkworkError" : Str))) = some (.type "type") := He.exc_ok (T.fact 32 rfl)
theorem Top.exc_ByZero (T : Top w K mg) : PySem.W.excIn K (He.ga K ("ByZero" : Str)) He.veBase "ValueError.__new__" = true ∧ PySem.W.keepIn K (.ref (He.ga K ("ByZero" : Str))) = true ∧ PySem.W.subIn K (.ref (He.ga K ("ByZero" : Str))) (.type "BaseException") = some true ∧ PySem.W.typeIn K (.ref (He.ga K ("ByZero" : Str))) = some (.type "type") := He.exc_ok (T.fact 33 rfl)
theorem Top.cls_Ratio (T : Top w K mg) : Cls K (He.ga K ("Ratio" : Str)) := He.cls_ok (T.fact 34 rfl)
theorem Top.na_Ratio_top (T : Top w K mg) : NoAttr K (He.ga K ("Ratio" : Str)) ("top" : Str) := He.noat_ok (T.fact 35 rfl)
theorem Top.na_Ratio_bottom (T : Top w K mg) : NoAttr K (He.ga K ("Ratio" : Str)) ("bottom" : Str) := He.noat_ok (T.fact 36 rfl)
theorem Top.mk_Ratio (T : Top w K mg) : Mk K (He.ga K ("Ratio" : Str)) (He.ma K (He.ga K ("Ratio" : Str)) "__init__") := He.mkr_ok (T.fact 37 rfl)
theorem Top.m_Ratio___eq__ (T : Top w K mg) : Meth K (He.ga K ("Ratio" : Str)) ("__eq__" : Str) (He.ma K (He.ga K ("Ratio" : Str)) ("__eq__" : Str)) := He.meth_ok (T.fact 38 rfl)
theorem Top.m_Ratio___add__ (T : Top w K mg) : Meth K (He.ga K ("Ratio" : Str)) ("__add__" : Str) (He.ma K (He.ga K ("Ratio" : Str)) ("__add__" : Str)) := He.meth_ok (T.fact 39 rfl)
theorem Top.m_Ratio___sub__ (T : Top w K mg) : Meth K (He.ga K ("Ratio" : Str)) ("__sub__" : Str) (He.ma K (He.ga K ("Ratio" : Str)) ("__sub__" : Str)) := He.meth_ok (T.fact 40 rfl)
theorem Top.m_Ratio___mul__ (T : Top w K mg) : Meth K (He.ga K ("Ratio" : Str)) ("__mul__" : Str) (He.ma K (He.ga K ("Ratio" : Str)) ("__mul__" : Str)) := He.meth_ok (T.fact 41 rfl)
theorem Top.m_Ratio___neg__ (T : Top w K mg) : Meth K (He.ga K ("Ratio" : Str)) ("__neg__" : Str) (He.ma K (He.ga K ("Ratio" : Str)) ("__neg__" : Str)) := He.meth_ok (T.fact 42 rfl)
theorem Top.cls_Variable (T : Top w K mg) : Cls K (He.ga K ("Variable" : Str)) := He.cls_ok (T.fact 43 rfl)
theorem Top.na_Variable_name (T : Top w K mg) : NoAttr K (He.ga K ("Variable" : Str)) ("name" : Str) := He.noat_ok (T.fact 44 rfl)
theorem Top.na_Variable_kind (T : Top w K mg) : NoAttr K (He.ga K ("Variable" : Str)) ("kind" : Str) := He.noat_ok (T.fact 45 rfl)
theorem Top.na_Variable_truth (T : Top w K mg) : NoAttr K (He.ga K ("Variable" : Str)) ("truth" : Str) := He.noat_ok (T.fact 46 rfl)
theorem Top.na_Variable_value (T : Top w K mg) : NoAttr K (He.ga K ("Variable" : Str)) ("value" : Str) := He.noat_ok (T.fact 47 rfl)
theorem Top.na_Variable_start (T : Top w K mg) : NoAttr K (He.ga K ("Variable" : Str)) ("start" : Str) := He.noat_ok (T.fact 48 rfl)
theorem Top.na_Variable_fixed (T : Top w K mg) : NoAttr K (He.ga K ("Variable" : Str)) ("fixed" : Str) := He.noat_ok (T.fact 49 rfl)
theorem Top.mk_Variable (T : Top w K mg) : Mk K (He.ga K ("Variable" : Str)) (He.ma K (He.ga K ("Variable" : Str)) "__init__") := He.mkr_ok (T.fact 50 rfl)
theorem Top.cls_System (T : Top w K mg) : Cls K (He.ga K ("System" : Str)) := He.cls_ok (T.fact 51 rfl)
theorem Top.na_System_variables (T : Top w K mg) : NoAttr K (He.ga K ("System" : Str)) ("variables" : Str) := He.noat_ok (T.fact 52 rfl)
theorem Top.na_System_equations (T : Top w K mg) : NoAttr K (He.ga K ("System" : Str)) ("equations" : Str) := He.noat_ok (T.fact 53 rfl)
theorem Top.na_System_initials (T : Top w K mg) : NoAttr K (He.ga K ("System" : Str)) ("initials" : Str) := He.noat_ok (T.fact 54 rfl)
theorem Top.na_System_whens (T : Top w K mg) : NoAttr K (He.ga K ("System" : Str)) ("whens" : Str) := He.noat_ok (T.fact 55 rfl)
theorem Top.mk_System (T : Top w K mg) : Mk K (He.ga K ("System" : Str)) (He.ma K (He.ga K ("System" : Str)) "__init__") := He.mkr_ok (T.fact 56 rfl)
theorem Top.exm_ByZero_ByZero (T : Top w K mg) : PySem.W.exmOne K (.ref (He.ga K ("ByZero" : Str))) (.ref (He.ga K ("ByZero" : Str))) = some true := He.exm_ok (T.fact 57 rfl)
theorem Top.x_imp_gcd (T : Top w K mg) : ex_imp_gcd K = true := T.ex 0 rfl
theorem Top.x_excC_LinkworkError (T : Top w K mg) : ex_excC_LinkworkError K = true := T.ex 1 rfl
theorem Top.x_excC_ByZero (T : Top w K mg) : ex_excC_ByZero K = true := T.ex 2 rfl
theorem Top.x_isi_Ratio (T : Top w K mg) : ex_isi_Ratio K = true := T.ex 3 rfl
theorem Top.x_first_Ratio (T : Top w K mg) : ex_first_Ratio K = true := T.ex 4 rfl
theorem Top.x_isi_Variable (T : Top w K mg) : ex_isi_Variable K = true := T.ex 5 rfl
theorem Top.x_first_Variable (T : Top w K mg) : ex_first_Variable K = true := T.ex 6 rfl
theorem Top.x_isi_System (T : Top w K mg) : ex_isi_System K = true := T.ex 7 rfl
theorem Top.x_first_System (T : Top w K mg) : ex_first_System K = true := T.ex 8 rfl
theorem Top.x_kit_ByZero_LinkworkError (T : Top w K mg) : ex_kit_ByZero_LinkworkError K = true := T.ex 9 rfl
theorem Top.x_kit_Ratio_Ratio (T : Top w K mg) : ex_kit_Ratio_Ratio K = true := T.ex 10 rfl
theorem Top.x_kit_t_tuple_t_tuple (T : Top w K mg) : ex_kit_t_tuple_t_tuple K = true := T.ex 11 rfl
theorem Top.x_kit_t_list_t_list (T : Top w K mg) : ex_kit_t_list_t_list K = true := T.ex 12 rfl
theorem Top.x_kit_t_bool_t_bool (T : Top w K mg) : ex_kit_t_bool_t_bool K = true := T.ex 13 rfl
theorem Top.gcdM (T : Top w K mg) : mg ("gcd" : Str) = some (.builtin "math.gcd") := by have e := T.x_imp_gcd; obtain ⟨h, X, G, c⟩ := T; exact PySem.W.mg_of X G (He.eqO_ok e)
theorem Top.f_Ratio___init__ (T : Top w K mg) : FunD K ("__init__" : Str) ("Ratio.__init__" : Str) (defArgs s_Ratio___init__) (defBody s_Ratio___init__) (defScope s_Ratio___init__) (d_Ratio___init__.dvs K) (d_Ratio___init__.kws K) (He.ma K (He.ga K ("Ratio" : Str)) ("__init__" : Str)) (fdOf K d_Ratio___init__) := T.fun_ 0 rfl
theorem Top.b0_Ratio___init__ (T : Top w K mg) : ∃ ds, Vals ((d_Ratio___init__.dvs K).drop 0) ds ∧ Binds K (fdOf K d_Ratio___init__) ["self", "numerator", "denominator"] ds := T.f_Ratio___init__.binds1 2 0 (by intro z; cases z) rfl fun _ _ _ _ _ _ _ us its h1 h2 => match us, its, h1, h2 with | [_, _], [_], _, _ => ⟨_, rfl, rfl⟩
theorem Top.b1_Ratio___init__ (T : Top w K mg) : ∃ ds, Vals ((d_Ratio___init__.dvs K).drop 1) ds ∧ Binds K (fdOf K d_Ratio___init__) ["self", "numerator", "denominator"] ds := T.f_Ratio___init__.binds1 3 1 (by intro z; cases z) rfl fun _ _ _ _ _ _ _ us its h1 h2 => match us, its, h1, h2 with | [_, _, _], [_], _, _ => ⟨_, rfl, rfl⟩
theorem sc_Ratio___init__ : FnScope ["self", "numerator", "denominator", "divisor"] ["self", "numerator", "denominator"] (defScope s_Ratio___init__) := ⟨rfl, rfl, rfl, by decide +kernel, rfl, by decide +kernel, by decide +kernel⟩
theorem Top.f_Ratio___eq__ (T : Top w K mg) : FunD K ("__eq__" : Str) ("Ratio.__eq__" : Str) (defArgs s_Ratio___eq__) (defBody s_Ratio___eq__) (defScope s_Ratio___eq__) (d_Ratio___eq__.dvs K) (d_Ratio___eq__.kws K) (He.ma K (He.ga K ("Ratio" : Str)) ("__eq__" : Str)) (fdOf K d_Ratio___eq__) := T.fun_ 1 rfl
theorem Top.b_Ratio___eq__ (T : Top w K mg) : Binds K (fdOf K d_Ratio___eq__) ["self", "other"] [] := (show FunD K ("__eq__" : Str) ("Ratio.__eq__" : Str) (defArgs s_Ratio___eq__) (defBody s_Ratio___eq__) (defScope s_Ratio___eq__) [] (d_Ratio___eq__.kws K) (He.ma K (He.ga K ("Ratio" : Str)) ("__eq__" : Str)) (fdOf K d_Ratio___eq__) from T.f_Ratio___eq__).bindsN fun _ _ _ _ _ _ us hl => match us, hl with | [_, _], _ => rfl
theorem sc_Ratio___eq__ : FnScope ["self", "other"] ["self", "other"] (defScope s_Ratio___eq__) := ⟨rfl, rfl, rfl, by decide +kernel, rfl, by decide +kernel, by decide +kernel⟩
theorem Top.f_Ratio___add__ (T : Top w K mg) : FunD K ("__add__" : Str) ("Ratio.__add__" : Str) (defArgs s_Ratio___add__) (defBody s_Ratio___add__) (defScope s_Ratio___add__) (d_Ratio___add__.dvs K) (d_Ratio___add__.kws K) (He.ma K (He.ga K ("Ratio" : Str)) ("__add__" : Str)) (fdOf K d_Ratio___add__) := T.fun_ 2 rfl
theorem Top.b_Ratio___add__ (T : Top w K mg) : Binds K (fdOf K d_Ratio___add__) ["self", "other"] [] := (show FunD K ("__add__" : Str) ("Ratio.__add__" : Str) (defArgs s_Ratio___add__) (defBody s_Ratio___add__) (defScope s_Ratio___add__) [] (d_Ratio___add__.kws K) (He.ma K (He.ga K ("Ratio" : Str)) ("__add__" : Str)) (fdOf K d_Ratio___add__) from T.f_Ratio___add__).bindsN fun _ _ _ _ _ _ us hl => match us, hl with | [_, _], _ => rfl
theorem sc_Ratio___add__ : FnScope ["self", "other"] ["self", "other"] (defScope s_Ratio___add__) := ⟨rfl, rfl, rfl, by decide +kernel, rfl, by decide +kernel, by decide +kernel⟩
theorem Top.f_Ratio___sub__ (T : Top w K mg) : FunD K ("__sub__" : Str) ("Ratio.__sub__" : Str) (defArgs s_Ratio___sub__) (defBody s_Ratio___sub__) (defScope s_Ratio___sub__) (d_Ratio___sub__.dvs K) (d_Ratio___sub__.kws K) (He.ma K (He.ga K ("Ratio" : Str)) ("__sub__" : Str)) (fdOf K d_Ratio___sub__) := T.fun_ 3 rfl
theorem Top.b_Ratio___sub__ (T : Top w K mg) : Binds K (fdOf K d_Ratio___sub__) ["self", "other"] [] := (show FunD K ("__sub__" : Str) ("Ratio.__sub__" : Str) (defArgs s_Ratio___sub__) (defBody s_Ratio___sub__) (defScope s_Ratio___sub__) [] (d_Ratio___sub__.kws K) (He.ma K (He.ga K ("Ratio" : Str)) ("__sub__" : Str)) (fdOf K d_Ratio___sub__) from T.f_Ratio___sub__).bindsN fun _ _ _ _ _ _ us hl => match us, hl with | [_, _], _ => rfl
theorem sc_Ratio___sub__ : FnScope ["self", "other"] ["self", "other"] (defScope s_Ratio___sub__) := ⟨rfl, rfl, rfl, by decide +kernel, rfl, by decide +kernel, by decide +kernel⟩
theorem Top.f_Ratio___mul__ (T : Top w K mg) : FunD K ("__mul__" : Str) ("Ratio.__mul__" : Str) (defArgs s_Ratio___mul__) (defBody s_Ratio___mul__) (defScope s_Ratio___mul__) (d_Ratio___mul__.dvs K) (d_Ratio___mul__.kws K) (He.ma K (He.ga K ("Ratio" : Str)) ("__mul__" : Str)) (fdOf K d_Ratio___mul__) := T.fun_ 4 rfl
theorem Top.b_Ratio___mul__ (T : Top w K mg) : Binds K (fdOf K d_Ratio___mul__) ["self", "other"] [] := (show FunD K ("__mul__" : Str) ("Ratio.__mul__" : Str) (defArgs s_Ratio___mul__) (defBody s_Ratio___mul__) (defScope s_Ratio___mul__) [] (d_Ratio___mul__.kws K) (He.ma K (He.ga K ("Ratio" : Str)) ("__mul__" : Str)) (fdOf K d_Ratio___mul__) from T.f_Ratio___mul__).bindsN fun _ _ _ _ _ _ us hl => match us, hl with | [_, _], _ => rfl
theorem sc_Ratio___mul__ : FnScope ["self", "other"] ["self", "other"] (defScope s_Ratio___mul__) := ⟨rfl, rfl, rfl, by decide +kernel, rfl, by decide +kernel, by decide +kernel⟩
theorem Top.f_Ratio___neg__ (T : Top w K mg) : FunD K ("__neg__" : Str) ("Ratio.__neg__" : Str) (defArgs s_Ratio___neg__) (defBody s_Ratio___neg__) (defScope s_Ratio___neg__) (d_Ratio___neg__.dvs K) (d_Ratio___neg__.kws K) (He.ma K (He.ga K ("Ratio" : Str)) ("__neg__" : Str)) (fdOf K d_Ratio___neg__) := T.fun_ 5 rfl
theorem Top.b_Ratio___neg__ (T : Top w K mg) : Binds K (fdOf K d_Ratio___neg__) ["self"] [] := (show FunD K ("__neg__" : Str) ("Ratio.__neg__" : Str) (defArgs s_Ratio___neg__) (defBody s_Ratio___neg__) (defScope s_Ratio___neg__) [] (d_Ratio___neg__.kws K) (He.ma K (He.ga K ("Ratio" : Str)) ("__neg__" : Str)) (fdOf K d_Ratio___neg__) from T.f_Ratio___neg__).bindsN fun _ _ _ _ _ _ us hl => match us, hl with | [_], _ => rfl
theorem sc_Ratio___neg__ : FnScope ["self"] ["self"] (defScope s_Ratio___neg__) := ⟨rfl, rfl, rfl, by decide +kernel, rfl, by decide +kernel, by decide +kernel⟩
theorem Top.f_Variable___init__ (T : Top w K mg) : FunD K ("__init__" : Str) ("Variable.__init__" : Str) (defArgs s_Variable___init__) (defBody s_Variable___init__) (defScope s_Variable___init__) (d_Variable___init__.dvs K) (d_Variable___init__.kws K) (He.ma K (He.ga K ("Variable" : Str)) ("__init__" : Str)) (fdOf K d_Variable___init__) := T.fun_ 6 rfl
theorem Top.b0_Variable___init__ (T : Top w K mg) : ∃ ds, Vals ((d_Variable___init__.dvs K).drop 0) ds ∧ Binds K (fdOf K d_Variable___init__) ["self", "name", "kind", "truth", "value", "start", "fixed"] ds := T.f_Variable___init__.binds1 3 0 (by intro z; cases z) rfl fun _ _ _ _ _ _ _ us its h1 h2 => match us, its, h1, h2 with | [_, _, _], [_, _, _, _], _, _ => ⟨_, rfl, rfl⟩
theorem Top.b1_Variable___init__ (T : Top w K mg) : ∃ ds, Vals ((d_Variable___init__.dvs K).drop 1) ds ∧ Binds K (fdOf K d_Variable___init__) ["self", "name", "kind", "truth", "value", "start", "fixed"] ds := T.f_Variable___init__.binds1 4 1 (by intro z; cases z) rfl fun _ _ _ _ _ _ _ us its h1 h2 => match us, its, h1, h2 with | [_, _, _, _], [_, _, _, _], _, _ => ⟨_, rfl, rfl⟩
theorem Top.b2_Variable___init__ (T : Top w K mg) : ∃ ds, Vals ((d_Variable___init__.dvs K).drop 2) ds ∧ Binds K (fdOf K d_Variable___init__) ["self", "name", "kind", "truth", "value", "start", "fixed"] ds := T.f_Variable___init__.binds1 5 2 (by intro z; cases z) rfl fun _ _ _ _ _ _ _ us its h1 h2 => match us, its, h1, h2 with | [_, _, _, _, _], [_, _, _, _], _, _ => ⟨_, rfl, rfl⟩
theorem Top.b3_Variable___init__ (T : Top w K mg) : ∃ ds, Vals ((d_Variable___init__.dvs K).drop 3) ds ∧ Binds K (fdOf K d_Variable___init__) ["self", "name", "kind", "truth", "value", "start", "fixed"] ds := T.f_Variable___init__.binds1 6 3 (by intro z; cases z) rfl fun _ _ _ _ _ _ _ us its h1 h2 => match us, its, h1, h2 with | [_, _, _, _, _, _], [_, _, _, _], _, _ => ⟨_, rfl, rfl⟩
theorem Top.b4_Variable___init__ (T : Top w K mg) : ∃ ds, Vals ((d_Variable___init__.dvs K).drop 4) ds ∧ Binds K (fdOf K d_Variable___init__) ["self", "name", "kind", "truth", "value", "start", "fixed"] ds := T.f_Variable___init__.binds1 7 4 (by intro z; cases z) rfl fun _ _ _ _ _ _ _ us its h1 h2 => match us, its, h1, h2 with | [_, _, _, _, _, _, _], [_, _, _, _], _, _ => ⟨_, rfl, rfl⟩
theorem sc_Variable___init__ : FnScope ["self", "name", "kind", "truth", "value", "start", "fixed"] ["self", "name", "kind", "truth", "value", "start", "fixed"] (defScope s_Variable___init__) := ⟨rfl, rfl, rfl, by decide +kernel, rfl, by decide +kernel, by decide +kernel⟩
theorem Top.f_System___init__ (T : Top w K mg) : FunD K ("__init__" : Str) ("System.__init__" : Str) (defArgs s_System___init__) (defBody s_System___init__) (defScope s_System___init__) (d_System___init__.dvs K) (d_System___init__.kws K) (He.ma K (He.ga K ("System" : Str)) ("__init__" : Str)) (fdOf K d_System___init__) := T.fun_ 7 rfl
theorem Top.b_System___init__ (T : Top w K mg) : Binds K (fdOf K d_System___init__) ["self", "variables", "equations", "initials", "whens"] [] := (show FunD K ("__init__" : Str) ("System.__init__" : Str) (defArgs s_System___init__) (defBody s_System___init__) (defScope s_System___init__) [] (d_System___init__.kws K) (He.ma K (He.ga K ("System" : Str)) ("__init__" : Str)) (fdOf K d_System___init__) from T.f_System___init__).bindsN fun _ _ _ _ _ _ us hl => match us, hl with | [_, _, _, _, _], _ => rfl
theorem sc_System___init__ : FnScope ["self", "variables", "equations", "initials", "whens", "name"] ["self", "variables", "equations", "initials", "whens"] (defScope s_System___init__) := ⟨rfl, rfl, rfl, by decide +kernel, rfl, by decide +kernel, by decide +kernel⟩
theorem Top.f__copied_when (T : Top w K mg) : FunD K ("_copied_when" : Str) ("_copied_when" : Str) (defArgs s__copied_when) (defBody s__copied_when) (defScope s__copied_when) (d__copied_when.dvs K) (d__copied_when.kws K) (He.ga K ("_copied_when" : Str)) (fdOf K d__copied_when) := T.fun_ 8 rfl
theorem Top.b__copied_when (T : Top w K mg) : Binds K (fdOf K d__copied_when) ["when"] [] := (show FunD K ("_copied_when" : Str) ("_copied_when" : Str) (defArgs s__copied_when) (defBody s__copied_when) (defScope s__copied_when) [] (d__copied_when.kws K) (He.ga K ("_copied_when" : Str)) (fdOf K d__copied_when) from T.f__copied_when).bindsN fun _ _ _ _ _ _ us hl => match us, hl with | [_], _ => rfl
theorem sc__copied_when : FnScope ["when"] ["when"] (defScope s__copied_when) := ⟨rfl, rfl, rfl, by decide +kernel, rfl, by decide +kernel, by decide +kernel⟩
theorem Top.f_counts (T : Top w K mg) : FunD K ("counts" : Str) ("counts" : Str) (defArgs s_counts) (defBody s_counts) (defScope s_counts) (d_counts.dvs K) (d_counts.kws K) (He.ga K ("counts" : Str)) (fdOf K d_counts) := T.fun_ 9 rfl
theorem Top.b_counts (T : Top w K mg) : Binds K (fdOf K d_counts) ["system"] [] := (show FunD K ("counts" : Str) ("counts" : Str) (defArgs s_counts) (defBody s_counts) (defScope s_counts) [] (d_counts.kws K) (He.ga K ("counts" : Str)) (fdOf K d_counts) from T.f_counts).bindsN fun _ _ _ _ _ _ us hl => match us, hl with | [_], _ => rfl
theorem sc_counts : FnScope ["system", "kinds", "variable"] ["system"] (defScope s_counts) := ⟨rfl, rfl, rfl, by decide +kernel, rfl, by decide +kernel, by decide +kernel⟩
theorem Top.f_is_balanced (T : Top w K mg) : FunD K ("is_balanced" : Str) ("is_balanced" : Str) (defArgs s_is_balanced) (defBody s_is_balanced) (defScope s_is_balanced) (d_is_balanced.dvs K) (d_is_balanced.kws K) (He.ga K ("is_balanced" : Str)) (fdOf K d_is_balanced) := T.fun_ 10 rfl
theorem Top.b_is_balanced (T : Top w K mg) : Binds K (fdOf K d_is_balanced) ["system"] [] := (show FunD K ("is_balanced" : Str) ("is_balanced" : Str) (defArgs s_is_balanced) (defBody s_is_balanced) (defScope s_is_balanced) [] (d_is_balanced.kws K) (He.ga K ("is_balanced" : Str)) (fdOf K d_is_balanced) from T.f_is_balanced).bindsN fun _ _ _ _ _ _ us hl => match us, hl with | [_], _ => rfl
theorem sc_is_balanced : FnScope ["system"] ["system"] (defScope s_is_balanced) := ⟨rfl, rfl, rfl, by decide +kernel, rfl, by decide +kernel, by decide +kernel⟩
theorem Top.f__assignments (T : Top w K mg) : FunD K ("_assignments" : Str) ("_assignments" : Str) (defArgs s__assignments) (defBody s__assignments) (defScope s__assignments) (d__assignments.dvs K) (d__assignments.kws K) (He.ga K ("_assignments" : Str)) (fdOf K d__assignments) := T.fun_ 11 rfl
theorem Top.b__assignments (T : Top w K mg) : Binds K (fdOf K d__assignments) ["whens"] [] := (show FunD K ("_assignments" : Str) ("_assignments" : Str) (defArgs s__assignments) (defBody s__assignments) (defScope s__assignments) [] (d__assignments.kws K) (He.ga K ("_assignments" : Str)) (fdOf K d__assignments) from T.f__assignments).bindsN fun _ _ _ _ _ _ us hl => match us, hl with | [_], _ => rfl
theorem sc__assignments : FnScope ["whens", "_", "acts", "act"] ["whens"] (defScope s__assignments) := ⟨rfl, rfl, rfl, by decide +kernel, rfl, by decide +kernel, by decide +kernel⟩
theorem Top.f__is_even (T : Top w K mg) : FunD K ("_is_even" : Str) ("_is_even" : Str) (defArgs s__is_even) (defBody s__is_even) (defScope s__is_even) (d__is_even.dvs K) (d__is_even.kws K) (He.ga K ("_is_even" : Str)) (fdOf K d__is_even) := T.fun_ 12 rfl
theorem Top.b__is_even (T : Top w K mg) : Binds K (fdOf K d__is_even) ["numbers"] [] := (show FunD K ("_is_even" : Str) ("_is_even" : Str) (defArgs s__is_even) (defBody s__is_even) (defScope s__is_even) [] (d__is_even.kws K) (He.ga K ("_is_even" : Str)) (fdOf K d__is_even) from T.f__is_even).bindsN fun _ _ _ _ _ _ us hl => match us, hl with | [_], _ => rfl
theorem sc__is_even : FnScope ["numbers"] ["numbers"] (defScope s__is_even) := ⟨rfl, rfl, rfl, by decide +kernel, rfl, by decide +kernel, by decide +kernel⟩
theorem Top.f__law_stream (T : Top w K mg) : FunD K ("_law_stream" : Str) ("_law_stream" : Str) (defArgs s__law_stream) (defBody s__law_stream) (defScope s__law_stream) (d__law_stream.dvs K) (d__law_stream.kws K) (He.ga K ("_law_stream" : Str)) (fdOf K d__law_stream) := T.fun_ 13 rfl
theorem Top.b__law_stream (T : Top w K mg) : Binds K (fdOf K d__law_stream) ["script"] [] := (show FunD K ("_law_stream" : Str) ("_law_stream" : Str) (defArgs s__law_stream) (defBody s__law_stream) (defScope s__law_stream) [] (d__law_stream.kws K) (He.ga K ("_law_stream" : Str)) (fdOf K d__law_stream) from T.f__law_stream).bindsN fun _ _ _ _ _ _ us hl => match us, hl with | [_], _ => rfl
theorem sc__law_stream : FnScope ["script", "mixed", "cell"] ["script"] (defScope s__law_stream) := ⟨rfl, rfl, rfl, by decide +kernel, rfl, by decide +kernel, by decide +kernel⟩
theorem Top.f__law_draw (T : Top w K mg) : FunD K ("_law_draw" : Str) ("_law_draw" : Str) (defArgs s__law_draw) (defBody s__law_draw) (defScope s__law_draw) (d__law_draw.dvs K) (d__law_draw.kws K) (He.ga K ("_law_draw" : Str)) (fdOf K d__law_draw) := T.fun_ 14 rfl
theorem Top.b__law_draw (T : Top w K mg) : Binds K (fdOf K d__law_draw) ["stream", "many"] [] := (show FunD K ("_law_draw" : Str) ("_law_draw" : Str) (defArgs s__law_draw) (defBody s__law_draw) (defScope s__law_draw) [] (d__law_draw.kws K) (He.ga K ("_law_draw" : Str)) (fdOf K d__law_draw) from T.f__law_draw).bindsN fun _ _ _ _ _ _ us hl => match us, hl with | [_, _], _ => rfl
theorem sc__law_draw : FnScope ["stream", "many", "value"] ["stream", "many"] (defScope s__law_draw) := ⟨rfl, rfl, rfl, by decide +kernel, rfl, by decide +kernel, by decide +kernel⟩
theorem Top.f__law_small_ratio (T : Top w K mg) : FunD K ("_law_small_ratio" : Str) ("_law_small_ratio" : Str) (defArgs s__law_small_ratio) (defBody s__law_small_ratio) (defScope s__law_small_ratio) (d__law_small_ratio.dvs K) (d__law_small_ratio.kws K) (He.ga K ("_law_small_ratio" : Str)) (fdOf K d__law_small_ratio) := T.fun_ 15 rfl
theorem Top.b__law_small_ratio (T : Top w K mg) : Binds K (fdOf K d__law_small_ratio) ["stream"] [] := (show FunD K ("_law_small_ratio" : Str) ("_law_small_ratio" : Str) (defArgs s__law_small_ratio) (defBody s__law_small_ratio) (defScope s__law_small_ratio) [] (d__law_small_ratio.kws K) (He.ga K ("_law_small_ratio" : Str)) (fdOf K d__law_small_ratio) from T.f__law_small_ratio).bindsN fun _ _ _ _ _ _ us hl => match us, hl with | [_], _ => rfl
theorem sc__law_small_ratio : FnScope ["stream"] ["stream"] (defScope s__law_small_ratio) := ⟨rfl, rfl, rfl, by decide +kernel, rfl, by decide +kernel, by decide +kernel⟩
theorem Top.f__law_number (T : Top w K mg) : FunD K ("_law_number" : Str) ("_law_number" : Str) (defArgs s__law_number) (defBody s__law_number) (defScope s__law_number) (d__law_number.dvs K) (d__law_number.kws K) (He.ga K ("_law_number" : Str)) (fdOf K d__law_number) := T.fun_ 16 rfl
theorem Top.b__law_number (T : Top w K mg) : Binds K (fdOf K d__law_number) ["stream", "deep", "names"] [] := (show FunD K ("_law_number" : Str) ("_law_number" : Str) (defArgs s__law_number) (defBody s__law_number) (defScope s__law_number) [] (d__law_number.kws K) (He.ga K ("_law_number" : Str)) (fdOf K d__law_number) from T.f__law_number).bindsN fun _ _ _ _ _ _ us hl => match us, hl with | [_, _, _], _ => rfl
theorem sc__law_number : FnScope ["stream", "deep", "names", "pick", "row", "part", "word"] ["stream", "deep", "names"] (defScope s__law_number) := ⟨rfl, rfl, rfl, by decide +kernel, rfl, by decide +kernel, by decide +kernel⟩
theorem Top.f__law_truth (T : Top w K mg) : FunD K ("_law_truth" : Str) ("_law_truth" : Str) (defArgs s__law_truth) (defBody s__law_truth) (defScope s__law_truth) (d__law_truth.dvs K) (d__law_truth.kws K) (He.ga K ("_law_truth" : Str)) (fdOf K d__law_truth) := T.fun_ 17 rfl
theorem Top.b__law_truth (T : Top w K mg) : Binds K (fdOf K d__law_truth) ["stream", "deep", "names"] [] := (show FunD K ("_law_truth" : Str) ("_law_truth" : Str) (defArgs s__law_truth) (defBody s__law_truth) (defScope s__law_truth) [] (d__law_truth.kws K) (He.ga K ("_law_truth" : Str)) (fdOf K d__law_truth) from T.f__law_truth).bindsN fun _ _ _ _ _ _ us hl => match us, hl with | [_, _, _], _ => rfl
theorem sc__law_truth : FnScope ["stream", "deep", "names", "pick", "part", "word"] ["stream", "deep", "names"] (defScope s__law_truth) := ⟨rfl, rfl, rfl, by decide +kernel, rfl, by decide +kernel, by decide +kernel⟩
theorem Top.f__law_spec (T : Top w K mg) : FunD K ("_law_spec" : Str) ("_law_spec" : Str) (defArgs s__law_spec) (defBody s__law_spec) (defScope s__law_spec) (d__law_spec.dvs K) (d__law_spec.kws K) (He.ga K ("_law_spec" : Str)) (fdOf K d__law_spec) := T.fun_ 18 rfl
theorem Top.b__law_spec (T : Top w K mg) : Binds K (fdOf K d__law_spec) ["stream"] [] := (show FunD K ("_law_spec" : Str) ("_law_spec" : Str) (defArgs s__law_spec) (defBody s__law_spec) (defScope s__law_spec) [] (d__law_spec.kws K) (He.ga K ("_law_spec" : Str)) (fdOf K d__law_spec) from T.f__law_spec).bindsN fun _ _ _ _ _ _ us hl => match us, hl with | [_], _ => rfl
theorem sc__law_spec : FnScope ["stream", "rows", "name", "start"] ["stream"] (defScope s__law_spec) := ⟨rfl, rfl, rfl, by decide +kernel, rfl, by decide +kernel, by decide +kernel⟩
theorem Top.f__law_known (T : Top w K mg) : FunD K ("_law_known" : Str) ("_law_known" : Str) (defArgs s__law_known) (defBody s__law_known) (defScope s__law_known) (d__law_known.dvs K) (d__law_known.kws K) (He.ga K ("_law_known" : Str)) (fdOf K d__law_known) := T.fun_ 19 rfl
theorem Top.b__law_known (T : Top w K mg) : Binds K (fdOf K d__law_known) ["rows"] [] := (show FunD K ("_law_known" : Str) ("_law_known" : Str) (defArgs s__law_known) (defBody s__law_known) (defScope s__law_known) [] (d__law_known.kws K) (He.ga K ("_law_known" : Str)) (fdOf K d__law_known) from T.f__law_known).bindsN fun _ _ _ _ _ _ us hl => match us, hl with | [_], _ => rfl
theorem sc__law_known : FnScope ["rows", "names", "name", "row"] ["rows"] (defScope s__law_known) := ⟨rfl, rfl, rfl, by decide +kernel, rfl, by decide +kernel, by decide +kernel⟩
theorem Top.f__law_act (T : Top w K mg) : FunD K ("_law_act" : Str) ("_law_act" : Str) (defArgs s__law_act) (defBody s__law_act) (defScope s__law_act) (d__law_act.dvs K) (d__law_act.kws K) (He.ga K ("_law_act" : Str)) (fdOf K d__law_act) := T.fun_ 20 rfl
theorem Top.b__law_act (T : Top w K mg) : Binds K (fdOf K d__law_act) ["stream", "rows", "taken"] [] := (show FunD K ("_law_act" : Str) ("_law_act" : Str) (defArgs s__law_act) (defBody s__law_act) (defScope s__law_act) [] (d__law_act.kws K) (He.ga K ("_law_act" : Str)) (fdOf K d__law_act) from T.f__law_act).bindsN fun _ _ _ _ _ _ us hl => match us, hl with | [_, _, _], _ => rfl
theorem sc__law_act : FnScope ["stream", "rows", "taken", "free", "name"] ["stream", "rows", "taken"] (defScope s__law_act) := ⟨rfl, rfl, rfl, by decide +kernel, rfl, by decide +kernel, by decide +kernel⟩
theorem Top.f__law_raw (T : Top w K mg) : FunD K ("_law_raw" : Str) ("_law_raw" : Str) (defArgs s__law_raw) (defBody s__law_raw) (defScope s__law_raw) (d__law_raw.dvs K) (d__law_raw.kws K) (He.ga K ("_law_raw" : Str)) (fdOf K d__law_raw) := T.fun_ 21 rfl
theorem Top.b__law_raw (T : Top w K mg) : Binds K (fdOf K d__law_raw) ["stream"] [] := (show FunD K ("_law_raw" : Str) ("_law_raw" : Str) (defArgs s__law_raw) (defBody s__law_raw) (defScope s__law_raw) [] (d__law_raw.kws K) (He.ga K ("_law_raw" : Str)) (fdOf K d__law_raw) from T.f__law_raw).bindsN fun _ _ _ _ _ _ us hl => match us, hl with | [_], _ => rfl
theorem sc__law_raw : FnScope ["stream", "rows", "names", "raw", "section", "table", "k", "name", "taken", "acts", "own", "j", "act"] ["stream"] (defScope s__law_raw) := ⟨rfl, rfl, rfl, by decide +kernel, rfl, by decide +kernel, by decide +kernel⟩
theorem Top.f__law_variable (T : Top w K mg) : FunD K ("_law_variable" : Str) ("_law_variable" : Str) (defArgs s__law_variable) (defBody s__law_variable) (defScope s__law_variable) (d__law_variable.dvs K) (d__law_variable.kws K) (He.ga K ("_law_variable" : Str)) (fdOf K d__law_variable) := T.fun_ 22 rfl
theorem Top.b__law_variable (T : Top w K mg) : Binds K (fdOf K d__law_variable) ["row"] [] := (show FunD K ("_law_variable" : Str) ("_law_variable" : Str) (defArgs s__law_variable) (defBody s__law_variable) (defScope s__law_variable) [] (d__law_variable.kws K) (He.ga K ("_law_variable" : Str)) (fdOf K d__law_variable) from T.f__law_variable).bindsN fun _ _ _ _ _ _ us hl => match us, hl with | [_], _ => rfl
theorem sc__law_variable : FnScope ["row"] ["row"] (defScope s__law_variable) := ⟨rfl, rfl, rfl, by decide +kernel, rfl, by decide +kernel, by decide +kernel⟩
theorem Top.f__law_made (T : Top w K mg) : FunD K ("_law_made" : Str) ("_law_made" : Str) (defArgs s__law_made) (defBody s__law_made) (defScope s__law_made) (d__law_made.dvs K) (d__law_made.kws K) (He.ga K ("_law_made" : Str)) (fdOf K d__law_made) := T.fun_ 23 rfl
theorem Top.b__law_made (T : Top w K mg) : Binds K (fdOf K d__law_made) ["raw"] [] := (show FunD K ("_law_made" : Str) ("_law_made" : Str) (defArgs s__law_made) (defBody s__law_made) (defScope s__law_made) [] (d__law_made.kws K) (He.ga K ("_law_made" : Str)) (fdOf K d__law_made) from T.f__law_made).bindsN fun _ _ _ _ _ _ us hl => match us, hl with | [_], _ => rfl
theorem sc__law_made : FnScope ["raw", "variables", "key"] ["raw"] (defScope s__law_made) := ⟨rfl, rfl, rfl, by decide +kernel, rfl, by decide +kernel, by decide +kernel⟩
theorem Top.f_law (T : Top w K mg) : FunD K ("law" : Str) ("law" : Str) (defArgs s_law) (defBody s_law) (defScope s_law) (d_law.dvs K) (d_law.kws K) (He.ga K ("law" : Str)) (fdOf K d_law) := T.fun_ 24 rfl
theorem Top.b_law (T : Top w K mg) : Binds K (fdOf K d_law) ["script"] [] := (show FunD K ("law" : Str) ("law" : Str) (defArgs s_law) (defBody s_law) (defScope s_law) [] (d_law.kws K) (He.ga K ("law" : Str)) (fdOf K d_law) from T.f_law).bindsN fun _ _ _ _ _ _ us hl => match us, hl with | [_], _ => rfl
theorem sc_law : FnScope ["script", "stream", "raw", "states", "name", "table", "k", "kinds", "acts", "act", "due", "system", "said"] ["script"] (defScope s_law) := ⟨rfl, rfl, rfl, by decide +kernel, rfl, by decide +kernel, by decide +kernel⟩
end
/-! ### the law's own helpers: the stream -/
def spStream (K : PySem.W.Frag) : Sp := fun vs H Q _ => ∃ (a : Addr) (ns : List Int), vs = [.ref a] ∧ SqL K H a (ns.map V.int) ∧ ns.length ≤ 63 ∧ ∀ s H', Same H H' → Strm H' s → Q (.ref s) H'
def spDraw : Sp := fun vs H Q _ => ∃ (s : Addr) (n : Int), vs = [.ref s, .int n] ∧ Strm H s ∧ 0 < n ∧ n < 18446744073709551616 ∧ ∀ v, 0 ≤ v → v < n → Q (.int v) H
section
variable {P : Program} {w : World} {K : PySem.W.Frag} {mg : Str → Option Value} {base : Heap}
theorem small31 {i : Int} (h0 : 0 ≤ i) (h : i < 2147483648) : i.natAbs < 2 ^ 31 := by omega
theorem mulW31 {i j : Int} (h0 : 0 ≤ i) (h : i < 2147483648) (h2 : 0 ≤ j) (h3 : j < 2147483648) : CMulW i j := wide_mul (a := 31) (b := 31) (by omega) (by omega) (by decide) (by decide) (by decide)
theorem item_int {ns : List Int} {i : Nat} {x : V} (h : (ns.map V.int)[i]? = some x) : ∃ z, ns[i]? = some z ∧ x = .int z := by
  rw [List.getElem?_map] at h
  cases e : ns[i]? with
  | none => rw [e] at h; cases h
  | some z => rw [e] at h; exact ⟨z, rfl, (Option.some.inj h).symm⟩
theorem atI_ints {ns : List Int} {j : Int} (h0 : 0 ≤ j) (h : j < ((ns.map V.int).length : Int)) : ∃ z, atI (ns.map V.int) j = some (.int z) := by
  rw [List.length_map] at h
  have hk : j.toNat < ns.length := by omega
  have e : j = ((j.toNat : Nat) : Int) := by omega
  refine ⟨ns[j.toNat], ?_⟩
  have q : atI (ns.map V.int) ((j.toNat : Nat) : Int) = some (.int ns[j.toNat]) := atI_nat (by rw [List.getElem?_map, List.getElem?_eq_getElem hk] <;> rfl)
  rw [← e] at q
  exact q
theorem ok__law_draw (T : Top w K mg) : FnOk P w K mg base CX0 1 (He.ga K ("_law_draw" : Str)) (fdOf K d__law_draw) ["stream", "many"] spDraw := by
  refine (T.f__law_draw).ok sc__law_draw (fun vs H Q E h => ?_) (fun cdv A outer s H vs Q E hr h => ?_)
  · obtain ⟨a, n, rfl, _⟩ := h
    rfl
  · obtain ⟨s0, n, rfl, ⟨l, ns, hs, hl, h63⟩, h0, h1, k⟩ := h
    refine ⟨_, PSs.nox (pss_open s0 l (C8.pss_cut (ps_if (PW.pt (pw_and (pt_cmpR op_eq (pe_ix (ix_listK (K := K) rfl) (pv 0) pe_int (fun _ _ => rfl)) pe_int (nomark _)) (pw_and1 (pt_cmpR op_lt (pe_ix (ix_listK (K := K) rfl) (pv 0) pe_int (fun _ _ => rfl)) (pe_callB (call_lenK (K := K) rfl) (by rfl) T.n_len PySem.boot_len (pa_cons (pe_ix (ix_listK (K := K) rfl) (pv 0) pe_int (fun _ _ => rfl)) pa_nil)) (nomark _)))))
    (pss_cons (ps_asg (pe_callB call_abs (by rfl) T.n_abs (by decide +kernel) (pa_cons (pe_callTy call_int1 (by rfl) T.n_int (by decide +kernel) (pa_cons (pe_ix (ix_listK (K := K) rfl) (pe_ix (ix_listK (K := K) rfl) (pv 0) pe_int (fun _ _ => rfl)) (pe_ix (ix_listK (K := K) rfl) (pv 0) pe_int (fun _ _ => rfl)) (fun _ _ => rfl)) pa_nil)) pa_nil)) (pg_sub (pv 0) pe_int set_list))
    (pss_one (ps_asg (pe_op op_add (pe_ix (ix_listK (K := K) rfl) (pv 0) pe_int (fun _ _ => rfl)) pe_int) (pg_sub (pv 0) pe_int set_list))))
    pss_nil)
    (pss_cons (ps_if (pt_cmpR op_eq (pe_ix (ix_listK (K := K) rfl) (pv 0) pe_int (fun _ _ => rfl)) pe_int (nomark _))
    (pss_cons (ps_asg (pe_op op_mod (pe_callTy call_int1 (by rfl) T.n_int (by decide +kernel) (pa_cons (pe_op op_add (pe_op op_mulW (pe_ix (ix_listK (K := K) rfl) (pv 0) pe_int (fun _ _ => rfl)) pe_int) pe_int) pa_nil)) pe_int) (pg_sub (pv 0) pe_int set_list))
    (pss_one (ps_ret (pe_op op_mod (pe_callTy call_int1 (by rfl) T.n_int (by decide +kernel) (pa_cons (pe_op op_fdivG (pe_ix (ix_listK (K := K) rfl) (pv 0) pe_int (fun _ _ => rfl)) pe_int) pa_nil)) (pv 1)))))
    pss_nil)
    (pss_cons (ps_set (i := 2) sc__law_draw.nd rfl (Or.inl rfl) (pe_op op_mod (pe_callTy call_int1 (by rfl) T.n_int (by decide +kernel) (pa_cons (pe_ix (ix_listK (K := K) rfl) (pv 0) pe_int (fun _ _ => rfl)) pa_nil)) (pv 1)))
    (pss_cons (ps_asg (pe_op op_fdivG (pe_ix (ix_listK (K := K) rfl) (pv 0) pe_int (fun _ _ => rfl)) (pv 1)) (pg_sub (pv 0) pe_int set_list))
    (pss_one (ps_ret (pv 2)))))))), ?_⟩
    refine r_open hs (fun i j m hj => ?_)
    have hls : l ≠ s0 := ne_of hl hs (by intro z; cases z)
    refine r_cut (fun σ H' => σ = [some (.ref s0), some (.int n), none] ∧ ∃ i j, okS j m ∧ H' = upd H s0 (.lst (cellsV l i j m))) ?_ ?_
    · have hl' : ∀ o, SqL K (upd H s0 o) l (ns.map V.int) := fun o => SqL.of (by rw [upd_ne hls]; exact hl)
      walk_at "go"
      refine ite_d (fun c1 => ?_) (fun c1 => ?_)
      · walk_at "go"
        refine ⟨_, _, rfl, .inl (hl' _), ?_⟩
        walk_at "go"
        refine ite_d (fun c2 => ?_) (fun c2 => ?_)
        · obtain ⟨z, hz⟩ := atI_ints hj.1 c2
          walk_at "go"
          refine r_ixL (hl' _) hz ?_
          walk_at "go"
          exact ⟨rfl, _, j + 1, ⟨by have := hj.1; omega, hj.2⟩, by rw [upd_upd, upd_upd] <;> rfl⟩
        · walk_at "go"
          exact ⟨rfl, i, j, hj, rfl⟩
      · walk_at "go"
        exact ⟨rfl, i, j, hj, rfl⟩
    · rintro σ H' ⟨rfl, i, j, hj, rfl⟩
      walk_at "go"
      refine ite_d (fun c1 => ?_) (fun c1 => ?_)
      · walk_at "go"
        refine ⟨mulW31 hj.2.1 hj.2.2 (by decide) (by decide), ?_⟩
        walk_at "go"
        refine ⟨cdivG (b := 64) (by omega) (by omega) (by decide) (by decide), ?_⟩
        walk_at "go"
        refine ⟨i, j, (m * 48271 + 11) % 2147483647, upd_same, ⟨hj.1, by omega, by omega⟩, ?_⟩
        rw [upd_back2 hs]
        exact k _ (Int.emod_nonneg _ (by omega)) (Int.emod_lt_of_pos _ h0)
      · walk_at "go"
        refine ⟨cdivG (b := 64) (by omega) (by omega) (by decide) (by decide), ?_⟩
        walk_at "go"
        refine ⟨i.fdiv n, j, m, upd_same, hj, ?_⟩
        rw [upd_back2 hs]
        exact k _ (Int.emod_nonneg _ (by omega)) (Int.emod_lt_of_pos _ h0)
/-- a draw: any number below -/
theorem draw_at {s : Addr} {n : Int} {H : Hp} {Q : VK} {E : XK} (hS : Strm H s) (h0 : 0 < n) (h1 : n < 18446744073709551616) (k : ∀ v, 0 ≤ v → v < n → Q (.int v) H) : spDraw [.ref s, .int n] H Q E := ⟨s, n, rfl, hS, h0, h1, k⟩
theorem ok__law_stream (T : Top w K mg) : FnOk P w K mg base CX0 1 (He.ga K ("_law_stream" : Str)) (fdOf K d__law_stream) ["script"] (spStream K) := by
  refine (T.f__law_stream).ok sc__law_stream (fun vs H Q E h => ?_) (fun cdv A outer s H vs Q E hr h => ?_)
  · obtain ⟨a, n, rfl, _⟩ := h
    rfl
  · obtain ⟨a, ns, rfl, hS, h63, k⟩ := h
    refine ⟨_, PSs.nox (pss_shut (pss_cons (ps_set (i := 1) sc__law_stream.nd rfl (Or.inl rfl) pe_int)
    (pss_cons (ps_for PassesOwn.never rfl (pi_listK (K := K) rfl (pv 0)) (pg_name (i := 2) sc__law_stream.nd rfl (Or.inl rfl))
    (pss_one (ps_set (i := 1) sc__law_stream.nd rfl (Or.inl rfl) (pe_op op_mod (pe_callTy call_int1 (by rfl) T.n_int (by decide +kernel) (pa_cons (pe_op op_add (pe_op op_add (pe_op op_mulW (pv 1) pe_int) (pe_op op_mod (pe_callTy call_int1 (by rfl) T.n_int (by decide +kernel) (pa_cons (pv 2) pa_nil)) pe_int)) pe_int) pa_nil)) pe_int))))
    (pss_one (ps_ret (pe_lst (pa_cons (pe_callTy (call_listK (K := K) rfl) (by rfl) T.n_list (by decide +kernel) (pa_cons (pv 0) pa_nil)) (pa_cons pe_int (pa_cons pe_int (pa_cons (pv 1) pa_nil)))))))))), ?_⟩
    refine r_shut ?_
    walk_at "go"
    refine ⟨⟨_, hS⟩, for_lst (xs := ns.map V.int) (fun i σ H' => H' = H ∧ ∃ (m : Int) (v : Option V), σ = [some (.ref a), some (.int m), v] ∧ 0 ≤ m ∧ m < 2147483648) ⟨rfl, 17, none, rfl, by omega, by omega⟩ (fun i σ H' _ h => by rw [h.1]; exact hS) ?_ ?_⟩
    · rintro i x σ H' hx ⟨rfl, m, v, rfl, h0, h1⟩
      obtain ⟨z, hz, rfl⟩ := item_int hx
      walk_at "go"
      refine ⟨mulW31 h0 h1 (by decide) (by decide), ?_⟩
      walk_at "go"
      exact ⟨rfl, _, _, rfl, Int.emod_nonneg _ (by omega), by show _ % (2147483647 : Int) < _; omega⟩
    · rintro σ H' ⟨rfl, m, v, rfl, h0, h1⟩
      walk_at "go"
      refine ⟨_, _, rfl, .inl hS, fun l hl => ?_⟩
      walk_at "go"
      refine ⟨by show 4 ≤ sizeLine; decide, fun p hp => ?_⟩
      have hlp : l ≠ p := ne_of_none upd_same hp
      have s1 : Same H' (upd H' l (.lst (ns.map V.int))) := same_new hl
      have hp0 : H' p = none := s1.free hp
      refine ⟨p, l, 0, 0, m, rfl, upd_same, ⟨by omega, h0, h1⟩, k p _ (fun b o e => ?_) ⟨l, ns, upd_same, by rw [upd_ne hlp, upd_ne hlp, upd_same], h63⟩⟩
      rw [upd_ne (ne_of_none e hp0), upd_ne (ne_of_none e hp0)]
      exact s1 b o e
end
/-! ### the law's pair in lowest terms -/
def gcdI (n d : Int) : Int := ((Nat.gcd n.natAbs d.natAbs : Nat) : Int)
def sgc (n d : Int) : Int := if d < 0 then -gcdI n d else gcdI n d
def pn (n d : Int) : Int := n.fdiv (sgc n d)
def pd (n d : Int) : Int := d.fdiv (sgc n d)
theorem gcdI_pos {n d : Int} (h : d ≠ 0) : 0 < gcdI n d := by
  have : 0 < Nat.gcd n.natAbs d.natAbs := Nat.gcd_pos_of_pos_right _ (Int.natAbs_pos.mpr h)
  unfold gcdI
  omega
theorem sgc_ne {n d : Int} (h : d ≠ 0) : sgc n d ≠ 0 := by
  have := gcdI_pos (n := n) h
  unfold sgc
  split <;> omega
theorem sgc_abs {n d : Int} (h : d ≠ 0) : (sgc n d).natAbs ≤ d.natAbs := by
  have h1 : Nat.gcd n.natAbs d.natAbs ≤ d.natAbs := Nat.gcd_le_right _ (Int.natAbs_pos.mpr h)
  unfold sgc gcdI
  split <;> omega
/-! ### lowest terms -/
structure Low (n d : Int) : Prop where
  pos : 0 < d
  cop : Nat.gcd n.natAbs d.natAbs = 1
theorem sgc_nat (n d : Int) : (sgc n d).natAbs = Nat.gcd n.natAbs d.natAbs := by
  unfold sgc gcdI
  split
  · rw [Int.natAbs_neg, Int.natAbs_natCast]
  · rw [Int.natAbs_natCast]
theorem sgc_dvd_n (n d : Int) : sgc n d ∣ n := Int.natAbs_dvd_natAbs.mp (by rw [sgc_nat]; exact Nat.gcd_dvd_left _ _)
theorem sgc_dvd_d (n d : Int) : sgc n d ∣ d := Int.natAbs_dvd_natAbs.mp (by rw [sgc_nat]; exact Nat.gcd_dvd_right _ _)
theorem pn_mul (n d : Int) : pn n d * sgc n d = n := Int.fdiv_mul_cancel (sgc_dvd_n n d)
theorem pd_mul (n d : Int) : pd n d * sgc n d = d := Int.fdiv_mul_cancel (sgc_dvd_d n d)
theorem low_of {n d : Int} (h : d ≠ 0) : Low (pn n d) (pd n d) := by
  have hs := sgc_ne (n := n) h
  have e1 := pn_mul n d
  have e2 := pd_mul n d
  have g0 : 0 < (sgc n d).natAbs := Int.natAbs_pos.mpr hs
  refine ⟨?_, ?_⟩
  · rcases Int.lt_trichotomy d 0 with c | c | c
    · have s0 : sgc n d < 0 := by
        have := gcdI_pos (n := n) h
        unfold sgc
        rw [if_pos c]
        omega
      rcases Int.lt_or_le 0 (pd n d) with p | p
      · exact p
      · have := Int.mul_nonneg_of_nonpos_of_nonpos p (Int.le_of_lt s0)
        rw [e2] at this
        omega
    · exact absurd c h
    · have s0 : 0 < sgc n d := by
        have := gcdI_pos (n := n) h
        unfold sgc
        rw [if_neg (by omega)]
        exact this
      rcases Int.lt_or_le 0 (pd n d) with p | p
      · exact p
      · have := Int.mul_nonpos_of_nonpos_of_nonneg p (Int.le_of_lt s0)
        rw [e2] at this
        omega
  · have a1 : n.natAbs = (pn n d).natAbs * (sgc n d).natAbs := by rw [← Int.natAbs_mul, e1]
    have a2 : d.natAbs = (pd n d).natAbs * (sgc n d).natAbs := by rw [← Int.natAbs_mul, e2]
    have a3 := sgc_nat n d
    have a4 : Nat.gcd ((pn n d).natAbs * (sgc n d).natAbs) ((pd n d).natAbs * (sgc n d).natAbs) = (sgc n d).natAbs := by
      rw [← a1, ← a2, a3]
    rw [Nat.gcd_mul_right] at a4
    exact Nat.eq_of_mul_eq_mul_right g0 (by rw [a4, Nat.one_mul])
theorem sgc_low {n d : Int} (h : Low n d) : sgc n d = 1 := by
  have hp := h.pos
  unfold sgc gcdI
  rw [if_neg (by omega), h.cop] <;> rfl
theorem pn_low {n d : Int} (h : Low n d) : pn n d = n := by unfold pn; rw [sgc_low h, Int.fdiv_one]
theorem pd_low {n d : Int} (h : Low n d) : pd n d = d := by unfold pd; rw [sgc_low h, Int.fdiv_one]
theorem pn_le {n d : Int} (h : d ≠ 0) : (pn n d).natAbs ≤ n.natAbs := by
  have a1 : n.natAbs = (pn n d).natAbs * (sgc n d).natAbs := by rw [← Int.natAbs_mul, pn_mul]
  have g0 : 0 < (sgc n d).natAbs := Int.natAbs_pos.mpr (sgc_ne h)
  rw [a1]
  exact Nat.le_mul_of_pos_right _ g0
theorem pd_le {n d : Int} (h : d ≠ 0) : (pd n d).natAbs ≤ d.natAbs := by
  have a1 : d.natAbs = (pd n d).natAbs * (sgc n d).natAbs := by rw [← Int.natAbs_mul, pd_mul]
  have g0 : 0 < (sgc n d).natAbs := Int.natAbs_pos.mpr (sgc_ne h)
  rw [a1]
  exact Nat.le_mul_of_pos_right _ g0
theorem Low.neg {n d : Int} (h : Low n d) : Low (-n) d := ⟨h.pos, by rw [Int.natAbs_neg]; exact h.cop⟩
section
variable {P : Program} {w : World} {K : PySem.W.Frag} {mg : Str → Option Value} {base : Heap}
/-! ### Ratios -/
def rfl2 (n d : Int) : List (Str × V) := [("top", .int n), ("bottom", .int d)]
theorem r2_top (n d : Int) : (rfl2 n d).lookup ("top" : Str) = some (.int n) := rfl
theorem r2_bot (n d : Int) : (rfl2 n d).lookup ("bottom" : Str) = some (.int d) := by
  show (match (("bottom" : Str) == "top") with | true => some (V.int n) | false => List.lookup ("bottom" : Str) [("bottom", V.int d)]) = some (.int d)
  rw [show ((("bottom" : Str) == "top") = false) from by decide +kernel]
  rfl
theorem r2_put (n d : Int) : putF "bottom" (.int d) (putF "top" (.int n) []) = rfl2 n d := by
  show (if ("top" : Str) = "bottom" then [(("top" : Str), V.int d)] else (("top" : Str), V.int n) :: putF "bottom" (V.int d) []) = rfl2 n d
  rw [if_neg (show ¬ (("top" : Str) = "bottom") from by decide +kernel)]
  rfl
def RatAt (K : PySem.W.Frag) (H : Hp) (x : Addr) (n d : Int) : Prop := ∃ dx, H x = some (.ins (He.ga K "Ratio") dx (rfl2 n d))
theorem RatAt.mono {H H' : Hp} {x : Addr} {n d : Int} (h : RatAt K H x n d) (e : Same H H') : RatAt K H' x n d := by
  obtain ⟨dx, h⟩ := h
  exact ⟨dx, e _ _ h⟩
def spInit (K : PySem.W.Frag) : Sp := fun vs H Q E => ∃ (x dx : Addr) (n d : Int), vs = [.ref x, .int n, .int d] ∧ H x = some (.ins (He.ga K "Ratio") dx []) ∧ Bits 8000 d ∧ (d = 0 → E (.ref (He.ga K "ByZero")) none H) ∧
  (d ≠ 0 → Q .non (upd H x (.ins (He.ga K "Ratio") dx (rfl2 (pn n d) (pd n d)))))
theorem ok_Ratio___init__ (T : Top w K mg) : FnOk P w K mg base (L2.CX P w) 1 (He.ma K (He.ga K ("Ratio" : Str)) ("__init__" : Str)) (fdOf K d_Ratio___init__) ["self", "numerator", "denominator"] (spInit K) := by
  refine (T.f_Ratio___init__).ok sc_Ratio___init__ (fun vs H Q E h => ?_) (fun cdv A outer s H vs Q E hr h => ?_)
  · obtain ⟨x, dx, n, d, rfl, _⟩ := h
    rfl
  · obtain ⟨x, dx, n, d, rfl, hx, hb, k0, k1⟩ := h
    refine ⟨_, (pss_cons (ps_if (pt_cmpR op_eq (pv 2) pe_int (nomark _))
    (pss_one (ps_raise rfl (takes_of rfl rfl rfl rfl) (pmk_own PySem.F.excBase_ValueError T.exc_ByZero.1 T.g_ByZero T.exc_ByZero.2.1 (raises_own T.exc_ByZero.2.2.1 T.exc_ByZero.2.2.2) rfl)))
    pss_nil)
    (pss_cons (ps_set (i := 3) sc_Ratio___init__.nd rfl (Or.inl rfl) (pe_callBfun cr_gcd rfl T.gcdM (pa_cons (pv 1) (pa_cons (pv 2) pa_nil))))
    (C8.pss_cut (ps_if (pt_cmpR op_lt (pv 2) pe_int (nomark _))
    (pss_one (ps_set (i := 3) sc_Ratio___init__.nd rfl (Or.inl rfl) (pe_un un_neg (pv 3))))
    pss_nil)
    (pss_cons (ps_fldK (K := K) rfl (pv 0) (pe_op op_fdivG (pv 1) (pv 3)) rfl)
    (pss_one (ps_fldK (K := K) rfl (pv 0) (pe_op op_fdivG (pv 2) (pv 3)) rfl)))))), ?_⟩
    walk_at "go"
    refine ite_d (fun c => ?_) (fun c => ?_)
    · exact k0 (vint_inj c)
    · walk_at "go"
      have hd : d ≠ 0 := vint_ne c
      refine r_cut (fun σ H' => σ = [some (.ref x), some (.int n), some (.int d), some (.int (sgc n d))] ∧ H' = H) ?_ ?_
      · walk_at "go"
        refine ite_d (fun c => ?_) (fun c => ?_)
        · walk_at "go"
          refine ⟨?_, rfl⟩
          have e : sgc n d = -(((n.natAbs.gcd d.natAbs : Nat)) : Int) := by rw [sgc, if_pos c] <;> rfl
          rw [e] <;> rfl
        · walk_at "go"
          refine ⟨?_, rfl⟩
          have e : sgc n d = (((n.natAbs.gcd d.natAbs : Nat)) : Int) := by rw [sgc, if_neg c] <;> rfl
          rw [e] <;> rfl
      · rintro σ H' ⟨rfl, rfl⟩
        have cd : ∀ i, CDivG i (sgc n d) := fun i => Bits.divG (sgc_ne hd) (Bits.of_le (sgc_abs hd) hb) (by decide)
        walk_at "go"
        refine ⟨cd _, ?_⟩
        walk_at "go"
        refine ⟨_, _, _, _, rfl, hx, T.cls_Ratio, T.na_Ratio_top, (by show 0 < 1000; decide), ?_⟩
        walk_at "go"
        refine ⟨cd _, ?_⟩
        walk_at "go"
        refine ⟨_, _, _, _, rfl, upd_same, T.cls_Ratio, T.na_Ratio_bottom, (by show 1 < 1000; decide), ?_⟩
        have z := k1 hd
        rw [upd_upd]
        have e := r2_put (pn n d) (pd n d)
        show Q .non (upd H' x (.ins _ dx (putF "bottom" (.int (pd n d)) (putF "top" (.int (pn n d)) []))))
        rw [e]
        exact z
end
/-! ### expressions, as plain data -/
inductive At where
  | rat (n d : Int) | bl (b : Bool)
inductive Ex where
  | var (x : Str) (o : Int) | pre (x : Str) | lit (w : Str) (ats : List At) | un (w : Str) (e : Ex) | bin (w : Str) (e f : Ex) | tern (e f g : Ex)
def RatOk (n d : Int) : Prop := Low n d ∧ n.natAbs ≤ 100 ∧ d.natAbs ≤ 100
inductive LitOk : Str → List At → Prop
  | num {n d : Int} : RatOk n d → LitOk "num" [.rat n d]
  | truth (b : Bool) : LitOk "truth" [.bl b]
  | time : LitOk "time" []
  | initial : LitOk "initial" []
  | sample {n d n2 d2 : Int} : RatOk n d → RatOk n2 d2 → 0 < n2 → LitOk "sample" [.rat n d, .rat n2 d2]
def unL : List Str := ["neg", "not"]
def binL : List Str := ["add", "sub", "mul", "div", "and", "or", "same", "less", "atmost"]
inductive ExOk (N : Str → Prop) : Nat → Ex → Prop
  | var {d : Nat} {x : Str} {o : Int} : N x → 0 ≤ o → o ≤ 4 → ExOk N (d + 1) (.var x o)
  | pre {d : Nat} {x : Str} : N x → ExOk N (d + 1) (.pre x)
  | lit {d : Nat} {w : Str} {ats : List At} : LitOk w ats → ExOk N (d + 1) (.lit w ats)
  | un {d : Nat} {w : Str} {e : Ex} : w ∈ unL → ExOk N d e → ExOk N (d + 1) (.un w e)
  | bin {d : Nat} {w : Str} {e f : Ex} : w ∈ binL → ExOk N d e → ExOk N d f → ExOk N (d + 1) (.bin w e f)
  | tern {d : Nat} {e f g : Ex} : ExOk N d e → ExOk N d f → ExOk N d g → ExOk N (d + 1) (.tern e f g)
theorem ExOk.up {N : Str → Prop} {e : Ex} {d : Nat} (h : ExOk N d e) : ∀ {d' : Nat}, d ≤ d' → ExOk N d' e := by
  induction h with
  | var a b c => intro d' hd; obtain ⟨m, rfl⟩ : ∃ m, d' = m + 1 := ⟨d' - 1, by omega⟩; exact .var a b c
  | pre a => intro d' hd; obtain ⟨m, rfl⟩ : ∃ m, d' = m + 1 := ⟨d' - 1, by omega⟩; exact .pre a
  | lit a => intro d' hd; obtain ⟨m, rfl⟩ : ∃ m, d' = m + 1 := ⟨d' - 1, by omega⟩; exact .lit a
  | un a _ i => intro d' hd; obtain ⟨m, rfl⟩ : ∃ m, d' = m + 1 := ⟨d' - 1, by omega⟩; exact .un a (i (by omega))
  | bin a _ _ i j => intro d' hd; obtain ⟨m, rfl⟩ : ∃ m, d' = m + 1 := ⟨d' - 1, by omega⟩; exact .bin a (i (by omega)) (j (by omega))
  | tern _ _ _ i j k => intro d' hd; obtain ⟨m, rfl⟩ : ∃ m, d' = m + 1 := ⟨d' - 1, by omega⟩; exact .tern (i (by omega)) (j (by omega)) (k (by omega))
/-! ### .. in the heap -/
theorem RatAt.keep {K : PySem.W.Frag} {H H' : Hp} {x : Addr} {n d : Int} (h : RatAt K H x n d) (e : Keep H H') : RatAt K H' x n d := by
  obtain ⟨dx, h⟩ := h
  exact ⟨dx, e _ _ h rfl⟩
def AtV (K : PySem.W.Frag) (H : Hp) (v : V) : At → Prop
  | .rat n d => ∃ r, v = .ref r ∧ RatAt K H r n d
  | .bl b => v = .bl b
theorem AtV.keep {K : PySem.W.Frag} {H H' : Hp} (k : Keep H H') {v : V} : ∀ {a : At}, AtV K H v a → AtV K H' v a
  | .rat _ _, ⟨r, e, h⟩ => ⟨r, e, RatAt.keep h k⟩
  | .bl _, h => h
inductive ExV (K : PySem.W.Frag) (H : Hp) : V → Ex → Prop
  | var {a : Addr} {x : Str} {o : Int} : SqT K H a [.str "var", .str x, .int o] → ExV K H (.ref a) (.var x o)
  | pre {a : Addr} {x : Str} : SqT K H a [.str "pre", .str x] → ExV K H (.ref a) (.pre x)
  | lit {a : Addr} {w : Str} {vs : List V} {ats : List At} : SqT K H a (.str w :: vs) → Paired (AtV K H) vs ats → ExV K H (.ref a) (.lit w ats)
  | un {a : Addr} {w : Str} {v : V} {e : Ex} : SqT K H a [.str w, v] → ExV K H v e → ExV K H (.ref a) (.un w e)
  | bin {a : Addr} {w : Str} {v u : V} {e f : Ex} : SqT K H a [.str w, v, u] → ExV K H v e → ExV K H u f → ExV K H (.ref a) (.bin w e f)
  | tern {a : Addr} {v u t : V} {e f g : Ex} : SqT K H a [.str "if", v, u, t] → ExV K H v e → ExV K H u f → ExV K H t g → ExV K H (.ref a) (.tern e f g)
theorem ExV.keep {K : PySem.W.Frag} {H H' : Hp} (k : Keep H H') {v : V} {e : Ex} (h : ExV K H v e) : ExV K H' v e := by
  induction h with
  | var h => exact .var (SqT.keep h k)
  | pre h => exact .pre (SqT.keep h k)
  | lit h p => exact .lit (SqT.keep h k) (Paired.imp (fun _ _ z => AtV.keep k z) p)
  | un h _ i => exact .un (SqT.keep h k) i
  | bin h _ _ i j => exact .bin (SqT.keep h k) i j
  | tern h _ _ _ i j l => exact .tern (SqT.keep h k) i j l
theorem ExV.same {K : PySem.W.Frag} {H H' : Hp} (k : Same H H') {v : V} {e : Ex} (h : ExV K H v e) : ExV K H' v e := h.keep (Same.keep k)
/-- the law's table of names -/
def VarsV (K : PySem.W.Frag) (H : Hp) (N : Str → Prop) (vs : List V) : Prop := ∀ v ∈ vs, ∃ (t : Addr) (x : Str) (o : Int), v = .ref t ∧ SqT K H t [.str x, .int o] ∧ N x ∧ 0 ≤ o ∧ o ≤ 4
def StrsV (N : Str → Prop) (vs : List V) : Prop := ∀ v ∈ vs, ∃ x : Str, v = .str x ∧ N x
structure NamesV (K : PySem.W.Frag) (H : Hp) (N : Str → Prop) (n : Addr) (kvs : List (Key × V)) (a b c e : Addr) (vs ps ts us : List V) : Prop where
  dict : H n = some (.dK kvs)
  ka : valV kvs (.inr "vars") = some (.ref a)
  kb : valV kvs (.inr "pres") = some (.ref b)
  kc : valV kvs (.inr "truths") = some (.ref c)
  ke : valV kvs (.inr "tvars") = some (.ref e)
  la : H a = some (.lst vs)
  lb : H b = some (.lst ps)
  lc : H c = some (.lst ts)
  le : H e = some (.lst us)
  va : VarsV K H N vs
  vb : StrsV N ps
  vc : StrsV N ts
  ve : StrsV N us
  za : vs.length ≤ 100
  zb : ps.length ≤ 100
  zc : ts.length ≤ 100
  ze : us.length ≤ 100
def Names (K : PySem.W.Frag) (H : Hp) (N : Str → Prop) (n : Addr) : Prop := ∃ kvs a b c e vs ps ts us, NamesV K H N n kvs a b c e vs ps ts us
theorem Names.same {K : PySem.W.Frag} {H H' : Hp} {N : Str → Prop} {n : Addr} (s : Same H H') (h : Names K H N n) : Names K H' N n := by
  obtain ⟨kvs, a, b, c, e, vs, ps, ts, us, h⟩ := h
  exact ⟨kvs, a, b, c, e, vs, ps, ts, us, s _ _ h.dict, h.ka, h.kb, h.kc, h.ke, s _ _ h.la, s _ _ h.lb, s _ _ h.lc, s _ _ h.le, fun v hv => by
    obtain ⟨t, x, o, e, q, r⟩ := h.va v hv
    exact ⟨t, x, o, e, SqT.same q s, r⟩, h.vb, h.vc, h.ve, h.za, h.zb, h.zc, h.ze⟩
theorem r_dget {td ty : TE} {σ : St} {H : Hp} {Q : VK} (h : td σ H fun x H1 => ty σ H1 fun y H2 => ∃ a v, x = .ref a ∧ DGet H2 a y (some v) ∧ Q v H2) : tDGet td ty σ H Q := h
theorem dget_k {H : Hp} {n : Addr} {kvs : List (Key × V)} {x : Str} {v : V} (h : H n = some (.dK kvs)) (e : valV kvs (.inr x) = some v) : DGet H n (.str x) (some v) := by
  have z := DGet.k (k := .inr x) h
  rw [e] at z
  exact z
/-- an item of a list of texts by a draw -/
theorem atI_strs {xs : List Str} {v : Int} (h0 : 0 ≤ v) (h1 : v < (xs.length : Int)) : ∃ y, y ∈ xs ∧ atI (xs.map V.str) v = some (.str y) := by
  have hk : v.toNat < xs.length := by omega
  have e : v = ((v.toNat : Nat) : Int) := by omega
  refine ⟨xs[v.toNat], List.getElem_mem hk, ?_⟩
  have q : atI (xs.map V.str) ((v.toNat : Nat) : Int) = some (.str xs[v.toNat]) := atI_nat (by rw [List.getElem?_map, List.getElem?_eq_getElem hk] <;> rfl)
  rw [← e] at q
  exact q
theorem atI_in {xs : List V} {j : Int} (h0 : 0 ≤ j) (h1 : j < (xs.length : Int)) : ∃ v ∈ xs, atI xs j = some v := by
  have hk : j.toNat < xs.length := by omega
  have e : j = ((j.toNat : Nat) : Int) := by omega
  refine ⟨xs[j.toNat], List.getElem_mem hk, ?_⟩
  have q : atI xs ((j.toNat : Nat) : Int) = some xs[j.toNat] := atI_nat (List.getElem?_eq_getElem hk)
  rw [← e] at q
  exact q
section
variable {P : Program} {w : World} {K : PySem.W.Frag} {mg : Str → Option Value} {base : Heap}
def spSmall (K : PySem.W.Frag) : Sp := fun vs H Q _ => ∃ s : Addr, vs = [.ref s] ∧ Strm H s ∧ ∀ r n d H', Same H H' → RatAt K H' r n d → RatOk n d → Q (.ref r) H'
theorem rat_small {n d : Int} (hd : 0 < d) (h1 : n.natAbs ≤ 100) (h2 : d.natAbs ≤ 100) : RatOk (pn n d) (pd n d) := by
  exact ⟨low_of (by omega), Nat.le_trans (pn_le (by omega)) h1, Nat.le_trans (pd_le (by omega)) h2⟩
theorem ok__law_small_ratio (T : Top w K mg) : FnOk P w K mg base CX0 3 (He.ga K ("_law_small_ratio" : Str)) (fdOf K d__law_small_ratio) ["stream"] (spSmall K) := by
  obtain ⟨ds1, B1⟩ := T.b1_Ratio___init__
  refine (T.f__law_small_ratio).ok sc__law_small_ratio (fun vs H Q E h => ?_) (fun cdv A outer s H vs Q E hr h => ?_)
  · obtain ⟨s, rfl, _⟩ := h
    rfl
  · obtain ⟨s0, rfl, hS, k⟩ := h
    refine ⟨_, PSs.nox (pss_one (ps_ret (pe_make (C := He.ga K ("Ratio" : Str)) T.mk_Ratio (ok_Ratio___init__ (K := K) T) (hr.mono (by decide)) rfl T.g_Ratio (B1.2) (B1.1) passL (pa_cons (pe_op op_sub (pe_call (ok__law_draw (K := K) T) (hr.mono (by decide)) rfl T.g__law_draw T.f__law_draw.kp T.b__law_draw .nil pass0 (pa_cons (pv 0) (pa_cons pe_int pa_nil))) pe_int) (pa_cons (pe_op op_add pe_int (pe_call (ok__law_draw (K := K) T) (hr.mono (by decide)) rfl T.g__law_draw T.f__law_draw.kp T.b__law_draw .nil pass0 (pa_cons (pv 0) (pa_cons pe_int pa_nil)))) pa_nil))))), ?_⟩
    walk_at "go"
    intro v0 a0 a1
    walk_at "go"
    intro v1 b0 b1
    walk_at "go"
    intro x dx nx ndx ne
    refine ⟨x, dx, _, _, rfl, upd_same, Bits.small (by omega) (by decide), fun h => absurd h (by omega), fun _ => ⟨rfl, ?_⟩⟩
    rw [upd_upd]
    exact k _ _ _ _ (same_mk nx ndx) ⟨dx, upd_same⟩ (rat_small (by omega) (by omega) (by omega))
end
local macro_rules | `(tactic| walk_at "go1") => `(tactic| (with_reducible apply r_dget))
local macro_rules | `(tactic| walk_at "go2") => `(tactic| (refine ⟨_, _, rfl, (by assumption), ?_⟩))
local macro_rules | `(tactic| walk_at "go2") => `(tactic| (refine draw_at (by assumption) (by omega) (by omega) ?_))
def numL : List Str := ["add", "sub", "mul", "div", "add"]
theorem numL_bin : ∀ x ∈ numL, x ∈ binL := by decide +kernel
section
variable {P : Program} {w : World} {K : PySem.W.Frag} {mg : Str → Option Value} {base : Heap}
def spGen (K : PySem.W.Frag) (N : Str → Prop) (d : Nat) : Sp := fun vs H Q _ => ∃ s n : Addr, vs = [.ref s, .int (d : Int), .ref n] ∧ Strm H s ∧ Names K H N n ∧ ∀ v e H', Same H H' → ExV K H' v e → ExOk N (d + 1) e → Q v H'
def spGenP (K : PySem.W.Frag) (N : Str → Prop) : Nat → Sp
  | 0 => fun _ _ _ _ => False
  | d + 1 => spGen K N d
theorem num_step (T : Top w K mg) (N : Str → Prop) (d : Nat) (ih__law_number : FnOk P w K mg base CX0 (d + 3) (He.ga K ("_law_number" : Str)) (fdOf K d__law_number) ["stream", "deep", "names"] (spGenP K N d))
    (ih__law_truth : FnOk P w K mg base CX0 (d + 3) (He.ga K ("_law_truth" : Str)) (fdOf K d__law_truth) ["stream", "deep", "names"] (spGenP K N d)) :
    FnOk P w K mg base CX0 (d + 4) (He.ga K ("_law_number" : Str)) (fdOf K d__law_number) ["stream", "deep", "names"] (spGen K N d) := by
  refine (T.f__law_number).ok sc__law_number (fun vs H Q E h => ?_) (fun cdv A outer s H vs Q E hr h => ?_)
  · obtain ⟨s, n, rfl, _⟩ := h
    rfl
  · obtain ⟨s0, n, rfl, hS, hN, k⟩ := h
    refine ⟨_, PSs.nox (pss_cons (ps_set (i := 3) sc__law_number.nd rfl (Or.inl rfl) (pe_call (ok__law_draw (K := K) T) (hr.mono (by omega)) rfl T.g__law_draw T.f__law_draw.kp T.b__law_draw .nil pass0 (pa_cons (pv 0) (pa_cons pe_int pa_nil))))
    (C8.pss_cut (ps_if (PW.pt (pw_or (pt_cmpR op_eq (pv 1) pe_int (nomark _)) (pw_or1 (pt_cmpR op_lt (pv 3) pe_int (nomark _)))))
    (pss_cons (ps_set (i := 3) sc__law_number.nd rfl (Or.inl rfl) (pe_call (ok__law_draw (K := K) T) (hr.mono (by omega)) rfl T.g__law_draw T.f__law_draw.kp T.b__law_draw .nil pass0 (pa_cons (pv 0) (pa_cons pe_int pa_nil))))
    (C8.pss_cut (ps_if (PW.pt (pw_and (pt_cmpR op_lt (pv 3) pe_int (nomark _)) (pw_and1 (pt_cmpR op_gt (pe_callB (call_lenK (K := K) rfl) (by rfl) T.n_len PySem.boot_len (pa_cons (pe_dget (hu_of hr) (pv 2) pe_str (fun _ _ => rfl)) pa_nil)) pe_int (nomark _)))))
    (pss_cons (ps_set (i := 4) sc__law_number.nd rfl (Or.inl rfl) (pe_ix (ix_listK (K := K) rfl) (pe_dget (hu_of hr) (pv 2) pe_str (fun _ _ => rfl)) (pe_call (ok__law_draw (K := K) T) (hr.mono (by omega)) rfl T.g__law_draw T.f__law_draw.kp T.b__law_draw .nil pass0 (pa_cons (pv 0) (pa_cons (pe_callB (call_lenK (K := K) rfl) (by rfl) T.n_len PySem.boot_len (pa_cons (pe_dget (hu_of hr) (pv 2) pe_str (fun _ _ => rfl)) pa_nil)) pa_nil))) (fun _ _ => rfl)))
    (pss_one (ps_ret (pe_tup (pa_cons pe_str (pa_cons (pe_ix (ix_tupK (K := K) rfl) (pv 4) pe_int (fun _ _ => rfl)) (pa_cons (pe_call (ok__law_draw (K := K) T) (hr.mono (by omega)) rfl T.g__law_draw T.f__law_draw.kp T.b__law_draw .nil pass0 (pa_cons (pv 0) (pa_cons (pe_op op_add pe_int (pe_ix (ix_tupK (K := K) rfl) (pv 4) pe_int (fun _ _ => rfl))) pa_nil))) pa_nil)))))))
    pss_nil)
    (C8.pss_cut (ps_if (PW.pt (pw_and (pt_cmpR op_eq (pv 3) pe_int (nomark _)) (pw_and1 (pt_cmpR op_gt (pe_callB (call_lenK (K := K) rfl) (by rfl) T.n_len PySem.boot_len (pa_cons (pe_dget (hu_of hr) (pv 2) pe_str (fun _ _ => rfl)) pa_nil)) pe_int (nomark _)))))
    (pss_one (ps_ret (pe_tup (pa_cons pe_str (pa_cons (pe_ix (ix_listK (K := K) rfl) (pe_dget (hu_of hr) (pv 2) pe_str (fun _ _ => rfl)) (pe_call (ok__law_draw (K := K) T) (hr.mono (by omega)) rfl T.g__law_draw T.f__law_draw.kp T.b__law_draw .nil pass0 (pa_cons (pv 0) (pa_cons (pe_callB (call_lenK (K := K) rfl) (by rfl) T.n_len PySem.boot_len (pa_cons (pe_dget (hu_of hr) (pv 2) pe_str (fun _ _ => rfl)) pa_nil)) pa_nil))) (fun _ _ => rfl)) pa_nil)))))
    pss_nil)
    (pss_cons (ps_if (pt_cmpR op_eq (pv 3) pe_int (nomark _))
    (pss_one (ps_ret (pe_tup (pa_cons pe_str pa_nil))))
    pss_nil)
    (pss_one (ps_ret (pe_tup (pa_cons pe_str (pa_cons (pe_call (ok__law_small_ratio (K := K) T) (hr.mono (by omega)) rfl T.g__law_small_ratio T.f__law_small_ratio.kp T.b__law_small_ratio .nil pass0 (pa_cons (pv 0) pa_nil)) pa_nil)))))))))
    pss_nil)
    (pss_cons (ps_if (pt_cmpR op_eq (pv 3) pe_int (nomark _))
    (pss_one (ps_ret (pe_tup (pa_cons pe_str (pa_cons (pe_call ih__law_number (hr.mono (by omega)) rfl T.g__law_number T.f__law_number.kp T.b__law_number .nil pass0 (pa_cons (pv 0) (pa_cons (pe_op op_sub (pv 1) pe_int) (pa_cons (pv 2) pa_nil)))) pa_nil)))))
    pss_nil)
    (pss_cons (ps_if (pt_cmpR op_eq (pv 3) pe_int (nomark _))
    (pss_cons (ps_set (i := 5) sc__law_number.nd rfl (Or.inl rfl) (pe_call ih__law_truth (hr.mono (by omega)) rfl T.g__law_truth T.f__law_truth.kp T.b__law_truth .nil pass0 (pa_cons (pv 0) (pa_cons (pe_op op_sub (pv 1) pe_int) (pa_cons (pv 2) pa_nil)))))
    (pss_one (ps_ret (pe_tup (pa_cons pe_str (pa_cons (pv 5) (pa_cons (pe_call ih__law_number (hr.mono (by omega)) rfl T.g__law_number T.f__law_number.kp T.b__law_number .nil pass0 (pa_cons (pv 0) (pa_cons (pe_op op_sub (pv 1) pe_int) (pa_cons (pv 2) pa_nil)))) (pa_cons (pe_call ih__law_number (hr.mono (by omega)) rfl T.g__law_number T.f__law_number.kp T.b__law_number .nil pass0 (pa_cons (pv 0) (pa_cons (pe_op op_sub (pv 1) pe_int) (pa_cons (pv 2) pa_nil)))) pa_nil))))))))
    pss_nil)
    (pss_cons (ps_set (i := 6) sc__law_number.nd rfl (Or.inl rfl) (pe_ix (ix_listK (K := K) rfl) (pe_lst (pa_cons pe_str (pa_cons pe_str (pa_cons pe_str (pa_cons pe_str (pa_cons pe_str pa_nil)))))) (pe_op op_sub (pv 3) pe_int) (fun _ _ => rfl)))
    (pss_one (ps_ret (pe_tup (pa_cons (pv 6) (pa_cons (pe_call ih__law_number (hr.mono (by omega)) rfl T.g__law_number T.f__law_number.kp T.b__law_number .nil pass0 (pa_cons (pv 0) (pa_cons (pe_op op_sub (pv 1) pe_int) (pa_cons (pv 2) pa_nil)))) (pa_cons (pe_call ih__law_number (hr.mono (by omega)) rfl T.g__law_number T.f__law_number.kp T.b__law_number .nil pass0 (pa_cons (pv 0) (pa_cons (pe_op op_sub (pv 1) pe_int) (pa_cons (pv 2) pa_nil)))) pa_nil))))))))))), ?_⟩
    obtain ⟨kvs, a, b, c, e, vs, ps, ts, us, hn⟩ := id hN
    have ga := dget_k hn.dict hn.ka
    have gb := dget_k hn.dict hn.kb
    have la : SqL K H a vs ∨ SqT K H a vs := .inl (SqL.of hn.la)
    have lb : SqL K H b ps ∨ SqT K H b ps := .inl (SqL.of hn.lb)
    have za := hn.za
    have zb := hn.zb
    walk_at "go"
    intro v0 a0 a1
    refine r_cut (fun σ H' => H' = H ∧ σ = [some (.ref s0), some (.int (d : Int)), some (.ref n), some (.int v0), none, none, none] ∧ ¬ d = 0 ∧ 5 ≤ v0) ?_ ?_
    · walk_at "go"
      have leaf : ∀ p v o, SqT K H p [.str "var", .str v, .int o] → True := fun _ _ _ _ => trivial
      refine ite_d (fun c1 => iteT ?_) (fun c1 => ?_)
      rotate_left
      walk_at "go"
      refine ite_d (fun c2 => ?_) (fun c2 => ?_)
      rotate_left
      · walk_at "go"
        refine ⟨rfl, rfl, fun z => c1 (by rw [z]; rfl), by omega⟩
      all_goals
        walk_at "go"
        intro v1 b0 b1
        walk_at "go"
        refine r_cut (fun σ H' => H' = H ∧ σ = [some (.ref s0), some (.int (d : Int)), some (.ref n), some (.int v1), none, none, none]) ?_ ?_
        · walk_at "go"
          refine ite_d (fun c3 => ?_) (fun c3 => ?_)
          · walk_at "go"
            refine ite_d (fun c4 => ?_) (fun c4 => ?_)
            · walk_at "go"
              intro v2 d0 d1
              obtain ⟨u, hu, hi⟩ := atI_in d0 d1
              obtain ⟨t, x, o, rfl, ht, hx, o0, o4⟩ := hn.va u hu
              refine r_ixL (SqL.of hn.la) hi ?_
              walk_at "go"
              refine r_ixT ht rfl ?_
              walk_at "go"
              refine r_ixT ht rfl ?_
              walk_at "go"
              intro v3 e0 e1
              walk_at "go"
              refine ⟨by show 3 ≤ sizeLine; decide, fun p hp => ?_⟩
              exact k _ _ _ (same_new hp) (.var (SqT.of upd_same)) (.var hx e0 (by omega))
            · walk_at "go"
              exact ⟨rfl, rfl⟩
          · walk_at "go"
            exact ⟨rfl, rfl⟩
        · rintro σ H' ⟨rfl, rfl⟩
          refine r_cut (fun σ H2 => H2 = H' ∧ σ = [some (.ref s0), some (.int (d : Int)), some (.ref n), some (.int v1), none, none, none]) ?_ ?_
          · walk_at "go"
            refine ite_d (fun c3 => ?_) (fun c3 => ?_)
            · walk_at "go"
              refine ite_d (fun c4 => ?_) (fun c4 => ?_)
              · walk_at "go"
                intro v2 d0 d1
                obtain ⟨u, hu, hi⟩ := atI_in d0 d1
                obtain ⟨x, rfl, hx⟩ := hn.vb u hu
                refine r_ixL (SqL.of hn.lb) hi ?_
                walk_at "go"
                refine ⟨by show 2 ≤ sizeLine; decide, fun p hp => ?_⟩
                exact k _ _ _ (same_new hp) (.pre (SqT.of upd_same)) (.pre hx)
              · walk_at "go"
                exact ⟨rfl, rfl⟩
            · walk_at "go"
              exact ⟨rfl, rfl⟩
          · rintro σ H2 ⟨rfl, rfl⟩
            walk_at "go"
            refine ite_d (fun c5 => ?_) (fun c5 => ?_)
            · walk_at "go"
              intro p hp
              exact k _ _ _ (same_new hp) (.lit (SqT.of upd_same) .nil) (.lit .time)
            · walk_at "go"
              intro r n1 d1 H3 e3 hr3 ok3
              walk_at "go"
              refine ⟨by show 2 ≤ sizeLine; decide, fun p hp => ?_⟩
              exact k _ _ _ (e3.trans (same_new hp)) (.lit (SqT.of upd_same) (.cons (show AtV K _ (.ref r) (.rat n1 d1) from ⟨r, rfl, RatAt.keep hr3 (Same.keep (same_new hp))⟩) .nil)) (.lit (.num ok3))
    · rintro σ H' ⟨rfl, rfl, hd, h5⟩
      obtain ⟨d, rfl⟩ : ∃ m, d = m + 1 := ⟨d - 1, by omega⟩
      have ed : ((d + 1 : Nat) : Int) - 1 = (d : Int) := by omega
      walk_at "go"
      refine ite_d (fun c5 => ?_) (fun c5 => ?_)
      · walk_at "go"
        refine ⟨s0, n, by rw [ed]; rfl, hS, hN, fun v ex H2 e2 hv hok => ?_⟩
        walk_at "go"
        refine ⟨by show 2 ≤ sizeLine; decide, fun p hp => ?_⟩
        exact k _ _ _ (e2.trans (same_new hp)) (.un (SqT.of upd_same) (hv.same (same_new hp))) (.un (by decide +kernel) hok)
      · walk_at "go"
        refine ite_d (fun c6 => ?_) (fun c6 => ?_)
        · walk_at "go"
          refine ⟨s0, n, by rw [ed]; rfl, hS, hN, fun v ex H2 e2 hv hok => ?_⟩
          walk_at "go"
          refine ⟨s0, n, by rw [ed]; rfl, hS.mono e2, hN.same e2, fun v2 ex2 H3 e3 hv2 hok2 => ?_⟩
          walk_at "go"
          refine ⟨s0, n, by rw [ed]; rfl, hS.mono (e2.trans e3), hN.same (e2.trans e3), fun v3 ex3 H4 e4 hv3 hok3 => ?_⟩
          walk_at "go"
          refine ⟨by show 4 ≤ sizeLine; decide, fun p hp => ?_⟩
          have s5 := same_new (o := .tup [.str "if", v, v2, v3]) hp
          exact k _ _ _ (e2.trans (e3.trans (e4.trans s5))) (.tern (SqT.of upd_same) (hv.same (e3.trans (e4.trans s5))) (hv2.same (e4.trans s5)) (hv3.same s5)) (.tern hok hok2 hok3)
        · walk_at "go"
          intro l hl
          have s1 := same_new (o := .lst (numL.map V.str)) hl
          have c5' := vint_ne c5
          have c6' := vint_ne c6
          obtain ⟨y, hy, hi⟩ := atI_strs (xs := numL) (v := v0 - 7) (by omega) (by show v0 - 7 < 5; omega)
          walk_at "go"
          refine r_ixL (SqL.of upd_same) hi ?_
          walk_at "go"
          refine ⟨s0, n, by rw [ed]; rfl, hS.mono s1, hN.same s1, fun v ex H2 e2 hv hok => ?_⟩
          walk_at "go"
          refine ⟨s0, n, by rw [ed]; rfl, hS.mono (s1.trans e2), hN.same (s1.trans e2), fun v2 ex2 H3 e3 hv2 hok2 => ?_⟩
          walk_at "go"
          refine ⟨by show 3 ≤ sizeLine; decide, fun p hp => ?_⟩
          have s5 := same_new (o := .tup [.str y, v, v2]) hp
          exact k _ _ _ (s1.trans (e2.trans (e3.trans s5))) (.bin (SqT.of upd_same) (hv.same (e3.trans s5)) (hv2.same s5)) (.bin (numL_bin y hy) hok hok2)
end
def truL : List Str := ["and", "or", "same"]
def cmpL : List Str := ["less", "atmost", "same", "less"]
theorem truL_bin : ∀ x ∈ truL, x ∈ binL := by decide +kernel
theorem cmpL_bin : ∀ x ∈ cmpL, x ∈ binL := by decide +kernel
theorem AtV.of_rat {K : PySem.W.Frag} {H : Hp} {r : Addr} {n d : Int} (h : RatAt K H r n d) : AtV K H (.ref r) (.rat n d) := ⟨r, rfl, h⟩
theorem pn_pos {n d : Int} (hn : 0 < n) (hd : 0 < d) : 0 < pn n d := by
  have a := pn_mul n d
  have g : 0 < sgc n d := by
    have b := pd_mul n d
    have c := (low_of (n := n) (d := d) (by omega)).pos
    rcases Int.lt_or_le 0 (sgc n d) with h | h
    · exact h
    · have := Int.mul_le_mul_of_nonneg_left h (Int.le_of_lt c)
      omega
  rcases Int.lt_or_le 0 (pn n d) with h | h
  · exact h
  · have := Int.mul_le_mul_of_nonneg_right h (Int.le_of_lt g)
    omega
section
variable {P : Program} {w : World} {K : PySem.W.Frag} {mg : Str → Option Value} {base : Heap}
theorem tru_step (T : Top w K mg) (N : Str → Prop) (d : Nat) (ih__law_number : FnOk P w K mg base CX0 (d + 3) (He.ga K ("_law_number" : Str)) (fdOf K d__law_number) ["stream", "deep", "names"] (spGenP K N d))
    (ih__law_truth : FnOk P w K mg base CX0 (d + 3) (He.ga K ("_law_truth" : Str)) (fdOf K d__law_truth) ["stream", "deep", "names"] (spGenP K N d)) :
    FnOk P w K mg base CX0 (d + 4) (He.ga K ("_law_truth" : Str)) (fdOf K d__law_truth) ["stream", "deep", "names"] (spGen K N d) := by
  obtain ⟨ds1, B1⟩ := T.b1_Ratio___init__
  refine (T.f__law_truth).ok sc__law_truth (fun vs H Q E h => ?_) (fun cdv A outer s H vs Q E hr h => ?_)
  · obtain ⟨s, n, rfl, _⟩ := h
    rfl
  · obtain ⟨s0, n, rfl, hS, hN, k⟩ := h
    refine ⟨_, PSs.nox (pss_cons (ps_set (i := 3) sc__law_truth.nd rfl (Or.inl rfl) (pe_call (ok__law_draw (K := K) T) (hr.mono (by omega)) rfl T.g__law_draw T.f__law_draw.kp T.b__law_draw .nil pass0 (pa_cons (pv 0) (pa_cons pe_int pa_nil))))
    (C8.pss_cut (ps_if (PW.pt (pw_or (pt_cmpR op_eq (pv 1) pe_int (nomark _)) (pw_or1 (pt_cmpR op_lt (pv 3) pe_int (nomark _)))))
    (pss_cons (ps_set (i := 3) sc__law_truth.nd rfl (Or.inl rfl) (pe_call (ok__law_draw (K := K) T) (hr.mono (by omega)) rfl T.g__law_draw T.f__law_draw.kp T.b__law_draw .nil pass0 (pa_cons (pv 0) (pa_cons pe_int pa_nil))))
    (C8.pss_cut (ps_if (PW.pt (pw_and (pt_cmpR op_eq (pv 3) pe_int (nomark _)) (pw_and1 (pt_cmpR op_gt (pe_callB (call_lenK (K := K) rfl) (by rfl) T.n_len PySem.boot_len (pa_cons (pe_dget (hu_of hr) (pv 2) pe_str (fun _ _ => rfl)) pa_nil)) pe_int (nomark _)))))
    (pss_one (ps_ret (pe_tup (pa_cons pe_str (pa_cons (pe_ix (ix_listK (K := K) rfl) (pe_dget (hu_of hr) (pv 2) pe_str (fun _ _ => rfl)) (pe_call (ok__law_draw (K := K) T) (hr.mono (by omega)) rfl T.g__law_draw T.f__law_draw.kp T.b__law_draw .nil pass0 (pa_cons (pv 0) (pa_cons (pe_callB (call_lenK (K := K) rfl) (by rfl) T.n_len PySem.boot_len (pa_cons (pe_dget (hu_of hr) (pv 2) pe_str (fun _ _ => rfl)) pa_nil)) pa_nil))) (fun _ _ => rfl)) pa_nil)))))
    pss_nil)
    (C8.pss_cut (ps_if (PW.pt (pw_and (pt_cmpR op_eq (pv 3) pe_int (nomark _)) (pw_and1 (pt_cmpR op_gt (pe_callB (call_lenK (K := K) rfl) (by rfl) T.n_len PySem.boot_len (pa_cons (pe_dget (hu_of hr) (pv 2) pe_str (fun _ _ => rfl)) pa_nil)) pe_int (nomark _)))))
    (pss_one (ps_ret (pe_tup (pa_cons pe_str (pa_cons (pe_ix (ix_listK (K := K) rfl) (pe_dget (hu_of hr) (pv 2) pe_str (fun _ _ => rfl)) (pe_call (ok__law_draw (K := K) T) (hr.mono (by omega)) rfl T.g__law_draw T.f__law_draw.kp T.b__law_draw .nil pass0 (pa_cons (pv 0) (pa_cons (pe_callB (call_lenK (K := K) rfl) (by rfl) T.n_len PySem.boot_len (pa_cons (pe_dget (hu_of hr) (pv 2) pe_str (fun _ _ => rfl)) pa_nil)) pa_nil))) (fun _ _ => rfl)) (pa_cons pe_int pa_nil))))))
    pss_nil)
    (pss_cons (ps_if (pt_cmpR op_eq (pv 3) pe_int (nomark _))
    (pss_one (ps_ret (pe_tup (pa_cons pe_str pa_nil))))
    pss_nil)
    (pss_cons (ps_if (pt_cmpR op_eq (pv 3) pe_int (nomark _))
    (pss_one (ps_ret (pe_tup (pa_cons pe_str (pa_cons (pe_call (ok__law_small_ratio (K := K) T) (hr.mono (by omega)) rfl T.g__law_small_ratio T.f__law_small_ratio.kp T.b__law_small_ratio .nil pass0 (pa_cons (pv 0) pa_nil)) (pa_cons (pe_make (C := He.ga K ("Ratio" : Str)) T.mk_Ratio (ok_Ratio___init__ (K := K) T) (hr.mono (by omega)) rfl T.g_Ratio (B1.2) (B1.1) passL (pa_cons (pe_op op_add pe_int (pe_call (ok__law_draw (K := K) T) (hr.mono (by omega)) rfl T.g__law_draw T.f__law_draw.kp T.b__law_draw .nil pass0 (pa_cons (pv 0) (pa_cons pe_int pa_nil)))) (pa_cons (pe_op op_add pe_int (pe_call (ok__law_draw (K := K) T) (hr.mono (by omega)) rfl T.g__law_draw T.f__law_draw.kp T.b__law_draw .nil pass0 (pa_cons (pv 0) (pa_cons pe_int pa_nil)))) pa_nil))) pa_nil))))))
    pss_nil)
    (pss_one (ps_ret (pe_tup (pa_cons pe_str (pa_cons (pe_cmpR op_eq (pe_call (ok__law_draw (K := K) T) (hr.mono (by omega)) rfl T.g__law_draw T.f__law_draw.kp T.b__law_draw .nil pass0 (pa_cons (pv 0) (pa_cons pe_int pa_nil))) pe_int (nomark _)) pa_nil))))))))))
    pss_nil)
    (pss_cons (ps_if (pt_cmpR op_eq (pv 3) pe_int (nomark _))
    (pss_one (ps_ret (pe_tup (pa_cons pe_str (pa_cons (pe_call ih__law_truth (hr.mono (by omega)) rfl T.g__law_truth T.f__law_truth.kp T.b__law_truth .nil pass0 (pa_cons (pv 0) (pa_cons (pe_op op_sub (pv 1) pe_int) (pa_cons (pv 2) pa_nil)))) pa_nil)))))
    pss_nil)
    (pss_cons (ps_if (pt_cmpR op_eq (pv 3) pe_int (nomark _))
    (pss_cons (ps_set (i := 4) sc__law_truth.nd rfl (Or.inl rfl) (pe_call ih__law_truth (hr.mono (by omega)) rfl T.g__law_truth T.f__law_truth.kp T.b__law_truth .nil pass0 (pa_cons (pv 0) (pa_cons (pe_op op_sub (pv 1) pe_int) (pa_cons (pv 2) pa_nil)))))
    (pss_one (ps_ret (pe_tup (pa_cons pe_str (pa_cons (pv 4) (pa_cons (pe_call ih__law_truth (hr.mono (by omega)) rfl T.g__law_truth T.f__law_truth.kp T.b__law_truth .nil pass0 (pa_cons (pv 0) (pa_cons (pe_op op_sub (pv 1) pe_int) (pa_cons (pv 2) pa_nil)))) (pa_cons (pe_call ih__law_truth (hr.mono (by omega)) rfl T.g__law_truth T.f__law_truth.kp T.b__law_truth .nil pass0 (pa_cons (pv 0) (pa_cons (pe_op op_sub (pv 1) pe_int) (pa_cons (pv 2) pa_nil)))) pa_nil))))))))
    pss_nil)
    (pss_cons (ps_if (pt_cmpR op_lt (pv 3) pe_int (nomark _))
    (pss_cons (ps_set (i := 5) sc__law_truth.nd rfl (Or.inl rfl) (pe_ix (ix_listK (K := K) rfl) (pe_lst (pa_cons pe_str (pa_cons pe_str (pa_cons pe_str pa_nil)))) (pe_op op_sub (pv 3) pe_int) (fun _ _ => rfl)))
    (pss_one (ps_ret (pe_tup (pa_cons (pv 5) (pa_cons (pe_call ih__law_truth (hr.mono (by omega)) rfl T.g__law_truth T.f__law_truth.kp T.b__law_truth .nil pass0 (pa_cons (pv 0) (pa_cons (pe_op op_sub (pv 1) pe_int) (pa_cons (pv 2) pa_nil)))) (pa_cons (pe_call ih__law_truth (hr.mono (by omega)) rfl T.g__law_truth T.f__law_truth.kp T.b__law_truth .nil pass0 (pa_cons (pv 0) (pa_cons (pe_op op_sub (pv 1) pe_int) (pa_cons (pv 2) pa_nil)))) pa_nil)))))))
    pss_nil)
    (pss_cons (ps_set (i := 5) sc__law_truth.nd rfl (Or.inl rfl) (pe_ix (ix_listK (K := K) rfl) (pe_lst (pa_cons pe_str (pa_cons pe_str (pa_cons pe_str (pa_cons pe_str pa_nil))))) (pe_op op_sub (pv 3) pe_int) (fun _ _ => rfl)))
    (pss_one (ps_ret (pe_tup (pa_cons (pv 5) (pa_cons (pe_call ih__law_number (hr.mono (by omega)) rfl T.g__law_number T.f__law_number.kp T.b__law_number .nil pass0 (pa_cons (pv 0) (pa_cons (pe_op op_sub (pv 1) pe_int) (pa_cons (pv 2) pa_nil)))) (pa_cons (pe_call ih__law_number (hr.mono (by omega)) rfl T.g__law_number T.f__law_number.kp T.b__law_number .nil pass0 (pa_cons (pv 0) (pa_cons (pe_op op_sub (pv 1) pe_int) (pa_cons (pv 2) pa_nil)))) pa_nil)))))))))))), ?_⟩
    obtain ⟨kvs, a, b, c, e, vs, ps, ts, us, hn⟩ := id hN
    have gc := dget_k hn.dict hn.kc
    have ge := dget_k hn.dict hn.ke
    have lc : SqL K H c ts ∨ SqT K H c ts := .inl (SqL.of hn.lc)
    have le : SqL K H e us ∨ SqT K H e us := .inl (SqL.of hn.le)
    have zc := hn.zc
    have ze := hn.ze
    walk_at "go"
    intro v0 a0 a1
    refine r_cut (fun σ H' => H' = H ∧ σ = [some (.ref s0), some (.int (d : Int)), some (.ref n), some (.int v0), none, none] ∧ ¬ d = 0 ∧ 3 ≤ v0) ?_ ?_
    · walk_at "go"
      refine ite_d (fun c1 => iteT ?_) (fun c1 => ?_)
      rotate_left
      walk_at "go"
      refine ite_d (fun c2 => ?_) (fun c2 => ?_)
      rotate_left
      · walk_at "go"
        refine ⟨rfl, rfl, fun z => c1 (by rw [z]; rfl), by omega⟩
      all_goals
        walk_at "go"
        intro v1 b0 b1
        walk_at "go"
        refine r_cut (fun σ H' => H' = H ∧ σ = [some (.ref s0), some (.int (d : Int)), some (.ref n), some (.int v1), none, none]) ?_ ?_
        · walk_at "go"
          refine ite_d (fun c3 => ?_) (fun c3 => ?_)
          · walk_at "go"
            refine ite_d (fun c4 => ?_) (fun c4 => ?_)
            · walk_at "go"
              intro v2 d0 d1
              obtain ⟨u, hu, hi⟩ := atI_in d0 d1
              obtain ⟨x, rfl, hx⟩ := hn.vc u hu
              refine r_ixL (SqL.of hn.lc) hi ?_
              walk_at "go"
              refine ⟨by show 2 ≤ sizeLine; decide, fun p hp => ?_⟩
              exact k _ _ _ (same_new hp) (.pre (SqT.of upd_same)) (.pre hx)
            · walk_at "go"
              exact ⟨rfl, rfl⟩
          · walk_at "go"
            exact ⟨rfl, rfl⟩
        · rintro σ H' ⟨rfl, rfl⟩
          refine r_cut (fun σ H2 => H2 = H' ∧ σ = [some (.ref s0), some (.int (d : Int)), some (.ref n), some (.int v1), none, none]) ?_ ?_
          · walk_at "go"
            refine ite_d (fun c3 => ?_) (fun c3 => ?_)
            · walk_at "go"
              refine ite_d (fun c4 => ?_) (fun c4 => ?_)
              · walk_at "go"
                intro v2 d0 d1
                obtain ⟨u, hu, hi⟩ := atI_in d0 d1
                obtain ⟨x, rfl, hx⟩ := hn.ve u hu
                refine r_ixL (SqL.of hn.le) hi ?_
                walk_at "go"
                refine ⟨by show 3 ≤ sizeLine; decide, fun p hp => ?_⟩
                exact k _ _ _ (same_new hp) (.var (SqT.of upd_same)) (.var hx (by omega) (by omega))
              · walk_at "go"
                exact ⟨rfl, rfl⟩
            · walk_at "go"
              exact ⟨rfl, rfl⟩
          · rintro σ H2 ⟨rfl, rfl⟩
            walk_at "go"
            refine ite_d (fun c5 => ?_) (fun c5 => ?_)
            · walk_at "go"
              intro p hp
              exact k _ _ _ (same_new hp) (.lit (SqT.of upd_same) .nil) (.lit .initial)
            · walk_at "go"
              refine ite_d (fun c6 => ?_) (fun c6 => ?_)
              · walk_at "go"
                intro r n1 d1 H3 e3 hr3 ok3
                have hS3 := hS.mono e3
                walk_at "go"
                intro v2 d0 d1
                walk_at "go"
                intro v3 e0 e1
                walk_at "go"
                intro x dx nx ndx ne
                refine ⟨x, dx, _, _, rfl, upd_same, Bits.small (by omega) (by decide), fun h => absurd h (by omega), fun _ => ⟨rfl, ?_⟩⟩
                rw [upd_upd]
                walk_at "go"
                refine ⟨by show 3 ≤ sizeLine; decide, fun p hp => ?_⟩
                have s4 : Same H3 (upd (upd H3 dx (HO.own x)) x (HO.ins (He.ga K (Str.ofString "Ratio")) dx (rfl2 (pn (1 + v2) (1 + v3)) (pd (1 + v2) (1 + v3))))) := same_mk nx ndx
                have s5 := same_new (o := .tup [.str "sample", .ref r, .ref x]) hp
                refine k _ _ _ (e3.trans (s4.trans s5)) (.lit (SqT.of upd_same) (.cons (AtV.of_rat (RatAt.keep (by assumption) (Same.keep (s4.trans s5)))) (.cons (AtV.of_rat (RatAt.keep ⟨dx, upd_same⟩ (Same.keep s5))) .nil))) (.lit (.sample ok3 (rat_small (by omega) (by omega) (by omega)) (pn_pos (by omega) (by omega))))
              · walk_at "go"
                intro v2 d0 d1
                walk_at "go"
                refine ⟨by show 2 ≤ sizeLine; decide, fun p hp => ?_⟩
                exact k _ _ _ (same_new hp) (.lit (SqT.of upd_same) (.cons (show AtV K _ (.bl (decide (V.int v2 = V.int 0))) (.bl (decide (V.int v2 = V.int 0))) from rfl) .nil)) (.lit (.truth _))
    · rintro σ H' ⟨rfl, rfl, hd, h5⟩
      obtain ⟨d, rfl⟩ : ∃ m, d = m + 1 := ⟨d - 1, by omega⟩
      have ed : ((d + 1 : Nat) : Int) - 1 = (d : Int) := by omega
      walk_at "go"
      refine ite_d (fun c5 => ?_) (fun c5 => ?_)
      · walk_at "go"
        refine ⟨s0, n, by rw [ed]; rfl, hS, hN, fun v ex H2 e2 hv hok => ?_⟩
        walk_at "go"
        refine ⟨by show 2 ≤ sizeLine; decide, fun p hp => ?_⟩
        exact k _ _ _ (e2.trans (same_new hp)) (.un (SqT.of upd_same) (hv.same (same_new hp))) (.un (by decide +kernel) hok)
      · walk_at "go"
        refine ite_d (fun c6 => ?_) (fun c6 => ?_)
        · walk_at "go"
          refine ⟨s0, n, by rw [ed]; rfl, hS, hN, fun v ex H2 e2 hv hok => ?_⟩
          walk_at "go"
          refine ⟨s0, n, by rw [ed]; rfl, hS.mono e2, hN.same e2, fun v2 ex2 H3 e3 hv2 hok2 => ?_⟩
          walk_at "go"
          refine ⟨s0, n, by rw [ed]; rfl, hS.mono (e2.trans e3), hN.same (e2.trans e3), fun v3 ex3 H4 e4 hv3 hok3 => ?_⟩
          walk_at "go"
          refine ⟨by show 4 ≤ sizeLine; decide, fun p hp => ?_⟩
          have s5 := same_new (o := .tup [.str "if", v, v2, v3]) hp
          exact k _ _ _ (e2.trans (e3.trans (e4.trans s5))) (.tern (SqT.of upd_same) (hv.same (e3.trans (e4.trans s5))) (hv2.same (e4.trans s5)) (hv3.same s5)) (.tern hok hok2 hok3)
        · walk_at "go"
          have c5' := vint_ne c5
          have c6' := vint_ne c6
          refine ite_d (fun c7 => ?_) (fun c7 => ?_)
          all_goals walk_at "go"
          · intro l hl
            have s1 := same_new (o := .lst (truL.map V.str)) hl
            obtain ⟨y, hy, hi⟩ := atI_strs (xs := truL) (v := v0 - 5) (by omega) (by show v0 - 5 < 3; omega)
            walk_at "go"
            refine r_ixL (SqL.of upd_same) hi ?_
            walk_at "go"
            refine ⟨s0, n, by rw [ed]; rfl, hS.mono s1, hN.same s1, fun v ex H2 e2 hv hok => ?_⟩
            walk_at "go"
            refine ⟨s0, n, by rw [ed]; rfl, hS.mono (s1.trans e2), hN.same (s1.trans e2), fun v2 ex2 H3 e3 hv2 hok2 => ?_⟩
            walk_at "go"
            refine ⟨by show 3 ≤ sizeLine; decide, fun p hp => ?_⟩
            have s5 := same_new (o := .tup [.str y, v, v2]) hp
            exact k _ _ _ (s1.trans (e2.trans (e3.trans s5))) (.bin (SqT.of upd_same) (hv.same (e3.trans s5)) (hv2.same s5)) (.bin (truL_bin y hy) hok hok2)
          · intro l hl
            have s1 := same_new (o := .lst (cmpL.map V.str)) hl
            obtain ⟨y, hy, hi⟩ := atI_strs (xs := cmpL) (v := v0 - 8) (by omega) (by show v0 - 8 < 4; omega)
            walk_at "go"
            refine r_ixL (SqL.of upd_same) hi ?_
            walk_at "go"
            refine ⟨s0, n, by rw [ed]; rfl, hS.mono s1, hN.same s1, fun v ex H2 e2 hv hok => ?_⟩
            walk_at "go"
            refine ⟨s0, n, by rw [ed]; rfl, hS.mono (s1.trans e2), hN.same (s1.trans e2), fun v2 ex2 H3 e3 hv2 hok2 => ?_⟩
            walk_at "go"
            refine ⟨by show 3 ≤ sizeLine; decide, fun p hp => ?_⟩
            have s5 := same_new (o := .tup [.str y, v, v2]) hp
            exact k _ _ _ (s1.trans (e2.trans (e3.trans s5))) (.bin (SqT.of upd_same) (hv.same (e3.trans s5)) (hv2.same s5)) (.bin (cmpL_bin y hy) hok hok2)
end
section
variable {P : Program} {w : World} {K : PySem.W.Frag} {mg : Str → Option Value} {base : Heap}
theorem ok_gen (T : Top w K mg) (N : Str → Prop) : ∀ d : Nat,
    FnOk P w K mg base CX0 (d + 3) (He.ga K ("_law_number" : Str)) (fdOf K d__law_number) ["stream", "deep", "names"] (spGenP K N d) ∧
    FnOk P w K mg base CX0 (d + 3) (He.ga K ("_law_truth" : Str)) (fdOf K d__law_truth) ["stream", "deep", "names"] (spGenP K N d)
  | 0 => ⟨⟨fun _ _ _ _ h => False.elim h, fun _ _ _ _ _ _ _ _ _ _ _ _ _ h => False.elim h⟩, ⟨fun _ _ _ _ h => False.elim h, fun _ _ _ _ _ _ _ _ _ _ _ _ _ h => False.elim h⟩⟩
  | d + 1 => ⟨num_step T N d (ok_gen T N d).1 (ok_gen T N d).2, tru_step T N d (ok_gen T N d).1 (ok_gen T N d).2⟩
end
structure Row where
  name : Str
  kind : Str
  truth : Bool
  value : Option At
  start : Option At
  fixed : Bool
def OptV (K : PySem.W.Frag) (H : Hp) (v : V) : Option At → Prop
  | none => v = .non
  | some a => AtV K H v a
theorem OptV.keep {K : PySem.W.Frag} {H H' : Hp} (k : Keep H H') {v : V} : ∀ {a : Option At}, OptV K H v a → OptV K H' v a
  | none, h => h
  | some _, h => AtV.keep k h
def RowV (K : PySem.W.Frag) (H : Hp) (v : V) (r : Row) : Prop := ∃ t va st, v = .ref t ∧ SqT K H t [.str r.name, .str r.kind, .bl r.truth, va, st, .bl r.fixed] ∧ OptV K H va r.value ∧ OptV K H st r.start
theorem RowV.keep {K : PySem.W.Frag} {H H' : Hp} (k : Keep H H') {v : V} {r : Row} (h : RowV K H v r) : RowV K H' v r := by
  obtain ⟨t, va, st, e, q, a, b⟩ := h
  exact ⟨t, va, st, e, SqT.keep q k, a.keep k, b.keep k⟩
def RowsK (K : PySem.W.Frag) (H : Hp) : List (Key × V) → List Row → Prop := Paired fun kv r => kv.1 = .inr r.name ∧ RowV K H kv.2 r
theorem RowsK.keep {K : PySem.W.Frag} {H H' : Hp} (k : Keep H H') {kvs : List (Key × V)} {rs : List Row} (h : RowsK K H kvs rs) : RowsK K H' kvs rs := Paired.imp (fun _ _ z => ⟨z.1, z.2.keep k⟩) h
theorem valV_rows {K : PySem.W.Frag} {H : Hp} {x : Str} : ∀ {kvs : List (Key × V)} {rs : List Row}, RowsK K H kvs rs → x ∉ rs.map Row.name → valV kvs (.inr x) = none
  | _, _, .nil, _ => rfl
  | _, _, .cons (a := kv) (b := r) h t, hn => by
    have n1 : ¬ x = r.name := fun z => hn (by rw [z]; exact List.mem_cons_self)
    have n2 := valV_rows t fun z => hn (List.mem_cons_of_mem _ z)
    obtain ⟨k, v⟩ := kv
    have e : k = .inr r.name := h.1
    subst e
    unfold valV at n2 ⊢
    simp only [List.find?_cons]
    rw [show decide ((Sum.inr r.name : Key) = Sum.inr x) = false from decide_eq_false fun z => n1 (Sum.inr.inj z).symm]
    exact n2
def RatStart (a : Option At) : Prop := a = none ∨ ∃ n d, a = some (.rat n d) ∧ RatOk n d
inductive RowOk : Row → Prop
  | state {x : Str} {st : Option At} {fx : Bool} : RatStart st → (st = none → fx = false) → RowOk ⟨x, "state", false, none, st, fx⟩
  | disc {x : Str} {st : Option At} {fx : Bool} : RatStart st → (st = none → fx = false) → RowOk ⟨x, "discrete", false, none, st, fx⟩
  | discT {x : Str} {st : Option At} {fx : Bool} : (st = none ∨ ∃ b, st = some (.bl b)) → (st = none → fx = false) → RowOk ⟨x, "discrete", true, none, st, fx⟩
  | par {x : Str} {n d : Int} : RatOk n d → RowOk ⟨x, "parameter", false, some (.rat n d), none, false⟩
  | parT {x : Str} (b : Bool) : RowOk ⟨x, "parameter", true, some (.bl b), none, false⟩
  | input {x : Str} : RowOk ⟨x, "input", false, none, none, false⟩
/-- the rows at `p`, with names out of `L` in its order -/
structure RowsAt (K : PySem.W.Frag) (H : Hp) (p : Addr) (L : List Str) (rs : List Row) : Prop where
  ex : ∃ kvs, H p = some (.dK kvs) ∧ RowsK K H kvs rs
  sub : (rs.map Row.name).Sublist L
  ok : ∀ r ∈ rs, RowOk r
theorem RowsAt.same {K : PySem.W.Frag} {H H' : Hp} {p : Addr} {L : List Str} {rs : List Row} (h : RowsAt K H p L rs) (e : Same H H') : RowsAt K H' p L rs := by
  obtain ⟨kvs, a, b⟩ := h.ex
  exact ⟨⟨kvs, e _ _ a, b.keep (Same.keep e)⟩, h.sub, h.ok⟩
theorem RowsAt.skip {K : PySem.W.Frag} {H : Hp} {p : Addr} {L : List Str} {rs : List Row} (x : Str) (h : RowsAt K H p L rs) : RowsAt K H p (L ++ [x]) rs := ⟨h.ex, h.sub.trans (List.sublist_append_left L [x]), h.ok⟩
theorem RowsAt.put {K : PySem.W.Frag} {H : Hp} {p : Addr} {L : List Str} {rs : List Row} {kvs : List (Key × V)} {r : Row} {v : V} (h : RowsAt K H p L rs) (hk : H p = some (.dK kvs)) (hr : RowV K H v r) (ok : RowOk r) (hn : r.name ∉ L) :
    RowsAt K (upd H p (.dK (putK kvs (.inr r.name) v))) p (L ++ [r.name]) (rs ++ [r]) := by
  obtain ⟨kvs', a, b⟩ := h.ex
  rw [hk] at a
  cases a
  have nn : r.name ∉ rs.map Row.name := fun z => hn (h.sub.subset z)
  have kk : Keep H (upd H p (.dK (putK kvs (.inr r.name) v))) := keep_upd hk rfl
  refine ⟨⟨_, upd_same, ?_⟩, ?_, fun q hq => ?_⟩
  · rw [putK_new v (valV_rows b nn)] at kk ⊢
    exact Paired.app (b.keep kk) (.cons ⟨rfl, hr.keep kk⟩ .nil)
  · rw [List.map_append]
    exact h.sub.append (List.Sublist.refl _)
  · rcases List.mem_append.mp hq with z | z
    · exact h.ok q z
    · rw [List.mem_singleton.mp z]
      exact ok
theorem RowsAt.len {K : PySem.W.Frag} {H : Hp} {p : Addr} {L : List Str} {rs : List Row} {kvs : List (Key × V)} (h : RowsAt K H p L rs) (hk : H p = some (.dK kvs)) : kvs.length ≤ L.length := by
  obtain ⟨kvs', a, b⟩ := h.ex
  rw [hk] at a
  cases a
  rw [Paired.length b, ← List.length_map (f := Row.name)]
  exact h.sub.length_le
def lst1 : List Str := ["x", "y", "z1", "w.v[2]"]
theorem take_succ_get {α : Type} {l : List α} {i : Nat} {x : α} (h : l[i]? = some x) : l.take (i + 1) = l.take i ++ [x] := by
  rw [List.take_succ, h]
  rfl
theorem fresh_take {l : List Str} (nd : l.Nodup) {i : Nat} {y : Str} (h : l[i]? = some y) : y ∉ l.take i := by
  intro z
  obtain ⟨j, hj⟩ := List.mem_iff_getElem?.mp z
  rw [List.getElem?_take] at hj
  split at hj
  · rename_i lt
    have hi := (List.getElem?_eq_some_iff.mp h).1
    have := (List.getElem?_inj (i := j) (j := i) (by omega) nd).mp (hj.trans h.symm)
    omega
  · cases hj
theorem fresh1 {i : Nat} {y : Str} (h : lst1[i]? = some y) : y ∉ lst1.take i := fresh_take (by decide +kernel) h
def specL : List Str := ["x", "y", "z1", "w.v[2]", "d", "m.d1", "b", "k", "t", "u"]
def Oth (p : Addr) (H H' : Hp) : Prop := ∀ b o, b ≠ p → H b = some o → H' b = some o
theorem Oth.same {p : Addr} {H H5 H4 : Hp} (o : Oth p H5 H4) (e : Same H H5) (hp : H p = none) : Same H H4 := fun b u q => o b u (ne_of_none q hp) (e b u q)
theorem rows_dput {K : PySem.W.Frag} {H : Hp} {p t : Addr} {L : List Str} {rs : List Row} {va st : V} {R : Hp → Prop} (r : Row) (h : RowsAt K H p L rs) (nt : H t = none) (ok : RowOk r) (ov : OptV K H va r.value) (os : OptV K H st r.start) (hn : r.name ∉ L) (hL : L.length ≤ 10)
    (k : ∀ H4, Oth p H H4 → RowsAt K H4 p (L ++ [r.name]) (rs ++ [r]) → R H4) :
    ∃ a H4, V.ref p = .ref a ∧ DPut (upd H t (.tup [.str r.name, .str r.kind, .bl r.truth, va, st, .bl r.fixed])) a (.str r.name) (.ref t) H4 ∧ R H4 := by
  have e := same_new (o := .tup [.str r.name, .str r.kind, .bl r.truth, va, st, .bl r.fixed]) nt
  obtain ⟨kvs, hk, _⟩ := h.ex
  have z : kvs.length ≤ L.length := h.len hk
  have hk' := e _ _ hk
  refine ⟨p, _, rfl, DPut.k (k := Sum.inr r.name) hk' (by rw [sizeLine_eq]; omega), k _ (fun b o nb hb => ?_) ?_⟩
  · rw [upd_ne nb]
    exact e _ _ hb
  · exact (h.same e).put hk' ⟨t, va, st, rfl, SqT.of upd_same, ov.keep (Same.keep e), os.keep (Same.keep e)⟩ ok hn
theorem opt_non {K : PySem.W.Frag} {H : Hp} {v : V} {a : Option At} (h : OptV K H v a) (n : ¬ v = .non) : ¬ a = none := fun z => n (by rw [z] at h; exact h)
def lst2 : List Str := ["d", "m.d1"]
def L4 : List Str := ["x", "y", "z1", "w.v[2]"]
theorem fr_b : ("b" : Str) ∉ lst1 ++ lst2 := by decide +kernel
theorem fr_k : ("k" : Str) ∉ lst1 ++ lst2 ++ [("b" : Str)] := by decide +kernel
theorem fr_t : ("t" : Str) ∉ lst1 ++ lst2 ++ [("b" : Str)] ++ [("k" : Str)] := by decide +kernel
theorem fr_u : ("u" : Str) ∉ lst1 ++ lst2 ++ [("b" : Str)] ++ [("k" : Str)] ++ [("t" : Str)] := by decide +kernel
theorem fresh2 {i : Nat} {y : Str} (h : lst2[i]? = some y) : y ∉ lst1 ++ lst2.take i := by
  have a := List.mem_of_getElem? h
  have b := fresh_take (by decide +kernel) h
  intro z
  rcases List.mem_append.mp z with z | z
  · exact (show ∀ y ∈ lst2, y ∉ lst1 by decide +kernel) y a z
  · exact b z
theorem len_take {l : List Str} (i : Nat) (h : l.length ≤ 4) : (l.take i).length ≤ 4 := Nat.le_trans (List.length_take_le' i l) h
section
variable {P : Program} {w : World} {K : PySem.W.Frag} {mg : Str → Option Value} {base : Heap}
def spSpec (K : PySem.W.Frag) : Sp := fun vs H Q _ => ∃ s : Addr, vs = [.ref s] ∧ Strm H s ∧ ∀ p rs H', Same H H' → H p = none → RowsAt K H' p specL rs → Q (.ref p) H'
theorem ok__law_spec (T : Top w K mg) : FnOk P w K mg base CX0 4 (He.ga K ("_law_spec" : Str)) (fdOf K d__law_spec) ["stream"] (spSpec K) := by
  refine (T.f__law_spec).ok sc__law_spec (fun vs H Q E h => ?_) (fun cdv A outer s H vs Q E hr h => ?_)
  · obtain ⟨s, rfl, _⟩ := h
    rfl
  · obtain ⟨s0, rfl, hS, k⟩ := h
    refine ⟨_, PSs.nox (pss_cons (ps_set (i := 1) sc__law_spec.nd rfl (Or.inl rfl) pe_dnewK)
    (pss_cons (ps_for PassesOwn.never rfl (pi_listK (K := K) rfl (pe_lst (pa_cons pe_str (pa_cons pe_str (pa_cons pe_str (pa_cons pe_str pa_nil)))))) (pg_name (i := 2) sc__law_spec.nd rfl (Or.inl rfl))
    (pss_one (ps_if (pt_cmpR op_gt (pe_call (ok__law_draw (K := K) T) (hr.mono (by decide)) rfl T.g__law_draw T.f__law_draw.kp T.b__law_draw .nil pass0 (pa_cons (pv 0) (pa_cons pe_int pa_nil))) pe_int (nomark _))
    (pss_cons (ps_set (i := 3) sc__law_spec.nd rfl (Or.inl rfl) (pe_ix (ix_listK (K := K) rfl) (pe_lst (pa_cons pe_non (pa_cons (pe_call (ok__law_small_ratio (K := K) T) (hr.mono (by decide)) rfl T.g__law_small_ratio T.f__law_small_ratio.kp T.b__law_small_ratio .nil pass0 (pa_cons (pv 0) pa_nil)) pa_nil))) (pe_call (ok__law_draw (K := K) T) (hr.mono (by decide)) rfl T.g__law_draw T.f__law_draw.kp T.b__law_draw .nil pass0 (pa_cons (pv 0) (pa_cons pe_int pa_nil))) (fun _ _ => rfl)))
    (pss_one (ps_dput (hu_of hr) (pv 1) (pv 2) (pe_tup (pa_cons (pv 2) (pa_cons pe_str (pa_cons pe_bl (pa_cons pe_non (pa_cons (pv 3) (pa_cons (pe_and (pe_cmpR op_notN (pv 3) pe_non (nomark _)) (pe_one (pe_cmpR op_eq (pe_call (ok__law_draw (K := K) T) (hr.mono (by decide)) rfl T.g__law_draw T.f__law_draw.kp T.b__law_draw .nil pass0 (pa_cons (pv 0) (pa_cons pe_int pa_nil))) pe_int (nomark _)))) pa_nil))))))) rfl)))
    pss_nil)))
    (pss_cons (ps_for PassesOwn.never rfl (pi_listK (K := K) rfl (pe_lst (pa_cons pe_str (pa_cons pe_str pa_nil)))) (pg_name (i := 2) sc__law_spec.nd rfl (Or.inl rfl))
    (pss_one (ps_if (pt_cmpR op_eq (pe_call (ok__law_draw (K := K) T) (hr.mono (by decide)) rfl T.g__law_draw T.f__law_draw.kp T.b__law_draw .nil pass0 (pa_cons (pv 0) (pa_cons pe_int pa_nil))) pe_int (nomark _))
    (pss_cons (ps_set (i := 3) sc__law_spec.nd rfl (Or.inl rfl) (pe_ix (ix_listK (K := K) rfl) (pe_lst (pa_cons pe_non (pa_cons (pe_call (ok__law_small_ratio (K := K) T) (hr.mono (by decide)) rfl T.g__law_small_ratio T.f__law_small_ratio.kp T.b__law_small_ratio .nil pass0 (pa_cons (pv 0) pa_nil)) pa_nil))) (pe_call (ok__law_draw (K := K) T) (hr.mono (by decide)) rfl T.g__law_draw T.f__law_draw.kp T.b__law_draw .nil pass0 (pa_cons (pv 0) (pa_cons pe_int pa_nil))) (fun _ _ => rfl)))
    (pss_one (ps_dput (hu_of hr) (pv 1) (pv 2) (pe_tup (pa_cons (pv 2) (pa_cons pe_str (pa_cons pe_bl (pa_cons pe_non (pa_cons (pv 3) (pa_cons (pe_and (pe_cmpR op_notN (pv 3) pe_non (nomark _)) (pe_one (pe_cmpR op_eq (pe_call (ok__law_draw (K := K) T) (hr.mono (by decide)) rfl T.g__law_draw T.f__law_draw.kp T.b__law_draw .nil pass0 (pa_cons (pv 0) (pa_cons pe_int pa_nil))) pe_int (nomark _)))) pa_nil))))))) rfl)))
    pss_nil)))
    (C8.pss_cut (ps_if (pt_cmpR op_eq (pe_call (ok__law_draw (K := K) T) (hr.mono (by decide)) rfl T.g__law_draw T.f__law_draw.kp T.b__law_draw .nil pass0 (pa_cons (pv 0) (pa_cons pe_int pa_nil))) pe_int (nomark _))
    (pss_cons (ps_set (i := 3) sc__law_spec.nd rfl (Or.inl rfl) (pe_ix (ix_listK (K := K) rfl) (pe_lst (pa_cons pe_non (pa_cons pe_bl (pa_cons pe_bl pa_nil)))) (pe_call (ok__law_draw (K := K) T) (hr.mono (by decide)) rfl T.g__law_draw T.f__law_draw.kp T.b__law_draw .nil pass0 (pa_cons (pv 0) (pa_cons pe_int pa_nil))) (fun _ _ => rfl)))
    (pss_one (ps_dput (hu_of hr) (pv 1) pe_str (pe_tup (pa_cons pe_str (pa_cons pe_str (pa_cons pe_bl (pa_cons pe_non (pa_cons (pv 3) (pa_cons (pe_and (pe_cmpR op_notN (pv 3) pe_non (nomark _)) (pe_one (pe_cmpR op_eq (pe_call (ok__law_draw (K := K) T) (hr.mono (by decide)) rfl T.g__law_draw T.f__law_draw.kp T.b__law_draw .nil pass0 (pa_cons (pv 0) (pa_cons pe_int pa_nil))) pe_int (nomark _)))) pa_nil))))))) rfl)))
    pss_nil)
    (C8.pss_cut (ps_if (pt_cmpR op_eq (pe_call (ok__law_draw (K := K) T) (hr.mono (by decide)) rfl T.g__law_draw T.f__law_draw.kp T.b__law_draw .nil pass0 (pa_cons (pv 0) (pa_cons pe_int pa_nil))) pe_int (nomark _))
    (pss_one (ps_dput (hu_of hr) (pv 1) pe_str (pe_tup (pa_cons pe_str (pa_cons pe_str (pa_cons pe_bl (pa_cons (pe_call (ok__law_small_ratio (K := K) T) (hr.mono (by decide)) rfl T.g__law_small_ratio T.f__law_small_ratio.kp T.b__law_small_ratio .nil pass0 (pa_cons (pv 0) pa_nil)) (pa_cons pe_non (pa_cons pe_bl pa_nil))))))) rfl))
    pss_nil)
    (C8.pss_cut (ps_if (pt_cmpR op_eq (pe_call (ok__law_draw (K := K) T) (hr.mono (by decide)) rfl T.g__law_draw T.f__law_draw.kp T.b__law_draw .nil pass0 (pa_cons (pv 0) (pa_cons pe_int pa_nil))) pe_int (nomark _))
    (pss_one (ps_dput (hu_of hr) (pv 1) pe_str (pe_tup (pa_cons pe_str (pa_cons pe_str (pa_cons pe_bl (pa_cons (pe_cmpR op_eq (pe_call (ok__law_draw (K := K) T) (hr.mono (by decide)) rfl T.g__law_draw T.f__law_draw.kp T.b__law_draw .nil pass0 (pa_cons (pv 0) (pa_cons pe_int pa_nil))) pe_int (nomark _)) (pa_cons pe_non (pa_cons pe_bl pa_nil))))))) rfl))
    pss_nil)
    (C8.pss_cut (ps_if (pt_cmpR op_eq (pe_call (ok__law_draw (K := K) T) (hr.mono (by decide)) rfl T.g__law_draw T.f__law_draw.kp T.b__law_draw .nil pass0 (pa_cons (pv 0) (pa_cons pe_int pa_nil))) pe_int (nomark _))
    (pss_one (ps_dput (hu_of hr) (pv 1) pe_str (pe_tup (pa_cons pe_str (pa_cons pe_str (pa_cons pe_bl (pa_cons pe_non (pa_cons pe_non (pa_cons pe_bl pa_nil))))))) rfl))
    pss_nil)
    (pss_one (ps_ret (pv 1)))))))))), ?_⟩
    walk_at "go"
    intro p hp
    walk_at "go"
    intro l1 hl1
    refine ⟨l1, rfl, ⟨_, SqL.of upd_same⟩, ?_⟩
    have l1p : l1 ≠ p := fun z => by rw [z, upd_same] at hl1; cases hl1
    refine for_lstG (xs := lst1.map V.str) (fun i σ H' => ∃ o2 o3 rs, σ = [some (.ref s0), some (.ref p), o2, o3] ∧ Same H H' ∧ H' l1 = some (.lst (lst1.map V.str)) ∧ RowsAt K H' p (lst1.take i) rs) ?_ ?_ ?_ ?_
    · exact ⟨_, _, [], rfl, (same_new hp).trans (same_new hl1), upd_same, ⟨_, (same_new hl1) _ _ upd_same, .nil⟩, .slnil, fun r hr => by cases hr⟩
    · rintro i σ H' _ ⟨_, _, _, _, _, z, _⟩
      exact SqL.of z
    · rintro i x σ H' hx ⟨o2, o3, rs, rfl, e, hl, hr⟩
      obtain ⟨y, hy, rfl⟩ : ∃ y, lst1[i]? = some y ∧ x = .str y := by
        rw [List.getElem?_map] at hx
        cases z : lst1[i]? with
        | none => rw [z] at hx; cases hx
        | some y => rw [z] at hx; exact ⟨y, rfl, (Option.some.inj hx).symm⟩
      rw [take_succ_get hy]
      have S' := hS.mono e
      have ny : y ∉ lst1.take i := fresh1 hy
      walk_at "go"
      intro v0 a0 a1
      walk_at "go"
      refine ite_d (fun c1 => ?_) (fun c1 => ?_)
      rotate_left
      · walk_at "go"
        exact ⟨_, _, rs, rfl, e, hl, hr.skip _⟩
      · walk_at "go"
        intro r n d H3 e3 hr3 ok3
        walk_at "go"
        refine ⟨by show 2 ≤ sizeLine; decide, fun q hq => ?_⟩
        have e4 := same_new (o := .lst [.non, .ref r]) hq
        have S4 := hS.mono (e.trans (e3.trans e4))
        have hr4 := hr.same (e3.trans e4)
        walk_at "go"
        intro v1 b0 b1
        obtain ⟨st, so, hi, hso, hro⟩ : ∃ st so, atI [.non, .ref r] v1 = some st ∧ OptV K (upd H3 q (.lst [.non, .ref r])) st so ∧ RatStart so := by
          rcases (by omega : v1 = 0 ∨ v1 = 1) with rfl | rfl
          · exact ⟨.non, none, rfl, rfl, .inl rfl⟩
          · exact ⟨.ref r, some (.rat n d), rfl, ⟨r, rfl, RatAt.keep hr3 (Same.keep e4)⟩, .inr ⟨_, _, rfl, ok3⟩⟩
        refine r_ixL (SqL.of upd_same) hi ?_
        walk_at "go"
        refine ite_nd (fun c2 => ?_) (fun c2 => ?_)
        · walk_at "go"
          intro v2 d0 d1
          walk_at "go"
          refine ⟨by show 6 ≤ sizeLine; decide, fun t ht => ?_⟩
          walk_at "go"
          refine rows_dput ⟨y, "state", false, none, so, decide (V.int v2 = V.int 0)⟩ hr4 ht (.state hro fun z => absurd z (opt_non hso c2)) rfl hso ny (Nat.le_trans (len_take i (by decide)) (by decide)) fun H6 ot hr6 => ?_
          exact ⟨_, _, _, rfl, ot.same (e.trans (e3.trans e4)) hp, ot _ _ l1p (e4 _ _ (e3 _ _ hl)), hr6⟩
        · walk_at "go"
          refine ⟨by show 6 ≤ sizeLine; decide, fun t ht => ?_⟩
          walk_at "go"
          refine rows_dput ⟨y, "state", false, none, so, false⟩ hr4 ht (.state hro fun _ => rfl) rfl hso ny (Nat.le_trans (len_take i (by decide)) (by decide)) fun H6 ot hr6 => ?_
          exact ⟨_, _, _, rfl, ot.same (e.trans (e3.trans e4)) hp, ot _ _ l1p (e4 _ _ (e3 _ _ hl)), hr6⟩
    · rintro σ H1 ⟨o2, o3, rs, rfl, e, _, hr⟩
      rw [show lst1.take (lst1.map V.str).length = lst1 from by decide +kernel] at hr
      walk_at "go"
      intro l2 hl2
      refine ⟨l2, rfl, ⟨_, SqL.of upd_same⟩, ?_⟩
      have l2p : l2 ≠ p := fun z => by
        obtain ⟨_, b, _⟩ := hr.ex
        rw [z, b] at hl2
        cases hl2
      refine for_lstG (xs := lst2.map V.str) (fun i σ H' => ∃ o2 o3 rs, σ = [some (.ref s0), some (.ref p), o2, o3] ∧ Same H H' ∧ H' l2 = some (.lst (lst2.map V.str)) ∧ RowsAt K H' p (lst1 ++ lst2.take i) rs) ?_ ?_ ?_ ?_
      · exact ⟨_, _, rs, rfl, e.trans (same_new hl2), upd_same, (hr.same (same_new hl2) : RowsAt K _ p lst1 rs)⟩
      · rintro i σ H' _ ⟨_, _, _, _, _, z, _⟩
        exact SqL.of z
      · rintro i x σ H' hx ⟨o2, o3, rs, rfl, e, hl, hr⟩
        obtain ⟨y, hy, rfl⟩ : ∃ y, lst2[i]? = some y ∧ x = .str y := by
          rw [List.getElem?_map] at hx
          cases z : lst2[i]? with
          | none => rw [z] at hx; cases hx
          | some y => rw [z] at hx; exact ⟨y, rfl, (Option.some.inj hx).symm⟩
        rw [take_succ_get hy, ← List.append_assoc]
        have S' := hS.mono e
        have ny : y ∉ lst1 ++ lst2.take i := fresh2 hy
        have nl : (lst1 ++ lst2.take i).length ≤ 10 := by
          have := len_take (l := lst2) i (by decide)
          rw [List.length_append]
          show 4 + _ ≤ 10
          omega
        walk_at "go"
        intro v0 a0 a1
        walk_at "go"
        refine ite_d (fun c1 => ?_) (fun c1 => ?_)
        rotate_left
        · walk_at "go"
          exact ⟨_, _, rs, rfl, e, hl, hr.skip _⟩
        · walk_at "go"
          intro r n d H3 e3 hr3 ok3
          walk_at "go"
          refine ⟨by show 2 ≤ sizeLine; decide, fun q hq => ?_⟩
          have e4 := same_new (o := .lst [.non, .ref r]) hq
          have S4 := hS.mono (e.trans (e3.trans e4))
          have hr4 := hr.same (e3.trans e4)
          walk_at "go"
          intro v1 b0 b1
          obtain ⟨st, so, hi, hso, hro⟩ : ∃ st so, atI [.non, .ref r] v1 = some st ∧ OptV K (upd H3 q (.lst [.non, .ref r])) st so ∧ RatStart so := by
            rcases (by omega : v1 = 0 ∨ v1 = 1) with rfl | rfl
            · exact ⟨.non, none, rfl, rfl, .inl rfl⟩
            · exact ⟨.ref r, some (.rat n d), rfl, ⟨r, rfl, RatAt.keep hr3 (Same.keep e4)⟩, .inr ⟨_, _, rfl, ok3⟩⟩
          refine r_ixL (SqL.of upd_same) hi ?_
          walk_at "go"
          refine ite_nd (fun c2 => ?_) (fun c2 => ?_)
          · walk_at "go"
            intro v2 d0 d1
            walk_at "go"
            refine ⟨by show 6 ≤ sizeLine; decide, fun t ht => ?_⟩
            walk_at "go"
            refine rows_dput ⟨y, "discrete", false, none, so, decide (V.int v2 = V.int 0)⟩ hr4 ht (.disc hro fun z => absurd z (opt_non hso c2)) rfl hso ny nl fun H6 ot hr6 => ?_
            exact ⟨_, _, _, rfl, ot.same (e.trans (e3.trans e4)) hp, ot _ _ l2p (e4 _ _ (e3 _ _ hl)), hr6⟩
          · walk_at "go"
            refine ⟨by show 6 ≤ sizeLine; decide, fun t ht => ?_⟩
            walk_at "go"
            refine rows_dput ⟨y, "discrete", false, none, so, false⟩ hr4 ht (.disc hro fun _ => rfl) rfl hso ny nl fun H6 ot hr6 => ?_
            exact ⟨_, _, _, rfl, ot.same (e.trans (e3.trans e4)) hp, ot _ _ l2p (e4 _ _ (e3 _ _ hl)), hr6⟩
      · rintro σ H2 ⟨o2, o3, rs, rfl, e, _, hr⟩
        rw [show lst2.take (lst2.map V.str).length = lst2 from by decide +kernel] at hr
        have S2 := hS.mono e
        clear hl1 hl2
        refine r_cut (fun σ H' => ∃ o2 o3 rs, σ = [some (.ref s0), some (.ref p), o2, o3] ∧ Same H H' ∧ RowsAt K H' p (lst1 ++ lst2 ++ [("b" : Str)]) rs) ?_ ?_
        · walk_at "go"
          intro v0 a0 a1
          walk_at "go"
          refine ite_d (fun c1 => ?_) (fun c1 => ?_)
          rotate_left
          · walk_at "go"
            exact ⟨_, _, rs, rfl, e, hr.skip _⟩
          · walk_at "go"
            intro q hq
            have e4 := same_new (o := .lst [.non, .bl true, .bl false]) hq
            have S4 := hS.mono (e.trans e4)
            have hr4 := hr.same e4
            walk_at "go"
            intro v1 b0 b1
            obtain ⟨st, so, hi, hso, hro⟩ : ∃ st so, atI [.non, .bl true, .bl false] v1 = some st ∧ OptV K (upd H2 q (.lst [.non, .bl true, .bl false])) st so ∧ (so = none ∨ ∃ b, so = some (.bl b)) := by
              rcases (by omega : v1 = 0 ∨ v1 = 1 ∨ v1 = 2) with rfl | rfl | rfl
              · exact ⟨.non, none, rfl, rfl, .inl rfl⟩
              · exact ⟨.bl true, some (.bl true), rfl, rfl, .inr ⟨_, rfl⟩⟩
              · exact ⟨.bl false, some (.bl false), rfl, rfl, .inr ⟨_, rfl⟩⟩
            refine r_ixL (SqL.of upd_same) hi ?_
            walk_at "go"
            refine ite_nd (fun c2 => ?_) (fun c2 => ?_)
            · walk_at "go"
              intro v2 d0 d1
              walk_at "go"
              refine ⟨by show 6 ≤ sizeLine; decide, fun t ht => ?_⟩
              walk_at "go"
              refine rows_dput ⟨"b", "discrete", true, none, so, decide (V.int v2 = V.int 0)⟩ hr4 ht (.discT hro fun z => absurd z (opt_non hso c2)) rfl hso fr_b (by decide) fun H6 ot hr6 => ?_
              exact ⟨_, _, _, rfl, ot.same (e.trans e4) hp, hr6⟩
            · walk_at "go"
              refine ⟨by show 6 ≤ sizeLine; decide, fun t ht => ?_⟩
              walk_at "go"
              refine rows_dput ⟨"b", "discrete", true, none, so, false⟩ hr4 ht (.discT hro fun _ => rfl) rfl hso fr_b (by decide) fun H6 ot hr6 => ?_
              exact ⟨_, _, _, rfl, ot.same (e.trans e4) hp, hr6⟩
        rintro σ H3 ⟨o2, o3, rs, rfl, e, hr⟩
        have S3 := hS.mono e
        refine r_cut (fun σ H' => ∃ o2 o3 rs, σ = [some (.ref s0), some (.ref p), o2, o3] ∧ Same H H' ∧ RowsAt K H' p (lst1 ++ lst2 ++ [("b" : Str)] ++ [("k" : Str)]) rs) ?_ ?_
        · walk_at "go"
          intro v0 a0 a1
          walk_at "go"
          refine ite_d (fun c1 => ?_) (fun c1 => ?_)
          rotate_left
          · walk_at "go"
            exact ⟨_, _, rs, rfl, e, hr.skip _⟩
          · walk_at "go"
            intro r n d H4 e4 hr4 ok4
            walk_at "go"
            refine ⟨by show 6 ≤ sizeLine; decide, fun t ht => ?_⟩
            walk_at "go"
            refine rows_dput ⟨"k", "parameter", false, some (.rat n d), none, false⟩ (hr.same e4) ht (.par ok4) ⟨r, rfl, hr4⟩ rfl fr_k (by decide) fun H6 ot hr6 => ?_
            exact ⟨_, _, _, rfl, ot.same (e.trans e4) hp, hr6⟩
        rintro σ H4 ⟨o2, o3, rs, rfl, e, hr⟩
        have S5 := hS.mono e
        refine r_cut (fun σ H' => ∃ o2 o3 rs, σ = [some (.ref s0), some (.ref p), o2, o3] ∧ Same H H' ∧ RowsAt K H' p (lst1 ++ lst2 ++ [("b" : Str)] ++ [("k" : Str)] ++ [("t" : Str)]) rs) ?_ ?_
        · walk_at "go"
          intro v0 a0 a1
          walk_at "go"
          refine ite_d (fun c1 => ?_) (fun c1 => ?_)
          rotate_left
          · walk_at "go"
            exact ⟨_, _, rs, rfl, e, hr.skip _⟩
          · walk_at "go"
            intro v1 b0 b1
            walk_at "go"
            refine ⟨by show 6 ≤ sizeLine; decide, fun t ht => ?_⟩
            walk_at "go"
            refine rows_dput ⟨"t", "parameter", true, some (.bl (decide (V.int v1 = V.int 0))), none, false⟩ hr ht (.parT _) rfl rfl fr_t (by decide) fun H6 ot hr6 => ?_
            exact ⟨_, _, _, rfl, ot.same e hp, hr6⟩
        rintro σ H5 ⟨o2, o3, rs, rfl, e, hr⟩
        have S6 := hS.mono e
        refine r_cut (fun σ H' => ∃ o2 o3 rs, σ = [some (.ref s0), some (.ref p), o2, o3] ∧ Same H H' ∧ RowsAt K H' p (lst1 ++ lst2 ++ [("b" : Str)] ++ [("k" : Str)] ++ [("t" : Str)] ++ [("u" : Str)]) rs) ?_ ?_
        · walk_at "go"
          intro v0 a0 a1
          walk_at "go"
          refine ite_d (fun c1 => ?_) (fun c1 => ?_)
          rotate_left
          · walk_at "go"
            exact ⟨_, _, rs, rfl, e, hr.skip _⟩
          · walk_at "go"
            intro t ht
            walk_at "go"
            refine rows_dput ⟨"u", "input", false, none, none, false⟩ hr ht .input rfl rfl fr_u (by decide) fun H6 ot hr6 => ?_
            exact ⟨_, _, _, rfl, ot.same e hp, hr6⟩
        rintro σ H6 ⟨o2, o3, rs, rfl, e, hr⟩
        walk_at "go"
        exact k p rs _ e hp hr
end
section
variable {σ : St} {H : Hp} {Q : VK} {tk tv : TE} {r : List (TE × TE)} {R : List (V × V) → Hp → Prop}
theorem r_disp {trs : List (TE × TE)} (h : ∀ p, H p = none → tPairs trs σ (upd H p (.dK [])) fun ps H2 => H2 p = some (.dK []) ∧ ∃ kvs : List (Key × V), ps = kvs.map (fun kv => (kV kv.1, kv.2)) ∧ kvs.length ≤ 15 ∧ Q (.ref p) (upd H2 p (.dK (mergeK [] kvs)))) : tDisp trs σ H Q := h
theorem r_pnil (h : R [] H) : tPairs [] σ H R := h
theorem r_pcons (h : tk σ H fun x H1 => tv σ H1 fun y H2 => tPairs r σ H2 fun ps H3 => R ((x, y) :: ps) H3) : tPairs ((tk, tv) :: r) σ H R := h
end
local macro_rules | `(tactic| walk_at "go1") => `(tactic| first | (with_reducible apply r_disp) | (with_reducible apply r_pnil) | (with_reducible apply r_pcons))
/-! ### a locked dict -/
theorem upd_comm {H : Hp} {a b : Addr} {o o' : HO} (h : a ≠ b) : upd (upd H a o) b o' = upd (upd H b o') a o := by
  funext c
  unfold upd
  by_cases h1 : c = a
  · by_cases h2 : c = b
    · exact absurd (h1.symm.trans h2) h
    · rw [if_neg h2, if_pos h1, if_pos h1]
  · by_cases h2 : c = b
    · rw [if_pos h2, if_neg h1, if_pos h2]
    · rw [if_neg h2, if_neg h1, if_neg h1, if_neg h2]
theorem ite_p {c A B : Prop} [Decidable c] (h : c) (x : A) : if c then A else B := by
  rw [if_pos h]
  exact x
theorem ite_n {c A B : Prop} [Decidable c] (h : ¬ c) (x : B) : if c then A else B := by
  rw [if_neg h]
  exact x
theorem atI2a {x y : V} : atI [x, y] 0 = some x := rfl
theorem atI2b {x y : V} : atI [x, y] 1 = some y := rfl
theorem lk_none {H : Hp} {p q : Addr} {F : HO} (h : upd H p F q = none) : q ≠ p ∧ H q = none := by
  by_cases z : q = p
  · rw [z, upd_same] at h
    cases h
  · rw [upd_ne z] at h
    exact ⟨z, h⟩
theorem SqT.lock {K : PySem.W.Frag} {H : Hp} {p t : Addr} {F : HO} {kvs : List (Key × V)} {xs : List V} (h : SqT K H t xs) (hp : H p = some (.dK kvs)) : SqT K (upd H p F) t xs := by
  rcases h with h | h
  · refine .inl ?_
    have ne : t ≠ p := fun z => by
      rw [z] at h
      rcases h with h | ⟨o, h⟩
      · rw [hp] at h; cases h
      · rw [hp] at h; cases h
    rcases h with h | ⟨o, h⟩
    · exact .inl (by rw [upd_ne ne]; exact h)
    · exact .inr ⟨o, by rw [upd_ne ne]; exact h⟩
  · exact .inr h
theorem dget_lk {H : Hp} {p : Addr} {od : Obj} {kvs : List (Key × V)} {x : Str} {v : V} (e : valV kvs (.inr x) = some v) : DGet (upd H p (.frz od (.dK kvs))) p (.str x) (some v) :=
  .inl ⟨kvs, .inr x, .inr ⟨od, upd_same⟩, rfl, e.symm⟩
/-- what a row's key finds -/
theorem valV_row {K : PySem.W.Frag} {H : Hp} : ∀ {kvs : List (Key × V)} {rs : List Row} {i : Nat} {k : Key} {v : V}, RowsK K H kvs rs → (rs.map Row.name).Nodup → kvs[i]? = some (k, v) → ∃ r, rs[i]? = some r ∧ k = .inr r.name ∧ RowV K H v r ∧ valV kvs (.inr r.name) = some v
  | _, _, _, _, _, .nil, _, h => by simp at h
  | _, _, 0, _, _, .cons (a := kv) (b := r) h t, _, e => by
    simp at e
    subst e
    exact ⟨r, rfl, h.1, h.2, valV_pos h.1⟩
  | _, _, i + 1, _, _, .cons (a := kv) (b := r) h t, nd, e => by
    rw [List.map_cons, List.nodup_cons] at nd
    obtain ⟨q, h1, h2, h3, h4⟩ := valV_row (i := i) t nd.2 (by simpa using e)
    refine ⟨q, by simpa using h1, h2, h3, ?_⟩
    have hm : q.name ∈ _ := List.mem_map_of_mem (f := Row.name) (List.mem_of_getElem? h1)
    have ne : ¬ kv.1 = .inr q.name := fun z => nd.1 (by rw [h.1] at z; rw [Sum.inr.inj z]; exact hm)
    rw [valV_neg ne]
    exact h4
theorem specL_nodup : specL.Nodup := by decide +kernel
theorem RowsAt.nodup {K : PySem.W.Frag} {H : Hp} {p : Addr} {rs : List Row} (h : RowsAt K H p specL rs) : (rs.map Row.name).Nodup := h.sub.nodup specL_nodup
/-- the law's table while it grows: by the turn -/
structure KnV (K : PySem.W.Frag) (H : Hp) (N : Str → Prop) (n a b c e : Addr) (i j : Nat) (vs ps ts us : List V) : Prop where
  dict : H n = some (.dK [(.inr "vars", .ref a), (.inr "pres", .ref b), (.inr "truths", .ref c), (.inr "tvars", .ref e)])
  la : H a = some (.lst vs)
  lb : H b = some (.lst ps)
  lc : H c = some (.lst ts)
  le : H e = some (.lst us)
  va : VarsV K H N vs
  vb : StrsV N ps
  vc : StrsV N ts
  ve : StrsV N us
  za : vs.length ≤ i
  zb : ps.length ≤ j
  zc : ts.length ≤ j
  ze : us.length ≤ i
theorem kne1 : ¬ ((.inr "vars" : Key) = .inr "pres") := by decide +kernel
theorem kne2 : ¬ ((.inr "vars" : Key) = .inr "truths") := by decide +kernel
theorem kne3 : ¬ ((.inr "pres" : Key) = .inr "truths") := by decide +kernel
theorem kne4 : ¬ ((.inr "vars" : Key) = .inr "tvars") := by decide +kernel
theorem kne5 : ¬ ((.inr "pres" : Key) = .inr "tvars") := by decide +kernel
theorem kne6 : ¬ ((.inr "truths" : Key) = .inr "tvars") := by decide +kernel
theorem kn1 {v1 v2 v3 v4 : V} : valV [((.inr "vars" : Key), v1), (.inr "pres", v2), (.inr "truths", v3), (.inr "tvars", v4)] (.inr "vars") = some v1 := valV_pos rfl
theorem kn2 {v1 v2 v3 v4 : V} : valV [((.inr "vars" : Key), v1), (.inr "pres", v2), (.inr "truths", v3), (.inr "tvars", v4)] (.inr "pres") = some v2 := by
  rw [valV_neg kne1]; exact valV_pos rfl
theorem kn3 {v1 v2 v3 v4 : V} : valV [((.inr "vars" : Key), v1), (.inr "pres", v2), (.inr "truths", v3), (.inr "tvars", v4)] (.inr "truths") = some v3 := by
  rw [valV_neg kne2, valV_neg kne3]; exact valV_pos rfl
theorem kn4 {v1 v2 v3 v4 : V} : valV [((.inr "vars" : Key), v1), (.inr "pres", v2), (.inr "truths", v3), (.inr "tvars", v4)] (.inr "tvars") = some v4 := by
  rw [valV_neg kne4, valV_neg kne5, valV_neg kne6]; exact valV_pos rfl
theorem merge_nodup : ∀ (more acc : List (Key × V)), (more.map (·.1)).Nodup → (∀ k ∈ more.map (·.1), valV acc k = none) → mergeK acc more = acc ++ more
  | [], acc, _, _ => (List.append_nil acc).symm
  | (k, v) :: r, acc, nd, hn => by
    rw [List.map_cons, List.nodup_cons] at nd
    show mergeK (putK acc k v) r = _
    have h0 : valV acc k = none := hn k List.mem_cons_self
    rw [putK_new v h0, merge_nodup r _ nd.2 fun j hj => ?_, List.append_assoc]
    · rfl
    · rw [valV_snoc k j v acc h0, if_neg fun z => nd.1 (by rw [← z]; exact hj)]
      exact hn j (List.mem_cons_of_mem _ hj)
theorem merge4 {v1 v2 v3 v4 : V} : mergeK [] [((.inr "vars" : Key), v1), (.inr "pres", v2), (.inr "truths", v3), (.inr "tvars", v4)] = [((.inr "vars" : Key), v1), (.inr "pres", v2), (.inr "truths", v3), (.inr "tvars", v4)] :=
  merge_nodup _ _ (show ([.inr "vars", .inr "pres", .inr "truths", .inr "tvars"] : List Key).Nodup by decide +kernel) fun _ _ => rfl
theorem KnV.names {K : PySem.W.Frag} {H : Hp} {N : Str → Prop} {n a b c e : Addr} {i j : Nat} {vs ps ts us : List V} (h : KnV K H N n a b c e i j vs ps ts us) (hi : i ≤ 100) (hj : j ≤ 100) : Names K H N n :=
  ⟨_, a, b, c, e, vs, ps, ts, us, h.dict, kn1, kn2, kn3, kn4, h.la, h.lb, h.lc, h.le, h.va, h.vb, h.vc, h.ve, Nat.le_trans h.za hi, Nat.le_trans h.zb hj, Nat.le_trans h.zc hj, Nat.le_trans h.ze hi⟩
theorem VarsV.keep {K : PySem.W.Frag} {H H' : Hp} {N : Str → Prop} {vs : List V} (k : Keep H H') (h : VarsV K H N vs) : VarsV K H' N vs := fun v hv => by
  obtain ⟨t, x, o, e, q, r⟩ := h v hv
  exact ⟨t, x, o, e, SqT.keep q k, r⟩
theorem strsV_add {N : Str → Prop} {vs : List V} {x : Str} (h : StrsV N vs) (hx : N x) : StrsV N (vs ++ [.str x]) := fun v hv => by
  rcases List.mem_append.mp hv with z | z
  · exact h v z
  · rw [List.mem_singleton.mp z]
    exact ⟨x, rfl, hx⟩
theorem len1 {α : Type} {l : List α} {x : α} {i : Nat} (h : l.length ≤ i) : (l ++ [x]).length ≤ i + 1 := by
  rw [List.length_append, List.length_singleton]
  omega
/-- its five addresses differ -/
structure Five (n a b c e : Addr) : Prop where
  na : n ≠ a
  nb : n ≠ b
  nc : n ≠ c
  ne : n ≠ e
  ab : a ≠ b
  ac : a ≠ c
  ae : a ≠ e
  bc : b ≠ c
  be : b ≠ e
  ce : c ≠ e
section
variable {K : PySem.W.Frag} {H : Hp} {N : Str → Prop} {n a b c e : Addr} {i j : Nat} {vs ps ts us : List V}
theorem KnV.addA (f : Five n a b c e) (h : KnV K H N n a b c e i j vs ps ts us) {t : Addr} {x : Str} {o : Int} (ht : SqT K H t [.str x, .int o]) (hx : N x) (h0 : 0 ≤ o) (h4 : o ≤ 4) : KnV K (upd H a (.lst (vs ++ [.ref t]))) N n a b c e (i + 1) j (vs ++ [.ref t]) ps ts us where
  dict := by rw [upd_ne f.na]; exact h.dict
  la := upd_same
  lb := by rw [upd_ne f.ab.symm]; exact h.lb
  lc := by rw [upd_ne f.ac.symm]; exact h.lc
  le := by rw [upd_ne f.ae.symm]; exact h.le
  va := fun v hv => by
    have kk : Keep H (upd H a (.lst (vs ++ [.ref t]))) := keep_upd h.la rfl
    rcases List.mem_append.mp hv with z | z
    · exact VarsV.keep kk h.va v z
    · rw [List.mem_singleton.mp z]
      exact ⟨t, x, o, rfl, SqT.keep ht kk, hx, h0, h4⟩
  vb := h.vb
  vc := h.vc
  ve := h.ve
  za := len1 h.za
  zb := h.zb
  zc := h.zc
  ze := Nat.le_succ_of_le h.ze
theorem KnV.addE (f : Five n a b c e) (h : KnV K H N n a b c e i j vs ps ts us) {x : Str} (hx : N x) : KnV K (upd H e (.lst (us ++ [.str x]))) N n a b c e (i + 1) j vs ps ts (us ++ [.str x]) where
  dict := by rw [upd_ne f.ne]; exact h.dict
  la := by rw [upd_ne f.ae]; exact h.la
  lb := by rw [upd_ne f.be]; exact h.lb
  lc := by rw [upd_ne f.ce]; exact h.lc
  le := upd_same
  va := VarsV.keep (keep_upd h.le rfl) h.va
  vb := h.vb
  vc := h.vc
  ve := strsV_add h.ve hx
  za := Nat.le_succ_of_le h.za
  zb := h.zb
  zc := h.zc
  ze := len1 h.ze
theorem KnV.addB (f : Five n a b c e) (h : KnV K H N n a b c e i j vs ps ts us) {x : Str} (hx : N x) : KnV K (upd H b (.lst (ps ++ [.str x]))) N n a b c e i (j + 1) vs (ps ++ [.str x]) ts us where
  dict := by rw [upd_ne f.nb]; exact h.dict
  la := by rw [upd_ne f.ab]; exact h.la
  lb := upd_same
  lc := by rw [upd_ne f.bc.symm]; exact h.lc
  le := by rw [upd_ne f.be.symm]; exact h.le
  va := VarsV.keep (keep_upd h.lb rfl) h.va
  vb := strsV_add h.vb hx
  vc := h.vc
  ve := h.ve
  za := h.za
  zb := len1 h.zb
  zc := Nat.le_succ_of_le h.zc
  ze := h.ze
theorem KnV.addC (f : Five n a b c e) (h : KnV K H N n a b c e i j vs ps ts us) {x : Str} (hx : N x) : KnV K (upd H c (.lst (ts ++ [.str x]))) N n a b c e i (j + 1) vs ps (ts ++ [.str x]) us where
  dict := by rw [upd_ne f.nc]; exact h.dict
  la := by rw [upd_ne f.ac]; exact h.la
  lb := by rw [upd_ne f.bc]; exact h.lb
  lc := upd_same
  le := by rw [upd_ne f.ce.symm]; exact h.le
  va := VarsV.keep (keep_upd h.lc rfl) h.va
  vb := h.vb
  vc := strsV_add h.vc hx
  ve := h.ve
  za := h.za
  zb := Nat.le_succ_of_le h.zb
  zc := len1 h.zc
  ze := h.ze
theorem KnV.skip (h : KnV K H N n a b c e i j vs ps ts us) : KnV K H N n a b c e i (j + 1) vs ps ts us where
  dict := h.dict
  la := h.la
  lb := h.lb
  lc := h.lc
  le := h.le
  va := h.va
  vb := h.vb
  vc := h.vc
  ve := h.ve
  za := h.za
  zb := Nat.le_succ_of_le h.zb
  zc := Nat.le_succ_of_le h.zc
  ze := h.ze
theorem KnV.same {H' : Hp} (s : Same H H') (h : KnV K H N n a b c e i j vs ps ts us) : KnV K H' N n a b c e i j vs ps ts us where
  dict := s _ _ h.dict
  la := s _ _ h.la
  lb := s _ _ h.lb
  lc := s _ _ h.lc
  le := s _ _ h.le
  va := VarsV.keep (Same.keep s) h.va
  vb := h.vb
  vc := h.vc
  ve := h.ve
  za := h.za
  zb := h.zb
  zc := h.zc
  ze := h.ze
end
theorem same_lst {H H' : Hp} {a : Addr} {o : HO} (e : Same H H') (h : H a = none) : Same H (upd H' a o) := same_upd e h
section
variable {P : Program} {w : World} {K : PySem.W.Frag} {mg : Str → Option Value} {base : Heap}
def spKnown (K : PySem.W.Frag) : Sp := fun vs H Q _ => ∃ (p : Addr) (rs : List Row), vs = [.ref p] ∧ RowsAt K H p specL rs ∧ ∀ n H', Same H H' → Names K H' (fun x => x ∈ rs.map Row.name) n → Q (.ref n) H'
theorem ok__law_known (T : Top w K mg) : FnOk P w K mg base CX0 1 (He.ga K ("_law_known" : Str)) (fdOf K d__law_known) ["rows"] (spKnown K) := by
  refine (T.f__law_known).ok sc__law_known (fun vs H Q E h => ?_) (fun cdv A outer s H vs Q E hr h => ?_)
  · obtain ⟨p, rs, rfl, _⟩ := h
    rfl
  · obtain ⟨p, rs, rfl, hR, k⟩ := h
    refine ⟨_, PSs.nox (pss_cons (ps_set (i := 1) sc__law_known.nd rfl (Or.inl rfl) (pe_disp (pps_cons pe_str (pe_lst pa_nil) (pps_cons pe_str (pe_lst pa_nil) (pps_cons pe_str (pe_lst pa_nil) (pps_cons pe_str (pe_lst pa_nil) pps_nil)))) rfl rfl (List.cons_ne_nil _ _) (by decide)))
    (pss_cons (ps_lock (ps_for PassesOwn.never rfl (pi_keys (pv 0)) (pg_name (i := 2) sc__law_known.nd rfl (Or.inl rfl))
    (pss_cons (ps_set (i := 3) sc__law_known.nd rfl (Or.inl rfl) (pe_dget (hu_of hr) (pv 0) (pv 2) (fun _ _ => rfl)))
    (C8.pss_cut (ps_if (pt_not (pt_val (pe_ix (ix_tupK (K := K) rfl) (pv 3) pe_int (fun _ _ => rfl))))
    (pss_one (ps_expr (pe_bm PySem.F.plainAttrs_list PySem.F.slot_list_append PySem.F.type_list_append mt_append (pe_dget (hu_of hr) (pv 1) pe_str (fun _ _ => rfl)) (pa_cons (pe_tup (pa_cons (pv 2) (pa_cons (pe_ix (ix_listK (K := K) rfl) (pe_lst (pa_cons pe_int (pa_cons pe_int pa_nil))) (pe_callTy call_int1 (by rfl) T.n_int (by decide +kernel) (pa_cons (pe_or (pe_cmpR op_eq (pe_ix (ix_tupK (K := K) rfl) (pv 3) pe_int (fun _ _ => rfl)) pe_str (nomark _)) (pe_one (pe_cmpR op_eq (pe_ix (ix_tupK (K := K) rfl) (pv 3) pe_int (fun _ _ => rfl)) pe_str (nomark _)))) pa_nil)) (fun _ _ => rfl)) pa_nil))) pa_nil))))
    (pss_one (ps_expr (pe_bm PySem.F.plainAttrs_list PySem.F.slot_list_append PySem.F.type_list_append mt_append (pe_dget (hu_of hr) (pv 1) pe_str (fun _ _ => rfl)) (pa_cons (pv 2) pa_nil)))))
    (pss_one (ps_if (PW.pt (pw_or (pt_cmpR op_eq (pe_ix (ix_tupK (K := K) rfl) (pv 3) pe_int (fun _ _ => rfl)) pe_str (nomark _)) (pw_or1 (pt_cmpR op_eq (pe_ix (ix_tupK (K := K) rfl) (pv 3) pe_int (fun _ _ => rfl)) pe_str (nomark _)))))
    (pss_one (ps_expr (pe_bm PySem.F.plainAttrs_list PySem.F.slot_list_append PySem.F.type_list_append mt_append (pe_dget (hu_of hr) (pv 1) (pe_ix (ix_listK (K := K) rfl) (pe_lst (pa_cons pe_str (pa_cons pe_str pa_nil))) (pe_callTy call_int1 (by rfl) T.n_int (by decide +kernel) (pa_cons (pe_ix (ix_tupK (K := K) rfl) (pv 3) pe_int (fun _ _ => rfl)) pa_nil)) (fun _ _ => rfl)) (fun _ _ => rfl)) (pa_cons (pv 2) pa_nil))))
    pss_nil))))))
    (pss_one (ps_ret (pv 1))))), ?_⟩
    obtain ⟨kvs, hk, hkv⟩ := hR.ex
    walk_at "go"
    intro n hn
    walk_at "go"
    intro a ha
    walk_at "go"
    intro b hb
    walk_at "go"
    intro c hc
    walk_at "go"
    intro e he
    walk_at "go"
    obtain ⟨an, ha⟩ := lk_none ha
    obtain ⟨ba, hb⟩ := lk_none hb
    obtain ⟨bn, hb⟩ := lk_none hb
    obtain ⟨cb, hc⟩ := lk_none hc
    obtain ⟨ca, hc⟩ := lk_none hc
    obtain ⟨cn, hc⟩ := lk_none hc
    obtain ⟨ec, he⟩ := lk_none he
    obtain ⟨eb, he⟩ := lk_none he
    obtain ⟨ea, he⟩ := lk_none he
    obtain ⟨en, he⟩ := lk_none he
    have fv : Five n a b c e := ⟨an.symm, bn.symm, cn.symm, en.symm, ba.symm, ca.symm, ea.symm, cb.symm, eb.symm, ec.symm⟩
    refine ⟨by rw [upd_ne fv.ne, upd_ne fv.nc, upd_ne fv.nb, upd_ne fv.na]; exact upd_same, [(.inr "vars", .ref a), (.inr "pres", .ref b), (.inr "truths", .ref c), (.inr "tvars", .ref e)], rfl, (by show 4 ≤ 15; decide), ?_⟩
    rw [merge4]
    have k0 : KnV K (upd (upd (upd (upd (upd (upd H n (.dK [])) a (.lst [])) b (.lst [])) c (.lst [])) e (.lst [])) n (.dK [(.inr "vars", .ref a), (.inr "pres", .ref b), (.inr "truths", .ref c), (.inr "tvars", .ref e)])) (fun x => x ∈ rs.map Row.name) n a b c e 0 0 [] [] [] [] := {
      dict := upd_same
      la := by rw [upd_ne fv.na.symm, upd_ne fv.ae, upd_ne fv.ac, upd_ne fv.ab]; exact upd_same
      lb := by rw [upd_ne fv.nb.symm, upd_ne fv.be, upd_ne fv.bc]; exact upd_same
      lc := by rw [upd_ne fv.nc.symm, upd_ne fv.ce]; exact upd_same
      le := by rw [upd_ne fv.ne.symm]; exact upd_same
      va := fun v h => by cases h
      vb := fun v h => by cases h
      vc := fun v h => by cases h
      ve := fun v h => by cases h
      za := Nat.le_refl _
      zb := Nat.le_refl _
      zc := Nat.le_refl _
      ze := Nat.le_refl _ }
    have s0 : Same H (upd (upd (upd (upd (upd (upd H n (.dK [])) a (.lst [])) b (.lst [])) c (.lst [])) e (.lst [])) n (.dK [(.inr "vars", .ref a), (.inr "pres", .ref b), (.inr "truths", .ref c), (.inr "tvars", .ref e)])) :=
      same_upd (same_upd (same_upd (same_upd (same_upd (same_new hn) ha) hb) hc) he) hn
    revert s0 k0
    generalize upd (upd (upd (upd (upd (upd H n (.dK [])) a (.lst [])) b (.lst [])) c (.lst [])) e (.lst [])) n (.dK [(.inr "vars", .ref a), (.inr "pres", .ref b), (.inr "truths", .ref c), (.inr "tvars", .ref e)]) = H1
    intro k0 s0
    have pn : n ≠ p := fun z => by rw [z, hk] at hn; cases hn
    have pa : a ≠ p := fun z => by rw [z, hk] at ha; cases ha
    have pb : b ≠ p := fun z => by rw [z, hk] at hb; cases hb
    have pc : c ≠ p := fun z => by rw [z, hk] at hc; cases hc
    have pe : e ≠ p := fun z => by rw [z, hk] at he; cases he
    have hl : kvs.length ≤ 10 := hR.len hk
    walk_at "go"
    refine ⟨p, _, s0 _ _ hk, trivial, fun od => ?_⟩
    walk_at "go"
    refine ⟨p, od, rfl, .inl ⟨kvs, upd_same, ?_⟩⟩
    refine for_it (walk_keys (kvs := kvs)) (fun i σ H' => ∃ o2 o3 Hu vs ps ts us, σ = [some (.ref p), some (.ref n), o2, o3] ∧ H' = upd Hu p (.frz od (.dK kvs)) ∧ Same H Hu ∧ KnV K Hu (fun x => x ∈ rs.map Row.name) n a b c e i i vs ps ts us) ?_ ?_ ?_ ?_
    · exact ⟨_, _, H1, [], [], [], [], rfl, rfl, s0, k0⟩
    · rintro i σ H' _ ⟨_, _, Hu, _, _, _, _, _, rfl, _⟩
      exact upd_same
    · rintro i x σ H' H2 hi ⟨o2, o3, Hu, vs, ps, ts, us, rfl, rfl, e1, kn⟩ ⟨rfl, ky, v, hx, rfl⟩
      obtain ⟨r, hr, rfl, ⟨t, va, st, rfl, ht, _, _⟩, hv⟩ := valV_row hkv hR.nodup hx
      have hp1 : Hu p = some (.dK kvs) := e1 _ _ hk
      have ht2 := SqT.lock (F := .frz od (.dK kvs)) (SqT.same ht e1) hp1
      have hN : r.name ∈ rs.map Row.name := List.mem_map_of_mem (f := Row.name) (List.mem_of_getElem? hr)
      walk_at "go"
      refine ⟨p, _, rfl, dget_lk hv, ?_⟩
      walk_at "go"
      refine r_cut (fun σ H' => ∃ Hu vs ps ts us, σ = [some (.ref p), some (.ref n), some (.str r.name), some (.ref t)] ∧ H' = upd Hu p (.frz od (.dK kvs)) ∧ Same H Hu ∧ KnV K Hu (fun x => x ∈ rs.map Row.name) n a b c e (i + 1) i vs ps ts us) ?_ ?_
      · have gv := dget_k (H := upd Hu p (.frz od (.dK kvs))) (by rw [upd_ne pn]; exact kn.dict) kn1
        have gt := dget_k (H := upd Hu p (.frz od (.dK kvs))) (by rw [upd_ne pn]; exact kn.dict) kn4
        walk_at "go"
        refine r_ixT ht2 rfl ?_
        walk_at "go"
        cases hrt : r.truth with
        | true =>
          refine ite_n (by decide) ?_
          walk_at "go"
          have ge : upd Hu p (.frz od (.dK kvs)) e = some (.lst us) := by rw [upd_ne pe]; exact kn.le
          refine And.intro (.inl ⟨rfl, _, SqL.of ge⟩) ?_
          walk_at "go"
          refine ⟨e, us, _, rfl, rfl, ge, Nat.lt_of_le_of_lt kn.ze (by rw [sizeLine_eq]; omega), ?_⟩
          walk_at "go"
          refine ⟨_, vs, ps, ts, _, rfl, (upd_comm pe.symm), same_upd e1 he, kn.addE fv hN⟩
        | false =>
          refine ite_p (by decide) ?_
          walk_at "go"
          have ga : upd Hu p (.frz od (.dK kvs)) a = some (.lst vs) := by rw [upd_ne pa]; exact kn.la
          refine And.intro (.inl ⟨rfl, _, SqL.of ga⟩) ?_
          walk_at "go"
          intro l hl
          obtain ⟨lp, hl'⟩ := lk_none hl
          have s1 := same_new (o := .lst [.int 0, .int 3]) hl'
          rw [upd_comm (Ne.symm lp)]
          have kn1' := kn.same s1
          have hp2 := s1 _ _ hp1
          have ht3 := SqT.lock (F := .frz od (.dK kvs)) (SqT.same ht (e1.trans s1)) hp2
          have gl : SqL K (upd (upd Hu l (.lst [.int 0, .int 3])) p (.frz od (.dK kvs))) l [.int 0, .int 3] := SqL.of (by rw [upd_ne lp]; exact upd_same)
          have ga2 : upd (upd Hu l (.lst [.int 0, .int 3])) p (.frz od (.dK kvs)) a = some (.lst vs) := by rw [upd_ne pa]; exact kn1'.la
          have hla : H l = none := by
            cases z : H l with
            | none => rfl
            | some u => rw [e1 _ _ z] at hl'; cases hl'
          walk_at "go"
          refine r_ixT ht3 rfl ?_
          walk_at "go"
          refine ite_d (fun c1 => ?_) (fun c1 => ?_)
          · walk_at "go"
            refine .inr ⟨_, rfl, ?_⟩
            refine r_ixL gl (atI2b (x := .int 0) (y := .int 3)) ?_
            walk_at "go"
            refine ⟨by show 2 ≤ sizeLine; decide, fun q hq => ?_⟩
            obtain ⟨qp, hq'⟩ := lk_none hq
            rw [upd_comm (Ne.symm qp)]
            have s2 := s1.trans (same_new (o := .tup [.str r.name, .int 3]) hq')
            walk_at "go"
            refine ⟨a, vs, _, rfl, rfl, (by rw [upd_ne pa]; exact (kn.same s2).la), Nat.lt_of_le_of_lt kn.za (by rw [sizeLine_eq]; omega), ?_⟩
            walk_at "go"
            exact ⟨_, _, ps, ts, us, rfl, upd_comm pa.symm, same_upd (e1.trans s2) ha, (kn.same s2).addA fv (SqT.of upd_same) hN (by omega) (by omega)⟩
          · walk_at "go"
            refine r_ixT ht3 rfl ?_
            walk_at "go"
            refine .inr ⟨_, rfl, ?_⟩
            by_cases c2 : V.str r.kind = V.str "input"
            · rw [decide_eq_true c2]
              refine r_ixL gl (atI2b (x := .int 0) (y := .int 3)) ?_
              walk_at "go"
              refine ⟨by show 2 ≤ sizeLine; decide, fun q hq => ?_⟩
              obtain ⟨qp, hq'⟩ := lk_none hq
              rw [upd_comm (Ne.symm qp)]
              have s2 := s1.trans (same_new (o := .tup [.str r.name, .int 3]) hq')
              walk_at "go"
              refine ⟨a, vs, _, rfl, rfl, (by rw [upd_ne pa]; exact (kn.same s2).la), Nat.lt_of_le_of_lt kn.za (by rw [sizeLine_eq]; omega), ?_⟩
              walk_at "go"
              exact ⟨_, _, ps, ts, us, rfl, upd_comm pa.symm, same_upd (e1.trans s2) ha, (kn.same s2).addA fv (SqT.of upd_same) hN (by omega) (by omega)⟩
            · rw [decide_eq_false c2]
              refine r_ixL gl (atI2a (x := .int 0) (y := .int 3)) ?_
              walk_at "go"
              refine ⟨by show 2 ≤ sizeLine; decide, fun q hq => ?_⟩
              obtain ⟨qp, hq'⟩ := lk_none hq
              rw [upd_comm (Ne.symm qp)]
              have s2 := s1.trans (same_new (o := .tup [.str r.name, .int 0]) hq')
              walk_at "go"
              refine ⟨a, vs, _, rfl, rfl, (by rw [upd_ne pa]; exact (kn.same s2).la), Nat.lt_of_le_of_lt kn.za (by rw [sizeLine_eq]; omega), ?_⟩
              walk_at "go"
              exact ⟨_, _, ps, ts, us, rfl, upd_comm pa.symm, same_upd (e1.trans s2) ha, (kn.same s2).addA fv (SqT.of upd_same) hN (by omega) (by omega)⟩
      · rintro σ H' ⟨Hu, vs, ps, ts, us, rfl, rfl, e1, kn⟩
        have hp1 : Hu p = some (.dK kvs) := e1 _ _ hk
        have ht2 := SqT.lock (F := .frz od (.dK kvs)) (SqT.same ht e1) hp1
        walk_at "go"
        refine r_ixT ht2 rfl ?_
        walk_at "go"
        refine ite_d (fun c1 => iteT ?_) (fun c1 => ?_)
        · walk_at "go"
          intro l hl
          obtain ⟨lp, hl'⟩ := lk_none hl
          have s1 := same_new (o := .lst [.str "pres", .str "truths"]) hl'
          rw [upd_comm (Ne.symm lp)]
          have kn1' := kn.same s1
          have hp2 := s1 _ _ hp1
          have ht3 := SqT.lock (F := .frz od (.dK kvs)) (SqT.same ht (e1.trans s1)) hp2
          have gl : SqL K (upd (upd Hu l (.lst [.str "pres", .str "truths"])) p (.frz od (.dK kvs))) l [.str "pres", .str "truths"] := SqL.of (by rw [upd_ne lp]; exact upd_same)
          have gp := dget_k (H := upd (upd Hu l (.lst [.str "pres", .str "truths"])) p (.frz od (.dK kvs))) (by rw [upd_ne pn]; exact kn1'.dict) kn2
          have gt := dget_k (H := upd (upd Hu l (.lst [.str "pres", .str "truths"])) p (.frz od (.dK kvs))) (by rw [upd_ne pn]; exact kn1'.dict) kn3
          have lb2 : upd (upd Hu l (.lst [.str "pres", .str "truths"])) p (.frz od (.dK kvs)) b = some (.lst ps) := by rw [upd_ne pb]; exact kn1'.lb
          have lc2 : upd (upd Hu l (.lst [.str "pres", .str "truths"])) p (.frz od (.dK kvs)) c = some (.lst ts) := by rw [upd_ne pc]; exact kn1'.lc
          walk_at "go"
          refine r_ixT ht3 rfl ?_
          walk_at "go"
          refine .inr ⟨_, rfl, ?_⟩
          cases hrt : r.truth with
          | false =>
            refine r_ixL gl (atI2a (x := .str "pres") (y := .str "truths")) ?_
            walk_at "go"
            refine And.intro (.inl ⟨rfl, _, SqL.of lb2⟩) ?_
            walk_at "go"
            refine ⟨b, ps, _, rfl, rfl, lb2, Nat.lt_of_le_of_lt kn.zb (by rw [sizeLine_eq]; omega), ?_⟩
            walk_at "go"
            exact ⟨_, _, _, vs, _, ts, us, rfl, upd_comm pb.symm, same_upd (e1.trans s1) hb, kn1'.addB fv hN⟩
          | true =>
            refine r_ixL gl (atI2b (x := .str "pres") (y := .str "truths")) ?_
            walk_at "go"
            refine And.intro (.inl ⟨rfl, _, SqL.of lc2⟩) ?_
            walk_at "go"
            refine ⟨c, ts, _, rfl, rfl, lc2, Nat.lt_of_le_of_lt kn.zc (by rw [sizeLine_eq]; omega), ?_⟩
            walk_at "go"
            exact ⟨_, _, _, vs, ps, _, us, rfl, upd_comm pc.symm, same_upd (e1.trans s1) hc, kn1'.addC fv hN⟩
        · walk_at "go"
          refine r_ixT ht2 rfl ?_
          walk_at "go"
          refine ite_d (fun c2 => ?_) (fun c2 => ?_)
          · walk_at "go"
            intro l hl
            obtain ⟨lp, hl'⟩ := lk_none hl
            have s1 := same_new (o := .lst [.str "pres", .str "truths"]) hl'
            rw [upd_comm (Ne.symm lp)]
            have kn1' := kn.same s1
            have hp2 := s1 _ _ hp1
            have ht3 := SqT.lock (F := .frz od (.dK kvs)) (SqT.same ht (e1.trans s1)) hp2
            have gl : SqL K (upd (upd Hu l (.lst [.str "pres", .str "truths"])) p (.frz od (.dK kvs))) l [.str "pres", .str "truths"] := SqL.of (by rw [upd_ne lp]; exact upd_same)
            have gp := dget_k (H := upd (upd Hu l (.lst [.str "pres", .str "truths"])) p (.frz od (.dK kvs))) (by rw [upd_ne pn]; exact kn1'.dict) kn2
            have gt := dget_k (H := upd (upd Hu l (.lst [.str "pres", .str "truths"])) p (.frz od (.dK kvs))) (by rw [upd_ne pn]; exact kn1'.dict) kn3
            have lb2 : upd (upd Hu l (.lst [.str "pres", .str "truths"])) p (.frz od (.dK kvs)) b = some (.lst ps) := by rw [upd_ne pb]; exact kn1'.lb
            have lc2 : upd (upd Hu l (.lst [.str "pres", .str "truths"])) p (.frz od (.dK kvs)) c = some (.lst ts) := by rw [upd_ne pc]; exact kn1'.lc
            walk_at "go"
            refine r_ixT ht3 rfl ?_
            walk_at "go"
            refine .inr ⟨_, rfl, ?_⟩
            cases hrt : r.truth with
            | false =>
              refine r_ixL gl (atI2a (x := .str "pres") (y := .str "truths")) ?_
              walk_at "go"
              refine And.intro (.inl ⟨rfl, _, SqL.of lb2⟩) ?_
              walk_at "go"
              refine ⟨b, ps, _, rfl, rfl, lb2, Nat.lt_of_le_of_lt kn.zb (by rw [sizeLine_eq]; omega), ?_⟩
              walk_at "go"
              exact ⟨_, _, _, vs, _, ts, us, rfl, upd_comm pb.symm, same_upd (e1.trans s1) hb, kn1'.addB fv hN⟩
            | true =>
              refine r_ixL gl (atI2b (x := .str "pres") (y := .str "truths")) ?_
              walk_at "go"
              refine And.intro (.inl ⟨rfl, _, SqL.of lc2⟩) ?_
              walk_at "go"
              refine ⟨c, ts, _, rfl, rfl, lc2, Nat.lt_of_le_of_lt kn.zc (by rw [sizeLine_eq]; omega), ?_⟩
              walk_at "go"
              exact ⟨_, _, _, vs, ps, _, us, rfl, upd_comm pc.symm, same_upd (e1.trans s1) hc, kn1'.addC fv hN⟩
          · walk_at "go"
            exact ⟨_, _, Hu, vs, ps, ts, us, rfl, rfl, e1, kn.skip⟩
    · rintro σ H' ⟨o2, o3, Hu, vs, ps, ts, us, rfl, rfl, e1, kn⟩
      refine ⟨upd_same, ?_⟩
      rw [upd_back (e1 _ _ hk)]
      walk_at "go"
      exact k n _ e1 (kn.names (by omega) (by omega))
end
inductive ActV (K : PySem.W.Frag) (H : Hp) (N : Str → Prop) (v : V) : Str → Prop
  | mk {t : Addr} {wd x : Str} {u : V} {e : Ex} : v = .ref t → SqT K H t [.str wd, .str x, u] → N x → ExV K H u e → ExOk N 3 e → ActV K H N v wd
theorem ite_a {c A B : Prop} [Decidable c] (h1 : c → A) (h2 : ¬ c → B) : if c then A else B := by
  by_cases z : c
  · rw [if_pos z]; exact h1 z
  · rw [if_neg z]; exact h2 z
theorem rows_find {K : PySem.W.Frag} {H : Hp} {kvs : List (Key × V)} {rs : List Row} {x : Str} (h : RowsK K H kvs rs) (nd : (rs.map Row.name).Nodup) (hx : x ∈ rs.map Row.name) :
    ∃ r t va st, r ∈ rs ∧ r.name = x ∧ valV kvs (.inr x) = some (.ref t) ∧ SqT K H t [.str r.name, .str r.kind, .bl r.truth, va, st, .bl r.fixed] ∧ OptV K H va r.value ∧ OptV K H st r.start := by
  obtain ⟨r, hr, rfl⟩ := List.mem_map.mp hx
  obtain ⟨i, hi⟩ := List.mem_iff_getElem?.mp hr
  have li : i < kvs.length := by rw [Paired.length h]; exact (List.getElem?_eq_some_iff.mp hi).1
  obtain ⟨r', h1, h2, ⟨t, va, st, h3, h4, h5, h6⟩, h7⟩ := valV_row (i := i) (k := kvs[i].1) (v := kvs[i].2) h nd (List.getElem?_eq_getElem li)
  rw [hi] at h1
  cases h1
  exact ⟨r, t, va, st, hr, rfl, by rw [← h3]; exact h7, h4, h5, h6⟩
section
variable {P : Program} {w : World} {K : PySem.W.Frag} {mg : Str → Option Value} {base : Heap}
def spAct (K : PySem.W.Frag) : Sp := fun vs H Q _ => ∃ (s p l : Addr) (rs : List Row) (xs : List V), vs = [.ref s, .ref p, .ref l] ∧ Strm H s ∧ RowsAt K H p specL rs ∧ H l = some (.lst xs) ∧ StrsV (fun _ => True) xs ∧
  (∀ H', Same H H' → Q .non H') ∧ (∀ t (wd : Str) H', Same H H' → (wd = "reset" ∨ wd = "assign") → ActV K H' (fun x => x ∈ rs.map Row.name) (.ref t) wd → Q (.ref t) H')
theorem ok__law_act (T : Top w K mg) : FnOk P w K mg base CX0 7 (He.ga K ("_law_act" : Str)) (fdOf K d__law_act) ["stream", "rows", "taken"] (spAct K) := by
  refine (T.f__law_act).ok sc__law_act (fun vs H Q E h => ?_) (fun cdv A outer s H vs Q E hr h => ?_)
  · obtain ⟨s, p, l, rs, xs, rfl, _⟩ := h
    rfl
  · obtain ⟨s0, p, l, rs, xs, rfl, hS, hR, hl, hxs, k1, k2⟩ := h
    have ih__law_number := (ok_gen (P := P) (base := base) T (fun x => x ∈ rs.map Row.name) 3).1
    have ih__law_truth := (ok_gen (P := P) (base := base) T (fun x => x ∈ rs.map Row.name) 3).2
    refine ⟨_, PSs.nox (pss_cons (ps_lock (ps_setLc (i := 3) (own := [(("name" : Str), 4)]) (g := (gName 4)) rfl sc__law_act.nd rfl rfl (by rfl) (pi_keys (pv 1)) (blkOk_by (N := ["stream", "rows", "taken", "free", "name"]) (sc := defScope s__law_act) (by decide +kernel)) (fun _ _ _ _ _ => (pg_name (i := 4) sc__law_act.nd rfl (Or.inl rfl))) (fun _ _ _ _ _ => pts_one (PW.pt (pw_and (pt_cmpR (op_inK (K := K) rfl) (pe_ix (ix_tupK (K := K) rfl) (pe_dget (hu_of hr) (pv 1) (pv 4) (fun _ _ => rfl)) pe_int (fun _ _ => rfl)) (pe_tup (pa_cons pe_str (pa_cons pe_str pa_nil))) (by rfl)) (pw_and1 (pt_cmpR (op_notInK (K := K) rfl) (pv 4) (pv 2) (by rfl)))))) (fun _ _ _ _ _ => (pv 4))))
    (pss_cons (ps_if (pt_cmpR op_eq (pe_callB (call_lenK (K := K) rfl) (by rfl) T.n_len PySem.boot_len (pa_cons (pv 3) pa_nil)) pe_int (nomark _))
    (pss_one (ps_ret pe_non))
    pss_nil)
    (pss_cons (ps_set (i := 4) sc__law_act.nd rfl (Or.inl rfl) (pe_ix (ix_listK (K := K) rfl) (pv 3) (pe_call (ok__law_draw (K := K) T) (hr.mono (by omega)) rfl T.g__law_draw T.f__law_draw.kp T.b__law_draw .nil pass0 (pa_cons (pv 0) (pa_cons (pe_callB (call_lenK (K := K) rfl) (by rfl) T.n_len PySem.boot_len (pa_cons (pv 3) pa_nil)) pa_nil))) (fun _ _ => rfl)))
    (pss_cons (ps_if (pt_cmpR op_eq (pe_ix (ix_tupK (K := K) rfl) (pe_dget (hu_of hr) (pv 1) (pv 4) (fun _ _ => rfl)) pe_int (fun _ _ => rfl)) pe_str (nomark _))
    (pss_one (ps_ret (pe_tup (pa_cons pe_str (pa_cons (pv 4) (pa_cons (pe_call ih__law_number (hr.mono (by omega)) rfl T.g__law_number T.f__law_number.kp T.b__law_number .nil pass0 (pa_cons (pv 0) (pa_cons pe_int (pa_cons (pe_call (ok__law_known (K := K) T) (hr.mono (by omega)) rfl T.g__law_known T.f__law_known.kp T.b__law_known .nil pass0 (pa_cons (pv 1) pa_nil)) pa_nil)))) pa_nil))))))
    pss_nil)
    (pss_cons (ps_if (pt_val (pe_ix (ix_tupK (K := K) rfl) (pe_dget (hu_of hr) (pv 1) (pv 4) (fun _ _ => rfl)) pe_int (fun _ _ => rfl)))
    (pss_one (ps_ret (pe_tup (pa_cons pe_str (pa_cons (pv 4) (pa_cons (pe_call ih__law_truth (hr.mono (by omega)) rfl T.g__law_truth T.f__law_truth.kp T.b__law_truth .nil pass0 (pa_cons (pv 0) (pa_cons pe_int (pa_cons (pe_call (ok__law_known (K := K) T) (hr.mono (by omega)) rfl T.g__law_known T.f__law_known.kp T.b__law_known .nil pass0 (pa_cons (pv 1) pa_nil)) pa_nil)))) pa_nil))))))
    pss_nil)
    (pss_one (ps_ret (pe_tup (pa_cons pe_str (pa_cons (pv 4) (pa_cons (pe_call ih__law_number (hr.mono (by omega)) rfl T.g__law_number T.f__law_number.kp T.b__law_number .nil pass0 (pa_cons (pv 0) (pa_cons pe_int (pa_cons (pe_call (ok__law_known (K := K) T) (hr.mono (by omega)) rfl T.g__law_known T.f__law_known.kp T.b__law_known .nil pass0 (pa_cons (pv 1) pa_nil)) pa_nil)))) pa_nil))))))))))), ?_⟩
    obtain ⟨kvs, hk, hkv⟩ := hR.ex
    have hl10 : kvs.length ≤ 10 := hR.len hk
    have lp : l ≠ p := fun z => by rw [z, hk] at hl; cases hl
    walk_at "go"
    refine ⟨p, _, hk, trivial, fun od => ?_⟩
    walk_at "go"
    refine ⟨p, od, rfl, .inl ⟨kvs, upd_same, ?_⟩⟩
    intro D hD
    obtain ⟨Dp, hD'⟩ := lk_none hD
    refine lc_it (walk_keys (kvs := kvs)) (fun i H' => ∃ Hu acc, H' = upd Hu p (.frz od (.dK kvs)) ∧ Same H Hu ∧ Hu D = some (.lst acc) ∧ acc.length ≤ i ∧ StrsV (fun x => x ∈ rs.map Row.name) acc) ?_ ?_ ?_ ?_
    · exact ⟨upd H D (.lst []), [], upd_comm Dp.symm, same_new hD', upd_same, Nat.le_refl _, fun v h => by cases h⟩
    · rintro i H' _ ⟨Hu, _, rfl, _⟩
      exact upd_same
    · rintro i x H' H2 hi ⟨Hu, acc, rfl, e1, ha, la, ok⟩ ⟨rfl, ky, v, hx, rfl⟩
      obtain ⟨r, hr, rfl, ⟨t, va, st, rfl, ht, _, _⟩, hv⟩ := valV_row hkv hR.nodup hx
      have hp1 : Hu p = some (.dK kvs) := e1 _ _ hk
      have ht2 := SqT.lock (F := .frz od (.dK kvs)) (SqT.same ht e1) hp1
      have hN : r.name ∈ rs.map Row.name := List.mem_map_of_mem (f := Row.name) (List.mem_of_getElem? hr)
      walk_at "go"
      refine ⟨rfl, ?_⟩
      walk_at "go"
      refine ⟨p, _, rfl, dget_lk hv, ?_⟩
      walk_at "go"
      refine r_ixT ht2 rfl ?_
      walk_at "go"
      intro q hq
      obtain ⟨qp, hq'⟩ := lk_none hq
      have s1 := same_new (o := .tup [.str "state", .str "discrete"]) hq'
      rw [upd_comm (Ne.symm qp)]
      have hl2 : upd (upd Hu q (.tup [.str "state", .str "discrete"])) p (.frz od (.dK kvs)) l = some (.lst xs) := by rw [upd_ne lp]; exact s1 _ _ (e1 _ _ hl)
      have fx : xs.all flatV = true := List.all_eq_true.mpr fun v hv => by
        obtain ⟨y, rfl, _⟩ := hxs v hv
        rfl
      have hD2 : upd (upd Hu q (.tup [.str "state", .str "discrete"])) p (.frz od (.dK kvs)) D = some (.lst acc) := by rw [upd_ne Dp]; exact s1 _ _ ha
      walk_at "go"
      refine ⟨q, _, rfl, .inr (SqT.of (by rw [upd_ne qp]; exact upd_same)), rfl, rfl, ?_⟩
      refine ⟨_, rfl, ?_⟩
      refine ite_a (fun c1 => ?_) (fun c1 => ?_)
      · walk_at "go"
        refine ⟨l, _, rfl, .inl (SqL.of hl2), rfl, fx, ?_⟩
        refine ⟨_, rfl, ?_⟩
        refine ite_a (fun c2 => ?_) (fun c2 => ?_)
        · walk_at "go"
          refine ⟨acc, hD2, Nat.lt_of_le_of_lt la (by rw [sizeLine_eq]; omega), _, acc ++ [.str r.name], upd_comm Dp.symm, same_upd (e1.trans s1) hD', upd_same, len1 la, strsV_add ok hN⟩
        · exact ⟨_, acc, rfl, e1.trans s1, s1 _ _ ha, Nat.le_succ_of_le la, ok⟩
      · refine ite_n (by decide) ?_
        exact ⟨_, acc, rfl, e1.trans s1, s1 _ _ ha, Nat.le_succ_of_le la, ok⟩
    · rintro H' ⟨Hu, acc, rfl, e1, ha, la, ok⟩
      walk_at "go"
      refine ⟨upd_same, ?_⟩
      rw [upd_back (e1 _ _ hk)]
      have lD : SqL K Hu D acc ∨ SqT K Hu D acc := .inl (SqL.of ha)
      have hk1 := e1 _ _ hk
      have S1 := hS.mono e1
      have R1 := hR.same e1
      walk_at "go"
      refine ite_d (fun c1 => ?_) (fun c1 => ?_)
      · walk_at "go"
        exact k1 _ e1
      · walk_at "go"
        have c1' := vint_ne c1
        refine ⟨by omega, by omega, fun v0 a0 a1 => ?_⟩
        obtain ⟨u, hu, hi⟩ := atI_in a0 a1
        obtain ⟨x, rfl, hx⟩ := ok u hu
        refine r_ixL (SqL.of ha) hi ?_
        obtain ⟨r, t, va, st, hr, rfl, hv, ht, _, _⟩ := rows_find hkv hR.nodup hx
        have hd : DGet Hu p (.str r.name) (some (.ref t)) := dget_k hk1 hv
        have ht1 := SqT.same ht e1
        walk_at "go"
        refine r_ixT ht1 rfl ?_
        walk_at "go"
        refine ite_d (fun c2 => ?_) (fun c2 => ?_)
        · walk_at "go"
          intro n H2 e2 hn
          walk_at "go"
          refine ⟨hS.mono (e1.trans e2), hn, fun v ex H3 e3 hv3 hok => ?_⟩
          walk_at "go"
          refine ⟨by show 3 ≤ sizeLine; decide, fun q hq => ?_⟩
          have s5 := same_new (o := .tup [.str "reset", .str r.name, v]) hq
          exact k2 q _ _ (e1.trans (e2.trans (e3.trans s5))) (.inl rfl) (.mk rfl (SqT.of upd_same) hx (hv3.same s5) hok)
        · walk_at "go"
          refine r_ixT ht1 rfl ?_
          walk_at "go"
          refine ite_a (fun c3 => ?_) (fun c3 => ?_)
          · walk_at "go"
            intro n H2 e2 hn
            walk_at "go"
            refine ⟨hS.mono (e1.trans e2), hn, fun v ex H3 e3 hv3 hok => ?_⟩
            walk_at "go"
            refine ⟨by show 3 ≤ sizeLine; decide, fun q hq => ?_⟩
            have s5 := same_new (o := .tup [.str "assign", .str r.name, v]) hq
            exact k2 q _ _ (e1.trans (e2.trans (e3.trans s5))) (.inr rfl) (.mk rfl (SqT.of upd_same) hx (hv3.same s5) hok)
          · walk_at "go"
            intro n H2 e2 hn
            walk_at "go"
            refine ⟨hS.mono (e1.trans e2), hn, fun v ex H3 e3 hv3 hok => ?_⟩
            walk_at "go"
            refine ⟨by show 3 ≤ sizeLine; decide, fun q hq => ?_⟩
            have s5 := same_new (o := .tup [.str "assign", .str r.name, v]) hq
            exact k2 q _ _ (e1.trans (e2.trans (e3.trans s5))) (.inr rfl) (.mk rfl (SqT.of upd_same) hx (hv3.same s5) hok)
end
theorem mem_putK {kvs : List (Key × V)} {k : Key} {v : V} {kv : Key × V} (h : kv ∈ putK kvs k v) : kv = (k, v) ∨ kv ∈ kvs := by
  unfold putK at h
  split at h
  · obtain ⟨k0, h0, e⟩ := List.mem_map.mp h
    by_cases z : k0.1 = k
    · rw [if_pos z] at e
      rw [← e, z]
      exact .inl rfl
    · rw [if_neg z] at e
      rw [← e]
      exact .inr h0
  · rcases List.mem_append.mp h with z | z
    · exact .inr z
    · exact .inl (List.mem_singleton.mp z)
def EqV (K : PySem.W.Frag) (H : Hp) (N : Str → Prop) (v : V) : Prop := ∃ t u1 u2 e1 e2, v = .ref t ∧ SqT K H t [u1, u2] ∧ ExV K H u1 e1 ∧ ExOk N 4 e1 ∧ ExV K H u2 e2 ∧ ExOk N 4 e2
theorem EqV.keep {K : PySem.W.Frag} {H H' : Hp} {N : Str → Prop} {v : V} (k : Keep H H') : EqV K H N v → EqV K H' N v := fun ⟨t, u1, u2, e1, e2, a, b, c, d, e, f⟩ => ⟨t, u1, u2, e1, e2, a, SqT.keep b k, c.keep k, d, e.keep k, f⟩
/-- equations by their names -/
def EqsV (K : PySem.W.Frag) (H : Hp) (N : Str → Prop) (e : Addr) (m : Nat) : Prop := ∃ kvs, H e = some (.dK kvs) ∧ kvs.length ≤ m ∧ ∀ kv ∈ kvs, (∃ x, kv.1 = .inr x) ∧ EqV K H N kv.2
theorem EqsV.same {K : PySem.W.Frag} {H H' : Hp} {N : Str → Prop} {e : Addr} {m m' : Nat} (hm : m ≤ m') (s : Same H H') : EqsV K H N e m → EqsV K H' N e m' := fun ⟨kvs, a, b, c⟩ => ⟨kvs, s _ _ a, Nat.le_trans b hm, fun kv h => ⟨(c kv h).1, (c kv h).2.keep (Same.keep s)⟩⟩
theorem EqsV.upd {K : PySem.W.Frag} {H : Hp} {N : Str → Prop} {e q : Addr} {m m' : Nat} {o o' : HO} (hm : m ≤ m') (hq : H q = some o) (so : Soft o = true) (ne : e ≠ q) : EqsV K H N e m → EqsV K (upd H q o') N e m' := fun ⟨kvs, a, b, c⟩ =>
  ⟨kvs, by rw [upd_ne ne]; exact a, Nat.le_trans b hm, fun kv h => ⟨(c kv h).1, (c kv h).2.keep (keep_upd hq so)⟩⟩
theorem EqsV.put {K : PySem.W.Frag} {H : Hp} {N : Str → Prop} {e : Addr} {m : Nat} {kvs : List (Key × V)} {x : Str} {v : V} (he : H e = some (.dK kvs)) (hv : EqV K H N v) : EqsV K H N e m → EqsV K (L2.upd H e (.dK (putK kvs (.inr x) v))) N e (m + 1) := fun ⟨kvs', a, b, c⟩ => by
  rw [he] at a
  cases a
  have kk : Keep H (L2.upd H e (.dK (putK kvs (.inr x) v))) := keep_upd he rfl
  refine ⟨_, upd_same, Nat.le_trans (length_putK _ _ _) (Nat.succ_le_succ b), fun kv h => ?_⟩
  rcases mem_putK h with rfl | h
  · exact ⟨⟨x, rfl⟩, hv.keep kk⟩
  · exact ⟨(c kv h).1, (c kv h).2.keep kk⟩
theorem ActV.keep {K : PySem.W.Frag} {H H' : Hp} {N : Str → Prop} {v : V} {wd : Str} (k : Keep H H') (h : ActV K H N v wd) : ActV K H' N v wd := by
  obtain ⟨a, b, c, d, e⟩ := h
  exact .mk a (SqT.keep b k) c (d.keep k) e
def ActsV (K : PySem.W.Frag) (H : Hp) (N : Str → Prop) (acts : List V) (ws : List Str) : Prop := Paired (ActV K H N) acts ws ∧ ∀ w ∈ ws, w = "reset" ∨ w = "assign"
theorem ActsV.keep {K : PySem.W.Frag} {H H' : Hp} {N : Str → Prop} {acts : List V} {ws : List Str} (k : Keep H H') (h : ActsV K H N acts ws) : ActsV K H' N acts ws := ⟨Paired.imp (fun _ _ z => z.keep k) h.1, h.2⟩
def WhenV (K : PySem.W.Frag) (H : Hp) (N : Str → Prop) (v : V) (ws : List Str) : Prop := ∃ t c l acts e, v = .ref t ∧ SqT K H t [c, .ref l] ∧ ExV K H c e ∧ ExOk N 4 e ∧ H l = some (.lst acts) ∧ acts.length ≤ 2 ∧ ActsV K H N acts ws
theorem WhenV.same {K : PySem.W.Frag} {H H' : Hp} {N : Str → Prop} {v : V} {ws : List Str} (s : Same H H') : WhenV K H N v ws → WhenV K H' N v ws := fun ⟨t, c, l, acts, e, a, b, f, g, h, i, j⟩ => ⟨t, c, l, acts, e, a, SqT.same b s, f.same s, g, s _ _ h, i, j.keep (Same.keep s)⟩
theorem WhenV.upd {K : PySem.W.Frag} {H : Hp} {N : Str → Prop} {v : V} {ws : List Str} {q : Addr} {kvs : List (Key × V)} {o : HO} (hq : H q = some (.dK kvs)) : WhenV K H N v ws → WhenV K (upd H q o) N v ws := fun ⟨t, c, l, acts, e, a, b, f, g, h, i, j⟩ => by
  have kk : Keep H (L2.upd H q o) := keep_upd hq rfl
  have ne : l ≠ q := fun z => by rw [z, hq] at h; cases h
  exact ⟨t, c, l, acts, e, a, SqT.keep b kk, f.keep kk, g, by rw [upd_ne ne]; exact h, i, j.keep kk⟩
theorem nodup_putK {kvs : List (Key × V)} {k : Key} {v : V} (h : (kvs.map (·.1)).Nodup) : ((putK kvs k v).map (·.1)).Nodup := by
  cases hv : valV kvs k with
  | none =>
    rw [putK_new v hv, List.map_append, List.nodup_append]
    refine ⟨h, List.nodup_cons.mpr ⟨List.not_mem_nil, List.nodup_nil⟩, fun a ha b hb e => ?_⟩
    rw [List.mem_singleton.mp hb] at e
    subst e
    obtain ⟨p, hp, e⟩ := List.mem_map.mp ha
    have q : (kvs.any fun kv => decide (kv.1 = a)) = true := List.any_eq_true.mpr ⟨p, hp, decide_eq_true e⟩
    rw [valV_any, hv] at q
    exact absurd q (by simp)
  | some y =>
    have q : (kvs.any fun kv => decide (kv.1 = k)) = true := by rw [valV_any, hv]; rfl
    unfold putK
    rw [if_pos q, List.map_map]
    have e : ((fun x : Key × V => x.1) ∘ fun kv : Key × V => if kv.1 = k then (kv.1, v) else kv) = fun x => x.1 := by
      funext kv
      show (if kv.1 = k then (kv.1, v) else kv).1 = kv.1
      split <;> rfl
    rw [e]
    exact h
def WhensV (K : PySem.W.Frag) (H : Hp) (N : Str → Prop) (w : Addr) (m : Nat) : Prop := ∃ kvs, H w = some (.dK kvs) ∧ kvs.length ≤ m ∧ (kvs.map (·.1)).Nodup ∧ ∀ kv ∈ kvs, (∃ x, kv.1 = .inr x) ∧ ∃ ws, WhenV K H N kv.2 ws
theorem WhensV.same {K : PySem.W.Frag} {H H' : Hp} {N : Str → Prop} {w : Addr} {m m' : Nat} (hm : m ≤ m') (s : Same H H') : WhensV K H N w m → WhensV K H' N w m' := fun ⟨kvs, a, b, d, c⟩ => ⟨kvs, s _ _ a, Nat.le_trans b hm, d, fun kv h => ⟨(c kv h).1, (c kv h).2.imp fun _ z => z.same s⟩⟩
theorem WhensV.upd {K : PySem.W.Frag} {H : Hp} {N : Str → Prop} {w q : Addr} {m : Nat} {kvs : List (Key × V)} {o : HO} (hq : H q = some (.dK kvs)) (ne : w ≠ q) : WhensV K H N w m → WhensV K (upd H q o) N w m := fun ⟨kvs, a, b, d, c⟩ =>
  ⟨kvs, by rw [upd_ne ne]; exact a, b, d, fun kv h => ⟨(c kv h).1, (c kv h).2.imp fun _ z => z.upd hq⟩⟩
theorem WhensV.put {K : PySem.W.Frag} {H : Hp} {N : Str → Prop} {w : Addr} {m : Nat} {kvs : List (Key × V)} {x : Str} {v : V} {ws : List Str} (he : H w = some (.dK kvs)) (hv : WhenV K H N v ws) : WhensV K H N w m → WhensV K (L2.upd H w (.dK (putK kvs (.inr x) v))) N w (m + 1) := fun ⟨kvs', a, b, d, c⟩ => by
  rw [he] at a
  cases a
  refine ⟨_, upd_same, Nat.le_trans (length_putK _ _ _) (Nat.succ_le_succ b), nodup_putK d, fun kv h => ?_⟩
  rcases mem_putK h with rfl | h
  · exact ⟨⟨x, rfl⟩, ws, hv.upd he⟩
  · exact ⟨(c kv h).1, (c kv h).2.imp fun _ z => z.upd he⟩
theorem k4ne1 : ¬ ((.inr "variables" : Key) = .inr "equations") := by decide +kernel
theorem k4ne2 : ¬ ((.inr "variables" : Key) = .inr "initials") := by decide +kernel
theorem k4ne3 : ¬ ((.inr "equations" : Key) = .inr "initials") := by decide +kernel
theorem k4ne4 : ¬ ((.inr "variables" : Key) = .inr "whens") := by decide +kernel
theorem k4ne5 : ¬ ((.inr "equations" : Key) = .inr "whens") := by decide +kernel
theorem k4ne6 : ¬ ((.inr "initials" : Key) = .inr "whens") := by decide +kernel
def raw4 (v1 v2 v3 v4 : V) : List (Key × V) := [(.inr "variables", v1), (.inr "equations", v2), (.inr "initials", v3), (.inr "whens", v4)]
theorem rw1 {v1 v2 v3 v4 : V} : valV (raw4 v1 v2 v3 v4) (.inr "variables") = some v1 := valV_pos rfl
theorem rw2 {v1 v2 v3 v4 : V} : valV (raw4 v1 v2 v3 v4) (.inr "equations") = some v2 := by
  unfold raw4; rw [valV_neg k4ne1]; exact valV_pos rfl
theorem rw3 {v1 v2 v3 v4 : V} : valV (raw4 v1 v2 v3 v4) (.inr "initials") = some v3 := by
  unfold raw4; rw [valV_neg k4ne2, valV_neg k4ne3]; exact valV_pos rfl
theorem rw4 {v1 v2 v3 v4 : V} : valV (raw4 v1 v2 v3 v4) (.inr "whens") = some v4 := by
  unfold raw4; rw [valV_neg k4ne4, valV_neg k4ne5, valV_neg k4ne6]; exact valV_pos rfl
theorem merge_raw {v1 v2 v3 v4 : V} : mergeK [] (raw4 v1 v2 v3 v4) = raw4 v1 v2 v3 v4 :=
  merge_nodup _ _ (show ([.inr "variables", .inr "equations", .inr "initials", .inr "whens"] : List Key).Nodup by decide +kernel) fun _ _ => rfl
/-- the raw system while it grows -/
structure RawP (K : PySem.W.Frag) (Hn H : Hp) (N : Str → Prop) (g p e i w : Addr) (m j : Nat) : Prop where
  same : Same Hn H
  hg : H g = some (.dK (raw4 (.ref p) (.ref e) (.ref i) (.ref w)))
  he : EqsV K H N e m
  hi : EqsV K H N i m
  hw : WhensV K H N w j
theorem RawP.mono {K : PySem.W.Frag} {Hn H H' : Hp} {N : Str → Prop} {g p e i w : Addr} {m j m' j' : Nat} (h : RawP K Hn H N g p e i w m j) (s : Same H H') (hm : m ≤ m' := by omega) (hj : j ≤ j' := by omega) : RawP K Hn H' N g p e i w m' j' :=
  ⟨h.same.trans s, s _ _ h.hg, h.he.same hm s, h.hi.same hm s, h.hw.same hj s⟩
theorem RawP.sm {K : PySem.W.Frag} {Hn H H' : Hp} {N : Str → Prop} {g p e i w : Addr} {m j : Nat} (h : RawP K Hn H N g p e i w m j) (s : Same H H') : RawP K Hn H' N g p e i w m j := h.mono s (Nat.le_refl _) (Nat.le_refl _)
theorem act_same {H H' : Hp} (s : Same H H') {a : Addr} {o : HO} (h : H a = some o) : H' a = some o := s _ _ h
theorem strsV_app {N : Str → Prop} {xs ys : List V} (h : StrsV N xs) (h' : StrsV N ys) : StrsV N (xs ++ ys) := fun v hv => by
  rcases List.mem_append.mp hv with z | z
  · exact h v z
  · exact h' v z
structure Four (Hn : Hp) (g e i w : Addr) : Prop where
  g0 : Hn g = none
  e0 : Hn e = none
  i0 : Hn i = none
  w0 : Hn w = none
  ge : g ≠ e
  gi : g ≠ i
  gw : g ≠ w
  ei : e ≠ i
  ew : e ≠ w
  iw : i ≠ w
section
variable {K : PySem.W.Frag} {Hn H : Hp} {N : Str → Prop} {g p e i w : Addr} {m j : Nat} {kvs : List (Key × V)} {x : Str} {v : V} {ws : List Str}
theorem RawP.putE (f : Four Hn g e i w) (h : RawP K Hn H N g p e i w m j) (he : H e = some (.dK kvs)) (hv : EqV K H N v) : RawP K Hn (upd H e (.dK (putK kvs (.inr x) v))) N g p e i w (m + 1) j :=
  ⟨same_upd h.same f.e0, by rw [upd_ne f.ge]; exact h.hg, h.he.put he hv, h.hi.upd (Nat.le_succ m) he rfl f.ei.symm, h.hw.upd he f.ew.symm⟩
theorem RawP.putI (f : Four Hn g e i w) (h : RawP K Hn H N g p e i w m j) (hi : H i = some (.dK kvs)) (hv : EqV K H N v) : RawP K Hn (upd H i (.dK (putK kvs (.inr x) v))) N g p e i w (m + 1) j :=
  ⟨same_upd h.same f.i0, by rw [upd_ne f.gi]; exact h.hg, h.he.upd (Nat.le_succ m) hi rfl f.ei, h.hi.put hi hv, h.hw.upd hi f.iw.symm⟩
theorem RawP.putW (f : Four Hn g e i w) (h : RawP K Hn H N g p e i w m j) (hw : H w = some (.dK kvs)) (hv : WhenV K H N v ws) : RawP K Hn (upd H w (.dK (putK kvs (.inr x) v))) N g p e i w m (j + 1) :=
  ⟨same_upd h.same f.w0, by rw [upd_ne f.gw]; exact h.hg, h.he.upd (Nat.le_refl m) hw rfl f.ew, h.hi.upd (Nat.le_refl m) hw rfl f.iw, h.hw.put hw hv⟩
end
theorem Names.imp {K : PySem.W.Frag} {H : Hp} {N N' : Str → Prop} {n : Addr} (f : ∀ x, N x → N' x) (h : Names K H N n) : Names K H N' n := by
  obtain ⟨kvs, a, b, c, e, vs, ps, ts, us, h⟩ := h
  exact ⟨kvs, a, b, c, e, vs, ps, ts, us, h.dict, h.ka, h.kb, h.kc, h.ke, h.la, h.lb, h.lc, h.le, fun v hv => by
    obtain ⟨t, x, o, e, q, r, z⟩ := h.va v hv
    exact ⟨t, x, o, e, q, f x r, z⟩, fun v hv => by
    obtain ⟨x, e, r⟩ := h.vb v hv
    exact ⟨x, e, f x r⟩, fun v hv => by
    obtain ⟨x, e, r⟩ := h.vc v hv
    exact ⟨x, e, f x r⟩, fun v hv => by
    obtain ⟨x, e, r⟩ := h.ve v hv
    exact ⟨x, e, f x r⟩, h.za, h.zb, h.zc, h.ze⟩
def nameL : List Str := ["e1", "m.e2", "q", "c.a.x.o"]
section
variable {P : Program} {w : World} {K : PySem.W.Frag} {mg : Str → Option Value} {base : Heap}
def spGenA (K : PySem.W.Frag) (d : Nat) : Sp := fun vs H Q E => ∃ N, spGenP K N d vs H Q E
theorem ok_genA (T : Top w K mg) (d : Nat) :
    FnOk P w K mg base CX0 (d + 3) (He.ga K ("_law_number" : Str)) (fdOf K d__law_number) ["stream", "deep", "names"] (spGenA K d) ∧
    FnOk P w K mg base CX0 (d + 3) (He.ga K ("_law_truth" : Str)) (fdOf K d__law_truth) ["stream", "deep", "names"] (spGenA K d) :=
  ⟨⟨fun vs H Q E ⟨N, h⟩ => (ok_gen (P := P) (base := base) T N d).1.len vs H Q E h, fun A outer s H args us vs Q E a b c e ⟨N, h⟩ => (ok_gen (P := P) (base := base) T N d).1.run A outer s H args us vs Q E a b c e h⟩,
   ⟨fun vs H Q E ⟨N, h⟩ => (ok_gen (P := P) (base := base) T N d).2.len vs H Q E h, fun A outer s H args us vs Q E a b c e ⟨N, h⟩ => (ok_gen (P := P) (base := base) T N d).2.run A outer s H args us vs Q E a b c e h⟩⟩
def spRaw (K : PySem.W.Frag) : Sp := fun vs H Q _ => ∃ (s : Addr), vs = [.ref s] ∧ Strm H s ∧ ∀ Hn H' g p e i w rs, Same H Hn → Four Hn g e i w → RowsAt K Hn p specL rs → RawP K Hn H' (fun x => x ∈ rs.map Row.name) g p e i w 6 2 → Q (.ref g) H'
theorem ok__law_raw (T : Top w K mg) : FnOk P w K mg base CX0 8 (He.ga K ("_law_raw" : Str)) (fdOf K d__law_raw) ["stream"] (spRaw K) := by
  refine (T.f__law_raw).ok sc__law_raw (fun vs H Q E h => ?_) (fun cdv A outer s H vs Q E hr h => ?_)
  · obtain ⟨s, rfl, _⟩ := h
    rfl
  · obtain ⟨s0, rfl, hS, k⟩ := h
    have ih__law_number := (ok_genA (P := P) (base := base) T 4).1
    have ih__law_truth := (ok_genA (P := P) (base := base) T 4).2
    refine ⟨_, PSs.nox (pss_cons (ps_set (i := 1) sc__law_raw.nd rfl (Or.inl rfl) (pe_call (ok__law_spec (K := K) T) (hr.mono (by omega)) rfl T.g__law_spec T.f__law_spec.kp T.b__law_spec .nil pass0 (pa_cons (pv 0) pa_nil)))
    (pss_cons (ps_set (i := 2) sc__law_raw.nd rfl (Or.inl rfl) (pe_call (ok__law_known (K := K) T) (hr.mono (by omega)) rfl T.g__law_known T.f__law_known.kp T.b__law_known .nil pass0 (pa_cons (pv 1) pa_nil)))
    (pss_cons (ps_set (i := 3) sc__law_raw.nd rfl (Or.inl rfl) (pe_disp (pps_cons pe_str (pv 1) (pps_cons pe_str pe_dnewK (pps_cons pe_str pe_dnewK (pps_cons pe_str pe_dnewK pps_nil)))) rfl rfl (List.cons_ne_nil _ _) (by decide)))
    (pss_cons (ps_for PassesOwn.never rfl (pi_listK (K := K) rfl (pe_lst (pa_cons pe_str (pa_cons pe_str pa_nil)))) (pg_name (i := 4) sc__law_raw.nd rfl (Or.inl rfl))
    (pss_cons (ps_set (i := 5) sc__law_raw.nd rfl (Or.inl rfl) (pe_dget (hu_of hr) (pv 3) (pv 4) (fun _ _ => rfl)))
    (pss_one (ps_for PassesOwn.never rfl (pi_range1 rfl T.n_range (pa_cons (pe_call (ok__law_draw (K := K) T) (hr.mono (by omega)) rfl T.g__law_draw T.f__law_draw.kp T.b__law_draw .nil pass0 (pa_cons (pv 0) (pa_cons pe_int pa_nil))) pa_nil)) (pg_name (i := 6) sc__law_raw.nd rfl (Or.inl rfl))
    (pss_cons (ps_set (i := 7) sc__law_raw.nd rfl (Or.inl rfl) (pe_ix (ix_listK (K := K) rfl) (pe_lst (pa_cons pe_str (pa_cons pe_str (pa_cons pe_str (pa_cons pe_str pa_nil))))) (pe_call (ok__law_draw (K := K) T) (hr.mono (by omega)) rfl T.g__law_draw T.f__law_draw.kp T.b__law_draw .nil pass0 (pa_cons (pv 0) (pa_cons pe_int pa_nil))) (fun _ _ => rfl)))
    (pss_one (ps_dput (hu_of hr) (pv 5) (pv 7) (pe_tup (pa_cons (pe_call ih__law_number (hr.mono (by omega)) rfl T.g__law_number T.f__law_number.kp T.b__law_number .nil pass0 (pa_cons (pv 0) (pa_cons pe_int (pa_cons (pv 2) pa_nil)))) (pa_cons (pe_call ih__law_number (hr.mono (by omega)) rfl T.g__law_number T.f__law_number.kp T.b__law_number .nil pass0 (pa_cons (pv 0) (pa_cons pe_int (pa_cons (pv 2) pa_nil)))) pa_nil))) rfl)))))))
    (pss_cons (ps_set (i := 8) sc__law_raw.nd rfl (Or.inl rfl) (pe_lst pa_nil))
    (pss_cons (ps_set (i := 5) sc__law_raw.nd rfl (Or.inl rfl) (pe_dget (hu_of hr) (pv 3) pe_str (fun _ _ => rfl)))
    (pss_cons (ps_for PassesOwn.never rfl (pi_range1 rfl T.n_range (pa_cons (pe_call (ok__law_draw (K := K) T) (hr.mono (by omega)) rfl T.g__law_draw T.f__law_draw.kp T.b__law_draw .nil pass0 (pa_cons (pv 0) (pa_cons pe_int pa_nil))) pa_nil)) (pg_name (i := 6) sc__law_raw.nd rfl (Or.inl rfl))
    (pss_cons (ps_set (i := 9) sc__law_raw.nd rfl (Or.inl rfl) (pe_lst pa_nil))
    (pss_cons (ps_set (i := 10) sc__law_raw.nd rfl (Or.inl rfl) (pe_lst pa_nil))
    (pss_cons (ps_for PassesOwn.never rfl (pi_range1 rfl T.n_range (pa_cons (pe_call (ok__law_draw (K := K) T) (hr.mono (by omega)) rfl T.g__law_draw T.f__law_draw.kp T.b__law_draw .nil pass0 (pa_cons (pv 0) (pa_cons pe_int pa_nil))) pa_nil)) (pg_name (i := 11) sc__law_raw.nd rfl (Or.inl rfl))
    (pss_cons (ps_set (i := 12) sc__law_raw.nd rfl (Or.inl rfl) (pe_call (ok__law_act (K := K) T) (hr.mono (by omega)) rfl T.g__law_act T.f__law_act.kp T.b__law_act .nil pass0 (pa_cons (pv 0) (pa_cons (pv 1) (pa_cons (pe_op op_cat (pv 8) (pv 10)) pa_nil)))))
    (pss_one (ps_if (pt_cmpR op_notN (pv 12) pe_non (nomark _))
    (pss_cons (ps_expr (pe_bm PySem.F.plainAttrs_list PySem.F.slot_list_append PySem.F.type_list_append mt_append (pv 9) (pa_cons (pv 12) pa_nil)))
    (pss_one (ps_expr (pe_bm PySem.F.plainAttrs_list PySem.F.slot_list_append PySem.F.type_list_append mt_append (pv 10) (pa_cons (pe_ix (ix_tupK (K := K) rfl) (pv 12) pe_int (fun _ _ => rfl)) pa_nil)))))
    pss_nil))))
    (pss_cons (ps_set (i := 8) sc__law_raw.nd rfl (Or.inl rfl) (pe_op op_cat (pv 8) (pe_lc (own := [(("act" : Str), 12)]) (g := (gName 12)) rfl sc__law_raw.nd (pi_listK (K := K) rfl (pv 9)) (blkOk_by (N := ["stream", "rows", "names", "raw", "section", "table", "k", "name", "taken", "acts", "own", "j", "act"]) (sc := defScope s__law_raw) (by decide +kernel)) (fun _ _ _ _ _ => (pg_name (i := 12) sc__law_raw.nd rfl (Or.inl rfl))) (fun _ _ _ _ _ => pts_one (pt_cmpR op_eq (pe_ix (ix_tupK (K := K) rfl) (pv 12) pe_int (fun _ _ => rfl)) pe_str (nomark _))) (fun _ _ _ _ _ => (pe_ix (ix_tupK (K := K) rfl) (pv 12) pe_int (fun _ _ => rfl))))))
    (pss_one (ps_dput (hu_of hr) (pv 5) (pe_op op_add_str pe_str (pe_callTy call_str_int (by rfl) T.n_str (by decide +kernel) (pa_cons (pv 6) pa_nil))) (pe_tup (pa_cons (pe_call ih__law_truth (hr.mono (by omega)) rfl T.g__law_truth T.f__law_truth.kp T.b__law_truth .nil pass0 (pa_cons (pv 0) (pa_cons pe_int (pa_cons (pv 2) pa_nil)))) (pa_cons (pv 9) pa_nil))) rfl)))))))
    (pss_one (ps_ret (pv 3)))))))))), ?_⟩
    walk_at "go"
    intro p rs H1 e1 hp hR1
    walk_at "go"
    intro n Hn e2 hN
    have hR := hR1.same e2
    have S0 := hS.mono (e1.trans e2)
    have e12 := e1.trans e2
    clear hR1
    walk_at "go"
    intro g hg
    walk_at "go"
    intro e he
    walk_at "go"
    intro i hi
    walk_at "go"
    intro wh hw
    walk_at "go"
    obtain ⟨eg, he⟩ := lk_none he
    obtain ⟨ie, hi⟩ := lk_none hi
    obtain ⟨ig, hi⟩ := lk_none hi
    obtain ⟨wi, hw⟩ := lk_none hw
    obtain ⟨we, hw⟩ := lk_none hw
    obtain ⟨wg, hw⟩ := lk_none hw
    have fr : Four Hn g e i wh := ⟨hg, he, hi, hw, eg.symm, ig.symm, wg.symm, ie.symm, we.symm, wi.symm⟩
    refine ⟨by rw [upd_ne fr.gw, upd_ne fr.gi, upd_ne fr.ge]; exact upd_same, raw4 (.ref p) (.ref e) (.ref i) (.ref wh), rfl, (by show 4 ≤ 15; decide), ?_⟩
    rw [merge_raw]
    have r0 : RawP K Hn (upd (upd (upd (upd (upd Hn g (.dK [])) e (.dK [])) i (.dK [])) wh (.dK [])) g (.dK (raw4 (.ref p) (.ref e) (.ref i) (.ref wh)))) (fun x => x ∈ rs.map Row.name) g p e i wh 0 0 := {
      same := same_upd (same_upd (same_upd (same_upd (same_new hg) he) hi) hw) hg
      hg := upd_same
      he := ⟨[], by rw [upd_ne fr.ge.symm, upd_ne fr.ew, upd_ne fr.ei]; exact upd_same, Nat.le_refl _, fun _ h => by cases h⟩
      hi := ⟨[], by rw [upd_ne fr.gi.symm, upd_ne fr.iw]; exact upd_same, Nat.le_refl _, fun _ h => by cases h⟩
      hw := ⟨[], by rw [upd_ne fr.gw.symm]; exact upd_same, Nat.le_refl _, List.nodup_nil, fun _ h => by cases h⟩ }
    revert r0
    generalize upd (upd (upd (upd (upd Hn g (.dK [])) e (.dK [])) i (.dK [])) wh (.dK [])) g (.dK (raw4 (.ref p) (.ref e) (.ref i) (.ref wh))) = H2
    intro r0
    walk_at "go"
    intro l1 hl1
    refine ⟨l1, rfl, ⟨_, SqL.of upd_same⟩, ?_⟩
    refine for_lstG (xs := [.str "equations", .str "initials"]) (fun c σ H' => ∃ o4 o5 o6 o7, σ = [some (.ref s0), some (.ref p), some (.ref n), some (.ref g), o4, o5, o6, o7, none, none, none, none, none] ∧ H' l1 = some (.lst [.str "equations", .str "initials"]) ∧ RawP K Hn H' (fun x => x ∈ rs.map Row.name) g p e i wh (3 * c) 0) ?_ ?_ ?_ ?_
    · exact ⟨_, _, _, _, rfl, upd_same, r0.mono (same_new hl1)⟩
    · rintro c σ H' _ ⟨_, _, _, _, _, z, _⟩
      exact SqL.of z
    · rintro c x σ H' hx ⟨o4, o5, o6, o7, rfl, hl, rp⟩
      have hc : c < 2 := (List.getElem?_eq_some_iff.mp hx).1
      obtain ⟨y, tb, rfl, hd, ht⟩ : ∃ (y : Str) (tb : Addr), x = .str y ∧ DGet H' g (.str y) (some (.ref tb)) ∧ (tb = e ∨ tb = i) := by
        rcases (by omega : c = 0 ∨ c = 1) with rfl | rfl
        · exact ⟨"equations", e, (Option.some.inj hx).symm, dget_k rp.hg rw2, .inl rfl⟩
        · exact ⟨"initials", i, (Option.some.inj hx).symm, dget_k rp.hg rw3, .inr rfl⟩
      have S1 := S0.mono rp.same
      walk_at "go"
      intro v0 a0 a1
      walk_at "go"
      refine for_rng (n := v0.toNat) (lo := 0) (fun d σ H3 => ∃ o6 o7, σ = [some (.ref s0), some (.ref p), some (.ref n), some (.ref g), some (.str y), some (.ref tb), o6, o7, none, none, none, none, none] ∧ H3 l1 = some (.lst [.str "equations", .str "initials"]) ∧ RawP K Hn H3 (fun x => x ∈ rs.map Row.name) g p e i wh (3 * c + d) 0) ?_ ?_ ?_
      · exact ⟨_, _, rfl, hl, rp⟩
      · rintro d σ H3 hd ⟨o6, o7, rfl, hl, rp⟩
        walk_at "go"
        intro q hq
        have r1 := rp.sm (same_new (o := .lst (nameL.map V.str)) hq)
        have S2 := S0.mono r1.same
        walk_at "go"
        intro v1 b0 b1
        obtain ⟨z, hz, hzi⟩ := atI_strs (xs := nameL) (v := v1) b0 (by show v1 < 4; omega)
        refine r_ixL (SqL.of upd_same) hzi ?_
        walk_at "go"
        refine ⟨fun x => x ∈ rs.map Row.name, s0, n, rfl, S2, hN.same r1.same, fun u1 x1 H4 e4 hu1 ok1 => ?_⟩
        have r2 := r1.sm e4
        walk_at "go"
        refine ⟨fun x => x ∈ rs.map Row.name, s0, n, rfl, S0.mono r2.same, hN.same r2.same, fun u2 x2 H5 e5 hu2 ok2 => ?_⟩
        have r3 := r2.sm e5
        walk_at "go"
        refine ⟨by show 2 ≤ sizeLine; decide, fun t ht2 => ?_⟩
        have e6 := same_new (o := .tup [u1, u2]) ht2
        have r4 := r3.sm e6
        have hv : EqV K (upd H5 t (.tup [u1, u2])) (fun x => x ∈ rs.map Row.name) (.ref t) := ⟨t, u1, u2, x1, x2, rfl, SqT.of upd_same, hu1.same (e5.trans e6), ok1, hu2.same e6, ok2⟩
        have l4 : upd H5 t (.tup [u1, u2]) l1 = some (.lst [.str "equations", .str "initials"]) := e6 _ _ (e5 _ _ (e4 _ _ (same_new hq _ _ hl)))
        walk_at "go"
        rcases ht with rfl | rfl
        · obtain ⟨kvs, a, b, _⟩ := id r4.he
          refine ⟨tb, _, rfl, DPut.k (k := Sum.inr z) a (Nat.lt_of_le_of_lt b (by rw [sizeLine_eq]; omega)), ?_⟩
          exact ⟨_, _, rfl, by rw [upd_ne fun z => by rw [z, a] at l4; cases l4]; exact l4, r4.putE fr a hv⟩
        · obtain ⟨kvs, a, b, _⟩ := id r4.hi
          refine ⟨tb, _, rfl, DPut.k (k := Sum.inr z) a (Nat.lt_of_le_of_lt b (by rw [sizeLine_eq]; omega)), ?_⟩
          exact ⟨_, _, rfl, by rw [upd_ne fun z => by rw [z, a] at l4; cases l4]; exact l4, r4.putI fr a hv⟩
      · rintro σ H3 ⟨o6, o7, rfl, hl, rp⟩
        exact ⟨_, _, _, _, rfl, hl, rp.mono (Same.refl _)⟩
    · rintro σ H3 ⟨o4, o5, o6, o7, rfl, _, rp⟩
      walk_at "go"
      intro tk htk
      have rp6 : RawP K Hn (upd H3 tk (.lst [])) (fun x => x ∈ rs.map Row.name) g p e i wh 6 0 := rp.sm (same_new htk)
      have hd := dget_k rp6.hg rw4
      have S3 := S0.mono rp6.same
      have htk2 : upd H3 tk (.lst []) tk = some (.lst []) := upd_same
      revert rp6 hd S3 htk2
      generalize upd H3 tk (.lst []) = H4
      intro rp6 hd S3 htk2
      walk_at "go"
      intro v0 a0 a1
      walk_at "go"
      refine for_rng (n := v0.toNat) (lo := 0) (fun d σ H' => ∃ o6 o9 o10 o11 o12 tk xs, σ = [some (.ref s0), some (.ref p), some (.ref n), some (.ref g), o4, some (.ref wh), o6, o7, some (.ref tk), o9, o10, o11, o12] ∧ RawP K Hn H' (fun x => x ∈ rs.map Row.name) g p e i wh 6 d ∧ H' tk = some (.lst xs) ∧ StrsV (fun _ => True) xs ∧ xs.length ≤ 2 * d) ?_ ?_ ?_
      · exact ⟨_, _, _, _, _, tk, [], rfl, rp6, htk2, (fun _ h => by cases h), Nat.le_refl _⟩
      · rintro d σ H5 hd5 ⟨o6, o9, o10, o11, o12, tk, xs, rfl, rp, htk, hxs, lx⟩
        have hd2 : d < 2 := by omega
        walk_at "go"
        intro A hA
        walk_at "go"
        intro O hO
        have eA : Same H5 (upd (upd H5 A (.lst [])) O (.lst [])) := (same_new hA).trans (same_new hO)
        obtain ⟨OA, hO⟩ := lk_none hO
        have S5 := S0.mono (rp.same.trans eA)
        walk_at "go"
        intro v1 b0 b1
        walk_at "go"
        refine for_rng (n := v1.toNat) (lo := 0) (fun j σ H' => ∃ o11 o12 as os ws, σ = [some (.ref s0), some (.ref p), some (.ref n), some (.ref g), o4, some (.ref wh), some (.int (0 + (d : Int))), o7, some (.ref tk), some (.ref A), some (.ref O), o11, o12] ∧ Same H5 H' ∧ H' A = some (.lst as) ∧ H' O = some (.lst os) ∧ ActsV K H' (fun x => x ∈ rs.map Row.name) as ws ∧ as.length ≤ j ∧ StrsV (fun _ => True) os ∧ os.length ≤ j) ?_ ?_ ?_
        · exact ⟨_, _, [], [], [], rfl, eA, by rw [upd_ne OA.symm]; exact upd_same, upd_same, ⟨.nil, fun _ h => by cases h⟩, Nat.le_refl _, (fun _ h => by cases h), Nat.le_refl _⟩
        · rintro j σ H6 hj ⟨o11, o12, as, os, ws, rfl, e6, h6A, h6O, hacts, la, hos, lo⟩
          have hj2 : j < 2 := by omega
          have h6t := e6 _ _ htk
          have R6 := hR.same (rp.same.trans e6)
          walk_at "go"
          refine ⟨tk, O, xs, os, rfl, rfl, h6t, h6O, by rw [sizeLine_eq]; omega, fun r hr => ?_⟩
          have e7 := same_new (o := .lst (xs ++ os)) hr
          have hx2 : StrsV (fun _ => True) (xs ++ os) := strsV_app hxs hos
          have S7 := S0.mono (rp.same.trans (e6.trans e7))
          have R7 := R6.same e7
          walk_at "go"
          refine ⟨s0, p, r, rs, xs ++ os, rfl, S7, R7, upd_same, hx2, fun H8 e8 => ?_, fun t wd H8 e8 hwd ha => ?_⟩
          · have e68 := e7.trans e8
            walk_at "go"
            exact ⟨_, _, as, os, ws, rfl, e6.trans e68, e68 _ _ h6A, e68 _ _ h6O, hacts.keep (Same.keep e68), Nat.le_succ_of_le la, hos, Nat.le_succ_of_le lo⟩
          · have e68 := e7.trans e8
            have h8A := e68 _ _ h6A
            have h8O := e68 _ _ h6O
            walk_at "go"
            refine And.intro (.inl ⟨rfl, _, SqL.of h8A⟩) ?_
            walk_at "go"
            refine ⟨A, as, _, rfl, rfl, h8A, Nat.lt_of_le_of_lt la (by rw [sizeLine_eq]; omega), ?_⟩
            have kA : Keep H8 (upd H8 A (.lst (as ++ [.ref t]))) := keep_upd h8A rfl
            have h9O : upd H8 A (.lst (as ++ [.ref t])) O = some (.lst os) := by rw [upd_ne OA]; exact h8O
            walk_at "go"
            refine And.intro (.inl ⟨rfl, _, SqL.of h9O⟩) ?_
            have ha2 := ha.keep kA
            obtain @⟨t', _, x, u, ex, et, ht, hx, hu, ok⟩ := id ha2
            cases et
            walk_at "go"
            refine r_ixT ht rfl ?_
            walk_at "go"
            refine ⟨O, os, _, rfl, rfl, h9O, Nat.lt_of_le_of_lt lo (by rw [sizeLine_eq]; omega), ?_⟩
            have kO : Keep (upd H8 A (.lst (as ++ [.ref t]))) (upd (upd H8 A (.lst (as ++ [.ref t]))) O (.lst (os ++ [.str x]))) := keep_upd h9O rfl
            walk_at "go"
            refine ⟨_, _, _, _, ws ++ [wd], rfl, same_upd (same_upd (e6.trans e68) hA) hO, by rw [upd_ne OA.symm]; exact upd_same, upd_same, ⟨Paired.app (hacts.keep ((Same.keep e68).trans (kA.trans kO))).1 (.cons (ha.keep (kA.trans kO)) .nil), fun y hy => ?_⟩, len1 la, strsV_add hos trivial, len1 lo⟩
            rcases List.mem_append.mp hy with z | z
            · exact hacts.2 y z
            · rw [List.mem_singleton.mp z]
              exact hwd
        · rintro σ H6 ⟨o11, o12, as, os, ws, rfl, e6, h6A, h6O, hacts, la, hos, lo⟩
          have h6t := e6 _ _ htk
          have la2 : as.length ≤ 2 := by omega
          walk_at "go"
          refine ⟨⟨_, SqL.of h6A⟩, ?_⟩
          refine lc_lst (SqL.of h6A) (by omega) (fun j acc H' => StrsV (fun _ => True) acc ∧ acc.length ≤ j) ?_ ?_ ?_
          · exact fun D hD => ⟨(fun _ h => by cases h), Nat.le_refl _⟩
          · rintro D j x acc H7 hD hx hj e7 hD7 la7 ⟨hacc, lc⟩
            obtain ⟨wd, hwd, ha⟩ := Paired.some hacts.1 hx
            have ha7 := ha.keep (Same.keep e7)
            obtain @⟨t', _, x, u, ex, rfl, ht, hx, hu, ok⟩ := id ha7
            walk_at "go"
            refine ⟨rfl, ?_⟩
            walk_at "go"
            refine r_ixT ht rfl ?_
            walk_at "go"
            refine ite_d (fun c1 => ?_) (fun c1 => ?_)
            · walk_at "go"
              refine r_ixT ht rfl ?_
              exact lc_add hD e7 (Same.refl _) hD7 la7 hj ⟨strsV_add hacc trivial, len1 lc⟩
            · exact lc_skip e7 (Same.refl _) hD7 la7 ⟨hacc, Nat.le_succ_of_le lc⟩
          · rintro D acc H7 hD e7 hD7 ⟨hacc, lc⟩
            have h7t := e7 _ _ h6t
            refine ⟨tk, D, xs, acc, rfl, rfl, h7t, hD7, by rw [sizeLine_eq]; omega, fun r hr => ?_⟩
            have e8 := same_new (o := .lst (xs ++ acc)) hr
            have e58 := e6.trans (e7.trans e8)
            have rp8 := rp.sm e58
            have S8 := S0.mono rp8.same
            have N8 := hN.same rp8.same
            walk_at "go"
            refine ⟨fun x => x ∈ rs.map Row.name, s0, n, rfl, S8, N8, fun u1 x1 H9 e9 hu1 ok1 => ?_⟩
            walk_at "go"
            refine ⟨by show 2 ≤ sizeLine; decide, fun t ht => ?_⟩
            have e10 := same_new (o := .tup [u1, .ref A]) ht
            have rp10 := rp8.sm (e9.trans e10)
            obtain ⟨kvs, a, b, _⟩ := id rp10.hw
            have e610 := e7.trans (e8.trans (e9.trans e10))
            have hv : WhenV K (upd H9 t (.tup [u1, .ref A])) (fun x => x ∈ rs.map Row.name) (.ref t) ws := ⟨t, u1, A, as, x1, rfl, SqT.of upd_same, hu1.same e10, ok1, e610 _ _ h6A, la2, hacts.keep (Same.keep e610)⟩
            have hrr : upd H9 t (.tup [u1, .ref A]) r = some (.lst (xs ++ acc)) := (e9.trans e10) _ _ upd_same
            have rw' : r ≠ wh := fun z => by rw [z, a] at hrr; cases hrr
            walk_at "go"
            refine ⟨by rcases (by omega : d = 0 ∨ d = 1) with rfl | rfl <;> decide +kernel, _, _, rfl, rfl, by rcases (by omega : d = 0 ∨ d = 1) with rfl | rfl <;> decide +kernel, ?_⟩
            refine ⟨wh, _, rfl, DPut.k (k := Sum.inr _) a (Nat.lt_of_le_of_lt b (by rw [sizeLine_eq]; omega)), ?_⟩
            exact ⟨_, _, _, _, _, r, xs ++ acc, rfl, rp10.putW fr a hv, by rw [upd_ne rw']; exact hrr, strsV_app hxs hacc, by rw [List.length_append]; omega⟩
      · rintro σ H6 ⟨o6, o9, o10, o11, o12, tk, xs, rfl, rp, htk, hxs, lx⟩
        walk_at "go"
        exact k Hn _ g p e i wh rs e12 fr hR (rp.mono (Same.refl _))
end
/-! ### own rules: list.count of flat items, str of a tuple of ints -/
section
variable {X : Cx}
def cntV (x : V) (xs : List V) : Nat := xs.countP fun y => eqV y x
theorem countP_eqU {x : V} : ∀ {xs : List V} {us : List Value}, Vals xs us → xs.all flatV = true → us.countP (eqU x) = cntV x xs
  | _, _, .nil, _ => rfl
  | y :: xs, u :: us, .cons r t, f => by
    rw [List.all_cons, Bool.and_eq_true] at f
    unfold cntV
    rw [List.countP_cons, List.countP_cons, countP_eqU t f.2, eqU_of r f.1]
    rfl
def rCntF (K : PySem.W.Frag) : V → List V → Hp → VK → Prop := fun x vs H Q => ∃ (p : Addr) (xs : List V) (y : V), x = .ref p ∧ vs = [y] ∧ SqL K H p xs ∧ flatV y = true ∧ xs.all flatV = true ∧ Q (.int (cntV y xs : Nat)) H
theorem mt_lcountF : MtR X "list.count" (rCntF X.K) := by
  intro pins s σ H x xs v us Q I rx rxs h
  obtain ⟨p, ns, y, rfl, rfl, hs, fy, fs, q⟩ := h
  cases rx
  obtain ⟨u, rfl, ru⟩ := rxs.one
  obtain ⟨its, rv, ⟨⟨cls, dd, data, sl⟩, n, ho, hc, hdn, hd⟩, hlen⟩ := I.list hs
  simp only at hc hd
  subst hc hd
  refine call_meets PySem.F.slot_list_count ⟨_, ho, rfl⟩ PySem.F.entry_list_count (PySem.F.args_list_count_2 _ _)
    (SeqAt.list_countAt p its.toArray n dd sl u (eqU y)) ⟨ho, fun z hz => mem_eqAt ru fy rv fs z (by simpa using hz), ?_⟩
  have ec : its.toArray.toList.countP (eqU y) = cntV y ns := countP_eqU rv fs
  refine ⟨.int (cntV y ns : Nat), H, I.tok _, ⟨s.toks, ?_⟩, q⟩
  show Value.int ((its.toArray.toList.countP (eqU y) : Nat) : Int) s.toks = Value.int ((cntV y ns : Nat) : Int) s.toks
  rw [ec]
def datI (ns : List Int) : PyData := .tuple (ns.map .int)
def strI (ns : List Int) : Str := (datI ns).shown
structure ShowsI (ns : List Int) : Prop where
  sz : (strI ns).length ≤ sizeLine
  sh : ∀ n ∈ ns, n.natAbs.log2 < 1920
theorem sh_ints : ∀ {ns : List Int}, (∀ n ∈ ns, n.natAbs.log2 < 1920) → PyData.showableAll (ns.map .int) = true
  | [], _ => rfl
  | n :: ns, h => by
    show (PyData.showable (.int n) && PyData.showableAll (ns.map .int)) = true
    rw [sh_ints fun m hm => h m (List.mem_cons_of_mem _ hm), Bool.and_true]
    simp only [PyData.showable]
    exact decide_eq_true (h n List.mem_cons_self)
theorem dp_ints : ∀ ns : List Int, PyData.depthAll (ns.map .int) = 0
  | [] => rfl
  | n :: ns => by
    show max (PyData.depth (.int n)) (PyData.depthAll (ns.map .int)) = 0
    rw [dp_ints ns]
    simp [PyData.depth]
theorem nd_ints : ∀ ns : List Int, PyData.hasDictAll (ns.map .int) = false
  | [] => rfl
  | n :: ns => by
    show (PyData.hasDict (.int n) || PyData.hasDictAll (ns.map .int)) = false
    rw [nd_ints ns]
    simp [PyData.hasDict]
theorem reads_ints {h : Heap} : ∀ (ns : List Int) (us : List Value), Vals (ns.map V.int) us → ReadsAll h us (ns.map PyData.int) []
  | [], _, .nil => .nil
  | n :: ns, u :: us, .cons r rs => by
    obtain ⟨t, e⟩ : ∃ t, u = Value.int n t := r
    cases e
    exact .cons (as := []) (bs := []) (.int n t) (reads_ints ns _ rs)
theorem call_strT {X : Cx} (hg : X.A.guards = some []) (hu : X.A.units + 64 < cLine) : CallR X (.type "str") (fun xs H Q => ∃ a ns, xs = [.ref a] ∧ H a = some (.tup (ns.map V.int)) ∧ ShowsI ns ∧ Q (.str (strI ns)) H) := by
  intro pins s σ H xs us Q I r h
  obtain ⟨a, ns, rfl, ha, sh, q⟩ := h
  obtain ⟨u, rfl, e⟩ := vals1 r
  cases (show u = Value.ref a from e)
  obtain ⟨_, its, vs, ob, hget, hcl, m, hda⟩ := I.hok a _ ha
  have rd : Reads s.heap (.ref a) (datI ns) [] := .tuple (as := []) hget hcl hda (by rw [List.toList_toArray]; exact reads_ints ns its vs)
  have dp : (datI ns).depth ≤ 8 := by
    show PyData.depth (.tuple _) ≤ 8
    simp only [PyData.depth]
    rw [dp_ints]
    decide
  have nd : (datI ns).hasDict = false := by
    show PyData.hasDict (.tuple _) = false
    simp only [PyData.hasDict]
    exact nd_ints ns
  have ss : (datI ns).showable = true := by
    show PyData.showable (.tuple _) = true
    simp only [PyData.showable]
    exact sh_ints sh.sh
  refine str_of_reads rd ss (fun e => by rw [nd] at e; cases e) hg (by omega) (fun _ _ e => e) (fun h' u tk hk => ?_) sh.sz
  exact ⟨.str (strI ns), H, I.call' (ch := []) rfl (Un.kept hk) (I.hok.kept hk) I.bare (fun b z => absurd z (by simp)), ⟨u, rfl⟩, q⟩
end
section
variable {P : Program} {w : World} {K : PySem.W.Frag} {mg : Str → Option Value} {base : Heap}
theorem Top.kb_Variable (T : Top w K mg) : ∃ its, KBn K (fdOf K d_Variable___init__) ["self", "name", "kind", "truth", "value", "start", "fixed"] 3 ["truth", "value", "start", "fixed"] (fun us ws => (fun {α : Type} (us its ws : List α) => us ++ ws) us its ws) (fun vs zs => vs ++ zs) :=
  T.f_Variable___init__.kbindsD 3 ["truth", "value", "start", "fixed"] (fun us _ ws => us ++ ws) (by intro z; cases z) (fun a _ c => Paired.app a c) fun _ _ _ _ _ _ _ us its ws h1 h2 h3 => match us, its, ws, h1, h2, h3 with | [_, _, _], [_, _, _, _], [_, _, _, _], _, _, _ => ⟨_, rfl, rfl⟩
def varF (v1 v2 v3 v4 v5 v6 : V) : List (Str × V) := [("name", v1), ("kind", v2), ("truth", v3), ("value", v4), ("start", v5), ("fixed", v6)]
def spVarI (K : PySem.W.Frag) : Sp := fun vs H Q _ => ∃ (x dx : Addr) (v1 v2 v3 v4 v5 v6 : V), vs = [.ref x, v1, v2, v3, v4, v5, v6] ∧ H x = some (.ins (He.ga K "Variable") dx []) ∧ Q .non (upd H x (.ins (He.ga K "Variable") dx (varF v1 v2 v3 v4 v5 v6)))
theorem ok_Variable___init__ (T : Top w K mg) : FnOk P w K mg base CX0 1 (He.ma K (He.ga K ("Variable" : Str)) ("__init__" : Str)) (fdOf K d_Variable___init__) ["self", "name", "kind", "truth", "value", "start", "fixed"] (spVarI K) := by
  refine (T.f_Variable___init__).ok sc_Variable___init__ (fun vs H Q E h => ?_) (fun cdv A outer s H vs Q E hr h => ?_)
  · obtain ⟨x, dx, v1, v2, v3, v4, v5, v6, rfl, _⟩ := h
    rfl
  · obtain ⟨x, dx, v1, v2, v3, v4, v5, v6, rfl, hx, k⟩ := h
    refine ⟨_, PSs.nox (pss_cons (ps_fldK (K := K) rfl (pv 0) (pv 1) rfl)
    (pss_cons (ps_fldK (K := K) rfl (pv 0) (pv 2) rfl)
    (pss_cons (ps_fldK (K := K) rfl (pv 0) (pv 3) rfl)
    (pss_cons (ps_fldK (K := K) rfl (pv 0) (pv 4) rfl)
    (pss_cons (ps_fldK (K := K) rfl (pv 0) (pv 5) rfl)
    (pss_one (ps_fldK (K := K) rfl (pv 0) (pv 6) rfl))))))), ?_⟩
    walk_at "go"
    refine ⟨_, _, _, _, rfl, hx, T.cls_Variable, T.na_Variable_name, (by show 0 < 1000; decide), ?_⟩
    walk_at "go"
    refine ⟨_, _, _, _, rfl, upd_same, T.cls_Variable, T.na_Variable_kind, (by show 1 < 1000; decide), ?_⟩
    walk_at "go"
    refine ⟨_, _, _, _, rfl, upd_same, T.cls_Variable, T.na_Variable_truth, (by show 2 < 1000; decide), ?_⟩
    walk_at "go"
    refine ⟨_, _, _, _, rfl, upd_same, T.cls_Variable, T.na_Variable_value, (by show 3 < 1000; decide), ?_⟩
    walk_at "go"
    refine ⟨_, _, _, _, rfl, upd_same, T.cls_Variable, T.na_Variable_start, (by show 4 < 1000; decide), ?_⟩
    walk_at "go"
    refine ⟨_, _, _, _, rfl, upd_same, T.cls_Variable, T.na_Variable_fixed, (by show 5 < 1000; decide), ?_⟩
    walk_at "go"
    simp only [upd_upd]
    exact k
def VarV (K : PySem.W.Frag) (H : Hp) (v : V) (kd : Str) : Prop := ∃ x dx v1 v3 v4 v5 v6, v = .ref x ∧ H x = some (.ins (He.ga K "Variable") dx (varF v1 (.str kd) v3 v4 v5 v6))
theorem VarV.keep {H H' : Hp} {v : V} {kd : Str} (k : Keep H H') : VarV K H v kd → VarV K H' v kd := fun ⟨x, dx, v1, v3, v4, v5, v6, e, h⟩ => ⟨x, dx, v1, v3, v4, v5, v6, e, k _ _ h rfl⟩
def spVar (K : PySem.W.Frag) : Sp := fun vs H Q _ => ∃ (t : Addr) (v1 v3 v4 v5 v6 : V) (kd : Str), vs = [.ref t] ∧ SqT K H t [v1, .str kd, v3, v4, v5, v6] ∧ ∀ v H', Same H H' → VarV K H' v kd → Q v H'
theorem ok__law_variable (T : Top w K mg) : FnOk P w K mg base CX0 3 (He.ga K ("_law_variable" : Str)) (fdOf K d__law_variable) ["row"] (spVar K) := by
  obtain ⟨its, KB_Variable⟩ := T.kb_Variable
  refine (T.f__law_variable).ok sc__law_variable (fun vs H Q E h => ?_) (fun cdv A outer s H vs Q E hr h => ?_)
  · obtain ⟨t, v1, v3, v4, v5, v6, kd, rfl, _⟩ := h
    rfl
  · obtain ⟨t, v1, v3, v4, v5, v6, kd, rfl, ht, k⟩ := h
    refine ⟨_, PSs.nox (pss_one (ps_ret (pe_makeN (C := He.ga K ("Variable" : Str)) (n := 2) T.mk_Variable (ok_Variable___init__ (K := K) T) (hr.mono (by decide)) rfl T.g_Variable KB_Variable pass0 (pa_cons (pe_ix (ix_tupK (K := K) rfl) (pv 0) pe_int (fun _ _ => rfl)) (pa_cons (pe_ix (ix_tupK (K := K) rfl) (pv 0) pe_int (fun _ _ => rfl)) pa_nil)) (pk_cons (pe_ix (ix_tupK (K := K) rfl) (pv 0) pe_int (fun _ _ => rfl)) (pk_cons (pe_ix (ix_tupK (K := K) rfl) (pv 0) pe_int (fun _ _ => rfl)) (pk_cons (pe_ix (ix_tupK (K := K) rfl) (pv 0) pe_int (fun _ _ => rfl)) (pk_cons (pe_ix (ix_tupK (K := K) rfl) (pv 0) pe_int (fun _ _ => rfl)) pk_nil))))))), ?_⟩
    walk_at "go"
    refine r_ixT ht rfl ?_
    walk_at "go"
    refine r_ixT ht rfl ?_
    walk_at "go"
    refine r_ixT ht rfl ?_
    walk_at "go"
    refine r_ixT ht rfl ?_
    walk_at "go"
    refine r_ixT ht rfl ?_
    walk_at "go"
    refine r_ixT ht rfl ?_
    walk_at "go"
    refine ⟨rfl, rfl, fun x dx nx ndx ne => ?_⟩
    refine ⟨x, dx, _, _, _, _, _, _, rfl, upd_same, rfl, ?_⟩
    rw [upd_upd]
    exact k _ _ (same_mk nx ndx) ⟨x, dx, _, _, _, _, _, rfl, upd_same⟩
end
theorem upd_self {H : Hp} {p : Addr} {F : HO} (h : H p = some F) : upd H p F = H := by
  funext b
  by_cases z : b = p
  · rw [z, upd_same, h]
  · rw [upd_ne z]
theorem lk_open {Hu H' : Hp} {p : Addr} {F u : HO} (hp : Hu p = some u) (s : Same (upd Hu p F) H') : H' = upd (upd H' p u) p F ∧ Same Hu (upd H' p u) := by
  refine ⟨?_, fun b o hb => ?_⟩
  · rw [upd_upd, upd_self (s _ _ upd_same)]
  · by_cases z : b = p
    · rw [z, hp] at hb
      rw [z, upd_same, hb]
    · rw [upd_ne z]
      exact s _ _ (by rw [upd_ne z]; exact hb)
section
variable {J : It} {n : Nat} {G : Hp → Prop} {Y : Nat → Hp → V → Hp → Prop}
theorem dc_it (w : Walk J n G Y) {g : TG} {tt : TT} {tk tv : TE} {vs : List Nat} {σ : St} {H1 : Hp} {D : Addr} {Qd : Hp → Prop} (Pv : Nat → Hp → Prop) (h0 : Pv 0 (upd H1 D (.dK []))) (hG : ∀ i H, i ≤ n → Pv i H → G H)
    (hs : ∀ i x H H', i < n → Pv i H → Y i H x H' → g x (wipe σ vs) H' fun σ2 H2 => wipe σ2 vs = wipe σ vs ∧ tt σ2 H2 fun b H3 =>
      if b = true then tk σ2 H3 fun y H4 => tv σ2 H4 fun z H5 => ∃ kvs k, y = kV k ∧ H5 D = some (.dK kvs) ∧ kvs.length < sizeLine ∧ Pv (i + 1) (upd H5 D (.dK (putK kvs k z))) else Pv (i + 1) H3) (hd : ∀ H, Pv n H → Qd H) :
    ∃ W : Nat → Nat → Hp → Prop, (∃ m, W 0 m (upd H1 D (.dK []))) ∧ ∀ i m H, W i m H →
      (J.stop i H ∧ Qd H) ∨ (J.go i H ∧ ∃ Nx : Hp → Prop, (∀ H', Nx H' → ∃ m', m' < m ∧ W (i + 1) m' H') ∧ ∀ x H', J.yld i H x H' → g x (wipe σ vs) H' fun σ2 H2 => wipe σ2 vs = wipe σ vs ∧ tt σ2 H2 fun b H3 =>
        if b = true then tk σ2 H3 fun y H4 => tv σ2 H4 fun z H5 => ∃ kvs k, y = kV k ∧ H5 D = some (.dK kvs) ∧ kvs.length < sizeLine ∧ Nx (upd H5 D (.dK (putK kvs k z))) else Nx H3) := by
  refine ⟨fun i m H => m = n - i ∧ i ≤ n ∧ Pv i H, ⟨n, by simp, Nat.zero_le _, h0⟩, ?_⟩
  rintro i m H ⟨rfl, hi, p⟩
  have q := hG i H hi p
  by_cases hlt : i < n
  · exact .inr ⟨w.goes i H hlt q, Pv (i + 1), fun H' p' => ⟨n - (i + 1), by omega, rfl, hlt, p'⟩, fun x H' y => hs i x H H' hlt p (w.yields i H x H' hlt q y)⟩
  · have e : i = n := by omega
    subst e
    exact .inl ⟨w.stops H q, hd H p⟩
end
theorem fresh_takeG {α : Type} {l : List α} (nd : l.Nodup) {i : Nat} {y : α} (h : l[i]? = some y) : y ∉ l.take i := by
  intro z
  obtain ⟨j, hj⟩ := List.mem_iff_getElem?.mp z
  rw [List.getElem?_take] at hj
  split at hj
  · rename_i lt
    have hi := (List.getElem?_eq_some_iff.mp h).1
    have := (List.getElem?_inj (i := j) (j := i) (by omega) nd).mp (hj.trans h.symm)
    omega
  · cases hj
theorem valV_no {kvs : List (Key × V)} {k : Key} (h : k ∉ kvs.map (·.1)) : valV kvs k = none := by
  induction kvs with
  | nil => rfl
  | cons p r ih =>
    rw [List.map_cons, List.mem_cons, not_or] at h
    rw [valV_neg fun z => h.1 z.symm]
    exact ih h.2
theorem valV_at : ∀ {kvs : List (Key × V)} {i : Nat} {k : Key} {v : V}, (kvs.map (·.1)).Nodup → kvs[i]? = some (k, v) → valV kvs k = some v
  | [], _, _, _, _, h => by simp at h
  | p :: r, 0, k, v, _, h => by
    simp at h
    subst h
    exact valV_pos rfl
  | p :: r, i + 1, k, v, nd, h => by
    rw [List.map_cons, List.nodup_cons] at nd
    have h' : r[i]? = some (k, v) := by simpa using h
    rw [valV_neg fun z => nd.1 (by rw [z]; exact List.mem_map_of_mem (f := (·.1)) (List.mem_of_getElem? h'))]
    exact valV_at nd.2 h'
theorem r_yes {σ : St} {H : Hp} {F G : Hp → Prop} (h : F H) : tYes σ H (fun b H3 => if b = true then F H3 else G H3) := (show (if true = true then F H else G H) from iteT h)
/-- an object that no expression, list or tuple is made of -/
structure Odd (o : HO) : Prop where
  tup : ∀ xs, o ≠ .tup xs
  frz : ∀ ob xs, o ≠ .frz ob (.tup xs)
  ins : ∀ C dx n d, o ≠ .ins C dx (rfl2 n d)
  lst : ∀ xs, o ≠ .lst xs
theorem odd_frz {od : Obj} {kvs : List (Key × V)} : Odd (.frz od (.dK kvs)) := by
  refine ⟨?_, ?_, ?_, ?_⟩
  · intro _ h; cases h
  · intro _ _ h; cases h
  · intro _ _ _ _ h; cases h
  · intro _ h; cases h
theorem odd_sys {C dx : Addr} {v : V} {r : List (Str × V)} : Odd (.ins C dx (("variables", v) :: r)) := by
  refine ⟨?_, ?_, ?_, ?_⟩
  · intro _ h; cases h
  · intro _ _ h; cases h
  · intro C' dx' n d h
    injection h with _ _ h
    unfold rfl2 at h
    injection h with h _
    injection h with h _
    exact absurd h (by decide +kernel)
  · intro _ h; cases h
section
variable {K : PySem.W.Frag} {H : Hp} {p : Addr} {o u : HO}
theorem SqT.unlk (od : Odd o) (hp : H p = some o) {t : Addr} {xs : List V} (h : SqT K H t xs) : SqT K (upd H p u) t xs := by
  rcases h with h | h
  · refine .inl ?_
    have ne : t ≠ p := fun z => by
      rw [z] at h
      rcases h with h | ⟨ob, h⟩
      · rw [hp] at h; exact od.tup _ (Option.some.inj h)
      · rw [hp] at h; exact od.frz _ _ (Option.some.inj h)
    rcases h with h | ⟨o, h⟩
    · exact .inl (by rw [upd_ne ne]; exact h)
    · exact .inr ⟨o, by rw [upd_ne ne]; exact h⟩
  · exact .inr h
theorem AtV.unlk (od : Odd o) (hp : H p = some o) {v : V} : ∀ {a : At}, AtV K H v a → AtV K (upd H p u) v a
  | .rat _ _, ⟨r, e, dx, h⟩ => ⟨r, e, dx, by rw [upd_ne fun z => by rw [z, hp] at h; exact od.ins _ _ _ _ (Option.some.inj h)]; exact h⟩
  | .bl _, h => h
theorem ExV.unlk (od : Odd o) (hp : H p = some o) {v : V} {e : Ex} (h : ExV K H v e) : ExV K (upd H p u) v e := by
  induction h with
  | var h => exact .var (SqT.unlk od hp h)
  | pre h => exact .pre (SqT.unlk od hp h)
  | lit h q => exact .lit (SqT.unlk od hp h) (Paired.imp (fun _ _ z => AtV.unlk od hp z) q)
  | un h _ i => exact .un (SqT.unlk od hp h) i
  | bin h _ _ i j => exact .bin (SqT.unlk od hp h) i j
  | tern h _ _ _ i j l => exact .tern (SqT.unlk od hp h) i j l
theorem WhenV.unlk (od : Odd o) (hp : H p = some o) {N : Str → Prop} {v : V} {ws : List Str} : WhenV K H N v ws → WhenV K (L2.upd H p u) N v ws := fun ⟨t, c, l, acts, e, a, b, f, g, h, i, j⟩ => by
  have ne : l ≠ p := fun z => by rw [z, hp] at h; exact od.lst _ (Option.some.inj h)
  refine ⟨t, c, l, acts, e, a, SqT.unlk od hp b, f.unlk od hp, g, by rw [upd_ne ne]; exact h, i, Paired.imp (fun _ _ z => ?_) j.1, j.2⟩
  obtain ⟨a, b, c, d, e⟩ := z
  exact .mk a (SqT.unlk od hp b) c (d.unlk od hp) e
end
theorem tyX_sqT {K : PySem.W.Frag} {H : Hp} {t : Addr} {xs : List V} (h : SqT K H t xs) : TyX K H (.ref t) (.type "tuple") := by
  rcases h with (h | ⟨o, h⟩) | ⟨o, its, n, h, c, _⟩
  · exact .base (.tup h)
  · exact .fTuple h
  · exact .kTuple h c
def WhensL (K : PySem.W.Frag) (H : Hp) (N : Str → Prop) (wk : List (Key × V)) (wss : List (List Str)) : Prop := Paired (fun kv ws => (∃ x, kv.1 = .inr x) ∧ WhenV K H N kv.2 ws) wk wss
theorem WhensL.same {K : PySem.W.Frag} {H H' : Hp} {N : Str → Prop} {wk : List (Key × V)} {wss : List (List Str)} (s : Same H H') (h : WhensL K H N wk wss) : WhensL K H' N wk wss := Paired.imp (fun _ _ z => ⟨z.1, z.2.same s⟩) h
section
variable {P : Program} {w : World} {K : PySem.W.Frag} {mg : Str → Option Value} {base : Heap}
def spCopied (K : PySem.W.Frag) : Sp := fun vs H Q _ => ∃ (v : V) (ws : List Str) (N : Str → Prop), vs = [v] ∧ WhenV K H N v ws ∧ ∀ v' H', Same H H' → WhenV K H' N v' ws → Q v' H'
theorem ok__copied_when (T : Top w K mg) : FnOk P w K mg base CX0 1 (He.ga K ("_copied_when" : Str)) (fdOf K d__copied_when) ["when"] (spCopied K) := by
  refine (T.f__copied_when).ok sc__copied_when (fun vs H Q E h => ?_) (fun cdv A outer s H vs Q E hr h => ?_)
  · obtain ⟨v, ws, N, rfl, _⟩ := h
    rfl
  · obtain ⟨v, ws, N, rfl, ⟨t, c, l, acts, e, rfl, ht, hc, oc, hl, la, ha⟩, k⟩ := h
    refine ⟨_, PSs.nox (pss_cons (ps_if (PW.pt (pw_and (pt_val (pe_callB (call_isiK' (K := K) rfl) (by rfl) T.n_isinstance (by decide +kernel) (pa_cons (pv 0) (pa_cons (pe_bltn (v := .ty "tuple") rfl T.n_tuple (by decide +kernel) rfl) pa_nil)))) (pw_and (pt_cmpR op_eq (pe_callB (call_lenK (K := K) rfl) (by rfl) T.n_len PySem.boot_len (pa_cons (pv 0) pa_nil)) pe_int (nomark _)) (pw_and1 (pt_val (pe_callB (call_isiK' (K := K) rfl) (by rfl) T.n_isinstance (by decide +kernel) (pa_cons (pe_ix (ix_tupK (K := K) rfl) (pv 0) pe_int (fun _ _ => rfl)) (pa_cons (pe_bltn (v := .ty "list") rfl T.n_list (by decide +kernel) rfl) pa_nil))))))))
    (pss_one (ps_ret (pe_tup (pa_cons (pe_ix (ix_tupK (K := K) rfl) (pv 0) pe_int (fun _ _ => rfl)) (pa_cons (pe_callTy (call_listK (K := K) rfl) (by rfl) T.n_list (by decide +kernel) (pa_cons (pe_ix (ix_tupK (K := K) rfl) (pv 0) pe_int (fun _ _ => rfl)) pa_nil)) pa_nil)))))
    pss_nil)
    (pss_one (ps_ret (pv 0)))), ?_⟩
    have ht' : SqL K H t [c, .ref l] ∨ SqT K H t [c, .ref l] := .inr ht
    walk_at "go"
    refine r_isi (tyX_sqT ht) (.ty _) (of_decide_eq_true T.x_kit_t_tuple_t_tuple) ?_
    refine ⟨true, rfl, iteT ?_⟩
    walk_at "go"
    refine r_ixT ht rfl ?_
    walk_at "go"
    refine r_isi (.base (.lst hl)) (.ty _) (of_decide_eq_true T.x_kit_t_list_t_list) ?_
    refine ⟨true, rfl, iteT ?_⟩
    walk_at "go"
    refine r_ixT ht rfl ?_
    walk_at "go"
    refine r_ixT ht rfl ?_
    walk_at "go"
    refine ⟨l, acts, rfl, .inl (SqL.of hl), fun q hq => ?_⟩
    walk_at "go"
    refine ⟨by show 2 ≤ sizeLine; decide, fun r hr => ?_⟩
    have s1 := same_new (o := .lst acts) hq
    have s2 := s1.trans (same_new (o := .tup [c, .ref q]) hr)
    exact k _ _ s2 ⟨r, c, q, acts, e, rfl, SqT.of upd_same, hc.same s2, oc, (same_new hr) _ _ upd_same, la, ha.keep (Same.keep s2)⟩
def sysF (a b c d : Addr) : List (Str × V) := [("variables", .ref a), ("equations", .ref b), ("initials", .ref c), ("whens", .ref d)]
def spSys (K : PySem.W.Frag) : Sp := fun vs H Q _ => ∃ (Hb : Hp) (x dx v e i w : Addr) (vk ek ik wk : List (Key × V)) (wss : List (List Str)) (N : Str → Prop), vs = [.ref x, .ref v, .ref e, .ref i, .ref w] ∧ Hb x = none ∧ Same Hb H ∧ H x = some (.ins (He.ga K "System") dx []) ∧
  Hb v = some (.dK vk) ∧ Hb e = some (.dK ek) ∧ Hb i = some (.dK ik) ∧ Hb w = some (.dK wk) ∧ WhensL K Hb N wk wss ∧ (wk.map (·.1)).Nodup ∧ wk.length ≤ 100 ∧
  ∀ H' a b c d wk', Same Hb H' → H' x = some (.ins (He.ga K "System") dx (sysF a b c d)) → H' a = some (.dK vk) → H' b = some (.dK ek) → H' c = some (.dK ik) → H' d = some (.dK wk') → WhensL K H' N wk' wss → Q .non H'
theorem ok_System___init__ (T : Top w K mg) : FnOk P w K mg base CX0 2 (He.ma K (He.ga K ("System" : Str)) ("__init__" : Str)) (fdOf K d_System___init__) ["self", "variables", "equations", "initials", "whens"] (spSys K) := by
  refine (T.f_System___init__).ok sc_System___init__ (fun vs H Q E h => ?_) (fun cdv A outer s H vs Q E hr h => ?_)
  · obtain ⟨Hb, x, dx, v, e, i, w, vk, ek, ik, wk, wss, N, rfl, _⟩ := h
    rfl
  · obtain ⟨Hb, x, dx, v, e, i, w, vk, ek, ik, wk, wss, N, rfl, hb, s0, hx, hv, he, hi, hw, hws, nd, l100, k⟩ := h
    refine ⟨_, PSs.nox (pss_cons (ps_fldK (K := K) rfl (pv 0) (pe_callTy call_dictD (by rfl) T.n_dict (by decide +kernel) (pa_cons (pv 1) pa_nil)) rfl)
    (pss_cons (ps_fldK (K := K) rfl (pv 0) (pe_callTy call_dictD (by rfl) T.n_dict (by decide +kernel) (pa_cons (pv 2) pa_nil)) rfl)
    (pss_cons (ps_fldK (K := K) rfl (pv 0) (pe_callTy call_dictD (by rfl) T.n_dict (by decide +kernel) (pa_cons (pv 3) pa_nil)) rfl)
    (pss_one (ps_fldK (K := K) rfl (pv 0) (pe_lock (pe_dc (own := [(("name" : Str), 5)]) (g := (gName 5)) (tt := tYes) rfl sc_System___init__.nd (pi_keys (pv 4)) (blkOk_by (N := ["self", "variables", "equations", "initials", "whens", "name"]) (sc := defScope s_System___init__) (by decide +kernel)) (fun _ _ _ _ _ => (pg_name (i := 5) sc_System___init__.nd rfl (Or.inl rfl))) (fun _ _ _ _ _ => pts_nil) (fun _ _ _ _ _ => (pv 5)) (fun _ _ _ _ _ => (pe_call (ok__copied_when (K := K) T) (hr.mono (by decide)) rfl T.g__copied_when T.f__copied_when.kp T.b__copied_when .nil pass0 (pa_cons (pe_dget (hu_of hr) (pv 4) (pv 5) (fun _ _ => rfl)) pa_nil))))) rfl))))), ?_⟩
    have nx : ∀ {b : Addr} {o : HO}, Hb b = some o → b ≠ x := fun hb' z => by rw [z, hb] at hb'; cases hb'
    walk_at "go"
    refine ⟨v, vk, rfl, .inl (s0 _ _ hv), fun a ha => ?_⟩
    have s1 := s0.trans (same_new (o := .dK vk) ha)
    have xa : a ≠ x := fun z => by rw [z, hx] at ha; cases ha
    walk_at "go"
    refine ⟨_, _, _, _, rfl, by rw [upd_ne xa.symm]; exact hx, T.cls_System, T.na_System_variables, (by show 0 < 1000; decide), ?_⟩
    have s2 := same_upd (o := .ins (He.ga K "System") dx (putF "variables" (.ref a) [])) s1 hb
    walk_at "go"
    refine ⟨e, ek, rfl, .inl (s2 _ _ he), fun b hb1 => ?_⟩
    obtain ⟨xb, hb1'⟩ := lk_none hb1
    have s3 := s2.trans (same_new (o := .dK ek) hb1)
    walk_at "go"
    refine ⟨_, _, _, _, rfl, by rw [upd_ne xb.symm]; exact upd_same, T.cls_System, T.na_System_equations, (by show 1 < 1000; decide), ?_⟩
    have s4 := same_upd (o := .ins (He.ga K "System") dx (putF "equations" (.ref b) (putF "variables" (.ref a) []))) s3 hb
    walk_at "go"
    refine ⟨i, ik, rfl, .inl (s4 _ _ hi), fun c hc1 => ?_⟩
    obtain ⟨xc, hc1'⟩ := lk_none hc1
    have s5 := s4.trans (same_new (o := .dK ik) hc1)
    walk_at "go"
    refine ⟨_, _, _, _, rfl, by rw [upd_ne xc.symm]; exact upd_same, T.cls_System, T.na_System_initials, (by show 2 < 1000; decide), ?_⟩
    have s6 := same_upd (o := .ins (He.ga K "System") dx (putF "initials" (.ref c) (putF "equations" (.ref b) (putF "variables" (.ref a) [])))) s5 hb
    obtain ⟨cb, hc1'⟩ := lk_none hc1'
    obtain ⟨ca, hc1'⟩ := lk_none (lk_none hc1').2
    obtain ⟨ba, _⟩ := lk_none hb1'
    have fx : upd (upd (upd (upd (upd (upd H a (.dK vk)) x (.ins (He.ga K "System") dx (putF "variables" (.ref a) []))) b (.dK ek)) x (.ins (He.ga K "System") dx (putF "equations" (.ref b) (putF "variables" (.ref a) [])))) c (.dK ik)) x (.ins (He.ga K "System") dx (putF "initials" (.ref c) (putF "equations" (.ref b) (putF "variables" (.ref a) [])))) x = some (.ins (He.ga K "System") dx (putF "initials" (.ref c) (putF "equations" (.ref b) (putF "variables" (.ref a) [])))) := upd_same
    have fa : upd (upd (upd (upd (upd (upd H a (.dK vk)) x (.ins (He.ga K "System") dx (putF "variables" (.ref a) []))) b (.dK ek)) x (.ins (He.ga K "System") dx (putF "equations" (.ref b) (putF "variables" (.ref a) [])))) c (.dK ik)) x (.ins (He.ga K "System") dx (putF "initials" (.ref c) (putF "equations" (.ref b) (putF "variables" (.ref a) [])))) a = some (.dK vk) := by rw [upd_ne xa, upd_ne ca.symm, upd_ne xa, upd_ne ba.symm, upd_ne xa]; exact upd_same
    have fb : upd (upd (upd (upd (upd (upd H a (.dK vk)) x (.ins (He.ga K "System") dx (putF "variables" (.ref a) []))) b (.dK ek)) x (.ins (He.ga K "System") dx (putF "equations" (.ref b) (putF "variables" (.ref a) [])))) c (.dK ik)) x (.ins (He.ga K "System") dx (putF "initials" (.ref c) (putF "equations" (.ref b) (putF "variables" (.ref a) [])))) b = some (.dK ek) := by rw [upd_ne xb, upd_ne cb.symm, upd_ne xb]; exact upd_same
    have fc : upd (upd (upd (upd (upd (upd H a (.dK vk)) x (.ins (He.ga K "System") dx (putF "variables" (.ref a) []))) b (.dK ek)) x (.ins (He.ga K "System") dx (putF "equations" (.ref b) (putF "variables" (.ref a) [])))) c (.dK ik)) x (.ins (He.ga K "System") dx (putF "initials" (.ref c) (putF "equations" (.ref b) (putF "variables" (.ref a) [])))) c = some (.dK ik) := by rw [upd_ne xc]; exact upd_same
    revert s6 fx fa fb fc
    generalize upd (upd (upd (upd (upd (upd H a (.dK vk)) x (.ins (He.ga K "System") dx (putF "variables" (.ref a) []))) b (.dK ek)) x (.ins (He.ga K "System") dx (putF "equations" (.ref b) (putF "variables" (.ref a) [])))) c (.dK ik)) x (.ins (He.ga K "System") dx (putF "initials" (.ref c) (putF "equations" (.ref b) (putF "variables" (.ref a) [])))) = H6
    intro s6 fx fa fb fc
    walk_at "go"
    have hw6 := s6 _ _ hw
    have hws6 := hws.same s6
    refine ⟨w, _, hw6, trivial, fun od => ?_⟩
    walk_at "go"
    refine ⟨w, od, rfl, .inl ⟨wk, upd_same, ?_⟩⟩
    intro D hD
    obtain ⟨Dw, hD'⟩ := lk_none hD
    refine dc_it (walk_keys (kvs := wk)) (fun j H' => ∃ Hu kvs', H' = upd Hu w (.frz od (.dK wk)) ∧ Same H6 Hu ∧ Hu D = some (.dK kvs') ∧ kvs'.map (·.1) = (wk.map (·.1)).take j ∧ WhensL K Hu N kvs' (wss.take j)) ?_ ?_ ?_ ?_
    · exact ⟨upd H6 D (.dK []), [], upd_comm Dw.symm, same_new hD', upd_same, rfl, .nil⟩
    · rintro j H' _ ⟨Hu, _, rfl, _⟩
      exact upd_same
    · rintro j y H7 H8 hj ⟨Hu, kvs', rfl, e7, hD7, hk7, hw7⟩ ⟨rfl, ky, vv, hy, rfl⟩
      obtain ⟨ws, hws1, ⟨xx, hxx⟩, hwv⟩ := Paired.some hws6 hy
      dsimp only at hxx hwv
      subst hxx
      have hvv := valV_at nd hy
      have hp7 := e7 _ _ hw6
      walk_at "go"
      refine ⟨rfl, r_yes ?_⟩
      walk_at "go"
      refine ⟨w, _, rfl, dget_lk hvv, ?_⟩
      walk_at "go"
      refine ⟨vv, ws, N, rfl, (hwv.same e7).upd hp7, fun v' H8 e8 hv' => ?_⟩
      obtain ⟨q1, q2⟩ := lk_open hp7 e8
      have hw8 := e8 _ _ upd_same
      have hv2 := WhenV.unlk (u := .dK wk) odd_frz hw8 hv'
      have kk : Sum.inr xx ∉ kvs'.map (·.1) := by
        rw [hk7]
        exact fresh_takeG nd (by rw [List.getElem?_map, hy]; rfl)
      have hD8 : H8 D = some (.dK kvs') := e8 _ _ (by rw [upd_ne Dw]; exact hD7)
      have hD9 : upd H8 w (.dK wk) D = some (.dK kvs') := by rw [upd_ne Dw]; exact hD8
      have ln : kvs'.length ≤ 100 := by
        have z : (kvs'.map (·.1)).length = ((wk.map (·.1)).take j).length := by rw [hk7]
        rw [List.length_take, List.length_map, List.length_map] at z
        omega
      refine ⟨kvs', Sum.inr xx, rfl, hD8, by rw [sizeLine_eq]; omega, upd (upd H8 w (.dK wk)) D (.dK (putK kvs' (.inr xx) v')), _, ?_, same_upd (e7.trans q2) hD', upd_same, ?_, ?_⟩
      · rw [← upd_comm Dw.symm, ← q1]
      · rw [putK_new v' (valV_no kk), List.map_append, hk7, List.take_succ, List.getElem?_map, hy]
        rfl
      · rw [putK_new v' (valV_no kk), take_succ_get hws1]
        refine Paired.app (Paired.imp (fun _ _ z => ⟨z.1, ?_⟩) hw7) (.cons ⟨⟨xx, rfl⟩, hv2.upd hD9⟩ .nil)
        exact (z.2.same q2).upd hD9
    · rintro H7 ⟨Hu, kvs', rfl, e7, hD7, hk7, hw7⟩
      refine ⟨upd_same, ?_⟩
      rw [upd_back (e7 _ _ hw6)]
      walk_at "go"
      refine ⟨_, _, _, _, rfl, e7 _ _ fx, T.cls_System, T.na_System_whens, (by show 3 < 1000; decide), ?_⟩
      have xD : D ≠ x := fun z => by rw [z, fx] at hD'; cases hD'
      have s8 := same_upd (o := .ins (He.ga K "System") dx (sysF a b c D)) (s6.trans e7) hb
      have n1 : ∀ {q : Addr} {kvs : List (Key × V)}, Hu q = some (.dK kvs) → upd Hu x (.ins (He.ga K "System") dx (sysF a b c D)) q = some (.dK kvs) := fun {q kvs} h => by
        have ne : q ≠ x := fun z => by rw [z, e7 _ _ fx] at h; cases h
        rw [upd_ne ne]
        exact h
      walk_at "go"
      have e9 : wss.take wk.length = wss := List.take_of_length_le (Nat.le_of_eq (Paired.length hws6).symm)
      rw [e9] at hw7
      exact k _ a b c D kvs' s8 upd_same (n1 (e7 _ _ fa)) (n1 (e7 _ _ fb)) (n1 (e7 _ _ fc)) (n1 hD7) (Paired.imp (fun _ _ z => ⟨z.1, z.2.unlk odd_sys (e7 _ _ fx)⟩) hw7)
end
section
variable {P : Program} {w : World} {K : PySem.W.Frag} {mg : Str → Option Value} {base : Heap}
/-- a system's instance: the kinds of its variables, how many equations, the words of its whens' acts -/
structure SysV (K : PySem.W.Frag) (H : Hp) (x : Addr) (kds : List Str) (m : Nat) (wss : List (List Str)) : Prop where
  ex : ∃ dx a b c d vk ek ik wk N, H x = some (.ins (He.ga K "System") dx (sysF a b c d)) ∧ H a = some (.dK vk) ∧ H b = some (.dK ek) ∧ H c = some (.dK ik) ∧ H d = some (.dK wk) ∧ Paired (fun kv kd => VarV K H kv.2 kd) vk kds ∧ ek.length = m ∧ WhensL K H N wk wss
theorem SysV.same {H H' : Hp} {x : Addr} {kds : List Str} {m : Nat} {wss : List (List Str)} (s : Same H H') (h : SysV K H x kds m wss) : SysV K H' x kds m wss := by
  obtain ⟨dx, a, b, c, d, vk, ek, ik, wk, N, h0, h1, h2, h3, h4, h5, h6, h7⟩ := h.ex
  exact ⟨dx, a, b, c, d, vk, ek, ik, wk, N, s _ _ h0, s _ _ h1, s _ _ h2, s _ _ h3, s _ _ h4, Paired.imp (fun _ _ z => z.keep (Same.keep s)) h5, h6, h7.same s⟩
def spMade (K : PySem.W.Frag) : Sp := fun vs H Q _ => ∃ (g p e i w : Addr) (rs : List Row) (ek ik wk : List (Key × V)) (wss : List (List Str)) (N : Str → Prop), vs = [.ref g] ∧ g ≠ p ∧ H g = some (.dK (raw4 (.ref p) (.ref e) (.ref i) (.ref w))) ∧ RowsAt K H p specL rs ∧
  H e = some (.dK ek) ∧ H i = some (.dK ik) ∧ H w = some (.dK wk) ∧ WhensL K H N wk wss ∧ (wk.map (·.1)).Nodup ∧ wk.length ≤ 100 ∧ ∀ x H', Same H H' → SysV K H' x (rs.map Row.kind) ek.length wss → Q (.ref x) H'
theorem ok__law_made (T : Top w K mg) : FnOk P w K mg base CX0 4 (He.ga K ("_law_made" : Str)) (fdOf K d__law_made) ["raw"] (spMade K) := by
  refine (T.f__law_made).ok sc__law_made (fun vs H Q E h => ?_) (fun cdv A outer s H vs Q E hr h => ?_)
  · obtain ⟨g, p, e, i, w, rs, ek, ik, wk, wss, N, rfl, _⟩ := h
    rfl
  · obtain ⟨g, p, e, i, w, rs, ek, ik, wk, wss, N, rfl, gp, hg, hR, he, hi, hw, hws, nd, l100, k⟩ := h
    refine ⟨_, PSs.nox (pss_cons (ps_set (i := 1) sc__law_made.nd rfl (Or.inl rfl) pe_dnewK)
    (pss_cons (ps_lock (ps_for PassesOwn.never rfl (pi_keys (pe_dget (hu_of hr) (pv 0) pe_str (fun _ _ => rfl))) (pg_name (i := 2) sc__law_made.nd rfl (Or.inl rfl))
    (pss_one (ps_dput (hu_of hr) (pv 1) (pv 2) (pe_call (ok__law_variable (K := K) T) (hr.mono (by decide)) rfl T.g__law_variable T.f__law_variable.kp T.b__law_variable .nil pass0 (pa_cons (pe_dget (hu_of hr) (pe_dget (hu_of hr) (pv 0) pe_str (fun _ _ => rfl)) (pv 2) (fun _ _ => rfl)) pa_nil)) rfl))))
    (pss_one (ps_ret (pe_make (C := He.ga K ("System" : Str)) T.mk_System (ok_System___init__ (K := K) T) (hr.mono (by decide)) rfl T.g_System T.b_System___init__ .nil pass0 (pa_cons (pv 1) (pa_cons (pe_dget (hu_of hr) (pv 0) pe_str (fun _ _ => rfl)) (pa_cons (pe_dget (hu_of hr) (pv 0) pe_str (fun _ _ => rfl)) (pa_cons (pe_dget (hu_of hr) (pv 0) pe_str (fun _ _ => rfl)) pa_nil))))))))), ?_⟩
    obtain ⟨kvs, hk, hkv⟩ := hR.ex
    have hkl : kvs.length ≤ 10 := hR.len hk
    walk_at "go"
    intro v hv
    have pv : p ≠ v := fun z => by rw [← z, hk] at hv; cases hv
    have gv : g ≠ v := fun z => by rw [← z, hg] at hv; cases hv
    have s0 := same_new (o := .dK []) hv
    have dg := dget_k (s0 _ _ hg) rw1
    walk_at "go"
    refine ⟨p, _, s0 _ _ hk, trivial, fun od => ?_⟩
    have gv2 : ∀ {Hu : Hp} {u : HO}, Same H Hu → upd Hu p u g = some (.dK (raw4 (.ref p) (.ref e) (.ref i) (.ref w))) := fun {Hu u} s1 => by rw [upd_ne gp]; exact s1 _ _ hg
    have dg1 := dget_k (gv2 (u := .frz od (.dK kvs)) s0) rw1
    walk_at "go"
    refine ⟨p, od, rfl, .inl ⟨kvs, upd_same, ?_⟩⟩
    refine for_it (walk_keys (kvs := kvs)) (fun j σ H' => ∃ o2 Hu vk, σ = [some (.ref g), some (.ref v), o2] ∧ H' = upd Hu p (.frz od (.dK kvs)) ∧ Same H Hu ∧ Hu v = some (.dK vk) ∧ vk.map (·.1) = ((rs.map Row.name).take j).map Sum.inr ∧ Paired (fun kv kd => VarV K Hu kv.2 kd) vk ((rs.map Row.kind).take j)) ?_ ?_ ?_ ?_
    · exact ⟨_, _, [], rfl, rfl, s0, upd_same, rfl, .nil⟩
    · rintro j σ H' _ ⟨_, Hu, _, _, rfl, _⟩
      exact upd_same
    · rintro j x σ H' H2 hj ⟨o2, Hu, vk, rfl, rfl, s1, hv1, hkeys, hvk⟩ ⟨rfl, ky, rv, hx, rfl⟩
      obtain ⟨r, hr, rfl, ⟨t, va, st, rfl, ht, _, _⟩, hvr⟩ := valV_row hkv hR.nodup hx
      have hp1 : Hu p = some (.dK kvs) := s1 _ _ hk
      have ht2 := SqT.lock (F := .frz od (.dK kvs)) (SqT.same ht s1) hp1
      have dg2 := dget_k (gv2 (u := .frz od (.dK kvs)) s1) rw1
      walk_at "go"
      refine ⟨p, _, rfl, dget_lk hvr, ?_⟩
      walk_at "go"
      refine ⟨t, _, _, _, _, _, _, rfl, ht2, fun xv H8 e8 hxv => ?_⟩
      obtain ⟨q1, q2⟩ := lk_open hp1 e8
      have hp8 := e8 _ _ upd_same
      have hv8 : H8 v = some (.dK vk) := e8 _ _ (by rw [upd_ne pv.symm]; exact hv1)
      have hv9 : upd H8 p (.dK kvs) v = some (.dK vk) := by rw [upd_ne pv.symm]; exact hv8
      have ln : vk.length ≤ 10 := by
        have z : (vk.map (·.1)).length = (((rs.map Row.name).take j).map (Sum.inr : Str → Key)).length := by rw [hkeys]
        rw [List.length_map, List.length_map, List.length_take, List.length_map, ← Paired.length hkv] at z
        omega
      have kk : Sum.inr r.name ∉ vk.map (·.1) := by
        rw [hkeys]
        intro z
        obtain ⟨n, hn, e1⟩ := List.mem_map.mp z
        rw [Sum.inr.inj e1] at hn
        exact fresh_takeG hR.nodup (by rw [List.getElem?_map, hr]; rfl) hn
      walk_at "go"
      refine ⟨v, _, rfl, DPut.k (k := Sum.inr r.name) hv8 (by rw [sizeLine_eq]; omega), ?_⟩
      have kp := keep_upd (o' := .dK (putK vk (.inr r.name) xv)) hv9 rfl
      refine ⟨_, upd (upd H8 p (.dK kvs)) v (.dK (putK vk (.inr r.name) xv)), _, rfl, ?_, same_upd (s1.trans q2) hv, upd_same, ?_, ?_⟩
      · rw [← upd_comm pv, ← q1]
      · rw [putK_new xv (valV_no kk), List.map_append, hkeys, List.take_succ (i := j), List.getElem?_map, hr, List.map_append]
        rfl
      · rw [putK_new xv (valV_no kk)] at kp ⊢
        rw [List.take_succ, List.getElem?_map, hr]
        refine Paired.app (Paired.imp (fun _ _ z => (z.keep (Same.keep q2)).keep kp) hvk) (.cons ?_ .nil)
        refine VarV.keep kp ?_
        obtain ⟨x', dx', a1, a3, a4, a5, a6, e1, h1⟩ := hxv
        exact ⟨x', dx', a1, a3, a4, a5, a6, e1, by rw [upd_ne fun z => by rw [z, hp8] at h1; cases h1]; exact h1⟩
    · rintro σ H' ⟨o2, Hu, vk, rfl, rfl, s1, hv1, hkeys, hvk⟩
      refine ⟨upd_same, ?_⟩
      rw [upd_back (s1 _ _ hk)]
      have ek' : (rs.map Row.kind).take kvs.length = rs.map Row.kind := List.take_of_length_le (by rw [List.length_map, Paired.length hkv]; exact Nat.le_refl _)
      rw [ek'] at hvk
      have d1 := dget_k (s1 _ _ hg) rw2
      have d2 := dget_k (s1 _ _ hg) rw3
      have d3 := dget_k (s1 _ _ hg) rw4
      walk_at "go"
      intro x dx nx ndx ne
      refine ⟨Hu, x, dx, v, e, i, w, vk, ek, ik, wk, wss, N, rfl, nx, same_mk nx ndx, upd_same, hv1, s1 _ _ he, s1 _ _ hi, s1 _ _ hw, hws.same s1, nd, l100, fun H' a b c d wk' s' hx ha hb hc hd hw' => ⟨rfl, ?_⟩⟩
      exact k x H' (s1.trans s') ⟨dx, a, b, c, d, vk, ek, ik, wk', N, hx, ha, hb, hc, hd, Paired.imp (fun _ _ z => z.keep (Same.keep s')) hvk, rfl, hw'⟩
end
section
variable {J : It} {n : Nat} {G : Hp → Prop} {Y : Nat → Hp → V → Hp → Prop}
theorem any_it (w : Walk J n G Y) {B : (Hp → Prop) → V → Hp → Prop} {H0 : Hp} {Qd : Hp → Prop} (Pv : Nat → Hp → Prop) (h0 : Pv 0 H0) (hG : ∀ i H, i ≤ n → Pv i H → G H)
    (hs : ∀ i x H H', i < n → Pv i H → Y i H x H' → B (Pv (i + 1)) x H') (hd : ∀ H, Pv n H → Qd H) :
    ∃ W : Nat → Nat → Hp → Prop, (∃ m, W 0 m H0) ∧ ∀ i m H, W i m H → (J.stop i H ∧ Qd H) ∨ (J.go i H ∧ ∃ Nx : Hp → Prop, (∀ H', Nx H' → ∃ m', m' < m ∧ W (i + 1) m' H') ∧ ∀ x H', J.yld i H x H' → B Nx x H') := by
  refine ⟨fun i m H => m = n - i ∧ i ≤ n ∧ Pv i H, ⟨n, by simp, Nat.zero_le _, h0⟩, ?_⟩
  rintro i m H ⟨rfl, hi, p⟩
  have q := hG i H hi p
  by_cases hlt : i < n
  · exact .inr ⟨w.goes i H hlt q, Pv (i + 1), fun H' p' => ⟨n - (i + 1), by omega, rfl, hlt, p'⟩, fun x H' y => hs i x H H' hlt p (w.yields i H x H' hlt q y)⟩
  · have e : i = n := by omega
    subst e
    exact .inl ⟨w.stops H q, hd H p⟩
end
theorem call_lenDk {X : Cx} : CallR X (.builtin "len") (fun xs H Q => ∃ a kvs, xs = [V.ref a] ∧ Rd H a (.dK kvs) ∧ Q (.int (kvs.length : Nat)) H) := by
  intro pins s σ H xs us Q I r h
  obtain ⟨a, kvs, rfl, ha, q⟩ := h
  obtain ⟨u, rfl, ru⟩ := vals1 r
  cases ru
  exact d_len I ha fun t s' I' => ⟨.int kvs.length, H, I', ⟨t, rfl⟩, q⟩
def isAsg (x : Str) : Bool := decide (V.str x = V.str "assign")
def asg1 (ws : List Str) : Nat := ws.countP isAsg
def asgN (wss : List (List Str)) : Nat := (wss.map asg1).sum
theorem asg1_take {ws : List Str} {j : Nat} {x : Str} (h : ws[j]? = some x) : asg1 (ws.take (j + 1)) = asg1 (ws.take j) + if isAsg x = true then 1 else 0 := by
  rw [take_succ_get h]
  unfold asg1
  rw [List.countP_append, List.countP_singleton]
theorem asgN_take {wss : List (List Str)} {j : Nat} {x : List Str} (h : wss[j]? = some x) : asgN (wss.take (j + 1)) = asgN (wss.take j) + asg1 x := by
  rw [take_succ_get h]
  unfold asgN
  rw [List.map_append, List.sum_append]
  simp
theorem asg1_le (ws : List Str) : asg1 ws ≤ ws.length := List.countP_le_length
section
variable {P : Program} {w : World} {K : PySem.W.Frag} {mg : Str → Option Value} {base : Heap}
def spAsg (K : PySem.W.Frag) : Sp := fun vs H Q _ => ∃ (w : Addr) (wk : List (Key × V)) (wss : List (List Str)) (N : Str → Prop), vs = [.ref w] ∧ H w = some (.dK wk) ∧ WhensL K H N wk wss ∧ wk.length ≤ 100 ∧ ∀ H', Same H H' → Q (.int (asgN wss : Nat)) H'
theorem ok__assignments (T : Top w K mg) : FnOk P w K mg base CX0 1 (He.ga K ("_assignments" : Str)) (fdOf K d__assignments) ["whens"] (spAsg K) := by
  refine (T.f__assignments).ok sc__assignments (fun vs H Q E h => ?_) (fun cdv A outer s H vs Q E hr h => ?_)
  · obtain ⟨w, wk, wss, N, rfl, _⟩ := h
    rfl
  · obtain ⟨w, wk, wss, N, rfl, hw, hws, l100, k⟩ := h
    refine ⟨_, PSs.nox (pss_one (ps_ret (pe_callB (call_lenK (K := K) rfl) (by rfl) T.n_len PySem.boot_len (pa_cons (pe_lock (pe_lc2 (own := [(("_" : Str), 1), (("acts" : Str), 2), (("act" : Str), 3)]) (vs1 := [3]) (g := (gTup K 2 (gCons (gName 1) (gCons (gName 2) gNil)))) (g1 := (gName 3)) (tt := tYes) rfl sc__assignments.nd (pi_values (pv 0)) (blkOk_by (N := ["whens", "_", "acts", "act"]) (sc := defScope s__assignments) (by decide +kernel)) (by decide) (fun _ _ _ _ _ => (pg_tup (by rfl) (pgs_cons (pg_name (i := 1) sc__assignments.nd rfl (Or.inl rfl)) (pgs_cons (pg_name (i := 2) sc__assignments.nd rfl (Or.inl rfl)) pgs_nil)))) (fun _ _ _ _ _ => pts_nil) (fun _ _ _ _ _ => (pi_listK (K := K) rfl (pv 2))) (fun _ _ _ _ _ => (pg_name (i := 3) sc__assignments.nd rfl (Or.inl rfl))) (fun _ _ _ _ _ => pts_one (pt_cmpR op_eq (pe_ix (ix_tupK (K := K) rfl) (pv 3) pe_int (fun _ _ => rfl)) pe_str (nomark _))) (fun _ _ _ _ _ => (pv 3)))) pa_nil)))), ?_⟩
    walk_at "go"
    refine ⟨w, _, hw, trivial, fun od => ?_⟩
    unfold tLc2
    walk_at "go"
    refine ⟨w, od, wk, rfl, upd_same, ?_⟩
    intro D hD
    obtain ⟨Dw, hD'⟩ := lk_none hD
    refine any_it (walk_values (kvs := wk)) (fun j H' => ∃ Hu acc, H' = upd Hu w (.frz od (.dK wk)) ∧ Same H Hu ∧ Hu D = some (.lst acc) ∧ acc.length = asgN (wss.take j) ∧ acc.length ≤ 2 * j) ?_ ?_ ?_ ?_
    · exact ⟨upd H D (.lst []), [], upd_comm Dw.symm, same_new hD', upd_same, rfl, Nat.le_refl _⟩
    · rintro j H' _ ⟨Hu, _, rfl, _⟩
      exact upd_same
    · rintro j y H7 H8 hj ⟨Hu, acc, rfl, e7, hD7, hn7, hl7⟩ ⟨rfl, ky, hy⟩
      obtain ⟨ws, hws1, _, hwv⟩ := Paired.some hws hy
      dsimp only at hwv
      have hp7 := e7 _ _ hw
      obtain ⟨t, c, l, acts, e, rfl, ht, hc, oc, hl, la, ha⟩ := hwv
      have ht2 := SqT.lock (F := .frz od (.dK wk)) (SqT.same ht e7) hp7
      have lw : l ≠ w := fun z => by rw [z, hw] at hl; cases hl
      have lD : l ≠ D := fun z => by rw [z, hD'] at hl; cases hl
      refine r_gtup ht2 rfl ?_
      walk_at "go"
      refine ⟨rfl, r_yes ?_⟩
      have gl : ∀ acc2 : List V, SqL K (upd (upd Hu D (.lst acc2)) w (.frz od (.dK wk))) l acts := fun acc2 => SqL.of (by rw [upd_ne lw, upd_ne lD]; exact e7 _ _ hl)
      have g0 : SqL K (upd Hu w (.frz od (.dK wk))) l acts := SqL.of (by rw [upd_ne lw]; exact e7 _ _ hl)
      walk_at "go"
      refine ⟨⟨_, g0⟩, ?_⟩
      refine any_it (walk_list (xs := acts)) (fun i H' => ∃ acc2, H' = upd (upd Hu D (.lst acc2)) w (.frz od (.dK wk)) ∧ acc2.length = asgN (wss.take j) + asg1 (ws.take i) ∧ acc2.length ≤ 2 * j + i) ?_ ?_ ?_ ?_
      · exact ⟨acc, by rw [upd_self hD7], hn7, hl7⟩
      · rintro i H' _ ⟨acc2, rfl, _⟩
        exact gl acc2
      · rintro i y H8 H9 hi ⟨acc2, rfl, hn8, hl8⟩ ⟨rfl, hyi⟩
        obtain ⟨wd, hwd, hav⟩ := Paired.some ha.1 hyi
        obtain @⟨ta, _, xa, ua, ea, rfl, hta, _, _, _⟩ := hav
        have s8 : Same H (upd Hu D (.lst acc2)) := same_upd e7 hD'
        have hta2 := SqT.lock (F := .frz od (.dK wk)) (SqT.same hta s8) (s8 _ _ hw)
        have hDx : upd (upd Hu D (.lst acc2)) w (.frz od (.dK wk)) D = some (.lst acc2) := by rw [upd_ne Dw]; exact upd_same
        walk_at "go"
        refine ⟨rfl, ?_⟩
        walk_at "go"
        refine r_ixT hta2 rfl ?_
        walk_at "go"
        refine ite_d (fun c1 => ?_) (fun c1 => ?_)
        · walk_at "go"
          refine ⟨acc2, hDx, by rw [sizeLine_eq]; omega, acc2 ++ [.ref ta], ?_, ?_, ?_⟩
          · rw [upd_comm Dw.symm, upd_upd]
          · rw [List.length_append, List.length_singleton, asg1_take hwd, if_pos (show isAsg wd = true from decide_eq_true c1), hn8]
            omega
          · rw [List.length_append, List.length_singleton]
            omega
        · refine ⟨acc2, rfl, ?_, by omega⟩
          rw [asg1_take hwd, if_neg (show ¬ isAsg wd = true from fun z => c1 (of_decide_eq_true z)), hn8]
          rfl
      · rintro H8 ⟨acc2, rfl, hn8, hl8⟩
        have e9 : ws.take acts.length = ws := List.take_of_length_le (Nat.le_of_eq (Paired.length ha.1).symm)
        rw [e9] at hn8
        refine ⟨_, acc2, rfl, same_upd e7 hD', upd_same, by rw [asgN_take hws1]; exact hn8, by omega⟩
    · rintro H7 ⟨Hu, acc, rfl, e7, hD7, hn7, hl7⟩
      refine ⟨upd_same, ?_⟩
      rw [upd_back (e7 _ _ hw)]
      walk_at "go"
      have e9 : wss.take wk.length = wss := List.take_of_length_le (Nat.le_of_eq (Paired.length hws).symm)
      rw [e9] at hn7
      refine ⟨D, acc, rfl, .inl (SqL.of hD7), ?_⟩
      rw [hn7]
      exact k _ e7
def spEven (K : PySem.W.Frag) : Sp := fun vs H Q _ => ∃ (t : Addr) (a b c d : Int), vs = [.ref t] ∧ SqT K H t [.int a, .int b, .int c, .int d] ∧ Q (.bl (decide (V.int a = V.int b) && decide (V.int c = V.int d))) H
theorem ok__is_even (T : Top w K mg) : FnOk P w K mg base CX0 1 (He.ga K ("_is_even" : Str)) (fdOf K d__is_even) ["numbers"] (spEven K) := by
  refine (T.f__is_even).ok sc__is_even (fun vs H Q E h => ?_) (fun cdv A outer s H vs Q E hr h => ?_)
  · obtain ⟨t, a, b, c, d, rfl, _⟩ := h
    rfl
  · obtain ⟨t, a, b, c, d, rfl, ht, k⟩ := h
    refine ⟨_, PSs.nox (pss_one (ps_ret (pe_and (pe_cmpR op_eq (pe_ix (ix_tupK (K := K) rfl) (pv 0) pe_int (fun _ _ => rfl)) (pe_ix (ix_tupK (K := K) rfl) (pv 0) pe_int (fun _ _ => rfl)) (nomark _)) (pe_one (pe_cmpR op_eq (pe_ix (ix_tupK (K := K) rfl) (pv 0) pe_int (fun _ _ => rfl)) (pe_ix (ix_tupK (K := K) rfl) (pv 0) pe_int (fun _ _ => rfl)) (nomark _)))))), ?_⟩
    walk_at "go"
    refine r_ixT ht rfl ?_
    walk_at "go"
    refine r_ixT ht rfl ?_
    walk_at "go"
    refine ite_d (fun c1 => ?_) (fun c1 => ?_)
    · walk_at "go"
      refine r_ixT ht rfl ?_
      walk_at "go"
      refine r_ixT ht rfl ?_
      walk_at "go"
      rw [decide_eq_true c1, Bool.true_and] at k
      exact k
    · rw [decide_eq_false c1, Bool.false_and] at k
      exact k
theorem sf_a {a b c d : Addr} : (sysF a b c d).lookup ("variables" : Str) = some (.ref a) := rfl
theorem lk_ne {f g : Str} {v : V} {r : List (Str × V)} (h : (f == g) = false) : List.lookup f ((g, v) :: r) = r.lookup f := by
  rw [List.lookup_cons, h]
theorem sf_b {a b c d : Addr} : (sysF a b c d).lookup ("equations" : Str) = some (.ref b) := by
  unfold sysF
  rw [lk_ne (by decide +kernel)]
  rfl
theorem sf_d {a b c d : Addr} : (sysF a b c d).lookup ("whens" : Str) = some (.ref d) := by
  unfold sysF
  rw [lk_ne (by decide +kernel), lk_ne (by decide +kernel), lk_ne (by decide +kernel)]
  rfl
theorem vf_kind {v1 v2 v3 v4 v5 v6 : V} : (varF v1 v2 v3 v4 v5 v6).lookup ("kind" : Str) = some v2 := by
  unfold varF
  rw [lk_ne (by decide +kernel)]
  rfl
def cntI (kds : List Str) (m : Nat) (wss : List (List Str)) : List Int := [(cntV (.str "state") (kds.map V.str) : Nat), (m : Nat), (cntV (.str "discrete") (kds.map V.str) : Nat), (asgN wss : Nat)]
def spCounts (K : PySem.W.Frag) : Sp := fun vs H Q _ => ∃ (x : Addr) (kds : List Str) (m : Nat) (wss : List (List Str)), vs = [.ref x] ∧ SysV K H x kds m wss ∧ kds.length ≤ 100 ∧ wss.length ≤ 100 ∧ m ≤ 100 ∧ ∀ t H', Same H H' → H' t = some (.tup ((cntI kds m wss).map V.int)) → Q (.ref t) H'
theorem ok_counts (T : Top w K mg) : FnOk P w K mg base CX0 2 (He.ga K ("counts" : Str)) (fdOf K d_counts) ["system"] (spCounts K) := by
  refine (T.f_counts).ok sc_counts (fun vs H Q E h => ?_) (fun cdv A outer s H vs Q E hr h => ?_)
  · obtain ⟨x, kds, m, wss, rfl, _⟩ := h
    rfl
  · obtain ⟨x, kds, m, wss, rfl, hs, lk, lw, lm, k⟩ := h
    refine ⟨_, PSs.nox (pss_cons (ps_lock (ps_setLc (i := 1) (own := [(("variable" : Str), 2)]) (g := (gName 2)) (tt := tYes) rfl sc_counts.nd rfl rfl (by rfl) (pi_values (pe_fldK (K := K) rfl (pv 0) rfl)) (blkOk_by (N := ["system", "kinds", "variable"]) (sc := defScope s_counts) (by decide +kernel)) (fun _ _ _ _ _ => (pg_name (i := 2) sc_counts.nd rfl (Or.inl rfl))) (fun _ _ _ _ _ => pts_nil) (fun _ _ _ _ _ => (pe_fldK (K := K) rfl (pv 2) rfl))))
    (pss_one (ps_ret (pe_tup (pa_cons (pe_bm PySem.F.plainAttrs_list PySem.F.slot_list_count PySem.F.type_list_count mt_lcountF (pv 1) (pa_cons pe_str pa_nil)) (pa_cons (pe_callB call_lenDk (by rfl) T.n_len PySem.boot_len (pa_cons (pe_fldK (K := K) rfl (pv 0) rfl) pa_nil)) (pa_cons (pe_bm PySem.F.plainAttrs_list PySem.F.slot_list_count PySem.F.type_list_count mt_lcountF (pv 1) (pa_cons pe_str pa_nil)) (pa_cons (pe_call (ok__assignments (K := K) T) (hr.mono (by decide)) rfl T.g__assignments T.f__assignments.kp T.b__assignments .nil pass0 (pa_cons (pe_fldK (K := K) rfl (pv 0) rfl) pa_nil)) pa_nil)))))))), ?_⟩
    obtain ⟨dx, a, b, c, d, vk, ek, ik, wk, N, h0, h1, h2, h3, h4, h5, rfl, h7⟩ := hs.ex
    walk_at "go"
    refine ⟨a, _, h1, trivial, fun od => ?_⟩
    have xa : x ≠ a := fun z => by rw [z, h1] at h0; cases h0
    have h0' : upd H a (.frz od (.dK vk)) x = some (.ins (He.ga K "System") dx (sysF a b c d)) := by rw [upd_ne xa]; exact h0
    walk_at "go"
    refine ⟨_, _, _, _, _, rfl, h0', T.cls_System, T.na_System_variables, sf_a, ?_⟩
    refine ⟨a, od, vk, rfl, upd_same, ?_⟩
    intro D hD
    obtain ⟨Da, hD'⟩ := lk_none hD
    refine lc_it (walk_values (kvs := vk)) (fun j H' => ∃ Hu acc, H' = upd Hu a (.frz od (.dK vk)) ∧ Same H Hu ∧ Hu D = some (.lst acc) ∧ acc = (kds.take j).map V.str) ?_ ?_ ?_ ?_
    · exact ⟨upd H D (.lst []), [], upd_comm Da.symm, same_new hD', upd_same, rfl⟩
    · rintro j H' _ ⟨Hu, _, rfl, _⟩
      exact upd_same
    · rintro j y H7 H8 hj ⟨Hu, acc, rfl, e7, hD7, rfl⟩ ⟨rfl, ky, hy⟩
      obtain ⟨kd, hkd, hv⟩ := Paired.some h5 hy
      obtain ⟨y', dy, v1, v3, v4, v5, v6, ey, hy'⟩ := hv
      dsimp only at ey
      subst ey
      have ya : y' ≠ a := fun z => by rw [z, h1] at hy'; cases hy'
      have hy2 : upd Hu a (.frz od (.dK vk)) y' = some (.ins (He.ga K "Variable") dy (varF v1 (.str kd) v3 v4 v5 v6)) := by rw [upd_ne ya]; exact e7 _ _ hy'
      have hDx : upd Hu a (.frz od (.dK vk)) D = some (.lst ((kds.take j).map V.str)) := by rw [upd_ne Da]; exact hD7
      walk_at "go"
      refine ⟨rfl, r_yes ?_⟩
      walk_at "go"
      refine ⟨_, _, _, _, _, rfl, hy2, T.cls_Variable, T.na_Variable_kind, vf_kind, ?_⟩
      refine ⟨_, hDx, ?_, upd Hu D (.lst ((kds.take (j + 1)).map V.str)), _, ?_, same_upd e7 hD', upd_same, rfl⟩
      · rw [List.length_map, List.length_take, sizeLine_eq]
        omega
      · rw [upd_comm Da.symm, take_succ_get hkd, List.map_append]
        rfl
    · rintro H7 ⟨Hu, acc, rfl, e7, hD7, rfl⟩
      refine ⟨upd_same, ?_⟩
      rw [upd_back (e7 _ _ h1)]
      have e9 : kds.take vk.length = kds := List.take_of_length_le (Nat.le_of_eq (Paired.length h5).symm)
      rw [e9] at hD7
      have fl : (kds.map V.str).all flatV = true := List.all_eq_true.mpr fun v hv => by
        obtain ⟨y, _, rfl⟩ := List.mem_map.mp hv
        rfl
      have h0u := e7 _ _ h0
      walk_at "go"
      refine And.intro (.inl ⟨rfl, _, SqL.of hD7⟩) ?_
      walk_at "go"
      refine ⟨D, _, _, rfl, rfl, SqL.of hD7, rfl, fl, ?_⟩
      walk_at "go"
      refine ⟨_, _, _, _, _, rfl, h0u, T.cls_System, T.na_System_equations, sf_b, ?_⟩
      walk_at "go"
      refine ⟨b, ek, rfl, .inl (e7 _ _ h2), ?_⟩
      walk_at "go"
      refine And.intro (.inl ⟨rfl, _, SqL.of hD7⟩) ?_
      walk_at "go"
      refine ⟨D, _, _, rfl, rfl, SqL.of hD7, rfl, fl, ?_⟩
      walk_at "go"
      refine ⟨_, _, _, _, _, rfl, h0u, T.cls_System, T.na_System_whens, sf_d, ?_⟩
      walk_at "go"
      refine ⟨d, wk, wss, N, rfl, e7 _ _ h4, h7.same e7, by rw [Paired.length h7]; exact lw, fun H8 e8 => ?_⟩
      walk_at "go"
      refine ⟨by show 4 ≤ sizeLine; decide, fun q hq => ?_⟩
      exact k q _ ((e7.trans e8).trans (same_new hq)) upd_same
def spBal (K : PySem.W.Frag) : Sp := fun vs H Q _ => ∃ (x : Addr) (kds : List Str) (m : Nat) (wss : List (List Str)), vs = [.ref x] ∧ SysV K H x kds m wss ∧ kds.length ≤ 100 ∧ wss.length ≤ 100 ∧ m ≤ 100 ∧
  ∀ H', Same H H' → Q (.bl (decide (V.int (cntV (.str "state") (kds.map V.str) : Nat) = V.int (m : Nat)) && decide (V.int (cntV (.str "discrete") (kds.map V.str) : Nat) = V.int (asgN wss : Nat)))) H'
theorem ok_is_balanced (T : Top w K mg) : FnOk P w K mg base CX0 3 (He.ga K ("is_balanced" : Str)) (fdOf K d_is_balanced) ["system"] (spBal K) := by
  refine (T.f_is_balanced).ok sc_is_balanced (fun vs H Q E h => ?_) (fun cdv A outer s H vs Q E hr h => ?_)
  · obtain ⟨x, kds, m, wss, rfl, _⟩ := h
    rfl
  · obtain ⟨x, kds, m, wss, rfl, hs, lk, lw, lm, k⟩ := h
    refine ⟨_, PSs.nox (pss_one (ps_ret (pe_call (ok__is_even (K := K) T) (hr.mono (by decide)) rfl T.g__is_even T.f__is_even.kp T.b__is_even .nil pass0 (pa_cons (pe_call (ok_counts (K := K) T) (hr.mono (by decide)) rfl T.g_counts T.f_counts.kp T.b_counts .nil pass0 (pa_cons (pv 0) pa_nil)) pa_nil)))), ?_⟩
    walk_at "go"
    refine ⟨x, kds, m, wss, rfl, hs, lk, lw, lm, fun t H' s1 ht => ?_⟩
    walk_at "go"
    exact ⟨t, _, _, _, _, rfl, SqT.of ht, k _ s1⟩
end
/-! ### the law's def entered by the claim's caller alone: no repr is under way there -/
section
open PySem.W in
theorem caller_guards (env : Env) : (callerA.deeper env).guards = some [] := rfl
variable {P : Program} {w : World} {K : PySem.W.Frag} {mg mb : Str → Option Value} {base : Heap} {H : Hp} {s : Shared}
/-- a def run by the caller -/
theorem run_caller {x qual : Str} {params : Arguments} {body : List Stmt} {scope : Scope} {dvs : List V} {kws : List (Str × V)} {f : Addr} {fd : FuncData} {N ps : List Str} {k : Nat} {args : Args} {us : List Value} {vs : List V} {Q : VK}
    (F : FunD K x qual params body scope dvs kws f fd) (S : FnScope N ps scope) (hl : vs.length = ps.length) (hr : Room (k + 1) callerA)
    (hbody : ∀ (cdv : Value), Room k (callerA.deeper (envOfC qual scope s.heap.objs.size f cdv)) →
      ∃ t, PSs (cxOf CX0 P w K mg base N qual scope f cdv callerA [] s H E0) body t ∧ t { nx := fun _ H' => Q .non H', rt := Q } (start N vs) H)
    (e0 : Env0 P w K mg base callerA [] s H) (hb : BindsTo s fd args (ps.zip us)) (r : Vals vs us) :
    codeAny (model P w) callerA (.call (.ref f) args) (CR CX0 [] P w H s Q E0) s := by
  obtain ⟨oc, od, dV, kV, doc, pm, an, cdv, ct, osl, rfl, lk, hcd, _, _⟩ := F.ex
  have KX : K.In s.heap := e0.mod.kin.keeps fun b o e => (e0.bs b o e).1
  have lim : s.heap.NoLimit := e0.mod.nolimit.keeps fun b o e => (e0.bs b o e).1
  refine Att.call_fn KX lim lk hcd hr.depth hb (List.all_eq_true.mpr fun y hy => ?_) (fun s1 z => ?_) S.co S.gen S.kind
  · rcases S.par y.1 (List.of_mem_zip hy).1 with q | q <;> simp [q]
  · obtain ⟨t, ht, hq⟩ := hbody cdv (hr.deeper _)
    have I : Inv (cxOf CX0 P w K mg base N qual scope f cdv callerA [] s H E0) [] (start N vs) H s1 := inv_start S hr.hd e0 hl r z
    refine wpAny_mono (ht.run [] s1 (start N vs) H _ I hq) (fun fl s' hs => ?_) fun e s' hs => hs
    match fl, hs with
    | .ret u, ⟨v, σ', H', J, rv, q⟩ => exact ⟨v, H', J.os, J.bare, J.base, J.hok, rv, q⟩
    | .next, ⟨σ', H', J, q⟩ => exact ⟨.non, H', J.os, J.bare, J.base, J.hok, rfl, q⟩
    | .brk, ⟨_, _, _, q⟩ => exact False.elim q
    | .cont, ⟨_, _, _, q⟩ => exact False.elim q
/-- what the caller stands in, where only lists outside of the written part are tracked -/
theorem caller_env (KX : K.In s.heap) (g : s.heap.Ns mainGlobals mg) (hb : s.heap.Ns builtinsNs mb) (hbb : ∀ x : Str, x ≠ "__name__" → mb x = bootBuiltins x) (lim : s.heap.NoLimit) (hg : s.gens = #[])
    (free : ∀ b o, s.heap.get? b = some o → H b ≠ none → ∃ vs n, o.data = .seq vs n) (freeK : ∀ b, H b ≠ none → K.lookup b = none) (hok : HOk P w H s.heap) :
    ∃ base : Heap, K.In base ∧ base.Ns mainGlobals mg ∧ Env0 P w K mg base callerA [] s H := by
  have ns : ∀ {D : Addr} {m : Str → Option Value}, s.heap.Ns D m → (hidT s.heap H).Ns D m := by
    rintro D m ⟨o, es, ep, e, d, rest⟩
    refine ⟨o, es, ep, hidT_get e ?_, d, rest⟩
    refine Classical.byContradiction fun t => ?_
    obtain ⟨vs, n, d'⟩ := free D o e t
    rw [d] at d'
    cases d'
  have kin : K.In (hidT s.heap H) := fun b o e => hidT_get (KX b o e) (Classical.byContradiction fun t => by rw [freeK b t] at e; cases e)
  refine ⟨hidT s.heap H, kin, ns g, rfl, ⟨kin, ns g, ⟨mb, ns hb, hbb⟩, ?_⟩, fun b o e => of_hidT e, Nat.le_of_eq (hidT_size _ _), trivial, fun b t => ?_, hok, .of_eq hg⟩
  · obtain ⟨mc, h1, h2⟩ := lim
    exact ⟨mc, ns h1, h2⟩
  · exact absurd (show b ∈ ([] : List Addr) from t) (by simp)
/-- what stands behind such a run -/
theorem caller_end {u : Value} {s' : Shared} (only : Only H) (hok : HOk P w H s.heap) (h : CE [] P w H s (fun v _ => v = .bl true) u s') : u = .bool true ∧ OldK s.heap s'.heap ∧ s'.os = s.os ∧ AllBare s'.gens := by
  obtain ⟨v, H', os, bare, un, hok', rv, rfl⟩ := h
  refine ⟨rv, OldK.of_keep fun b o e => ?_, os, bare⟩
  rcases only b with z | ⟨o', xs, z⟩
  · exact un.keep b o e z (fun t => absurd (show b ∈ ([] : List Addr) from t) (by simp)) (by simp)
  · have e1 := (hok b _ z).1
    rw [e] at e1
    cases e1
    exact (hok' b _ (un.frzs b o _ z)).1
end
open PySem.W in
theorem walk_caller {l : PySem.W.OpenLaw} {n : Nat} {q : Program} {loose : List Str} {XP : (Str → Option Value) → Heap → Prop} {YP : World → Heap → Prop} {d : DefRec}
    (hn : l.most = some n) (hn2 : n ≤ sizeLine) (hdf : d.params.defaults = [])
    (F : ∀ (w : World) (mg : Str → Option Value) (fa : Addr) (h : Heap), YP w h → h.Ns mainGlobals mg → mg d.name = some (.ref fa) →
      ∃ K : PySem.W.Frag, K.In h ∧ ∀ base : Heap, K.In base → base.Ns mainGlobals mg → ∀ (s : Shared) (H : Hp) (a : Addr) (ns : List Int), ns.length ≤ n → SqL K H a (ns.map V.int) → Env0 l.prog w K mg base callerA [] s H →
        codeAny (model l.prog w) callerA (.call (.ref fa) ⟨[.ref a], []⟩) (CR CX0 [] l.prog w H s (fun v _ => v = .bl true) E0) s) :
    PySem.W.WalkO q loose XP YP l.row.toRowW d [] (fun f vs => PySem.call f vs) := by
  refine Att.attach_call hn hdf fun w s₀ s₁ mg mb fa o pm cd doc a vs ns G Y ho hd hcd hmg hobj hints hlen hg => ?_
  obtain ⟨K, KX, hF⟩ := F w mg fa _ Y G.T.g hmg
  have fin : ∀ H : Hp, Only H → HOk l.prog w H s₁.heap → (∀ b, H b ≠ none → b = a ∧ K.lookup b = none) → SqL K H a (ns.map V.int) →
      codeAny (model l.prog w) callerA (.call (.ref fa) ⟨[.ref a], []⟩) (fun r s' => r = .ok (.ret (.bool true)) ∧ OldK s₁.heap s'.heap ∧ s'.os = s₁.os ∧ AllBare s'.gens) s₁ := by
    intro H only hok at_ sq
    obtain ⟨base, b1, b2, e0⟩ := caller_env (P := l.prog) (w := w) KX G.T.g G.T.b G.T.builtins G.T.nolimit hg (fun b o e t => by
      obtain ⟨rfl, _⟩ := at_ b t
      rw [hobj] at e
      cases e
      exact ⟨_, _, rfl⟩) (fun b t => (at_ b t).2) hok
    refine codeAny_mono (hF base b1 b2 s₁ H a ns hlen sq e0) fun r s' z => ?_
    match r, z with
    | .error e, z => exact z.elim
    | .ok .next, z => exact z.elim
    | .ok .brk, z => exact z.elim
    | .ok .cont, z => exact z.elim
    | .ok (.ret u), z =>
      obtain ⟨rfl, h2, h3, h4⟩ := caller_end only hok z
      exact ⟨rfl, h2, h3, h4⟩
  have lenV := hints.length
  have rv := vals_ints hints
  by_cases hk : K.lookup a = none
  · refine fin (fun b => if b = a then some (.frz { cls := .type "list", data := .seq vs.toArray } (.lst (ns.map V.int))) else none) (fun b => ?_) (fun b u z => ?_) (fun b z => ?_) (.inl (.inr ⟨_, if_pos rfl⟩))
    · by_cases c : b = a
      · exact .inr ⟨_, _, if_pos c⟩
      · exact .inl (if_neg c)
    · by_cases c : b = a
      · subst c
        cases (if_pos rfl).symm.trans z
        exact ⟨hobj, by rw [List.length_map]; exact Nat.le_trans hlen hn2, vs, _, rv, hobj⟩
      · cases (if_neg c).symm.trans z
    · by_cases c : b = a
      · exact ⟨c, c ▸ hk⟩
      · exact absurd (if_neg c) z
  · obtain ⟨o', ho'⟩ := Option.ne_none_iff_exists'.mp hk
    have e := KX a o' ho'
    rw [hobj] at e
    cases e
    exact fin (fun _ => none) (fun _ => .inl rfl) (fun b u z => nomatch (show (none : Option HO) = some u from z)) (fun b z => absurd rfl z) (.inr ⟨_, vs.toArray, _, ho', rfl, rfl, rfl, by rw [List.size_toArray, lenV]; exact Nat.le_trans hlen hn2, by simpa using rv⟩)
theorem whens_l {K : PySem.W.Frag} {H : Hp} {N : Str → Prop} : ∀ {wk : List (Key × V)}, (∀ kv ∈ wk, (∃ x, kv.1 = .inr x) ∧ ∃ ws, WhenV K H N kv.2 ws) → ∃ wss, WhensL K H N wk wss
  | [], _ => ⟨[], .nil⟩
  | kv :: r, h => by
    obtain ⟨a, ws, b⟩ := h kv List.mem_cons_self
    obtain ⟨wss, c⟩ := whens_l fun q hq => h q (List.mem_cons_of_mem _ hq)
    exact ⟨ws :: wss, .cons ⟨a, b⟩ c⟩
theorem whens_few {K : PySem.W.Frag} {H : Hp} {N : Str → Prop} : ∀ {wk : List (Key × V)} {wss : List (List Str)}, WhensL K H N wk wss → asgN wss ≤ 2 * wss.length
  | _, _, .nil => Nat.le_refl _
  | _, _, .cons (b := ws) (l₂ := wss) h t => by
    have z : asgN wss ≤ 2 * wss.length := whens_few t
    obtain ⟨_, t', c, l, acts, e, _, _, _, _, _, la, ha⟩ := h
    have y := asg1_le ws
    rw [← Paired.length ha.1] at y
    show ((ws :: wss).map asg1).sum ≤ _
    rw [List.map_cons, List.sum_cons, List.length_cons]
    have : (wss.map asg1).sum = asgN wss := rfl
    omega
theorem int_short : ∀ n : Fin 100, (PyData.shown (.int ((n : Nat) : Int))).length ≤ 4 := by decide +kernel
theorem shows4 {a b c d : Nat} (ha : a < 100) (hb : b < 100) (hc : c < 100) (hd : d < 100) : ShowsI [(a : Int), (b : Int), (c : Int), (d : Int)] := by
  have e1 := int_short ⟨a, ha⟩
  have e2 := int_short ⟨b, hb⟩
  have e3 := int_short ⟨c, hc⟩
  have e4 := int_short ⟨d, hd⟩
  dsimp only at e1 e2 e3 e4
  refine ⟨?_, fun n hn => ?_⟩
  · show (PyData.shown (.tuple [.int a, .int b, .int c, .int d])).length ≤ sizeLine
    have z := join_length_add [PyData.shown (.int (a : Int)), PyData.shown (.int (b : Int)), PyData.shown (.int (c : Int)), PyData.shown (.int (d : Int))] (by simp)
    simp only [PyData.shown, PyData.shownAll] at e1 e2 e3 e4 z ⊢
    unfold tupleText
    rw [sapp_len, sapp_len, sizeLine_eq]
    simp only [piled, List.map_cons, List.map_nil, List.sum_cons, List.sum_nil] at z
    have l1 : (Str.ofString "(").length = 1 := by decide +kernel
    have l2 : (Str.ofString ")").length = 1 := by decide +kernel
    show (Str.ofString "(").length + _ + (Str.ofString ")").length ≤ _
    rw [l1, l2]
    omega
  · have lt : n.natAbs < 100 := by
      simp only [List.mem_cons, List.not_mem_nil, or_false] at hn
      omega
    refine Nat.lt_of_le_of_lt (Nat.log2_le_self _) ?_
    omega
theorem RowsAt.updD {K : PySem.W.Frag} {H : Hp} {p q : Addr} {L : List Str} {rs : List Row} {kvs : List (Key × V)} {o : HO} (h : RowsAt K H p L rs) (hq : H q = some (.dK kvs)) (ne : p ≠ q) : RowsAt K (upd H q o) p L rs := by
  obtain ⟨k, a, b⟩ := h.ex
  exact ⟨⟨k, by rw [upd_ne ne]; exact a, b.keep (keep_upd hq rfl)⟩, h.sub, h.ok⟩
theorem put_raw {v1 v2 v3 v4 y : V} : putK (raw4 v1 v2 v3 v4) (.inr "equations") y = raw4 v1 y v3 v4 := by
  have n1 := k4ne1
  have n2 : ¬ ((.inr "initials" : Key) = .inr "equations") := fun z => k4ne3 z.symm
  have n3 : ¬ ((.inr "whens" : Key) = .inr "equations") := fun z => k4ne5 z.symm
  unfold putK
  rw [if_pos]
  · unfold raw4
    simp only [List.map_cons, List.map_nil, if_neg n1, if_neg n2, if_neg n3, if_true]
  · rw [valV_any, rw2]
    rfl
theorem key_e : ∀ k : Fin 20, (0 + ((k : Nat) : Int)).natAbs.log2 < 1920 ∧ (Str.ofString "e").length + (Str.ofString (toString (0 + ((k : Nat) : Int)))).length ≤ 100 := by decide +kernel
/-- the raw system, whole -/
structure RawS (K : PySem.W.Frag) (H : Hp) (g p e i w : Addr) (rs : List Row) (ek ik wk : List (Key × V)) (wss : List (List Str)) (N : Str → Prop) : Prop where
  gp : g ≠ p
  hg : H g = some (.dK (raw4 (.ref p) (.ref e) (.ref i) (.ref w)))
  hR : RowsAt K H p specL rs
  he : H e = some (.dK ek)
  hi : H i = some (.dK ik)
  hw : H w = some (.dK wk)
  hws : WhensL K H N wk wss
  nd : (wk.map (·.1)).Nodup
  l2 : wk.length ≤ 2
  le : ek.length ≤ 20
theorem RawS.same {K : PySem.W.Frag} {H H' : Hp} {g p e i w : Addr} {rs : List Row} {ek ik wk : List (Key × V)} {wss : List (List Str)} {N : Str → Prop} (s : Same H H') (h : RawS K H g p e i w rs ek ik wk wss N) : RawS K H' g p e i w rs ek ik wk wss N :=
  ⟨h.gp, s _ _ h.hg, h.hR.same s, s _ _ h.he, s _ _ h.hi, s _ _ h.hw, h.hws.same s, h.nd, h.l2, h.le⟩
section
variable {P : Program} {w : World} {K : PySem.W.Frag} {mg : Str → Option Value} {base : Heap}
theorem run_law {s : Shared} {H : Hp} {a : Addr} {ns : List Int} (T : Top w K mg) (h63 : ns.length ≤ 63) (hS : SqL K H a (ns.map V.int)) (e0 : Env0 P w K mg base callerA [] s H) :
    codeAny (model P w) callerA (.call (.ref (He.ga K ("law" : Str))) ⟨[.ref a], []⟩) (CR CX0 [] P w H s (fun v _ => v = .bl true) E0) s := by
  have b := FunD.bindsA (ps := ["script"]) (show FunD K "law" "law" (defArgs s_law) (defBody s_law) (defScope s_law) [] (d_law.kws K) (He.ga K "law") (fdOf K d_law) from T.f_law) fun _ _ _ _ _ _ us hl => match us, hl with | [_], _ => rfl
  refine run_caller (k := 24) (vs := [.ref a]) T.f_law sc_law rfl ⟨rfl, by decide, by decide⟩ (fun cdv hr => ?_) e0 (b s [.ref a] rfl) (.cons rfl .nil)
  refine ⟨_, PSs.nox (pss_cons (ps_set (i := 1) sc_law.nd rfl (Or.inl rfl) (pe_call (ok__law_stream (K := K) T) (hr.mono (by decide)) rfl T.g__law_stream T.f__law_stream.kp T.b__law_stream .nil pass0 (pa_cons (pv 0) pa_nil)))
    (pss_cons (ps_set (i := 2) sc_law.nd rfl (Or.inr rfl) (pe_call (ok__law_raw (K := K) T) (hr.mono (by decide)) rfl T.g__law_raw T.f__law_raw.kp T.b__law_raw .nil pass0 (pa_cons (pv 1) pa_nil)))
    (C8.pss_cut (ps_if (pt_cmpR op_eq (pe_call (ok__law_draw (K := K) T) (hr.mono (by decide)) rfl T.g__law_draw T.f__law_draw.kp T.b__law_draw .nil pass0 (pa_cons (pv 1) (pa_cons pe_int pa_nil))) pe_int (nomark _))
    (pss_cons (ps_lock (ps_setLc (i := 3) (own := [(("name" : Str), 4)]) (g := (gName 4)) rfl sc_law.nd rfl rfl (by rfl) (pi_keys (pe_dget (hu_of hr) (pv 2) pe_str (fun _ _ => rfl))) (blkOk_by (N := ["script", "stream", "raw", "states", "name", "table", "k", "kinds", "acts", "act", "due", "system", "said"]) (sc := defScope s_law) (by decide +kernel)) (fun _ _ _ _ _ => (pg_name (i := 4) sc_law.nd rfl (Or.inl rfl))) (fun _ _ _ _ _ => pts_one (pt_cmpR op_eq (pe_ix (ix_tupK (K := K) rfl) (pe_dget (hu_of hr) (pe_dget (hu_of hr) (pv 2) pe_str (fun _ _ => rfl)) (pv 4) (fun _ _ => rfl)) pe_int (fun _ _ => rfl)) pe_str (nomark _))) (fun _ _ _ _ _ => (pv 4))))
    (pss_cons (ps_set (i := 5) sc_law.nd rfl (Or.inl rfl) pe_dnewK)
    (pss_cons (ps_for PassesOwn.never rfl (pi_range1 rfl T.n_range (pa_cons (pe_callB (call_lenK (K := K) rfl) (by rfl) T.n_len PySem.boot_len (pa_cons (pv 3) pa_nil)) pa_nil)) (pg_name (i := 6) sc_law.nd rfl (Or.inl rfl))
    (pss_one (ps_dput (hu_of hr) (pv 5) (pe_op op_add_str pe_str (pe_callTy call_str_int (by rfl) T.n_str (by decide +kernel) (pa_cons (pv 6) pa_nil))) (pe_tup (pa_cons (pe_tup (pa_cons pe_str pa_nil)) (pa_cons (pe_tup (pa_cons pe_str pa_nil)) pa_nil))) rfl)))
    (pss_one (ps_dput (hu_of hr) (pv 2) pe_str (pv 5) rfl)))))
    pss_nil)
    (pss_cons (ps_lock (ps_setLc (i := 7) (own := [(("name" : Str), 4)]) (g := (gName 4)) (tt := tYes) rfl sc_law.nd rfl rfl (by rfl) (pi_keys (pe_dget (hu_of hr) (pv 2) pe_str (fun _ _ => rfl))) (blkOk_by (N := ["script", "stream", "raw", "states", "name", "table", "k", "kinds", "acts", "act", "due", "system", "said"]) (sc := defScope s_law) (by decide +kernel)) (fun _ _ _ _ _ => (pg_name (i := 4) sc_law.nd rfl (Or.inl rfl))) (fun _ _ _ _ _ => pts_nil) (fun _ _ _ _ _ => (pe_ix (ix_tupK (K := K) rfl) (pe_dget (hu_of hr) (pe_dget (hu_of hr) (pv 2) pe_str (fun _ _ => rfl)) (pv 4) (fun _ _ => rfl)) pe_int (fun _ _ => rfl)))))
    (pss_cons (ps_set (i := 8) sc_law.nd rfl (Or.inl rfl) (pe_lst pa_nil))
    (pss_cons (ps_lock (ps_for PassesOwn.never rfl (pi_keys (pe_dget (hu_of hr) (pv 2) pe_str (fun _ _ => rfl))) (pg_name (i := 4) sc_law.nd rfl (Or.inl rfl))
    (pss_one (ps_expr (pe_bm PySem.F.plainAttrs_list PySem.F.slot_list_extend PySem.F.type_list_extend mt_extend (pv 8) (pa_cons (pe_lc (own := [(("act" : Str), 9)]) (g := (gName 9)) rfl sc_law.nd (pi_listK (K := K) rfl (pe_ix (ix_tupK (K := K) rfl) (pe_dget (hu_of hr) (pe_dget (hu_of hr) (pv 2) pe_str (fun _ _ => rfl)) (pv 4) (fun _ _ => rfl)) pe_int (fun _ _ => rfl))) (blkOk_by (N := ["script", "stream", "raw", "states", "name", "table", "k", "kinds", "acts", "act", "due", "system", "said"]) (sc := defScope s_law) (by decide +kernel)) (fun _ _ _ _ _ => (pg_name (i := 9) sc_law.nd rfl (Or.inl rfl))) (fun _ _ _ _ _ => pts_one (pt_cmpR op_eq (pe_ix (ix_tupK (K := K) rfl) (pv 9) pe_int (fun _ _ => rfl)) pe_str (nomark _))) (fun _ _ _ _ _ => (pv 9))) pa_nil))))))
    (pss_cons (ps_set (i := 10) sc_law.nd rfl (Or.inl rfl) (pe_tup (pa_cons (pe_bm PySem.F.plainAttrs_list PySem.F.slot_list_count PySem.F.type_list_count mt_lcountF (pv 7) (pa_cons pe_str pa_nil)) (pa_cons (pe_callB call_lenDk (by rfl) T.n_len PySem.boot_len (pa_cons (pe_dget (hu_of hr) (pv 2) pe_str (fun _ _ => rfl)) pa_nil)) (pa_cons (pe_bm PySem.F.plainAttrs_list PySem.F.slot_list_count PySem.F.type_list_count mt_lcountF (pv 7) (pa_cons pe_str pa_nil)) (pa_cons (pe_callB (call_lenK (K := K) rfl) (by rfl) T.n_len PySem.boot_len (pa_cons (pv 8) pa_nil)) pa_nil))))))
    (pss_cons (ps_set (i := 11) sc_law.nd rfl (Or.inl rfl) (pe_call (ok__law_made (K := K) T) (hr.mono (by decide)) rfl T.g__law_made T.f__law_made.kp T.b__law_made .nil pass0 (pa_cons (pv 2) pa_nil)))
    (pss_cons (ps_if (pt_cmpR op_ne (pe_callTy (call_strT (caller_guards _) hr.units) (by rfl) T.n_str (by decide +kernel) (pa_cons (pe_call (ok_counts (K := K) T) (hr.mono (by decide)) rfl T.g_counts T.f_counts.kp T.b_counts .nil pass0 (pa_cons (pv 11) pa_nil)) pa_nil)) (pe_callTy (call_strT (caller_guards _) hr.units) (by rfl) T.n_str (by decide +kernel) (pa_cons (pv 10) pa_nil)) (nomark _))
    (pss_one (ps_ret pe_bl))
    pss_nil)
    (pss_cons (ps_set (i := 12) sc_law.nd rfl (Or.inl rfl) (pe_call (ok_is_balanced (K := K) T) (hr.mono (by decide)) rfl T.g_is_balanced T.f_is_balanced.kp T.b_is_balanced .nil pass0 (pa_cons (pv 11) pa_nil)))
    (pss_one (ps_ret (pe_and (pe_callB (call_isiK' (K := K) rfl) (by rfl) T.n_isinstance (by decide +kernel) (pa_cons (pv 12) (pa_cons (pe_bltn (v := .ty "bool") rfl T.n_bool (by decide +kernel) rfl) pa_nil))) (pe_one (pe_cmpR op_eq (pv 12) (pe_and (pe_cmpR op_eq (pe_ix (ix_tupK (K := K) rfl) (pv 10) pe_int (fun _ _ => rfl)) (pe_ix (ix_tupK (K := K) rfl) (pv 10) pe_int (fun _ _ => rfl)) (nomark _)) (pe_one (pe_cmpR op_eq (pe_ix (ix_tupK (K := K) rfl) (pv 10) pe_int (fun _ _ => rfl)) (pe_ix (ix_tupK (K := K) rfl) (pv 10) pe_int (fun _ _ => rfl)) (nomark _)))) (nomark _)))))))))))))))), ?_⟩
  walk_at "go"
  intro s0 H1 e1 hS1
  walk_at "go"
  intro Hn H2 g p e i wh rs e2 fr hR rp
  obtain ⟨ek, he, lek, _⟩ := id rp.he
  obtain ⟨ik, hi, lik, _⟩ := id rp.hi
  obtain ⟨wk, hw, lwk, ndw, hwm⟩ := id rp.hw
  obtain ⟨wss, hws⟩ := whens_l hwm
  have gp : g ≠ p := fun z => by
    obtain ⟨kvs, a, _⟩ := hR.ex
    rw [← z, fr.g0] at a
    cases a
  have R2 : RawS K H2 g p e i wh rs ek ik wk wss (fun x => x ∈ rs.map Row.name) := ⟨gp, rp.hg, hR.same rp.same, he, hi, hw, hws, ndw, lwk, Nat.le_trans lek (by decide)⟩
  have S2 := hS1.mono (e2.trans rp.same)
  walk_at "go"
  refine r_cut (fun σ H' => ∃ o3 o4 o5 o6 e' ek', σ = [some (.ref a), some (.ref s0), some (.ref g), o3, o4, o5, o6, none, none, none, none, none, none] ∧ RawS K H' g p e' i wh rs ek' ik wk wss (fun x => x ∈ rs.map Row.name)) ?_ ?_
  · walk_at "go"
    intro v0 a0 a1
    walk_at "go"
    refine ite_d (fun c1 => ?_) (fun c1 => ?_)
    · obtain ⟨kvs, hk, hkv⟩ := R2.hR.ex
      have hkl : kvs.length ≤ 10 := R2.hR.len hk
      have gd : ∀ {Hu : Hp} {u : HO}, Same H2 Hu → upd Hu p u g = some (.dK (raw4 (.ref p) (.ref e) (.ref i) (.ref wh))) := fun {Hu u} s1 => by rw [upd_ne gp]; exact s1 _ _ rp.hg
      walk_at "go"
      refine ⟨p, _, hk, trivial, fun od => ?_⟩
      have dg1 := dget_k (gd (u := .frz od (.dK kvs)) (Same.refl H2)) rw1
      walk_at "go"
      refine ⟨p, od, rfl, .inl ⟨kvs, upd_same, ?_⟩⟩
      intro D hD
      obtain ⟨Dp, hD'⟩ := lk_none hD
      refine lc_it (walk_keys (kvs := kvs)) (fun j H' => ∃ Hu acc, H' = upd Hu p (.frz od (.dK kvs)) ∧ Same H2 Hu ∧ Hu D = some (.lst acc) ∧ acc.length ≤ j) ?_ ?_ ?_ ?_
      · exact ⟨upd H2 D (.lst []), [], upd_comm Dp.symm, same_new hD', upd_same, Nat.le_refl _⟩
      · rintro j H' _ ⟨Hu, _, rfl, _⟩
        exact upd_same
      · rintro j y H7 H8 hj ⟨Hu, acc, rfl, e7, hD7, la⟩ ⟨rfl, ky, v, hy, rfl⟩
        obtain ⟨r, hr, rfl, ⟨t, va, st, rfl, ht, _, _⟩, hvr⟩ := valV_row hkv R2.hR.nodup hy
        have ht2 := SqT.lock (F := .frz od (.dK kvs)) (SqT.same ht e7) (e7 _ _ hk)
        have dg2 := dget_k (gd (u := .frz od (.dK kvs)) e7) rw1
        have dl := dget_lk (H := Hu) (p := p) (od := od) hvr
        have hDx : upd Hu p (.frz od (.dK kvs)) D = some (.lst acc) := by rw [upd_ne Dp]; exact hD7
        walk_at "go"
        refine ⟨rfl, ?_⟩
        walk_at "go"
        refine r_ixT ht2 rfl ?_
        walk_at "go"
        refine ite_d (fun c1 => ?_) (fun c1 => ?_)
        · walk_at "go"
          exact ⟨acc, hDx, Nat.lt_of_le_of_lt la (by rw [sizeLine_eq]; omega), upd Hu D (.lst (acc ++ [.str r.name])), _, upd_comm Dp.symm, same_upd e7 hD', upd_same, len1 la⟩
        · exact ⟨Hu, acc, rfl, e7, hD7, Nat.le_succ_of_le la⟩
      · rintro H7 ⟨Hu, acc, rfl, e7, hD7, la⟩
        refine ⟨upd_same, ?_⟩
        rw [upd_back (e7 _ _ hk)]
        walk_at "go"
        intro tb htb
        have e8 := e7.trans (same_new (o := .dK []) htb)
        have lD : SqL K (upd Hu tb (.dK [])) D acc ∨ SqT K (upd Hu tb (.dK [])) D acc := .inl (SqL.of ((same_new htb) _ _ hD7))
        have tn : H2 tb = none := by
          cases z : H2 tb with
          | none => rfl
          | some u => rw [e7 _ _ z] at htb; cases htb
        have la10 : ((acc.length : Nat) : Int) < 2 ^ 62 := by omega
        have la11 : -(2 ^ 62) ≤ ((acc.length : Nat) : Int) := by omega
        repeat walk_at "go1"
        refine ⟨D, acc, rfl, lD, ?_⟩
        repeat walk_at "go1"
        refine ⟨_, rfl, la11, la10, ?_⟩
        rw [Int.toNat_natCast]
        refine for_rng (n := acc.length) (lo := 0) (fun m σ H' => ∃ o6 tk, σ = [some (.ref a), some (.ref s0), some (.ref g), some (.ref D), none, some (.ref tb), o6, none, none, none, none, none, none] ∧ Same H2 H' ∧ H' tb = some (.dK tk) ∧ tk.length ≤ m) ?_ ?_ ?_
        · exact ⟨_, [], rfl, e8, upd_same, Nat.le_refl _⟩
        · rintro m σ H9 hm ⟨o6, tk, rfl, e9, htk, lt⟩
          have m20 : m < 20 := by omega
          obtain ⟨q1, q2⟩ := key_e ⟨m, m20⟩
          dsimp only at q1 q2
          walk_at "go"
          intro t1 h1
          walk_at "go"
          intro t2 h2
          walk_at "go"
          refine ⟨by show 2 ≤ sizeLine; decide, fun t3 h3 => ?_⟩
          have ee := (same_new (o := .tup [.str "time"]) h1).trans ((same_new (o := .tup [.str "time"]) h2).trans (same_new (o := .tup [.ref t1, .ref t2]) h3))
          walk_at "go"
          refine And.intro (Nat.le_trans q2 (by rw [sizeLine_eq]; decide)) ?_
          refine ⟨tb, _, rfl, DPut.k (k := Sum.inr _) (ee _ _ htk) (by rw [sizeLine_eq]; omega), ?_⟩
          exact ⟨_, _, rfl, same_upd (e9.trans ee) tn, upd_same, Nat.le_trans (length_putK _ _ _) (Nat.succ_le_succ lt)⟩
        · rintro σ H9 ⟨o6, tk, rfl, e9, htk, lt⟩
          have R9 := R2.same e9
          walk_at "go"
          refine ⟨g, _, rfl, DPut.k (k := Sum.inr "equations") R9.hg (by show 4 < sizeLine; decide), ?_⟩
          rw [put_raw]
          have ng : ∀ {q : Addr} {o : HO}, q ≠ g → H9 q = some o → upd H9 g (.dK (raw4 (.ref p) (.ref tb) (.ref i) (.ref wh))) q = some o := fun ne h => by rw [upd_ne ne]; exact h
          have tg : tb ≠ g := fun z => by rw [z, rp.hg] at tn; cases tn
          exact ⟨_, _, _, _, tb, tk, rfl, gp, upd_same, R9.hR.updD R9.hg gp.symm, ng tg htk, ng fr.gi.symm R9.hi, ng fr.gw.symm R9.hw, Paired.imp (fun _ _ z => ⟨z.1, z.2.upd R9.hg⟩) R9.hws, R9.nd, R9.l2, by omega⟩
    · walk_at "go"
      exact ⟨_, _, _, _, e, ek, rfl, R2⟩
  · rintro σ H3 ⟨o3, o4, o5, o6, e', ek', rfl, R3⟩
    obtain ⟨kvs, hk, hkv⟩ := R3.hR.ex
    have dg := dget_k R3.hg rw1
    have hkl : kvs.length ≤ 10 := R3.hR.len hk
    have gd : ∀ {Hu : Hp} {u : HO}, Same H3 Hu → upd Hu p u g = some (.dK (raw4 (.ref p) (.ref e') (.ref i) (.ref wh))) := fun {Hu u} s1 => by rw [upd_ne gp]; exact s1 _ _ R3.hg
    walk_at "go"
    refine ⟨p, _, hk, trivial, fun od => ?_⟩
    have dg1 := dget_k (gd (u := .frz od (.dK kvs)) (Same.refl H3)) rw1
    walk_at "go"
    refine ⟨p, od, rfl, .inl ⟨kvs, upd_same, ?_⟩⟩
    intro D hD
    obtain ⟨Dp, hD'⟩ := lk_none hD
    refine lc_it (walk_keys (kvs := kvs)) (fun j H' => ∃ Hu, H' = upd Hu p (.frz od (.dK kvs)) ∧ Same H3 Hu ∧ Hu D = some (.lst (((rs.map Row.kind).take j).map V.str))) ?_ ?_ ?_ ?_
    · exact ⟨upd H3 D (.lst []), upd_comm Dp.symm, same_new hD', upd_same⟩
    · rintro j H' _ ⟨Hu, rfl, _⟩
      exact upd_same
    · rintro j y H7 H8 hj ⟨Hu, rfl, e7, hD7⟩ ⟨rfl, ky, v, hy, rfl⟩
      obtain ⟨r, hr, rfl, ⟨t, va, st, rfl, ht, _, _⟩, hvr⟩ := valV_row hkv R3.hR.nodup hy
      have ht2 := SqT.lock (F := .frz od (.dK kvs)) (SqT.same ht e7) (e7 _ _ hk)
      have dg2 := dget_k (gd (u := .frz od (.dK kvs)) e7) rw1
      have dl := dget_lk (H := Hu) (p := p) (od := od) hvr
      have hDx : upd Hu p (.frz od (.dK kvs)) D = some (.lst (((rs.map Row.kind).take j).map V.str)) := by rw [upd_ne Dp]; exact hD7
      have hkd : (rs.map Row.kind)[j]? = some r.kind := by rw [List.getElem?_map, hr]; rfl
      walk_at "go"
      refine ⟨rfl, r_yes ?_⟩
      walk_at "go"
      refine r_ixT ht2 rfl ?_
      refine ⟨_, hDx, ?_, upd Hu D (.lst (((rs.map Row.kind).take (j + 1)).map V.str)), ?_, same_upd e7 hD', upd_same⟩
      · rw [List.length_map, List.length_take, sizeLine_eq]
        omega
      · rw [upd_comm Dp.symm, take_succ_get hkd, List.map_append]
        rfl
    · rintro H7 ⟨Hb, rfl, e7, hD7⟩
      refine ⟨upd_same, ?_⟩
      rw [upd_back (e7 _ _ hk)]
      have e9 : (rs.map Row.kind).take kvs.length = rs.map Row.kind := List.take_of_length_le (by rw [List.length_map, Paired.length hkv]; exact Nat.le_refl _)
      rw [e9] at hD7
      have R7 := R3.same e7
      walk_at "go"
      intro A hA
      have sA := same_new (o := .lst []) hA
      have Aw : A ≠ wh := fun z => by rw [z, R7.hw] at hA; cases hA
      have gdw : ∀ {Hu : Hp} {u : HO}, Same Hb Hu → upd Hu wh u g = some (.dK (raw4 (.ref p) (.ref e') (.ref i) (.ref wh))) := fun {Hu u} s1 => by rw [upd_ne fr.gw]; exact s1 _ _ R7.hg
      walk_at "go"
      refine ⟨wh, _, sA _ _ R7.hw, trivial, fun od2 => ?_⟩
      have dgw := dget_k (gdw (u := .frz od2 (.dK wk)) sA) rw4
      walk_at "go"
      refine ⟨wh, od2, rfl, .inl ⟨wk, upd_same, ?_⟩⟩
      refine for_it (walk_keys (kvs := wk)) (fun j σ H' => ∃ o4 Hu acc, σ = [some (.ref a), some (.ref s0), some (.ref g), o3, o4, o5, o6, some (.ref D), some (.ref A), none, none, none, none] ∧ H' = upd Hu wh (.frz od2 (.dK wk)) ∧ Same Hb Hu ∧ Hu A = some (.lst acc) ∧ acc.length = asgN (wss.take j) ∧ acc.length ≤ 2 * j) ?_ ?_ ?_ ?_
      · exact ⟨_, _, [], rfl, rfl, sA, upd_same, rfl, Nat.le_refl _⟩
      · rintro j σ H' _ ⟨_, Hu, _, _, rfl, _⟩
        exact upd_same
      · rintro j y σ H8 H9 hj ⟨o4, Hu, acc, rfl, rfl, s8, hA8, hn8, hl8⟩ ⟨rfl, ky, v, hy, rfl⟩
        obtain ⟨ws, hws1, ⟨xx, hxx⟩, hwv⟩ := Paired.some (R7.same s8).hws hy
        dsimp only at hxx hwv
        subst hxx
        have hvv := valV_at R7.nd hy
        have hw8 := (R7.same s8).hw
        obtain ⟨t, c, l, acts, ex, rfl, ht, hc, oc, hl, la, ha⟩ := hwv.upd (o := .frz od2 (.dK wk)) hw8
        have dg2 := dget_k (gdw (u := .frz od2 (.dK wk)) s8) rw4
        have dl := dget_lk (H := Hu) (p := wh) (od := od2) hvv
        have hA9 : upd Hu wh (.frz od2 (.dK wk)) A = some (.lst acc) := by rw [upd_ne Aw]; exact hA8
        walk_at "go"
        refine And.intro (.inl ⟨rfl, _, SqL.of hA9⟩) ?_
        walk_at "go"
        refine r_ixT ht rfl ?_
        have gl : SqL K (upd Hu wh (.frz od2 (.dK wk))) l acts := SqL.of hl
        refine ⟨l, rfl, ⟨_, gl⟩, ?_⟩
        refine lc_lst gl (by omega) (fun i acc2 H' => acc2.length = asg1 (ws.take i) ∧ acc2.length ≤ i) ?_ ?_ ?_
        · exact fun D hD => ⟨rfl, Nat.le_refl _⟩
        · rintro D2 i y acc2 H9 hD2 hyi hi9 e9 hD9 la9 ⟨hn9, hl9⟩
          obtain ⟨wd, hwd, hav⟩ := Paired.some ha.1 hyi
          obtain @⟨ta, _, xa, ua, ea, rfl, hta, _, _, _⟩ := hav
          have hta2 := SqT.same hta e9
          walk_at "go"
          refine ⟨rfl, ?_⟩
          walk_at "go"
          refine r_ixT hta2 rfl ?_
          walk_at "go"
          refine ite_d (fun c1 => ?_) (fun c1 => ?_)
          · walk_at "go"
            exact lc_add hD2 e9 (Same.refl _) hD9 la9 hi9 (by
              refine ⟨?_, len1 hl9⟩
              rw [List.length_append, List.length_singleton, asg1_take hwd, if_pos (show isAsg wd = true from decide_eq_true c1), hn9])
          · exact lc_skip e9 (Same.refl _) hD9 la9 (by
              refine ⟨?_, Nat.le_succ_of_le hl9⟩
              rw [asg1_take hwd, if_neg (show ¬ isAsg wd = true from fun z => c1 (of_decide_eq_true z)), hn9]
              rfl)
        · rintro D2 acc2 H9 hD2 e9 hD9 ⟨hn9, hl9⟩
          have e11 : ws.take acts.length = ws := List.take_of_length_le (Nat.le_of_eq (Paired.length ha.1).symm)
          rw [e11] at hn9
          obtain ⟨q1, q2⟩ := lk_open hw8 e9
          have hA9' := e9 _ _ hA9
          have l2 := R7.l2
          refine ⟨A, D2, acc, acc2, rfl, rfl, hA9', hD9, by rw [sizeLine_eq]; omega, ?_⟩
          refine ⟨_, upd (upd H9 wh (.dK wk)) A (.lst (acc ++ acc2)), acc ++ acc2, rfl, ?_, same_upd (s8.trans q2) hA, upd_same, ?_, ?_⟩
          · rw [← upd_comm Aw.symm, ← q1]
          · rw [List.length_append, asgN_take hws1, hn8, hn9]
          · rw [List.length_append]
            omega
      · rintro σ H8 ⟨o4, Hu, acc, rfl, rfl, s8, hA8, hn8, hl8⟩
        refine ⟨upd_same, ?_⟩
        have R8 := R7.same s8
        rw [upd_back R8.hw]
        have e10 : wss.take wk.length = wss := List.take_of_length_le (Nat.le_of_eq (Paired.length R8.hws).symm)
        rw [e10] at hn8
        have D8 : Hu D = some (.lst ((rs.map Row.kind).map V.str)) := s8 _ _ hD7
        have lA : SqL K Hu A acc ∨ SqT K Hu A acc := .inl (SqL.of hA8)
        have fl : ((rs.map Row.kind).map V.str).all flatV = true := List.all_eq_true.mpr fun v hv => by
          obtain ⟨y, _, rfl⟩ := List.mem_map.mp hv
          rfl
        have dge := dget_k R8.hg rw2
        have lrs : rs.length ≤ 10 := by rw [← Paired.length hkv]; exact hkl
        have lkd : (rs.map Row.kind).length ≤ 10 := by rw [List.length_map]; exact lrs
        have lws : wss.length ≤ 2 := by rw [← Paired.length R8.hws]; exact R8.l2
        have lek := R8.le
        have fw := whens_few R8.hws
        have cn : ∀ x : V, cntV x ((rs.map Row.kind).map V.str) ≤ 10 := fun x => Nat.le_trans List.countP_le_length (by rw [List.length_map]; exact lkd)
        have sh : ShowsI (cntI (rs.map Row.kind) ek'.length wss) := shows4 (Nat.lt_of_le_of_lt (cn _) (by decide)) (by omega) (Nat.lt_of_le_of_lt (cn _) (by decide)) (by omega)
        walk_at "go"
        refine And.intro (.inl ⟨rfl, _, SqL.of D8⟩) ?_
        walk_at "go"
        refine ⟨D, _, _, rfl, rfl, SqL.of D8, rfl, fl, ?_⟩
        walk_at "go"
        refine ⟨e', ek', rfl, .inl R8.he, ?_⟩
        walk_at "go"
        refine And.intro (.inl ⟨rfl, _, SqL.of D8⟩) ?_
        walk_at "go"
        refine ⟨D, _, _, rfl, rfl, SqL.of D8, rfl, fl, ?_⟩
        walk_at "go"
        refine ⟨by show 4 ≤ sizeLine; decide, fun dq hdq => ?_⟩
        rw [hn8]
        have e9 := same_new (o := .tup ((cntI (rs.map Row.kind) ek'.length wss).map V.int)) hdq
        have R9 := R8.same e9
        have hdq9 : upd Hu dq (.tup ((cntI (rs.map Row.kind) ek'.length wss).map V.int)) dq = some (.tup ((cntI (rs.map Row.kind) ek'.length wss).map V.int)) := upd_same
        change _ at e9
        walk_at "go"
        refine ⟨g, p, e', i, wh, rs, ek', ik, wk, wss, _, rfl, gp, R9.hg, R9.hR, R9.he, R9.hi, R9.hw, R9.hws, R9.nd, by have := R9.l2; omega, fun x H10 e10 hsys => ?_⟩
        walk_at "go"
        refine ⟨x, _, _, _, rfl, hsys, by omega, by omega, by omega, fun t H11 e11 ht => ?_⟩
        have hd11 := e11 _ _ (e10 _ _ hdq9)
        repeat walk_at "go1"
        refine ⟨t, _, rfl, ht, sh, ?_⟩
        repeat walk_at "go1"
        refine ⟨dq, _, rfl, hd11, sh, ?_⟩
        generalize strI (cntI (rs.map Row.kind) ek'.length wss) = zs
        walk_at "go"
        refine ite_nd (fun c => absurd rfl c) (fun _ => ?_)
        walk_at "go"
        refine ⟨x, _, _, _, rfl, hsys.same e11, by omega, by omega, by omega, fun H12 e12 => ?_⟩
        have hd12 : SqT K H12 dq ((cntI (rs.map Row.kind) ek'.length wss).map V.int) := SqT.of (e12 _ _ hd11)
        walk_at "go"
        refine r_isi (.base (.bl _)) (.ty _) (of_decide_eq_true T.x_kit_t_bool_t_bool) ?_
        walk_at "go"
        refine r_ixT hd12 rfl ?_
        walk_at "go"
        refine r_ixT hd12 rfl ?_
        walk_at "go"
        refine ite_d (fun c1 => ?_) (fun c1 => ?_)
        · walk_at "go"
          refine r_ixT hd12 rfl ?_
          walk_at "go"
          refine r_ixT hd12 rfl ?_
          walk_at "go"
          rw [decide_eq_true c1, Bool.true_and]
          exact congrArg V.bl (decide_eq_true rfl)
        · walk_at "go"
          rw [decide_eq_false c1, Bool.false_and]
          exact congrArg V.bl (decide_eq_true rfl)
end
end Lk
open PySem PySem.W PySem.Calls PyProof.Rows
set_option maxRecDepth 100000 in
set_option maxHeartbeats 0 in
theorem PySem.Challenge.cw_linkwork_k18_counts_of_systems_holds : PySem.Challenge.rw_linkwork_k18_counts_of_systems.Holds := by
  w_on; o_law
  refine HeadRun.head_imp (r := OpenLaw.row PySem.Challenge.rw_linkwork_k18_counts_of_systems) (q := Lk.qv) (H := Lk.hk) (ob := Lk.ob) (M := 4000) (loose := Lk.looseL) (d := HandSHeadRun.topDef (OpenLaw.row PySem.Challenge.rw_linkwork_k18_counts_of_systems).prog 27) (kwd := []) Lk.ob_eq Lk.run (by kernel_rfl) (by kernel_rfl) (by kernel_rfl) (by rfl) (by first | assumption | decide +kernel) (by decide +kernel) ⟨rfl, rfl, rfl, rfl, rfl, by decide +kernel⟩ ?hw ?hc
  case hw => w_witness2
  case hc =>
    refine Lk.walk_caller (l := PySem.Challenge.rw_linkwork_k18_counts_of_systems) (n := 63) rfl (by decide) (by kernel_rfl) ?F
    intro w mg fa h Y G hmg0
    obtain ⟨K, KX, c⟩ := Y
    have hmg : mg ("law" : PySem.Str) = some (.ref fa) := by
      have e : (HandSHeadRun.topDef (OpenLaw.row PySem.Challenge.rw_linkwork_k18_counts_of_systems).prog 27).name = ("law" : PySem.Str) := by kernel_rfl
      rw [← e]
      exact hmg0
    have T : Lk.Top w K mg := ⟨h, KX, G, c⟩
    have e := hmg.symm.trans T.g_law
    cases e
    exact ⟨K, KX, fun base b1 b2 s H a ns hl hS e0 => Lk.run_law T hl hS e0⟩

