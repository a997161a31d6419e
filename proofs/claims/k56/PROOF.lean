import PyProof.Rows.All
import Wide.All
import OpenK.AllK
import Wide.FinOn
import KE.KStateDown
import HandS.Base
import HandS.Call
import HandS.List
import HandS.Comp
import HandS.Ends
import HandS.Dict
import HandS.Iter
import HandS.Text
import HandS.StrMore
import HandS.More
import HandS.Words
import HandS.WordsList
import HandS.WordsExc
import HandS.Exc
import HandS.ExcOwn
import HandS.ExcIs
import HandS.TryOnly
import HandS.IsInst
import HandS.Codes
import HandS.Defaults
import HandS.Wide
import HandS.Gcd
import KE.KOpsOwn
import KE.HD0
import KE.HD1
import KE.HD2
import KE.HD3
import HandS.Head0
import HandS.Head1
import HandS.Head2
import HandS.HeadEnd
import HandS.HeadHook1
import HandS.HeadHook2
import HandS.HeadHook3
import HandS.HeadHook4
import Flt.Len
import PyProof.NoPylong
import HandS.ExcInit
import HandS.ExcField
import HandS.FStr
import HandS.Evl
import HandS.WideBits
import HandS.Style
import HandS.Walk
import HandS.OwnEq
import HandS.Finally
import HandS.DictComp
import HandS.MakeKw
import HandS.More
import HandS.Star
import HandS.Conv
import HandS.TupLen
import HandS.Deep
import HandS.Zip
import HandS.SetKeys
import HandS.DictTup
import KE.SortData
import KE.SortKeyHeap
import HandS.SortKw
import HandS.TryMany
import KE.DatumOrd
import HandS.ExcValue
import HandS.Gcd
import KE.KMathG
import HandS.Set
import HandS.Strs
import HandS.Sort
import PySem.Challenge.RW_linkwork_k56_kernels_and_contradictions
set_option Elab.async false
set_option linter.all false
set_option maxRecDepth 100000
namespace Lk
open PySem PySem.Spec L2
open PyProof.Rows hiding St
/-! ### the head's facts, the interpreter's own statics among what is written -/
def asS (g : Addr → Option Obj) (n : Nat) : List Addr := He.asD g n ++ [cStatics]
abbrev AlS : Type := He.AlD × Bool
def obsS (n : Nat) (fa : List He.Fa) (fn : List He.DefD) (ex : PySem.W.Frag → Bool) (g : Addr → Option Obj) : AlS := (He.obsD fa fn (He.frT g (asS g n)), ex (He.frT g (asS g n)))
structure SaysS (fa : List He.Fa) (fn : List He.DefD) (ex : PySem.W.Frag → Bool) (K : PySem.W.Frag) : Prop where
  d : He.SaysD fa fn K
  more : ex K = true
def hookS (n : Nat) (fa : List He.Fa) (fn : List He.DefD) (ex : PySem.W.Frag → Bool) : PySem.W.Hook where
  α := AlS
  obs := fun s => obsS n fa fn ex s.heap.get?
  val := fun _ => (He.valD fn, true)
  says := fun _ h => ∃ K : PySem.W.Frag, K.In h ∧ SaysS fa fn ex K
  of := fun _ _ e => ⟨_, He.frT_in, ⟨congrArg (fun z : AlS => z.1) e, congrArg (fun z : AlS => z.2) e⟩⟩
  keeps := fun _ _ _ z k => by
    obtain ⟨K, hK, c⟩ := z
    exact ⟨K, PySem.W.Frag.In.keeps hK k, c⟩
theorem obsS_eq {n : Nat} {fa : List He.Fa} {fn : List He.DefD} {ex : PySem.W.Frag → Bool} {g : Addr → Option Obj} {s : Shared} (h : ∀ a, g a = s.heap.get? a) : obsS n fa fn ex g = (hookS n fa fn ex).obs s := by
  have e : g = s.heap.get? := funext h
  rw [e] <;> rfl
/-! ### .. and tables of the top with text keys -/
abbrev TabS : Type := (PySem.W.Frag → Addr) × List Str
abbrev AlU : Type := AlS × List (Option (List (Option (Str × Int))))
def obsU (n : Nat) (fa : List He.Fa) (fn : List He.DefD) (ex : PySem.W.Frag → Bool) (ts : List TabS) (g : Addr → Option Obj) : AlU := (obsS n fa fn ex g, ts.map fun t => He.dicW (He.frT g (asS g n)) (t.1 (He.frT g (asS g n))))
structure SaysU (fa : List He.Fa) (fn : List He.DefD) (ex : PySem.W.Frag → Bool) (ts : List TabS) (w : World) (K : PySem.W.Frag) : Prop where
  d : He.SaysD fa fn K
  more : ex K = true
  tab : (ts.map fun t => He.dicW K (t.1 K)) = ts.map fun t => some (He.keysIn w.params t.2)
def hookU (n : Nat) (fa : List He.Fa) (fn : List He.DefD) (ex : PySem.W.Frag → Bool) (ts : List TabS) : PySem.W.Hook where
  α := AlU
  obs := fun s => obsU n fa fn ex ts s.heap.get?
  val := fun w => ((He.valD fn, true), ts.map fun t => some (He.keysIn w.params t.2))
  says := fun w h => ∃ K : PySem.W.Frag, K.In h ∧ SaysU fa fn ex ts w K
  of := fun w s e => by
    have e' : obsU n fa fn ex ts s.heap.get? = ((He.valD fn, true), ts.map fun t : TabS => some (He.keysIn w.params t.2)) := e
    have e1 : (obsU n fa fn ex ts s.heap.get?).1 = (He.valD fn, true) := by rw [e']
    have e2 : (obsU n fa fn ex ts s.heap.get?).2 = ts.map fun t : TabS => some (He.keysIn w.params t.2) := by rw [e']
    exact ⟨_, He.frT_in, ⟨congrArg (fun z : AlS => z.1) e1, congrArg (fun z : AlS => z.2) e1, e2⟩⟩
  keeps := fun _ _ _ z k => by
    obtain ⟨K, hK, c⟩ := z
    exact ⟨K, PySem.W.Frag.In.keeps hK k, c⟩
theorem obsU_eq {n : Nat} {fa : List He.Fa} {fn : List He.DefD} {ex : PySem.W.Frag → Bool} {ts : List TabS} {g : Addr → Option Obj} {s : Shared} (h : ∀ a, g a = s.heap.get? a) : obsU n fa fn ex ts g = (hookU n fa fn ex ts).obs s := by
  have e : g = s.heap.get? := funext h
  rw [e] <;> rfl
theorem SaysU.kd {fa : List He.Fa} {fn : List He.DefD} {ex : PySem.W.Frag → Bool} {ts : List TabS} {w : World} {K : PySem.W.Frag} (c : SaysU fa fn ex ts w K) (i : Nat) {t : TabS} (h : ts[i]? = some t) : ∃ es n, KDict K w (t.1 K) es n := by
  have e2 : (ts.map fun t => He.dicW K (t.1 K))[i]? = (ts.map fun t => some (He.keysIn w.params t.2))[i]? := by rw [c.tab]
  rw [List.getElem?_map, List.getElem?_map, h] at e2
  exact He.dicW_ok (Option.some.inj e2)
/-- whether a table holds a text -/
def inTab (K : PySem.W.Frag) (a : Addr) (x : Str) (b : Bool) : Bool := match PySem.W.nsIn K a x with
  | some r => r.isSome == b
  | none => false
theorem inTab_ok {K : PySem.W.Frag} {a : Addr} {x : Str} {b : Bool} (h : inTab K a x b = true) : ∃ r, PySem.W.nsIn K a x = some r ∧ r.isSome = b := by
  unfold inTab at h
  split at h
  · rename_i r e
    exact ⟨r, e, by simpa using h⟩
  · cases h
/-! ### steps of a reading, from the left -/
section
variable {σ : St} {H : Hp} {Q : VK} {ta tb te : TE} {i : Nat} {v x y : V} {nx : St → Hp → Prop} {rt : VK} {bk ct : St → Hp → Prop} {t u : TS} {c : TT}
theorem r_seq (h : t ⟨fun σ H => u ⟨nx, rt, bk, ct⟩ σ H, rt, bk, ct⟩ σ H) : tSeq t u ⟨nx, rt, bk, ct⟩ σ H := h
theorem r_set (h : te σ H fun x H1 => nx (σ.set i (some x)) H1) : tAsg te (gName i) ⟨nx, rt, bk, ct⟩ σ H := h
theorem r_ret (h : te σ H rt) : tRet te ⟨nx, rt, bk, ct⟩ σ H := h
theorem r_next (h : nx σ H) : tNext ⟨nx, rt, bk, ct⟩ σ H := h
theorem r_drop (h : te σ H fun _ H1 => nx σ H1) : tDrop te ⟨nx, rt, bk, ct⟩ σ H := h
theorem r_if (h : c σ H fun b H1 => if b = true then t ⟨nx, rt, bk, ct⟩ σ H1 else u ⟨nx, rt, bk, ct⟩ σ H1) : tIfS c t u ⟨nx, rt, bk, ct⟩ σ H := h
theorem r_brk (h : bk σ H) : tBreak ⟨nx, rt, bk, ct⟩ σ H := h
theorem r_cont (h : ct σ H) : tCont ⟨nx, rt, bk, ct⟩ σ H := h
theorem r_var (e : σ[i]? = some (some v)) (h : Q v H) : tVar i σ H Q := ⟨v, e, h⟩
theorem r_c (h : Q v H) : tC v σ H Q := h
theorem r_op {r : R2} (h : ta σ H fun x H1 => tb σ H1 fun y H2 => r x y H2 Q) : tOp r ta tb σ H Q := h
theorem r_un {r : V → Hp → VK → Prop} (h : ta σ H fun x H1 => r x H1 Q) : tUn r ta σ H Q := h
theorem r_I0 {g : Int → Int → V} {i j : Int} (h : Q (g i j) H) : rI0 g (.int i) (.int j) H Q := ⟨i, j, rfl, rfl, h⟩
theorem r_I {C : Int → Int → Prop} {g : Int → Int → V} {i j : Int} (hc : C i j) (h : Q (g i j) H) : rI C g (.int i) (.int j) H Q := ⟨i, j, rfl, rfl, hc, h⟩
theorem r_U {g : Int → V} {i : Int} (h : Q (g i) H) : rU g (.int i) H Q := ⟨i, rfl, h⟩
theorem r_eq (hs : scal x y = true) (h : Q (.bl (decide (x = y))) H) : rEq x y H Q := ⟨hs, h⟩
theorem r_ne (hs : scal x y = true) (h : Q (.bl (!decide (x = y))) H) : rNe x y H Q := ⟨hs, h⟩
theorem r_test {P : Bool → Hp → Prop} (h : te σ H fun x H' => ∃ k, x = .bl k ∧ P k H') : tTest te σ H P := h
theorem r_B {P : Bool → Hp → Prop} (h : te σ H fun x H' => ∃ k, x = .bl k ∧ P k H') : tB te σ H P := h
theorem r_bl {b : Bool} {P : Bool → Prop} (h : P b) : ∃ k, V.bl b = .bl k ∧ P k := ⟨b, rfl, h⟩
theorem r_nilA {P : List V → Hp → Prop} (h : P [] H) : tNil σ H P := h
theorem r_consA {tr : TA} {P : List V → Hp → Prop} (h : te σ H fun x H1 => tr σ H1 fun xs H2 => P (x :: xs) H2) : tCons te tr σ H P := h
theorem r_call {sp : Sp} {dvs : List V} {E : XK} {t : TA} (h : t σ H fun vs H1 => sp (vs ++ dvs) H1 Q E) : tCall sp dvs E t σ H Q := h
theorem r_callS {sp : Sp} {E : St → XK} {t : TA} (h : t σ H fun vs H1 => sp vs H1 Q (E σ)) : tCallS sp E t σ H Q := h
theorem r_CB {r : List V → Hp → VK → Prop} {t : TA} (h : t σ H fun vs H1 => r vs H1 Q) : tCB r t σ H Q := h
theorem r_tup {t : TA} (h : t σ H fun xs H1 => xs.length ≤ sizeLine ∧ ∀ p, H1 p = none → Q (.ref p) (upd H1 p (.tup xs))) : tTup t σ H Q := h
theorem r_lst {t : TA} (h : t σ H fun xs H1 => xs.length ≤ sizeLine ∧ ∀ p, H1 p = none → Q (.ref p) (upd H1 p (.lst xs))) : tLst t σ H Q := h
theorem r_and {u : TT} {P : Bool → Hp → Prop} (h : c σ H fun k H1 => if k = true then u σ H1 P else P false H1) : tAnd c u σ H P := h
theorem r_or {u : TT} {P : Bool → Hp → Prop} (h : c σ H fun k H1 => if k = true then P true H1 else u σ H1 P) : tOr c u σ H P := h
theorem r_not {P : Bool → Hp → Prop} (h : c σ H fun k H1 => P (!k) H1) : tNot c σ H P := h
theorem r_andV (h : ta σ H fun x H1 => ∃ k, x = .bl k ∧ if k = true then tb σ H1 Q else Q (.bl false) H1) : tAndV ta tb σ H Q := h
theorem r_orV (h : ta σ H fun x H1 => ∃ k, x = .bl k ∧ if k = true then Q (.bl true) H1 else tb σ H1 Q) : tOrV ta tb σ H Q := h
theorem r_notV (h : ta σ H fun x H1 => ∃ k, x = .bl k ∧ Q (.bl (!k)) H1) : tNotV ta σ H Q := h
theorem r_ifE (h : c σ H fun k H1 => if k = true then ta σ H1 Q else tb σ H1 Q) : tIf c ta tb σ H Q := h
theorem r_ixL {K : PySem.W.Frag} {p : Addr} {xs : List V} {i : Int} (hs : SqL K H p xs) (ha : atI xs i = some v) (h : Q v H) : rIxL K (.ref p) (.int i) H Q := ⟨p, xs, i, v, rfl, rfl, hs, ha, h⟩
theorem r_ixT {K : PySem.W.Frag} {p : Addr} {xs : List V} {i : Int} (hs : SqT K H p xs) (ha : atI xs i = some v) (h : Q v H) : rIxT K (.ref p) (.int i) H Q := ⟨p, xs, i, v, rfl, rfl, hs, ha, h⟩
theorem r_fld {K : PySem.W.Frag} {f : Str} (h : ta σ H fun x H1 => ∃ a C dx fs v, x = .ref a ∧ H1 a = some (.ins C dx fs) ∧ Cls K C ∧ NoAttr K C f ∧ fs.lookup f = some v ∧ Q v H1) : tFld K ta f σ H Q := h
theorem r_sub {to ti : TE} {ts : TSet} {D : St → Hp → Prop} (h : to σ H fun o H1 => ti σ H1 fun i H2 => ts o i v H2 fun H3 => D σ H3) : gSub to ti ts v σ H D := h
theorem r_asg {g : TG} (h : te σ H fun x H1 => g x σ H1 nx) : tAsg te g ⟨nx, rt, bk, ct⟩ σ H := h
theorem r_setL {D : Hp → Prop} {p : Addr} {xs : List V} {k : Int} {j : Nat} (hp : H p = some (.lst xs)) (hj : ixN xs.length k = some j) (h : D (upd H p (.lst (xs.set j v)))) : rSetL (.ref p) (.int k) v H D := ⟨p, xs, k, j, rfl, rfl, hp, hj, h⟩
theorem r_par {i j : Nat} {ta : TA} (h : ta σ H fun vs H1 => ∃ v w, vs = [v, w] ∧ nx ((σ.set i (some v)).set j (some w)) H1) : tPar i j ta ⟨nx, rt, bk, ct⟩ σ H := h
theorem r_par2 {v w : V} {P : V → V → Prop} (h : P v w) : ∃ a b, [v, w] = [a, b] ∧ P a b := ⟨v, w, rfl, h⟩
theorem ite_d {p A B : Prop} [Decidable p] (h1 : p → A) (h2 : ¬ p → B) : if decide p = true then A else B := by
  by_cases h : p
  · rw [if_pos (decide_eq_true h)]; exact h1 h
  · rw [if_neg (by simp [h])]; exact h2 h
theorem ite_nd {p A B : Prop} [Decidable p] (h1 : ¬ p → A) (h2 : p → B) : if (!decide p) = true then A else B := by
  by_cases h : p
  · rw [if_neg (by simp [h])]; exact h2 h
  · rw [if_pos (by simp [h])]; exact h1 h
theorem ite_b {b : Bool} {A B : Prop} (h1 : b = true → A) (h2 : b = false → B) : if b = true then A else B := by
  cases b with
  | true => exact if_pos rfl ▸ h1 rfl
  | false => exact if_neg Bool.false_ne_true ▸ h2 rfl
theorem vint_inj {i j : Int} (h : V.int i = V.int j) : i = j := V.int.inj h
theorem vint_ne {i j : Int} (h : ¬ V.int i = V.int j) : ¬ i = j := fun e => h (congrArg V.int e)
theorem vstr_inj {i j : Str} (h : V.str i = V.str j) : i = j := V.str.inj h
end
/-- a module's constant -/
theorem pe_globE {X : Cx} {x : Str} {v : V} {pos : Pos} (hg : Gl X x) (h : ∃ u, X.mg x = some u ∧ RelV v u) (hd : (x == ("__debug__" : Str)) = false := by decide) : PE X (.Name x pos) (tC v) := by
  obtain ⟨u, hm, r⟩ := h
  exact pe_glob hg hm r hd
/-- // of any divisor but 0 below 2 ^ 9000 -/
def CDivG (_ j : Int) : Prop := j ≠ 0 ∧ j.natAbs.log2 < 9000
theorem op_fdivG {X : Cx} : OpR X (binaryOp .FloorDiv) (rI CDivG fun i j => .int (i.fdiv j)) := opI fun i j _ _ _ _ _ hc q => floordiv_int hc.1 q (.inl (PyProof.noPylong_of_log2 hc.2))
theorem cdivG {i j : Int} {b : Nat} (h : j ≠ 0) (hb : j.natAbs < 2 ^ b) (h0 : 0 < b) (h9 : b ≤ 9000) : CDivG i j := ⟨h, Nat.lt_of_lt_of_le (PySem.Flt.log2_lt_of h0 hb) h9⟩
theorem r_int1 {H : Hp} {Q : VK} {i : Int} (h : Q (.int i) H) : (∃ j, [V.int i] = [.int j] ∧ Q (.int j) H) ∨ ∃ k, [V.int i] = [.bl k] ∧ Q (.int (if k then 1 else 0)) H := .inl ⟨i, rfl, h⟩
theorem r_intB {H : Hp} {Q : VK} {k : Bool} (h : Q (.int (if k then 1 else 0)) H) : (∃ j, [V.bl k] = [.int j] ∧ Q (.int j) H) ∨ ∃ k', [V.bl k] = [.bl k'] ∧ Q (.int (if k' then 1 else 0)) H := .inr ⟨k, rfl, h⟩
theorem r_abs {H : Hp} {Q : VK} {i : Int} (h : Q (.int (if i < 0 then -i else i)) H) : ∃ j, [V.int i] = [.int j] ∧ Q (.int (if j < 0 then -j else j)) H := ⟨i, rfl, h⟩
/-! ### one step, at the goal's head -/

theorem r_lenL {K : PySem.W.Frag} {H : Hp} {Q : VK} {p : Addr} {ys : List V} (hs : SqL K H p ys) (h : Q (.int ys.length) H) : ∃ q zs, [V.ref p] = [.ref q] ∧ (SqL K H q zs ∨ SqT K H q zs) ∧ Q (.int zs.length) H := ⟨p, ys, rfl, .inl hs, h⟩
theorem r_lenT {K : PySem.W.Frag} {H : Hp} {Q : VK} {p : Addr} {ys : List V} (hs : SqT K H p ys) (h : Q (.int ys.length) H) : ∃ q zs, [V.ref p] = [.ref q] ∧ (SqL K H q zs ∨ SqT K H q zs) ∧ Q (.int zs.length) H := ⟨p, ys, rfl, .inr hs, h⟩
theorem r_listL {K : PySem.W.Frag} {H : Hp} {Q : VK} {p : Addr} {ys : List V} (hs : SqL K H p ys) (h : ∀ l, H l = none → Q (.ref l) (upd H l (.lst ys))) : ∃ q zs, [V.ref p] = [.ref q] ∧ (SqL K H q zs ∨ SqT K H q zs) ∧ ∀ l, H l = none → Q (.ref l) (upd H l (.lst zs)) := ⟨p, ys, rfl, .inl hs, h⟩
theorem r_sfld {K : PySem.W.Frag} {ta tv : TE} {f : Str} {nx : St → Hp → Prop} {rt : VK} {bk ct : St → Hp → Prop} {σ : St} {H : Hp}
    (h : tv σ H fun y H1 => ta σ H1 fun x H2 => ∃ a C dx fs, x = .ref a ∧ H2 a = some (.ins C dx fs) ∧ Cls K C ∧ NoAttr K C f ∧ fs.length < 1000 ∧ nx σ (upd H2 a (.ins C dx (putF f y fs)))) : sFld K ta tv f ⟨nx, rt, bk, ct⟩ σ H := h
/-! ### how large an int is -/
def Bits (b : Nat) (i : Int) : Prop := i.natAbs < 2 ^ b
theorem Bits.mono {a b : Nat} {i : Int} (h : Bits a i) (l : a ≤ b) : Bits b i := Nat.lt_of_lt_of_le h (Nat.pow_le_pow_right (by decide) l)
theorem Bits.mul {a b : Nat} {i j : Int} (h : Bits a i) (g : Bits b j) : Bits (a + b) (i * j) := wide_lt h g
theorem Bits.add {a b c : Nat} {i j : Int} (h : Bits a i) (g : Bits b j) (l1 : a < c) (l2 : b < c) : Bits c (i + j) := by
  have h2 : i.natAbs < 2 ^ (c - 1) := Bits.mono (b := c - 1) h (by omega)
  have g2 : j.natAbs < 2 ^ (c - 1) := Bits.mono (b := c - 1) g (by omega)
  have e : 2 ^ c = 2 ^ (c - 1) + 2 ^ (c - 1) := by
    obtain ⟨k, rfl⟩ : ∃ k, c = k + 1 := ⟨c - 1, by omega⟩
    rw [Nat.add_sub_cancel, Nat.pow_succ]
    omega
  show (i + j).natAbs < 2 ^ c
  rw [e]
  have := Int.natAbs_add_le i j
  omega
theorem Bits.neg {a : Nat} {i : Int} (h : Bits a i) : Bits a (-i) := by
  show (-i).natAbs < _
  rw [Int.natAbs_neg]
  exact h
theorem Bits.sub {a b c : Nat} {i j : Int} (h : Bits a i) (g : Bits b j) (l1 : a < c) (l2 : b < c) : Bits c (i - j) := by
  rw [Int.sub_eq_add_neg]
  exact Bits.add h g.neg l1 l2
theorem Bits.small {i : Int} {b : Nat} (h : i.natAbs < 18446744073709551616) (l : 64 ≤ b) : Bits b i := Bits.mono (a := 64) (show i.natAbs < 2 ^ 64 from h) l
theorem Bits.mulW {a b : Nat} {i j : Int} (h : Bits a i) (g : Bits b j) (l : a + b + 2 ≤ 1000000) : CMulW i j := wide_mul (h.mono (Nat.le_succ a)) (g.mono (Nat.le_succ b)) (Nat.succ_pos _) (Nat.succ_pos _) (by omega)
theorem Bits.divG {b : Nat} {i j : Int} (h : j ≠ 0) (g : Bits b j) (l : b + 1 ≤ 9000) : CDivG i j := cdivG h (g.mono (Nat.le_succ b)) (Nat.succ_pos _) l
theorem Bits.of_le {b : Nat} {i j : Int} (h : i.natAbs ≤ j.natAbs) (g : Bits b j) : Bits b i := Nat.lt_of_le_of_lt h g
theorem ite_nt {A B : Prop} (h : B) : if (!true) = true then A else B := iteF h
theorem ite_nf {A B : Prop} (h : A) : if (!false) = true then A else B := iteT h
/-! ### the law's stream: a list of the script's copy and three ints; told as ONE thing, so that a draw leaves the abstract heap as it is -/
def okS (j k : Int) : Prop := 0 ≤ j ∧ 0 ≤ k ∧ k < 2147483648
def phiS (s l : Addr) : Heap → Prop := fun h => ∃ (i j k : Int) (t u v : Tok) (n : Nat), h.get? s = some { cls := .type "list", data := .seq #[.ref l, .int i t, .int j u, .int k v] n } ∧ okS j k
def Strm (H : Hp) (s : Addr) : Prop := ∃ (l : Addr) (ns : List Int), H s = some (.ext (phiS s l)) ∧ H l = some (.lst (ns.map V.int)) ∧ ns.length ≤ 63
theorem Strm.mono {H H' : Hp} {s : Addr} (h : Strm H s) (e : Same H H') : Strm H' s := by
  obtain ⟨l, ns, h1, h2, h3⟩ := h
  exact ⟨l, ns, e _ _ h1, e _ _ h2, h3⟩
def cellsV (l : Addr) (i j k : Int) : List V := [.ref l, .int i, .int j, .int k]
theorem Vals.cells {l : Addr} {i j k : Int} {us : List Value} (h : Vals (cellsV l i j k) us) : ∃ t u v, us = [.ref l, .int i t, .int j u, .int k v] := by
  unfold cellsV at h
  cases h with
  | cons r0 h => cases h with
    | cons r1 h => cases h with
      | cons r2 h => cases h with
        | cons r3 h =>
          cases h
          obtain ⟨t, rfl⟩ := r1
          obtain ⟨u, rfl⟩ := r2
          obtain ⟨v, rfl⟩ := r3
          cases (show _ = Value.ref l from r0)
          exact ⟨t, u, v, rfl⟩
section
variable {X : Cx} {pins : List (Addr × Obj)} {σ : St} {H : Hp} {s : Shared} {a l : Addr}
/-- the abstract heap is told otherwise at one address, the heap stays -/
theorem Inv.retell {o o' : HO} (I : Inv X pins σ H s) (ha : H a = some o) (m : Mut (some o)) (m' : Mut (some o')) (new : ObjOk X.prog X.w (upd H a o') s.heap a o') : Inv X pins σ (upd H a o') s := by
  have hx : ∀ b u, H b = some u → ¬ Mut (some u) → b ≠ a := fun b u e nm z => by
    rw [z, ha] at e
    cases e
    exact nm m
  have un : Un X.fs [] H (upd H a o') s.heap s.heap := ⟨fun _ _ e _ _ _ => e, fun b ob e _ _ _ => ⟨ob.slots, e⟩, fun b ob e n _ => by
      rw [upd_ne (show b ≠ a from fun z => by rw [z, ha] at n; cases n)]; exact n, fun b ob e _ => ⟨ob, e⟩,
    fun b xs e => by rw [upd_ne (hx b _ e fun z => z)]; exact e, fun b ob u e => by rw [upd_ne (hx b _ e fun z => z)]; exact e, fun b ps e => ⟨#[], by rw [upd_ne (hx b _ e fun z => z), e]; simp⟩⟩
  have mu : Mut (H a) := by rw [ha]; exact m
  have hk : HOk X.prog X.w (upd H a o') s.heap := by
    obtain ⟨u, hu⟩ := objOk_get (I.hok a _ ha)
    exact I.hok.write mu (.inl rfl) (fun _ _ _ e => e) ⟨u, hu⟩ new
  exact I.un (h' := s.heap) (t' := s.toks) un hk
theorem phi_open {h : Heap} (P : Program) (w : World) (H : Hp) (x : ObjOk P w H h a (.ext (phiS a l))) : ∃ i j k : Int, okS j k ∧ ObjOk P w (upd H a (.lst (cellsV l i j k))) h a (.lst (cellsV l i j k)) := by
  obtain ⟨⟨i, j, k, t, u, v, n, e, hj⟩, _⟩ := x
  exact ⟨i, j, k, hj, (by show 4 ≤ sizeLine; decide), _, n, .cons rfl (.cons ⟨t, rfl⟩ (.cons ⟨u, rfl⟩ (.cons ⟨v, rfl⟩ .nil))), e⟩
theorem phi_close {h : Heap} {P : Program} {w : World} {H H' : Hp} {i j k : Int} (x : ObjOk P w H h a (.lst (cellsV l i j k))) (hj : okS j k) : ObjOk P w H' h a (.ext (phiS a l)) := by
  obtain ⟨_, its, n, r, e⟩ := x
  obtain ⟨t, u, v, rfl⟩ := Vals.cells r
  refine ⟨⟨i, j, k, t, u, v, n, e, hj⟩, ⟨_, e⟩, fun h1 h2 ⟨i, j, k, t, u, v, n, e, hj⟩ st => ⟨i, j, k, t, u, v, n, st _ e, hj⟩⟩
/-- within: the stream's four cells are told; behind: one thing again -/
def shutS (a l : Addr) (N : St → Hp → Prop) : St → Hp → Prop := fun σ H => ∃ i j k : Int, H a = some (.lst (cellsV l i j k)) ∧ okS j k ∧ N σ (upd H a (.ext (phiS a l)))
def shutV (a l : Addr) (N : VK) : VK := fun v H => ∃ i j k : Int, H a = some (.lst (cellsV l i j k)) ∧ okS j k ∧ N v (upd H a (.ext (phiS a l)))
def tOpen (a l : Addr) (t : TS) : TS := fun D σ H => H a = some (.ext (phiS a l)) ∧ ∀ i j k : Int, okS j k → t ⟨shutS a l D.nx, shutV a l D.rt, shutS a l D.bk, shutS a l D.ct⟩ σ (upd H a (.lst (cellsV l i j k)))
theorem Inv.shut {i j k : Int} (I : Inv X pins σ H s) (ha : H a = some (.lst (cellsV l i j k))) (hj : okS j k) : Inv X pins σ (upd H a (.ext (phiS a l))) s :=
  Inv.retell I ha trivial trivial (phi_close (I.hok a _ ha) hj)
theorem r_open {t : TS} {nx : St → Hp → Prop} {rt : VK} {bk ct : St → Hp → Prop} (h : H a = some (.ext (phiS a l))) (k : ∀ i j k : Int, okS j k → t ⟨shutS a l nx, shutV a l rt, shutS a l bk, shutS a l ct⟩ σ (upd H a (.lst (cellsV l i j k)))) : tOpen a l t ⟨nx, rt, bk, ct⟩ σ H := ⟨h, k⟩
theorem pss_open {body : List Stmt} {t : TS} (a l : Addr) (h : PSs X body t) : PSs X body (tOpen a l t) := by
  refine ⟨fun pins s σ H D I q => ?_⟩
  obtain ⟨ha, q⟩ := q
  obtain ⟨i, j, k, hj, ok⟩ := phi_open (a := a) (l := l) X.prog X.w H (I.hok a _ ha)
  refine thn (h.run pins s σ _ _ (Inv.retell (o' := .lst (cellsV l i j k)) I ha trivial trivial ok) (q i j k hj)) fun f s1 z => ?_
  cases f with
  | next =>
    obtain ⟨σ', H', I', i, j, k, e, hj, n⟩ := z
    exact ⟨σ', _, Inv.shut I' e hj, n⟩
  | brk =>
    obtain ⟨σ', H', I', i, j, k, e, hj, n⟩ := z
    exact ⟨σ', _, Inv.shut I' e hj, n⟩
  | cont =>
    obtain ⟨σ', H', I', i, j, k, e, hj, n⟩ := z
    exact ⟨σ', _, Inv.shut I' e hj, n⟩
  | ret u =>
    obtain ⟨v, σ', H', I', r, i, j, k, e, hj, n⟩ := z
    exact ⟨v, σ', _, Inv.shut I' e hj, r, n⟩
/-- a list of four is told as a stream where it is handed back -/
def tShut (t : TS) : TS := fun D σ H => t ⟨D.nx, fun v H' => ∃ (a l : Addr) (i j k : Int), v = .ref a ∧ H' a = some (.lst (cellsV l i j k)) ∧ okS j k ∧ D.rt v (upd H' a (.ext (phiS a l))), D.bk, D.ct⟩ σ H
theorem r_shut {t : TS} {nx : St → Hp → Prop} {rt : VK} {bk ct : St → Hp → Prop} (h : t ⟨nx, fun v H' => ∃ (a l : Addr) (i j k : Int), v = .ref a ∧ H' a = some (.lst (cellsV l i j k)) ∧ okS j k ∧ rt v (upd H' a (.ext (phiS a l))), bk, ct⟩ σ H) : tShut t ⟨nx, rt, bk, ct⟩ σ H := h
theorem pss_shut {body : List Stmt} {t : TS} (h : PSs X body t) : PSs X body (tShut t) := by
  refine ⟨fun pins s σ H D I q => ?_⟩
  refine thn (h.run pins s σ _ _ I q) fun f s1 z => ?_
  cases f with
  | ret u =>
    obtain ⟨v, σ', H', I', r, a, l, i, j, k, rfl, e, hj, n⟩ := z
    exact ⟨_, σ', _, Inv.shut I' e hj, r, n⟩
  | next => exact z
  | brk => exact z
  | cont => exact z
end
/-- what the stream leaves behind is the heap ahead -/
theorem upd_back {H : Hp} {a : Addr} {o o' : HO} (h : H a = some o') : upd (upd H a o) a o' = H := by
  funext b
  by_cases e : b = a
  · rw [e, upd_same, h]
  · rw [upd_ne e, upd_ne e]
theorem upd_back2 {H : Hp} {a : Addr} {o o1 o' : HO} (h : H a = some o') : upd (upd (upd H a o) a o1) a o' = H := by
  rw [upd_upd, upd_back h]
theorem upd_back3 {H : Hp} {a : Addr} {o o1 o2 o' : HO} (h : H a = some o') : upd (upd (upd (upd H a o) a o1) a o2) a o' = H := by
  rw [upd_upd, upd_upd, upd_back h]
/-! ### C(..) where what its __init__ raises is wished for at the slots -/
section
variable {X : Cx} {CX : CXT} {k : Nat} {f C : Addr} {fd : FuncData} {ps : List Str} {sp : Sp} {dvs : List V} {ds : List Value} {E : St → XK} {x : Str} {p pos : Pos} {e : Expr} {es : List Expr} {t : TA}
def tMakeS (C : Addr) (sp : Sp) (dvs : List V) (E : St → XK) (t : TA) : TE := fun σ H Q => t σ H fun vs H1 => ∀ x dx, H1 x = none → H1 dx = none → dx ≠ x →
  sp (.ref x :: (vs ++ dvs)) (upd (upd H1 dx (.own x)) x (.ins C dx [])) (fun v H2 => v = .non ∧ Q (.ref x) H2) (E σ)
theorem make_atS {pins : List (Addr × Obj)} {σ : St} {H : Hp} {s : Shared} {Q : VK} {us : List Value} {vs : List V} (mk : Mk X.K C f) (ok : FnOk X.prog X.w X.K X.mg X.base CX k f fd ps sp) (room : Room (k + 1) X.A) (bd : Binds X.K fd ps ds) (dv : Vals dvs ds)
    (pass : PassesAt CX X σ (E σ)) (I : Inv X pins σ H s) (rel : Vals vs us)
    (ask : ∀ x dx, H x = none → H dx = none → dx ≠ x → sp (.ref x :: (vs ++ dvs)) (upd (upd H dx (.own x)) x (.ins C dx [])) (fun v H2 => v = .non ∧ Q (.ref x) H2) (E σ)) :
    wpAny (model X.prog X.w) X.A (call (.ref C) us) (EP X pins σ Q) X.xe s := by
  let n := s.heap.objs.size
  have want := ask (n + 1) n (I.hok.fresh (Nat.le_succ _)) (I.hok.fresh (Nat.le_refl _)) (by show n ≠ n + 1; omega)
  have J := Inv.made (C := C) I
  have relS : Vals (V.ref (n + 1) :: (vs ++ dvs)) (Value.ref (n + 1) :: (us ++ ds)) := .cons rfl (rel.append dv)
  have many : (Value.ref (n + 1) :: us ++ ds).length = ps.length := relS.length.symm.trans (ok.len _ _ _ _ want)
  have go := ok.run _ X.stack _ _ ⟨Value.ref (n + 1) :: us, []⟩ (Value.ref (n + 1) :: (us ++ ds)) _ _ (E σ) (room.make C us []) (J.env0.make C us []) (bd _ (Value.ref (n + 1) :: us) J.kIn many) relS want
  refine wpAny_call (make_map (f := f) I.kIn mk.makes mk.init (beq_iff_eq.mp mk.fn) (codeAny_mono go fun out s' end_ => ?_))
  match out, end_ with
  | .error e, end_ => exact pass pins _ _ e s' J end_
  | .ok (.ret u), end_ =>
    obtain ⟨v, H', I3, rv, ev, q3⟩ := J.after end_
    cases ev
    exact ⟨rv, V.ref (n + 1), H', I3, rfl, q3⟩
  | .ok .next, end_ => exact end_.elim
  | .ok .brk, end_ => exact end_.elim
  | .ok .cont, end_ => exact end_.elim
theorem pe_makeS (mk : Mk X.K C f) (ok : FnOk X.prog X.w X.K X.mg X.base CX k f fd ps sp) (room : Room (k + 1) X.A) (gl : Gl X x) (gm : X.mg x = some (.ref C)) (bd : Binds X.K fd ps ds) (dv : Vals dvs ds) (pass : ∀ σ, PassesAt CX X σ (E σ))
    (args : PA X (e :: es) t) (d1 : (x == ("__debug__" : Str)) = false := by decide) (d2 : starEach (e :: es) X.env = (false, eval e X.env) :: starEach es X.env := by rfl) (d3 : (backTo pos (starEach es X.env)).any (·.1) = false := by rfl) :
    PE X (.Call (.Name x p) (e :: es) [] pos) (tMakeS C sp dvs E t) :=
  ⟨fun pins s σ H Q I h => wpAny_Call_Name_kw (ld_glob I gl gm (PySem.W.callWith_K (h₀ := X.base) I.ok.mod.kin mk.kp (thn (args.run pos pins s σ H _ I h) fun us s1 ⟨vs, H1, I1, r, q⟩ => ⟨I1.kIn, make_atS mk ok room bd dv (pass σ) I1 r q⟩) d2 d3) d1)⟩
theorem passX {E : XK} (tk : Takes X (fun cls d _ H => E cls d H)) : Passes (L2.CX X.prog X.w) X E := fun pins σ H s e s' I c => passes_call tk (fun _ _ _ _ z => z) pins σ H s e s' I c
end
section
variable {σ : St} {H : Hp} {Q : VK} {C : Addr} {sp : Sp} {dvs : List V} {t : TA}
theorem r_make {E : XK} (h : t σ H fun vs H1 => ∀ x dx, H1 x = none → H1 dx = none → dx ≠ x → sp (.ref x :: (vs ++ dvs)) (upd (upd H1 dx (.own x)) x (.ins C dx [])) (fun v H2 => v = .non ∧ Q (.ref x) H2) E) : tMake C sp dvs E t σ H Q := h
theorem r_makeS {E : St → XK} (h : t σ H fun vs H1 => ∀ x dx, H1 x = none → H1 dx = none → dx ≠ x → sp (.ref x :: (vs ++ dvs)) (upd (upd H1 dx (.own x)) x (.ins C dx [])) (fun v H2 => v = .non ∧ Q (.ref x) H2) (E σ)) : tMakeS C sp dvs E t σ H Q := h
end
/-! ### loops -/
def forR (J : It) (g : TG) (tb : TS) (D : Ends) (σ : St) (H : Hp) : Prop := ∃ W : Nat → Nat → St → Hp → Prop, (∃ m, W 0 m σ H) ∧ ∀ i m σ H, W i m σ H →
  (J.stop i H ∧ D.nx σ H) ∨ (J.go i H ∧ ∃ N : St → Hp → Prop, (∀ σ' H', N σ' H' → ∃ m', m' < m ∧ W (i + 1) m' σ' H') ∧ ∀ x H', J.yld i H x H' → g x σ H' fun σ2 H2 => tb { D with nx := N, ct := N, bk := D.nx } σ2 H2)
section
variable {σ : St} {H : Hp} {wi : TI} {g : TG} {tb : TS} {nx : St → Hp → Prop} {rt : VK} {bk ct : St → Hp → Prop} {ta : TA} {tl : TE} {K : PySem.W.Frag} {a : Addr} {xs : List V} {k : Nat} {c : TT}
theorem r_for (h : wi σ H fun J H1 => forR J g tb ⟨nx, rt, bk, ct⟩ σ H1) : tFor wi g tb ⟨nx, rt, bk, ct⟩ σ H := h
theorem r_iRng1 {R : It → Hp → Prop} (h : ta σ H fun vs H1 => ∃ j : Int, vs = [.int j] ∧ -(2 ^ 62) ≤ j ∧ j < 2 ^ 62 ∧ R (Itr 0 j.toNat) H1) : iRng1 ta σ H R := h
theorem r_iList {R : It → Hp → Prop} (h : tl σ H fun x H1 => ∃ a, x = .ref a ∧ (∃ xs, SqL K H1 a xs) ∧ R (Itl K a) H1) : iList K tl σ H R := h
theorem r_rng1 {i : Int} {P : It → Prop} (h1 : -(2 ^ 62) ≤ i) (h2 : i < 2 ^ 62) (h : P (Itr 0 i.toNat)) : ∃ j : Int, [V.int i] = [.int j] ∧ -(2 ^ 62) ≤ j ∧ j < 2 ^ 62 ∧ P (Itr 0 j.toNat) := ⟨i, rfl, h1, h2, h⟩
theorem r_lstI {P : It → Prop} (hs : SqL K H a xs) (h : P (Itl K a)) : ∃ b, V.ref a = .ref b ∧ (∃ xs, SqL K H b xs) ∧ P (Itl K b) := ⟨a, rfl, ⟨xs, hs⟩, h⟩
theorem for_rng {lo : Int} {n : Nat} (Pv : Nat → St → Hp → Prop) (h0 : Pv 0 σ H) (hs : ∀ i σ H, i < n → Pv i σ H → tb ⟨Pv (i + 1), rt, nx, Pv (i + 1)⟩ (σ.set k (some (.int (lo + (i : Int))))) H) (hd : ∀ σ H, Pv n σ H → nx σ H) :
    forR (Itr lo n) (gName k) tb ⟨nx, rt, bk, ct⟩ σ H := for_range (D := ⟨nx, rt, bk, ct⟩) Pv h0 hs hd
theorem for_lst (Pv : Nat → St → Hp → Prop) (h0 : Pv 0 σ H) (hl : ∀ i σ H, i ≤ xs.length → Pv i σ H → SqL K H a xs) (hs : ∀ i x σ H, xs[i]? = some x → Pv i σ H → tb ⟨Pv (i + 1), rt, nx, Pv (i + 1)⟩ (σ.set k (some x)) H) (hd : ∀ σ H, Pv xs.length σ H → nx σ H) :
    forR (Itl K a) (gName k) tb ⟨nx, rt, bk, ct⟩ σ H := for_list (D := ⟨nx, rt, bk, ct⟩) Pv h0 hl hs hd
/-- a while by a word with a measure; behind the test: ⟨_, fun _ _ n => n, ..⟩ -/
theorem r_while (W : Nat → St → Hp → Prop) (m0 : Nat) (h0 : W m0 σ H) (hs : ∀ m σ H, W m σ H → c σ H fun b H1 => if b = true then ∃ N : St → Hp → Prop, (∀ σ' H', N σ' H' → ∃ m', m' < m ∧ W m' σ' H') ∧ tb ⟨N, rt, nx, N⟩ σ H1 else nx σ H1) :
    tWhile c tb ⟨nx, rt, bk, ct⟩ σ H := ⟨W, ⟨m0, h0⟩, hs⟩
theorem r_cut {t u : TS} (Mid : St → Hp → Prop) (h1 : t ⟨Mid, rt, bk, ct⟩ σ H) (h2 : ∀ σ H, Mid σ H → u ⟨nx, rt, bk, ct⟩ σ H) : C8.tCut t u ⟨nx, rt, bk, ct⟩ σ H := ⟨Mid, h1, h2⟩
end
theorem same_new {H : Hp} {p : Addr} {o : HO} (h : H p = none) : Same H (upd H p o) := fun b u e => by rw [upd_ne (ne_of_none e h)]; exact e
theorem same_mk {H : Hp} {x dx : Addr} {o u : HO} (h1 : H x = none) (h2 : H dx = none) : Same H (upd (upd H dx o) x u) := fun b v e => by
  rw [upd_ne (ne_of_none e h1), upd_ne (ne_of_none e h2)]
  exact e
/-! ### facts of the top that the head tells as Bools -/
def excCB (K : PySem.W.Frag) (D : Addr) : Bool := [He.eqO (PySem.W.findIn K (.ref D) "__getattribute__") (some (some (.builtin "BaseException.__getattribute__"))), He.eqO (PySem.W.findIn K (.ref D) "__getattr__") (some none), decide (PySem.W.subIn K (.ref D) (.type "BaseException") = some true),
  PySem.W.hasDictIn K D, He.eqO (PySem.W.findIn K (.ref D) "__class__") (some (some (.builtin "object.__class__"))), He.eqO (PySem.W.specialIn K (.builtin "object.__class__") "__get__") (some (some (.builtin "getset_descriptor.__get__"))),
  decide (PySem.W.takesIn K (.builtin "object.__class__") = some true), decide (PySem.W.mroIn K D (.type "object") = some true)].all id
theorem all8 {b1 b2 b3 b4 b5 b6 b7 b8 : Bool} (h : [b1, b2, b3, b4, b5, b6, b7, b8].all id = true) : b1 = true ∧ b2 = true ∧ b3 = true ∧ b4 = true ∧ b5 = true ∧ b6 = true ∧ b7 = true ∧ b8 = true := by
  simpa using h
theorem excCB_ok {K : PySem.W.Frag} {D : Addr} (h : excCB K D = true) : ExcC K D := by
  obtain ⟨h1, h2, h3, h4, h5, h6, h7, h8⟩ := all8 h
  exact ⟨He.eqO_ok h1, He.eqO_ok h2, of_decide_eq_true h3, h4, He.eqO_ok h5, He.eqO_ok h6, of_decide_eq_true h7, of_decide_eq_true h8⟩
def isiCB (K : PySem.W.Frag) (D : Addr) : Bool := [He.eqO (PySem.W.findIn K (.ref D) "__class__") (some (some (.builtin "object.__class__"))), He.eqO (PySem.W.specialIn K (.builtin "object.__class__") "__get__") (some (some (.builtin "getset_descriptor.__get__"))),
  decide (PySem.W.takesIn K (.builtin "object.__class__") = some true), decide (PySem.W.mroIn K D (.type "object") = some true), true, true, true, true].all id
theorem isi_ins {K : PySem.W.Frag} {H : Hp} {a D dx : Addr} {fs : List (Str × V)} (h : isiCB K D = true) (c : Cls K D) (e : H a = some (.ins D dx fs)) : TyX K H (.ref a) (.ref D) := by
  obtain ⟨h1, h2, h3, h4, _⟩ := all8 h
  exact .base (.ins e c (He.eqO_ok h1) (He.eqO_ok h2) (of_decide_eq_true h3) (of_decide_eq_true h4))
theorem pss_given {X : Cx} {body : List Stmt} {t : TS} {P : Prop} (h : P → PSs X body t) : PSs X body (fun D σ H => P ∧ t D σ H) := ⟨fun pins s σ H D I q => (h q.1).run pins s σ H D I q.2⟩
theorem r_isi {K : PySem.W.Frag} {H : Hp} {Q : VK} {x c : V} {t u : Value} {b : Bool} (hx : TyX K H x t) (hc : ClsV c u) (e : PySem.W.kitOne K t u = some b) (h : Q (.bl b) H) : rIsi K [x, c] H Q := ⟨x, c, t, u, b, rfl, hc, hx, e, h⟩
/-! ### operators that a class of the program's own defines -/
section
variable {X : Cx} {CX : CXT} {n : Nat} {C g : Addr} {fd : FuncData} {ps : List Str} {sp : Sp} {E : XK}
def rBin (C : Addr) (sp : Sp) (E : XK) : R2 := fun x y H Q => ∃ a b dx dy fs gs, x = .ref a ∧ y = .ref b ∧ H a = some (.ins C dx fs) ∧ H b = some (.ins C dy gs) ∧ sp [.ref a, .ref b] H Q E
theorem back_of {R : Value → Shared → Prop} {z : V} {v : Value} {s' : Shared} (r : RelV z v) (h : R v s') : PySem.W.CmpBack R v s' := by
  cases z with
  | non => cases (show v = Value.none from r); exact h
  | bl b => cases (show v = Value.bool b from r); exact h
  | int i => obtain ⟨t, rfl⟩ := (show ∃ t, v = Value.int i t from r); exact h
  | str i => obtain ⟨t, rfl⟩ := (show ∃ t, v = Value.str i t from r); exact h
  | byt i => obtain ⟨t, rfl⟩ := (show ∃ t, v = Value.bytes i t from r); exact h
  | flt i => obtain ⟨t, rfl⟩ := (show ∃ t, v = Value.float i t from r); exact h
  | ref i => cases (show v = Value.ref i from r); exact h
  | ty i => cases (show v = Value.type i from r); exact h
theorem ins_inst {pins : List (Addr × Obj)} {σ : St} {H : Hp} {s : Shared} {a dx : Addr} {fs : List (Str × V)} (I : Inv X pins σ H s) (h : H a = some (.ins C dx fs)) : ∃ od, PySem.W.InstAt s.heap a (PySem.W.instObj C dx) C (some od) := by
  obtain ⟨mA, J, _⟩ := ins_get I.hok h
  obtain ⟨od, J, _⟩ := J.look
  exact ⟨od, J⟩
theorem op_bin {op : Operator} (first : PySem.W.selfFirst X.K C = true) (m : Meth X.K C (PySem.dunder op.info.2) g) (F : FnOk X.prog X.w X.K X.mg X.base CX n g fd ps sp) (bd : Binds X.K fd ps []) (room : Room n X.A) (pass : Passes CX X E) : OpR X (binaryOp op) (rBin C sp E) := by
  intro pins s σ H x y v u Q I rx ry h
  obtain ⟨a, b, dx, dy, fs, gs, rfl, rfl, ha, hb, q⟩ := h
  cases (show v = Value.ref a from rx)
  cases (show u = Value.ref b from ry)
  obtain ⟨od, J⟩ := ins_inst I ha
  obtain ⟨od', J'⟩ := ins_inst I hb
  obtain ⟨mF, hF⟩ := I.fr
  refine PySem.W.binop_K hF I.ok.mod.kin J J'.type first m.at_ m.fn ?_
  refine wpAny_mono (run_fn (vs := [.ref a, .ref b]) (us := [.ref a, .ref b]) F room bd .nil pass I (.cons rfl (.cons rfl .nil)) (by rw [List.append_nil]; exact q)) (fun w s' z => ?_) fun _ _ e => e
  obtain ⟨z', H', I', rz, qz⟩ := z
  exact back_of rz ⟨z', H', I', rz, qz⟩
def rUnO (C : Addr) (sp : Sp) (E : XK) : V → Hp → VK → Prop := fun x H Q => ∃ a dx fs, x = .ref a ∧ H a = some (.ins C dx fs) ∧ sp [.ref a] H Q E
theorem un_negO (m : Meth X.K C "__neg__" g) (F : FnOk X.prog X.w X.K X.mg X.base CX n g fd ps sp) (bd : Binds X.K fd ps []) (room : Room n X.A) (pass : Passes CX X E) : UnR X (unaryOp .USub) (rUnO C sp E) := by
  intro pins s σ H x v Q I rx h
  obtain ⟨a, dx, fs, rfl, ha, q⟩ := h
  cases (show v = Value.ref a from rx)
  obtain ⟨od, J⟩ := ins_inst I ha
  obtain ⟨mF, hF⟩ := I.fr
  exact PySem.W.ksp_neg hF I.ok.mod.kin J m.at_ m.fn (run_fn (vs := [.ref a]) (us := [.ref a]) F room bd .nil pass I (.cons rfl .nil) (by rw [List.append_nil]; exact q))
/-- == by an own __eq__, both answers -/
theorem op_eqO (m : Meth X.K C "__eq__" g) (F : FnOk X.prog X.w X.K X.mg X.base CX n g fd ps sp) (bd : Binds X.K fd ps []) (room : Room n X.A) (pass : Passes CX X E) : OpR X (compareOp .Eq) (rBin C sp E) := by
  intro pins s σ H x y v u Q I rx ry h
  obtain ⟨a, b, dx, dy, fs, gs, rfl, rfl, ha, hb, q⟩ := h
  cases (show v = Value.ref a from rx)
  cases (show u = Value.ref b from ry)
  obtain ⟨od, J⟩ := ins_inst I ha
  obtain ⟨od', J'⟩ := ins_inst I hb
  obtain ⟨mF, hF⟩ := I.fr
  show wpAny (model X.prog X.w) X.A (richCompare .Eq (.ref a) (.ref b)) (EP X pins σ Q) X.xe s
  refine PySem.W.cmp_K (op := .Eq) (tb := .ref C) room.units0 hF I.ok.mod.kin J J'.type (by simp [PySem.W.notFirst]) m.at_ m.fn ?_
  refine wpAny_mono (run_fn (vs := [.ref a, .ref b]) (us := [.ref a, .ref b]) F room bd .nil pass I (.cons rfl (.cons rfl .nil)) (by rw [List.append_nil]; exact q)) (fun w s' z => ?_) fun _ _ e => e
  obtain ⟨z', H', I', rz, qz⟩ := z
  exact back_of rz ⟨z', H', I', rz, qz⟩
end
/-! ### the rules with the written part by its letter -/
section
variable {X : Cx} {K : PySem.W.Frag} {e o : Expr} {f : Str} {pos pos' : Pos} {ta tv : TE} {value : Expr} {tg : Expr} {tl : TE}
theorem ix_listK (h : X.K = K) : IxR X (rIxL K) := by subst h; exact ix_list
theorem ix_tupK (h : X.K = K) : IxR X (rIxT K) := by subst h; exact ix_tup
theorem call_isiK' (h : X.K = K) : CallR X (.builtin "isinstance") (rIsi K) := by subst h; exact call_isi
theorem call_lenK (h : X.K = K) : CallR X (.builtin "len") (fun xs H Q => ∃ p ys, xs = [.ref p] ∧ (SqL K H p ys ∨ SqT K H p ys) ∧ Q (.int ys.length) H) := by subst h; exact call_len_seq
theorem call_listK (h : X.K = K) : CallR X (.type "list") (fun xs H Q => ∃ p ys, xs = [.ref p] ∧ (SqL K H p ys ∨ SqT K H p ys) ∧ ∀ l, H l = none → Q (.ref l) (upd H l (.lst ys))) := by subst h; exact call_list_of
theorem pe_fldK (h : X.K = K) (he : PE X e ta) (hb : attributeBase e f X.env (eval e X.env) = eval e X.env) : PE X (.Attribute e f pos) (tFld K ta f) := by subst h; exact pe_fld he hb
theorem ps_fldK (h : X.K = K) (ha : PE X o ta) (hv : PE X value tv) (hs : swapsWith value (some (.Attribute o f pos')) pos.line X.env = pure false) : PS X (.Assign [.Attribute o f pos'] value pos) (sFld K ta tv f) := by subst h; exact ps_fld ha hv hs
theorem pi_listK (h : X.K = K) (hl : PE X e tl) : PI X tg e (iList K tl) := by subst h; exact pi_list hl
theorem pi_tupK (h : X.K = K) (hl : PE X e tl) : PI X tg e (iTup K tl) := by subst h; exact pi_tup hl
theorem op_eqDK (h : X.K = K) (hu : X.A.units + 64 < cLine) : OpR X (compareOp .Eq) (rEqD K) := by subst h; exact op_eqD hu
theorem op_neDK (h : X.K = K) (hu : X.A.units + 64 < cLine) : OpR X (compareOp .NotEq) (rNeD K) := by subst h; exact op_neD hu
theorem op_inK (h : X.K = K) : OpR X (compareOp .In) (rIn K false) := by subst h; exact op_in_seq
theorem op_notInK (h : X.K = K) : OpR X (compareOp .NotIn) (rIn K true) := by subst h; exact op_notIn_seq
end
/-! ### a tuple of texts that the module holds -/
def strOf : Value → Option Str
  | .str x _ => some x
  | _ => none
def tupStrs (K : PySem.W.Frag) (a : Addr) (xs : List Str) : Bool := match K.lookup a with
  | some ⟨.type "tuple", _, .seq its _, _⟩ => decide (its.toList.map strOf = xs.map some)
  | _ => false
theorem vals_strs : ∀ (us : List Value) (xs : List Str), us.map strOf = xs.map some → Vals (xs.map V.str) us
  | [], [], _ => .nil
  | [], _ :: _, h => by cases h
  | _ :: _, [], h => by cases h
  | u :: us, x :: xs, h => by
    have h1 := (List.cons.inj h).1
    have h2 := (List.cons.inj h).2
    refine .cons ?_ (vals_strs us xs h2)
    cases u with
    | str y t => exact ⟨t, by rw [Option.some.inj h1]⟩
    | _ => cases h1
theorem tupStrs_ok {K : PySem.W.Frag} {H : Hp} {a : Addr} {xs : List Str} (h : tupStrs K a xs = true) (hl : xs.length ≤ 1000) : SqT K H a (xs.map V.str) := by
  unfold tupStrs at h
  split at h
  · rename_i od its n sl hk
    have e := of_decide_eq_true h
    have l := congrArg List.length e
    rw [List.length_map, List.length_map, Array.length_toList] at l
    exact .inr ⟨_, its, n, hk, rfl, rfl, by rw [l, sizeLine_eq]; omega, vals_strs _ _ e⟩
  · cases h
/-! ### != of a class with an own __eq__ and no __ne__ -/
section
open PySem.W in
theorem special_ne {M : Model} {A : Around} {E : Value → Shared → Prop} {s : Shared} {K : PySem.W.Frag} {a b C : Addr} {ox : Obj} {od : Option Obj} {Q : Option Value → Shared → Prop} (KX : K.In s.heap) (J : PySem.W.InstAt s.heap a ox C od)
    (ne : PySem.W.findIn K (.ref C) "__ne__" = some (some (.builtin "object.__ne__")))
    (h : wpAny M A (call (.builtin "object.__ne__") [.ref a, .ref b]) (fun v => Q (some v)) E s) : wpAny M A (callSpecialIfBound? (.ref a) "__ne__" [.ref b]) Q E s := by
  simp only [callSpecialIfBound?, bindSpecialIfBound?]
  refine wpAny_holding (wpAny_bind (wpAny_bind (wpAny_bind (J.type.here ((PySem.W.looks_findIn KX ne).here ?_)))))
  simp only [PySem.F.cmp_object.ne.bind]
  refine wpAny_bind (wpAny_askSetting (wpAny_ite ?_))
  have fin : wpAny M A (call (.builtin "object.__ne__") ([.ref a] ++ [.ref b]) >>= fun v => pure (some v)) Q E s := wpAny_bind (wpAny_mono h (fun v s' z => wpAny_pure z) fun _ _ z => z)
  split
  · exact wpAny_bind (wpAny_pure (wpAny_pure fin))
  · exact wpAny_tryCatch (wpAny_bind (wpAny_pure (wpAny_pure fin)))
variable {X : Cx} {CX : CXT} {n : Nat} {C g : Addr} {fd : FuncData} {ps : List Str} {sp : Sp} {E : XK}
/-- a callee of a builtin -/
theorem run_in1 {pins : List (Addr × Obj)} {σ : St} {H : Hp} {s : Shared} {Q : VK} {us : List Value} {vs : List V} (F : FnOk X.prog X.w X.K X.mg X.base CX n g fd ps sp) (room : Room (n + 1) X.A) (bd : Binds X.K fd ps []) (pass : Passes CX X E)
    (I : Inv X pins σ H s) (r : Vals vs us) (h : sp vs H Q E) : wpAny (model X.prog X.w) X.A.in1 (call (.ref g) us) (EP X pins σ Q) X.xe s := by
  have hl : (us ++ []).length = ps.length := by rw [List.append_nil, ← r.length]; exact F.len _ _ _ _ h
  have b := bd s us I.kIn hl
  rw [List.append_nil] at b
  refine wpAny_call (codeAny_mono (F.run X.A.in1 X.stack s H ⟨us, []⟩ us vs Q E room.in1 I.env0.in1 b r h) fun r s' z => ?_)
  match r, z with
  | .error e, z => exact pass pins σ H s e s' I z
  | .ok (.ret u), z => exact I.after z
  | .ok .next, z => exact z.elim
  | .ok .brk, z => exact z.elim
  | .ok .cont, z => exact z.elim
def rNeO (C : Addr) (sp : Sp) (E : XK) : R2 := fun x y H Q => ∃ a b dx dy fs gs, x = .ref a ∧ y = .ref b ∧ H a = some (.ins C dx fs) ∧ H b = some (.ins C dy gs) ∧ sp [.ref a, .ref b] H (fun v H' => ∃ t, v = .bl t ∧ Q (.bl (!t)) H') E
theorem op_neO (ne : PySem.W.findIn X.K (.ref C) "__ne__" = some (some (.builtin "object.__ne__"))) (ob : PySem.W.subIn X.K (.ref C) (.type "object") = some true) (m : Meth X.K C "__eq__" g) (F : FnOk X.prog X.w X.K X.mg X.base CX n g fd ps sp) (bd : Binds X.K fd ps [])
    (room : Room (n + 1) X.A) (pass : Passes CX X E) : OpR X (compareOp .NotEq) (rNeO C sp E) := by
  intro pins s σ H x y v u Q I rx ry h
  obtain ⟨a, b, dx, dy, fs, gs, rfl, rfl, ha, hb, q⟩ := h
  cases (show v = Value.ref a from rx)
  cases (show u = Value.ref b from ry)
  obtain ⟨od, J⟩ := ins_inst I ha
  obtain ⟨od', J'⟩ := ins_inst I hb
  have KX := I.kIn
  have run : wpAny (model X.prog X.w) X.A.in1 (call (.ref g) [.ref a, .ref b]) (fun r s' => ∃ t, r = .bool t ∧ EP X pins σ Q (.bool (!t)) s') X.xe s := by
    refine wpAny_mono (run_in1 (vs := [.ref a, .ref b]) F room bd pass I (.cons rfl (.cons rfl .nil)) q) (fun r s' z => ?_) fun _ _ e => e
    obtain ⟨z', H', I', rz, t, rfl, qz⟩ := z
    exact ⟨t, rz, .bl (!t), H', I', rfl, qz⟩
  have body : wpAny (model X.prog X.w) X.A (call (.builtin "object.__ne__") [.ref a, .ref b]) (fun r s' => ∃ t, r = .bool t ∧ EP X pins σ Q (.bool t) s') X.xe s := by
    refine wpAny_call (codeAny_call_builtin PySem.F.cmp_object.ne.plain PySem.F.cmpEntry_ne (PySem.W.check_slot (i := "object.__ne__") (owner := "object") (n := "__ne__") PySem.F.cmpKind_ne PySem.F.cmpSplit_ne (J.type.andThen (PySem.W.looks_subIn KX ob)) (PySem.F.cmpArgs_ne _ _) ?_))
    unfold Builtin.«object.__ne__»
    repeat (first
      | with_reducible refine wpAny_cRoomFor room.in1.units0 ?_
      | (refine wpAny_bind (m := callSpecialIfBound? (.ref a) (Str.ofString "__eq__") [.ref b])
          (PySem.W.ifBound_K KX J m.at_ m.fn (wpAny_mono run (fun r s' z => ?_) fun _ _ e => e))
         obtain ⟨t, rfl, z⟩ := z)
      | (refine wpAny_bind (m := truthy (.bool _)) (wpAny_truthy_bool ?_))
      | exact wpAny_pure ⟨_, rfl, z⟩
      | exact ⟨_, rfl, z⟩
      | wp_step)
  have one : wpAny (model X.prog X.w) X.A (tryCompare (.ref a) "__ne__" (.ref b)) (fun r s' => ∃ v, r = some v ∧ EP X pins σ Q v s') X.xe s := by
    unfold tryCompare
    refine wpAny_bind (special_ne KX J ne (wpAny_mono body (fun r s' z => ?_) fun _ _ e => e))
    obtain ⟨t, rfl, z⟩ := z
    exact wpAny_pure ⟨_, rfl, z⟩
  show wpAny (model X.prog X.w) X.A (richCompare .NotEq (.ref a) (.ref b)) (EP X pins σ Q) X.xe s
  unfold richCompare
  simp only [oneThing_ref]
  refine wpAny_holding (wpAny_bind (wpAny_cRoomFor room.units0 ?_))
  rw [cmpInfo_NotEq]
  dsimp only
  refine wpAny_bind (J.type.here (wpAny_bind (J'.type.here ?_)))
  rw [show (Value.ref C != Value.ref C) = false from by simp]
  simp only [Bool.false_eq_true, if_false]
  refine wpAny_bind (wpAny_pure ?_)
  simp only [Bool.false_eq_true, if_false]
  refine wpAny_bind (wpAny_mono one (fun r s' z => ?_) fun _ _ e => e)
  obtain ⟨v, rfl, hq⟩ := z
  exact wpAny_pure hq
end
/-! ### an own exception whose __init__ calls its base's with a text, and keeps one field -/
def lwB (K : PySem.W.Frag) (L : Addr) : Bool := He.eqO (PySem.W.specialIn K (.ref L) "__getattribute__") (some (some (.builtin "type.__getattribute__"))) && (PySem.W.readsIn K L (.type "type") &&
  (match PySem.W.findCls K (.ref L) (.type "type") "__init__" with | some (.val v) => decide (v = .builtin "ValueError.__init__") | _ => false))
theorem lwB_ok {K : PySem.W.Frag} {L : Addr} (h : lwB K L = true) : PySem.W.specialIn K (.ref L) "__getattribute__" = some (some (.builtin "type.__getattribute__")) ∧ PySem.W.readsIn K L (.type "type") = true ∧
    PySem.W.findCls K (.ref L) (.type "type") "__init__" = some (.val (.builtin "ValueError.__init__")) := by
  unfold lwB at h
  obtain ⟨h1, h⟩ := Bool.and_eq_true_iff.mp h
  obtain ⟨h2, h3⟩ := Bool.and_eq_true_iff.mp h
  refine ⟨He.eqO_ok h1, h2, ?_⟩
  split at h3
  · rename_i v e
    rw [e, of_decide_eq_true h3]
  · cases h3
def oexB (K : PySem.W.Frag) (C fI : Addr) : Bool := [(match K.lookup C with
    | some ⟨.type "type", _, .cls cd, sl⟩ => (match cd.mro, sl.toList with
      | .ref D :: bm, [_, _, _, _, some (.builtin n), _] => [decide (D = C), decide (n = "ValueError.__new__"), !cd.hasDel, cd.hasDict, PySem.HandSPX.refsVE bm].all id
      | _, _ => false)
    | _ => false),
  He.eqO (PySem.W.findIn K (.ref C) "__setattr__") (some (some (.builtin "object.__setattr__"))), decide (PySem.W.subIn K (.ref C) (.type "BaseException") = some true), decide (PySem.W.typeIn K (.ref C) = some (.type "type")), PySem.W.keepIn K (.ref C),
  He.eqO (PySem.W.findIn K (.ref C) "__init__") (some (some (.ref fI))), decide (PySem.W.typeIn K (.ref fI) = some (.type "function")), true].all id
theorem oexB_ok {K : PySem.W.Frag} {C fI : Addr} (h : oexB K C fI = true) : OexC K C ∧ PySem.W.findIn K (.ref C) "__init__" = some (some (.ref fI)) ∧ PySem.W.typeIn K (.ref fI) = some (.type "function") := by
  obtain ⟨h1, h2, h3, h4, h5, h6, h7, _⟩ := all8 h
  refine ⟨⟨?_, He.eqO_ok h2, of_decide_eq_true h3, of_decide_eq_true h4, h5⟩, He.eqO_ok h6, of_decide_eq_true h7⟩
  split at h1
  · rename_i dd cd sl ho
    split at h1
    · rename_i D bm k0 k1 k2 k3 n k5 hm hs
      simp only [List.all_cons, List.all_nil, id_eq, Bool.and_true, Bool.and_eq_true, decide_eq_true_eq, Bool.not_eq_true'] at h1
      obtain ⟨rfl, rfl, hdel, hdct, hv⟩ := h1
      obtain ⟨nm, bs, mro, ns, qn, hd, sn, sub, ab, col, del⟩ := cd
      dsimp only at hm hdel hdct
      subst hm hdel hdct
      have hsl : sl = #[k0, k1, k2, k3, some (.builtin "ValueError.__new__"), k5] := by
        obtain ⟨l⟩ := sl
        simp only at hs
        rw [hs]
      subst hsl
      exact ⟨nm, qn, ns, bs, bm, sn, sub, ab, col, dd, k0, k1, k2, k3, k5, ho, hv⟩
    · cases h1
  · cases h1
section
variable {X : Cx} {e : Expr} {es : List Expr} {ta : TA} {x : Str} {L : Addr} {p1 p2 pos : Pos}
theorem pe_lwinit {pl : Sem Bool} (hB : lwB X.K L = true) (hg : Gl X x) (hm : X.mg x = some (.ref L)) (ha : PA X (e :: es) ta) (hdb : (x == ("__debug__" : Str)) = false := by decide)
    (hc : eval (.Call (.Attribute (.Name x p1) "__init__" p2) (e :: es) [] pos) X.env = (do
      let ov ← eval (.Name x p1) X.env
      standAt p2.atName
      let (f, first) ← holding [ov] (getMethod ov "__init__" pl)
      callWith pos f first (backTo pos (starEach (e :: es) X.env)) (backToKw pos (keywordEach [] X.env))) := by rfl)
    (he : starEach (e :: es) X.env = (false, eval e X.env) :: starEach es X.env := by rfl) (hpl : (backTo pos (starEach es X.env)).any (·.1) = false := by rfl) :
    PE X (.Call (.Attribute (.Name x p1) "__init__" p2) (e :: es) [] pos) (tVeI X.K ta) := by
  refine ⟨fun pins s σ H Q I h => ?_⟩
  obtain ⟨b1, b2, b3⟩ := lwB_ok hB
  refine PySem.W.methodCall_KW (ld_glob I hg hm ?_ hdb) hc
  obtain ⟨m, fr⟩ := I.fr
  refine PySem.W.method_of_cls fr I.ok.mod.kin b1 (PySem.W.cls_value (I.ok.mod.kin.keeps fr.keep) b2 b3 (by decide +kernel) ?_)
  show wpAny _ _ (callWith pos (Value.builtin "ValueError.__init__") [] (backTo pos (starEach (e :: es) X.env)) []) _ _ _
  refine PyProof.Rows.callWith_method1 (thn (ha.run pos pins _ σ H _ (I.tok _) h) fun us s1 hu => ?_) he hpl
  obtain ⟨vs, H1, I1, r1, a, C, ws, ev, hl, T, ea, q⟩ := hu
  subst ev
  cases r1 with
  | @cons _ u0 _ ur ra rw' =>
    obtain rfl : u0 = Value.ref a := ra
    exact oinit_ok T I1 ea (by rw [← Paired.length rw', sizeLine_eq]; omega) fun s' J => ⟨.non, H1, J, rfl, q⟩
end
/-- C(i) leaves behind: the class, and its dict with the one field -/
theorem upd_raise {H : Hp} {a d dx : Addr} {o1 o2 o3 o4 : HO} (ha : H a = none) (hd : H d = none) (ne : dx ≠ a) (e : d = dx) : upd (del (upd (upd (upd H a o1) dx o2) a o3) a) d o4 = upd H d o4 := by
  subst e
  funext b
  by_cases h1 : b = d
  · rw [h1, upd_same, upd_same]
  · rw [upd_ne h1, upd_ne h1]
    by_cases h2 : b = a
    · rw [h2, del_same, ha]
    · rw [del_ne h2, upd_ne h2, upd_ne h1, upd_ne h2]
def spExc (K : PySem.W.Frag) (C : Addr) (f : Str) (ok : V → Prop) : Sp := fun vs H Q _ => ∃ (a : Addr) (v : V), vs = [.ref a, v] ∧ H a = some (exo a C none) ∧ ok v ∧ ∀ dx, H dx = none → dx ≠ a → Q .non (upd (upd H dx (exd dx [(f, v)])) a (exo a C (some dx)))
theorem exd_inj {d e : Addr} {fs gs : List (Str × V)} (h : exd d fs = exd d gs) : True := trivial
/-- raise C(v), C's __init__ keeping spExc -/
theorem r_raiseE {K : PySem.W.Frag} {C : Addr} {f : Str} {ok : V → Prop} {t : TA} {σ : St} {H : Hp} {Q : XK}
    (h : t σ H fun vs H1 => ∃ v, vs = [v] ∧ ok v ∧ ∀ d, H1 d = none → Q (.ref C) (some d) (upd H1 d (.xd [(f, v)]))) (mono : ∀ P P' : List V → Hp → Prop, (∀ vs H1, P vs H1 → P' vs H1) → t σ H P → t σ H P') : tMkO C (spExc K C f ok) [] t σ H Q := by
  refine mono _ _ (fun vs H1 q => ?_) h
  obtain ⟨v, rfl, hv, k⟩ := q
  refine ⟨by show 1 ≤ 1000; decide, fun a ha => ⟨a, v, rfl, upd_same, hv, fun dx hdx ne => ⟨rfl, dx, [(f, v)], upd_same, by rw [upd_ne ne, upd_same], ?_, ?_⟩⟩⟩
  · rw [upd_ne ne] at hdx
    exact hdx
  · have hd : H1 dx = none := by
      rw [upd_ne ne] at hdx
      exact hdx
    rw [upd_raise ha hd ne rfl]
    exact k dx hd
theorem op_mul_str {X : Cx} : OpR X (binaryOp .Mult) (fun x y H Q => ∃ z n, x = .str z ∧ y = .int n ∧ MulOk z n ∧ Q (.str (Txt.mul z n)) H) := by
  intro pins s σ H x y v u Q I rx ry h
  obtain ⟨z, n, rfl, rfl, hz, q⟩ := h
  obtain ⟨t, rfl⟩ := rx
  obtain ⟨t', rfl⟩ := ry
  exact PySem.SB.mul hz fun t' tk => ⟨.str (Txt.mul z n), H, I.tok _, ⟨_, rfl⟩, q⟩
section
variable {σ : St} {H : Hp} {g : TG} {tb : TS} {nx : St → Hp → Prop} {rt : VK} {bk ct : St → Hp → Prop} {tl : TE} {K : PySem.W.Frag} {a : Addr} {xs : List V} {k : Nat}
theorem r_iTup {R : It → Hp → Prop} (h : tl σ H fun x H1 => ∃ a, x = .ref a ∧ (∃ xs, SqT K H1 a xs) ∧ R (Itt K a) H1) : iTup K tl σ H R := h
theorem r_tupI {P : It → Prop} (hs : SqT K H a xs) (h : P (Itt K a)) : ∃ b, V.ref a = .ref b ∧ (∃ xs, SqT K H b xs) ∧ P (Itt K b) := ⟨a, rfl, ⟨xs, hs⟩, h⟩
theorem for_tpl (Pv : Nat → St → Hp → Prop) (h0 : Pv 0 σ H) (hl : ∀ i σ H, i ≤ xs.length → Pv i σ H → SqT K H a xs) (hs : ∀ i x σ H, xs[i]? = some x → Pv i σ H → tb ⟨Pv (i + 1), rt, nx, Pv (i + 1)⟩ (σ.set k (some x)) H) (hd : ∀ σ H, Pv xs.length σ H → nx σ H) :
    forR (Itt K a) (gName k) tb ⟨nx, rt, bk, ct⟩ σ H := for_tup (D := ⟨nx, rt, bk, ct⟩) Pv h0 hl hs hd
theorem r_tXf {x : V} {cls : Value} {d : Option Addr} {C : Addr} {f : Str} {te : TE} {Q : VK} (h : te σ H fun x H1 => x = .ref a ∧ cls = .ref C ∧ ∃ (dd : Addr) (fs : List (Str × V)) (v : V), d = some dd ∧ H1 dd = some (.xd fs) ∧ fs.lookup f = some v ∧ Q v H1) : tXf a cls d C f te σ H Q := h
end
/-! ### isinstance of a caught error that has a dict of its own -/
namespace Xd
open PySem.W PySem.Calls
section
variable {prog : Program} {w : World} {A : Around} {E : Value → Shared → Prop} {s : Shared} {K : Frag} {x D : Addr} {ox : Obj}
theorem find_cls {od : Option Obj} (C : ExcC K D) : findObj K D od "__class__" = some (.bind (.builtin "getset_descriptor.__get__") (.builtin "object.__class__")) := by
  obtain ⟨cd, hc, _⟩ := any_some C.hd
  unfold findObj
  rw [hc, Option.bind_some, C.ha, Option.bind_some]
  simp [C.hn, C.ht]
theorem cls_of {Q : Option Value → Shared → Prop} {od : Option Obj} (C : ExcC K D) (X : K.In s.heap) (I : PySem.W.InstAt s.heap x ox D od) (h : Q (some (.ref D)) { s with toks := s.toks + 1 }) : wpAny (model prog w) A (getAttr? (.ref x) "__class__") Q E s := by
  have hf := find_cls (od := od) C
  obtain ⟨hp, g, d, t, os⟩ := s
  have T0 := I.type (M := model prog w)
  have T1 := looks_findIn (M := model prog w) X C.hg
  have T2 := looks_findIn (M := model prog w) X C.hk
  have T3 := looks_find (M := model prog w) X I hf
  have sub : Looks (model prog w) hp (isInstance (.ref x) (.type "BaseException")) true := T0.andThen (looks_subIn X C.hs)
  have n2 : (Value.builtin "BaseException.__getattribute__" == Value.builtin "object.__getattribute__") = false := by decide +kernel
  unfold getAttr? getAttrBy? getAttrBy
  refine wpAny_bind (wpAny_mkText (wpAny_bind (wpAny_attempt (wpAny_holding (wpAny_bind (T0.at (wpAny_bind (T1.at ?_))))))))
  show wpAny _ _ (if (onTheHeap (Value.ref D) && Value.builtin "BaseException.__getattribute__" == Value.builtin "object.__getattribute__") = true then _ else _) _ _ _
  rw [n2, Bool.and_false, if_neg Bool.false_ne_true]
  (unfold getAttrByItsOwn hookBefore; refine wpAny_bind ?_; rw [if_pos (show onTheHeap (Value.ref D) = true from rfl)])
  refine T2.at (wpAny_bind (wpAny_attempt (wpAny_holding ?_)))
  (unfold callGetattribute; rw [show (false && onTheHeap (Value.builtin "BaseException.__getattribute__")) = false from rfl, if_neg Bool.false_ne_true])
  (unfold boundAndCalled; rw [PySem.F.excAttr_ValueError.ga.bind (.ref x)])
  refine wpAny_bind (wpAny_pure ?_)
  show wpAny _ _ (call (.builtin "BaseException.__getattribute__") [.ref x, .str "__class__" t]) _ _ _
  refine wpAny_call (codeAny_call_builtin PySem.F.excAttr_ValueError.ga.plain PySem.F.entry_bexc_ga (@check_slot (model prog w) _ _ ⟨hp, g, d, t + 1, os⟩ "BaseException.__getattribute__" "BaseException" "__getattribute__" (.ref x) [.str "__class__" t] [] _ (by decide +kernel) (by decide +kernel) sub (PySem.F.args_bexc_ga (.ref x) (.str "__class__" t)) ?_))
  (unfold Builtin.«object.__getattribute__»; refine wpAny_bind (wpAny_of_eq (a := ((Value.ref x : Value), [Value.str "__class__" t])) (by first | rfl | (simp only [slotArgs]; rfl)) ?_))
  refine wpAny_bind (wpAny_pure (wpAny_bind (T0.at (wpAny_bind (T3.at ?_)))))
  show wpAny _ _ (holding [Value.builtin "object.__class__"] (call (.builtin "getset_descriptor.__get__") [.builtin "object.__class__", .ref x, .ref D]) >>= ret) _ _ _
  refine wpAny_bind (wpAny_holding (wpAny_call (class_get (s := ⟨hp, g, d, t + 1, os⟩) (ox := ox) (od := od) X I C.hm (wpAny_pure ?_))))
  (show wpAny _ _ (handedOut (.ref D)) _ _ _; rw [handedOut_of (v := .ref D) rfl])
  first
    | exact wpAny_pure (wpAny_pure h)
    | exact wpAny_pure (wpAny_bind (wpAny_pure (wpAny_pure h)))
theorem not_cls {h : Heap} {o : Obj} {D' : Addr} (hd : hasDictIn K D = true) (X : K.In h) (e : h.get? D' = some o) (hs : ∀ cd, o.data ≠ .cls cd) : D ≠ D' := fun z => by
  obtain ⟨cdD, hcD, _⟩ := any_some hd
  unfold clsIn at hcD
  split at hcD
  · rename_i c' d' cd' sl' ho
    rw [← z, X _ _ ho] at e
    cases e
    exact hs cd' rfl
  · cases hcD
theorem kit (C : ExcC K D) : KitX K (.ref x) (.ref D) (fun h => ∃ od, PySem.W.InstAt h x ox D od) where
  ty := fun M h X I => by
    obtain ⟨od, I⟩ := I
    exact I.type
  it := fun M h X _ => (handS_kitx_exc (x := x) (ox := ox) C.hg C.hk C.hs C.hd C.ha C.hn C.ht C.hm).it M h X |> fun f => by
    obtain ⟨cdD, hcD, _⟩ := any_some C.hd
    unfold clsIn at hcD
    split at hcD
    · rename_i c' d' cd' sl' ho
      intro A' Q' E' s' k q
      (unfold isType loadHead; exact wpAny_bind (wpAny_loadPart (k _ _ (X _ _ ho)) (wpAny_pure q)))
    · cases hcD
  ne := fun h tp dd its n sl X htp => Bool.eq_false_iff.mpr fun q => not_cls C.hd X htp (fun cd z => by cases z) (Value.ref.inj (beq_iff_eq.mp q))
  ca := fun X I k => by
    obtain ⟨od, I⟩ := I
    exact cls_of C X I k
end
end Xd
def rIsD (K : PySem.W.Frag) (D a : Addr) (d : Option Addr) : List V → Hp → VK → Prop := fun xs H Q => ∃ (c : V) (cv : Value) (b : Bool) (dd : Addr) (fs : List (Str × V)), xs = [.ref a, c] ∧ (∀ u, RelV c u → u = cv) ∧ PySem.W.kitOne K (.ref D) cv = some b ∧ d = some dd ∧ H dd = some (.xd fs) ∧ Q (.bl b) H
theorem call_isD {X : Cx} {a D : Addr} {d : Option Addr} {oe : Obj} {pn : List (Addr × Obj)} {cls : Value} (ec : cls = .ref D) (C : ExcC X.K D) (hz : Zc cls d oe) (hf : ∃ vs, oe.data = .fields vs) : CallR (X.suite a ((a, oe) :: pn)) (.builtin "isinstance") (rIsD X.K D a d) := by
  intro pins s σ H xs us Q I r h
  subst ec
  obtain ⟨c, cv, b, dd, fs, rfl, hcv, e, rfl, hdd, q⟩ := h
  cases r with
  | cons rx rr =>
    cases rr with
    | cons rt rr =>
      cases rr
      cases rx
      obtain rfl := hcv _ rt
      obtain ⟨hget, _⟩ := I.pin (a, oe) (List.mem_append.mpr (.inl List.mem_cons_self))
      obtain ⟨vs, hv⟩ := hf
      obtain ⟨od, hod⟩ := objOk_get (I.hok dd _ hdd)
      have J : PySem.W.InstAt s.heap a oe D (some od) := by
        obtain ⟨oc, ob, oda, osl⟩ := oe
        obtain ⟨h1, h2⟩ := hz
        (dsimp only at h1 h2 hv; subst h1 h2 hv)
        exact ⟨hget, rfl, rfl, hod⟩
      exact PySem.W.kia_one (Xd.kit C) I.kIn ⟨_, J⟩ e (fun z => nomatch z) fun tk => ⟨.bl b, H, I.kept (t' := tk) fun _ _ z => z, rfl, q⟩
/-! ### what reads as data; sorted of such -/
mutual
inductive DatV (K : PySem.W.Frag) (H : Hp) : V → PyData → Prop
  | non : DatV K H .non .none
  | bl (b : Bool) : DatV K H (.bl b) (.bool b)
  | int (i : Int) : DatV K H (.int i) (.int i)
  | str (x : Str) : DatV K H (.str x) (.str x)
  | tup {a : Addr} {xs : List V} {ds : List PyData} : SqT K H a xs → DatsV K H xs ds → DatV K H (.ref a) (.tuple ds)
inductive DatsV (K : PySem.W.Frag) (H : Hp) : List V → List PyData → Prop
  | nil : DatsV K H [] []
  | cons {x : V} {d : PyData} {xs : List V} {ds : List PyData} : DatV K H x d → DatsV K H xs ds → DatsV K H (x :: xs) (d :: ds)
end
section
variable {X : Cx} {pins : List (Addr × Obj)} {σ : St} {H : Hp} {s : Shared}
mutual
theorem DatV.reads (I : Inv X pins σ H s) : ∀ (x : V) (d : PyData) (u : Value), DatV X.K H x d → RelV x u → ∃ as, Reads s.heap u d as
  | _, _, u, h, r => by
    cases h with
    | non => cases r; exact ⟨_, .none⟩
    | bl b => cases r; exact ⟨_, .bool b⟩
    | int i => obtain ⟨t, rfl⟩ := r; exact ⟨_, .int i t⟩
    | str z => obtain ⟨t, rfl⟩ := r; exact ⟨_, .str z t⟩
    | tup hs hd =>
      cases r
      obtain ⟨its, rv, l1, _⟩ := I.tuple hs
      obtain ⟨o, h1, h2, n, h3⟩ := l1
      obtain ⟨as, ra⟩ := DatsV.reads I _ _ _ hd rv
      exact ⟨_, .tuple h1 h2 h3 (by simpa using ra)⟩
theorem DatsV.reads (I : Inv X pins σ H s) : ∀ (xs : List V) (ds : List PyData) (us : List Value), DatsV X.K H xs ds → Vals xs us → ∃ as, ReadsAll s.heap us ds as
  | _, _, us, h, r => by
    cases h with
    | nil => cases r; exact ⟨_, .nil⟩
    | cons h1 h2 =>
      cases r with
      | cons r1 r2 =>
        obtain ⟨as, q1⟩ := DatV.reads I _ _ _ h1 r1
        obtain ⟨bs, q2⟩ := DatsV.reads I _ _ _ h2 r2
        exact ⟨_, .cons q1 q2⟩
end
end
abbrev VD : Type := V × PyData
def sortD (bs : List VD) : List VD := bs.mergeSort (PySem.W.dataLe false (fun b : VD => b.2))
theorem sortD_perm (bs : List VD) : (sortD bs).Perm bs := List.mergeSort_perm _ _
def rSortedD (K : PySem.W.Frag) : List V → Hp → VK → Prop := fun vs H Q => ∃ (a : Addr) (bs : List VD), vs = [.ref a] ∧ SqL K H a (bs.map (·.1)) ∧ (∀ b ∈ bs, DatV K H b.1 b.2 ∧ b.2.depth ≤ 8) ∧ PySem.W.AllAlike (bs.map (·.2)) ∧ PySem.W.Sortable (bs.map (·.2)) ∧
  ∀ p, H p = none → Q (.ref p) (upd H p (.lst ((sortD bs).map (·.1))))
theorem each_vals : ∀ {bs : List VD} {us : List Value}, Vals (bs.map (·.1)) us → PySem.W.EachIs (fun u (b : VD) => RelV b.1 u) us bs
  | [], _, h => by cases h; exact .nil
  | _ :: _, _, h => by
    cases h with
    | cons r rs => exact .cons r (each_vals rs)
theorem vals_each : ∀ {bs : List VD} {us : List Value}, PySem.W.EachIs (fun u (b : VD) => RelV b.1 u) us bs → Vals (bs.map (·.1)) us
  | [], _, h => by cases h; exact .nil
  | _ :: _, _, h => by
    cases h with
    | cons r rs => exact .cons r (vals_each rs)
theorem each_and {R S : Value → VD → Prop} : ∀ {bs : List VD} {us : List Value}, PySem.W.EachIs R us bs → (∀ b ∈ bs, ∀ u, R u b → S u b) → PySem.W.EachIs S us bs
  | [], _, h, _ => by cases h; exact .nil
  | b :: _, _, h, f => by
    cases h with
    | cons r rs => exact .cons (f b List.mem_cons_self _ r) (each_and rs fun b hb => f b (List.mem_cons_of_mem _ hb))
theorem cr_sortedD {X : Cx} (hu : X.A.units + 64 < cLine) : CallR X (.builtin "sorted") (rSortedD X.K) := by
  intro pins s σ H vs us Q I r h
  obtain ⟨a, bs, rfl, hs, hd, hal, hk, q⟩ := h
  obtain ⟨its, rv, hl, hz⟩ := I.list hs
  rw [Vals.ref1 r]
  have e := each_vals rv
  have hL : bs.length ≤ sizeLine := by rw [List.length_map] at hz; exact hz
  refine PySem.W.sorted_data (enc := fun b : VD => b.2) hl.isList e (each_and e fun b hb u ru => DatV.reads I _ _ _ (hd b hb).1 ru) hal hk hL (fun b hb => by have := (hd b hb).2; omega) fun out hlen ho => ?_
  obtain ⟨ep, he'⟩ := PyProof.Rows.sortedAll_at s.heap its out.toArray
  have lo : ((sortD bs).map (·.1)).length ≤ sizeLine := by
    rw [List.length_map, (sortD_perm bs).length_eq]
    exact hL
  exact ⟨.ref _, upd H (s.heap.objs.size + 1) (.lst ((sortD bs).map (·.1))), I.laid (t' := s.toks) (fun _ _ => PyProof.Rows.sortedAll_old) (Nat.le_succ _) ⟨lo, out, ep, vals_each ho, he'⟩, rfl, q _ (I.hok.fresh (Nat.le_succ _))⟩
/-! ### != of equal lists and tuples, == and != of equal dicts, where own ==s are asked on the way -/
namespace NeG
open PySem.SeqAt AutoSeq1 MeetsSeq MeetsSeq2 MeetsSeq3 SeqRoads2 GQ
section
variable {prog : Program} {w : World} {A : Around} {R : Result → Shared → Prop}
theorem nloop (p q : Addr) (N : Nat) (J : Nat → Shared → Prop) (each : ListI prog w A (fun e s' => R (.error e) s') p q N J) (done : ∀ s, J N s → R (.ok (.ret (.bool false))) s) (m : Nat) :
    ∀ j : Nat, N - j = m → j ≤ N → ∀ s, J j s → wpAny (model prog w) A.in1 (Builtin.«list.__eq__.loop» ⟨[.ref p, .ref q, rawInt j, rawInt 3], []⟩) (FinOf prog w A R) (fun e s' => R (.error e) s') s := by
  induction m with
  | zero =>
    intro j hm hj s h
    obtain ⟨xs, ys, n1, n2, gp, gq, zx, zy, _⟩ := each _ _ h
    obtain rfl : j = N := by omega
    have fin := done s h
    obtain ⟨hp, g, d, tk, os⟩ := s
    (wp_walk using wpAny_loadPart' gp, wpAny_loadPart' gq)
    rw [show xs[((j : Nat) : Int).toNat]? = none from by simp; omega, show ys[((j : Nat) : Int).toNat]? = none from by simp; omega]
    (wp_walk using wpAny_loadPart' gp, wpAny_loadPart' gq)
    show R (.ok (.ret (.bool (xs.size != ys.size)))) _
    rw [zx, zy]
    simpa using fin
  | succ m ih =>
    intro j hm hj s h
    obtain ⟨xs, ys, n1, n2, gp, gq, zx, zy, t⟩ := each _ _ h
    have l1 : j < xs.size := by omega
    have l2 : j < ys.size := by omega
    have t := t l1 l2
    obtain ⟨hp, g, d, tk, os⟩ := s
    (wp_walk using wpAny_loadPart' gp, wpAny_loadPart' gq)
    have up : ((j : Int) + 1) = ((j + 1 : Nat) : Int) := by omega
    rw [show xs[((j : Nat) : Int).toNat]? = some xs[j] from by simp [l1], show ys[((j : Nat) : Int).toNat]? = some ys[j] from by simp [l2]]
    refine wpAny_bind (wpAny_mono t (fun r s2 k2 => ?_) fun _ _ z => z)
    obtain ⟨rfl, k2⟩ := k2
    have more := ih (j + 1) (by omega) (by omega) s2 k2
    obtain ⟨hp2, g2, d2, tk2, os2⟩ := s2
    wp_walk
    rw [up]
    exact ⟨plainId_quiet plain_eq_loop _, codeAny_builtin entry_eq_loop (by rw [Around.under_plainId plain_eq_loop _]; exact more)⟩
theorem nlist (p q : Addr) (N : Nat) (J : Nat → Shared → Prop) (each : ListI prog w A (fun e s' => R (.error e) s') p q N J) (done : ∀ s, J N s → R (.ok (.ret (.bool false))) s) {s : Shared} (h : J 0 s) :
    wpAny (model prog w) A.in1 (Builtin.«list.__ne__» ⟨[.ref p, .ref q], []⟩) (FinOf prog w A R) (fun e s' => R (.error e) s') s := by
  obtain ⟨xs, ys, n1, n2, gp, gq, zx, zy, _⟩ := each _ _ h
  have more := nloop (A := A) (R := R) p q N J each done _ 0 rfl (Nat.zero_le _) s h
  obtain ⟨hp, g, d, tk, os⟩ := s
  have sub := AutoSeq1.sub_list_list
  have same : ¬ (xs.size != ys.size) = true := by simp [zx, zy]
  (wp_walk using wpAny_loadPart' gp, wpAny_loadPart' gq)
  exact ⟨plainId_quiet plain_eq_loop _, codeAny_builtin entry_eq_loop (by rw [Around.under_plainId plain_eq_loop _]; exact more)⟩
theorem ntup (p q : Addr) (xs ys : Array Value) (n1 n2 : Nat) (d1 d2 : Option Addr) (sl1 sl2 : Array (Option Value)) (hz : xs.size = ys.size) (J : Nat → Shared → Prop)
    (each : ∀ j (h1 : j < xs.size) (h2 : j < ys.size) s, J j s → wpAny (model prog w) A.in1 (eqBool xs[j] ys[j]) (fun r s' => r = true ∧ J (j + 1) s') (fun e s' => R (.error e) s') s)
    (done : ∀ s, J xs.size s → R (.ok (.ret (.bool false))) s) {s : Shared} (gp : s.heap.get? p = some { cls := .type "tuple", dict := d1, data := .seq xs n1, slots := sl1 }) (gq : s.heap.get? q = some { cls := .type "tuple", dict := d2, data := .seq ys n2, slots := sl2 }) (h : J 0 s) :
    wpAny (model prog w) A.in1 (Builtin.«tuple.__ne__» ⟨[.ref p, .ref q], []⟩) (FinOf prog w A R) (fun e s' => R (.error e) s') s := by
  have sub := AutoSeq1.sub_tuple_tuple
  have zl : (xs.toList.zip ys.toList).length = xs.size := by simp [hz]
  have start := h
  obtain ⟨hp, g, d, tk, os⟩ := s
  (wp_walk using wpAny_loadPart' gp, wpAny_loadPart' gq, wpAny_forIn_list _ (fun rest b s' => b.1 = none ∧ ∃ j, rest = (xs.toList.zip ys.toList).drop j ∧ j ≤ xs.size ∧ J j s') _)
  case turn =>
    rintro ⟨y, x⟩ rest b s' ⟨hb, j, ez, hj, k⟩
    have lj : j < (xs.toList.zip ys.toList).length := Nat.lt_of_not_le fun z => by rw [List.drop_of_length_le z] at ez; cases ez
    have l1 : j < xs.size := zl ▸ lj
    have l2 : j < ys.size := hz ▸ l1
    rw [List.drop_eq_getElem_cons lj] at ez
    injection ez with e1 e2
    obtain rfl : y = xs[j] := by simpa using congrArg Prod.fst e1
    obtain rfl : x = ys[j] := by simpa using congrArg Prod.snd e1
    refine wpAny_bind (wpAny_mono (each j l1 l2 s' k) (fun r s2 k2 => ?_) fun _ _ z => z)
    obtain ⟨rfl, k2⟩ := k2
    wp_walk
    exact ⟨rfl, j + 1, e2, l1, k2⟩
  case fin =>
    rintro ⟨b1, b2⟩ s' ⟨hb, j, ez, hj, k⟩
    (simp only at hb; subst hb)
    have ge : xs.size ≤ j := Nat.le_of_not_lt fun z => by rw [List.drop_eq_getElem_cons (zl.symm ▸ z)] at ez; cases ez
    have fin := done s' ((show j = xs.size from by omega) ▸ k)
    wp_walk
    simpa [Builtin.Tuple.tupleCompareSizes, hz] using fin
  case h => exact ⟨rfl, 0, rfl, Nat.zero_le _, start⟩
end
section
variable {prog : Program} {w : World} {A : Around} {E : Value → Shared → Prop} {s : Shared}
theorem rc_nlist {p q : Addr} {N : Nat} {Q : Value → Shared → Prop} (hu : A.units < cLine) (J : Nat → Shared → Prop) (each : ListI prog w A E p q N J) (done : ∀ s, J N s → Q (.bool false) s) (h : J 0 s) :
    wpAny (model prog w) A (richCompare .NotEq (.ref p) (.ref q)) Q E s := by
  obtain ⟨xs, ys, n1, n2, gp, gq, _, _, _⟩ := each _ _ h
  refine wpAny_richCompare_same_room (op := .NotEq) ⟨_, gp, rfl⟩ ⟨_, gq, rfl⟩ PySem.F.slot_list_ne (call_here PySem.F.slot_list_ne ⟨_, gp, rfl⟩ PySem.F.entry_list_ne (PySem.F.args_list_ne_2 _ _) ?_) hu
  exact nlist (R := wants (fun v s' => v ≠ .notImplemented ∧ Q v s') E) p q N J each (fun s' z => ⟨(fun x => nomatch x), done s' z⟩) h
theorem rc_ntup {p q : Addr} {xs ys : Array Value} {Q : Value → Shared → Prop} (hz : xs.size = ys.size) (hu : A.units < cLine) (J : Nat → Shared → Prop) (gp : s.heap.IsTuple p xs) (gq : s.heap.IsTuple q ys)
    (each : ∀ j (h1 : j < xs.size) (h2 : j < ys.size) s, J j s → wpAny (model prog w) A.in1 (eqBool xs[j] ys[j]) (fun r s' => r = true ∧ J (j + 1) s') E s) (done : ∀ s, J xs.size s → Q (.bool false) s) (h : J 0 s) :
    wpAny (model prog w) A (richCompare .NotEq (.ref p) (.ref q)) Q E s := by
  obtain ⟨⟨c1, d1, t1, sl1⟩, ho, hc, n1, hd⟩ := id gp
  obtain ⟨⟨c2, d2, t2, sl2⟩, ho2, hc2, n2, hd2⟩ := id gq
  (simp only at hc hd hc2 hd2; subst hc hd hc2 hd2)
  refine wpAny_richCompare_same_room (op := .NotEq) ⟨_, ho, rfl⟩ ⟨_, ho2, rfl⟩ PySem.F.slot_tuple_ne (call_here PySem.F.slot_tuple_ne ⟨_, ho, rfl⟩ PySem.F.entry_tuple_ne (PySem.F.args_tuple_ne_2 _ _) ?_) hu
  exact ntup (R := wants (fun v s' => v ≠ .notImplemented ∧ Q v s') E) p q xs ys n1 n2 d1 d2 sl1 sl2 hz J each (fun s' z => ⟨(fun x => nomatch x), done s' z⟩) ho ho2 h
end
end NeG
/-- != gives False for what D says, and only makes objects -/
def RnG (X : Cx) (n : Nat) (D : Eqv) : Prop :=
  ∀ (A : Around) (pins : List (Addr × Obj)) (s : Shared) (σ : St) (H : Hp) (x y : V) (u v : Value), Sub X n A → Inv X pins σ H s → RelV x u → RelV y v → D x y H →
    wpAny (model X.prog X.w) A (richCompare .NotEq u v) (fun r s' => r = .bool false ∧ ∃ H', Inv X pins σ H' s' ∧ Ext H H') X.xe s
section
variable {X : Cx} {n : Nat} {D : Eqv}
theorem rnG_list (hD : Mon D) (h : EqG X n D) : RnG X (n + 1) (DList D) := by
  intro A pins s σ H x y u v sb I rx ry d
  obtain ⟨a, b, xs, ys, rfl, rfl, ha, hb, p⟩ := d
  (cases rx; cases ry)
  refine NeG.rc_nlist (N := xs.length) sb.room.units0 (fun _ s' => LoopI X pins σ H s') (fun i s' q => ?_) (fun s' q => ⟨rfl, q⟩) ⟨H, I, Ext.rfl'⟩
  obtain ⟨H1, I1, e1⟩ := id q
  obtain ⟨_, us, k, r, e⟩ := I1.hok a _ (e1 _ _ ha)
  obtain ⟨_, vs, k2, r2, e2⟩ := I1.hok b _ (e1 _ _ hb)
  exact ⟨us.toArray, vs.toArray, k, k2, e, e2, by rw [List.size_toArray, ← r.length], by rw [List.size_toArray, ← r2.length, ← p.1], fun h1 h2 => turnG hD h sb p r r2 i h1 h2 s' q⟩
theorem rnG_tup (hD : Mon D) (h : EqG X n D) : RnG X (n + 1) (DTup X.K D) := by
  intro A pins s σ H x y u v sb I rx ry d
  obtain ⟨a, b, xs, ys, rfl, rfl, ha, hb, p⟩ := d
  (cases rx; cases ry)
  obtain ⟨us, r, e, _⟩ := I.tuple ha
  obtain ⟨vs, r2, e2, _⟩ := I.tuple hb
  have hz : us.toArray.size = vs.toArray.size := by rw [List.size_toArray, List.size_toArray, ← r.length, ← r2.length]; exact p.1
  exact NeG.rc_ntup hz sb.room.units0 (fun _ s' => LoopI X pins σ H s') e e2 (fun i h1 h2 s' q => turnG hD h sb p r r2 i h1 h2 s' q) (fun s' q => ⟨rfl, q⟩) ⟨H, I, Ext.rfl'⟩
def rNeG (D : Eqv) : R2 := fun x y H Q => D x y H ∧ ∀ H', Ext H H' → Q (.bl false) H'
theorem op_neG (h : RnG X n D) (hr : Room n X.A) : OpR X (compareOp .NotEq) (rNeG D) := by
  intro pins s σ H x y v u Q I rx ry hq
  obtain ⟨d, q⟩ := hq
  show wpAny (model X.prog X.w) X.A (richCompare .NotEq v u) (EP X pins σ Q) X.xe s
  refine wpAny_mono (h X.A pins s σ H x y v u ⟨hr, rfl⟩ I rx ry d) (fun r s' z => ?_) fun _ _ z => z
  obtain ⟨rfl, H', I', e⟩ := z
  exact ⟨.bl false, H', I', rfl, q H' e⟩
end
/-! ### == and != of two dicts of the same keys, whose values are equal one by one, own ==s asked on the way -/
namespace DeG
open PySem.W PySem.Calls
section
variable {prog : Program} {w : World} {K : Type} [DecidableEq K] {knd : KeyKind prog w K} {A : Around} {E : Value → Shared → Prop} {s : Shared}
theorem pairs {nm : String} {a b : Addr} {oa ob : Obj} {es et : Array DictEntry} {p1 p2 : Nat} {ka kb : List (K × Value)} {Q : Bool → Shared → Prop} (na : (a == sysModules) = false) (nb : (b == sysModules) = false)
    (da : oa.data = .dict es p1) (db : ob.data = .dict et p2) (ua : KeysOf knd es) (ub : KeysOf knd et) (va : Pairs knd es.toList ka) (vb : Pairs knd et.toList kb) (hl : ka.length = kb.length) (J : Nat → Shared → Prop)
    (at_ : ∀ i s, J i s → s.heap.get? a = some oa ∧ s.heap.get? b = some ob)
    (each : ∀ i k v s, ka[i]? = some (k, v) → J i s → ∃ y, valueAt kb k = some y ∧ wpAny (model prog w) A (eqBool v y) (fun r s' => r = true ∧ J (i + 1) s') E s)
    (start : J 0 s) (done : ∀ s, J ka.length s → Q true s) : wpAny (model prog w) A (Builtin.Dict.samePairs nm a b) Q E s := by
  have za : ka.length = es.size := (va.length.symm.trans Array.length_toList)
  have zb : kb.length = et.size := (vb.length.symm.trans Array.length_toList)
  have look : ∀ k, findBy knd.is et k = valueAt kb k := fun k => by
    rw [← vb.find k]
    (clear zb vb ub db; obtain ⟨l⟩ := et; simp [findBy])
  have sz : es.size = et.size := by omega
  obtain ⟨g1, g2⟩ := at_ _ _ start
  unfold Builtin.Dict.samePairs Builtin.Dict.showsAll
  rw [if_neg (by rw [na]; exact Bool.false_ne_true), if_neg (by rw [nb]; exact Bool.false_ne_true)]
  refine wpAny_bind (wpAny_pure (wpAny_bind (wpAny_pure (wpAny_bind (wpAny_dictEntries g1 da ?_)))))
  dsimp only
  refine wpAny_bind (wpAny_dictEntries g2 db ?_)
  rw [if_neg (by rw [sz]; simp)]
  refine wpAny_bind (wpAny_dictEpoch g1 da (wpAny_bind ?_))
  rw [Std.Legacy.Range.forIn_eq_forIn_range']
  simp only [Std.Legacy.Range.size, Nat.sub_zero, Nat.add_sub_cancel, Nat.div_one]
  refine wpAny_forIn_list _ (fun rest q s' => q = (none, ()) ∧ ∃ i, rest = List.range' i (es.size - i) ∧ i ≤ es.size ∧ J i s') _ ?_ ?_ _ _ ⟨rfl, 0, by simp, Nat.zero_le _, start⟩
  · rintro x rest q s' ⟨rfl, i, hr, hi, hj⟩
    have lt : i < es.size := Nat.lt_of_not_le fun z => by rw [Nat.sub_eq_zero_of_le z] at hr; simp at hr
    obtain ⟨rfl, hrest⟩ : x = i ∧ rest = List.range' (i + 1) (es.size - (i + 1)) := by
      rw [show es.size - i = (es.size - (i + 1)) + 1 by omega, List.range'_succ] at hr
      exact ⟨(List.cons.inj hr).1, (List.cons.inj hr).2⟩
    obtain ⟨g1, g2⟩ := at_ _ _ hj
    refine wpAny_bind (wpAny_dictEntries g1 da ?_)
    rw [Array.getElem?_eq_getElem lt]
    have lt' : x < ka.length := by rw [za]; exact lt
    obtain ⟨k, v, kv⟩ : ∃ k v, ka[x] = (k, v) := ⟨_, _, rfl⟩
    have kv' : ka[x]? = some (k, v) := by rw [List.getElem?_eq_getElem lt', kv]
    obtain ⟨isk, isv⟩ := va.get? (i := x) (e := es[x]) (k := k) (v := v) (by rw [Array.getElem?_toList]; exact Array.getElem?_eq_getElem lt) kv'
    obtain ⟨k', isk', hh⟩ := ua es[x] (Array.getElem_mem lt)
    rw [knd.inj _ _ _ isk' isk] at hh
    obtain ⟨y, hy, run⟩ := each x k v s' kv' hj
    show wpAny _ _ (holding [es[x].key, es[x].val] _ >>= _) _ _ _
    rw [hh]
    refine wpAny_bind (wpAny_holding (wpAny_bind (wpAny_dictFind_of isk g2 db ub ?_)))
    cases fj : et.findIdx? fun e => knd.is k e.key with
    | none =>
      rw [← look k, findBy_of_findIdx?, fj] at hy
      exact nomatch hy
    | some j =>
      obtain ⟨lj, _, _⟩ := Array.findIdx?_eq_some_iff_getElem.mp fj
      have ev : et[j].val = y := by
        rw [← look k, findBy_of_findIdx?, fj] at hy
        simpa [Array.getElem?_eq_getElem lj] using hy
      refine wpAny_bind (wpAny_dictEntries g2 db ?_)
      rw [Array.getElem?_eq_getElem lj]
      rw [← ev, ← isv] at run
      refine wpAny_holding (wpAny_mono run (fun r s2 z => ?_) fun _ _ z => z)
      obtain ⟨rfl, hj2⟩ := z
      obtain ⟨g1, g2⟩ := at_ _ _ hj2
      show wpAny _ _ (if (!true) = true then _ else _) _ _ _
      rw [if_neg (by decide)]
      refine wpAny_bind (wpAny_dictEpoch g1 da ?_)
      rw [if_neg (by simp)]
      exact wpAny_pure ⟨rfl, x + 1, hrest, lt, hj2⟩
  · rintro q s' ⟨rfl, i, hr, hi, hj⟩
    have e : i = es.size := Nat.le_antisymm hi (Nat.le_of_not_lt fun z => by
      rw [show es.size - i = (es.size - (i + 1)) + 1 by omega, List.range'_succ] at hr
      exact nomatch hr)
    exact wpAny_pure (done s' (by rw [za, ← e]; exact hj))
theorem eqd {a b : Addr} {Q : Value → Shared → Prop} (ta : s.TypeIs (.ref a) "dict") (tb : s.TypeIs (.ref b) "dict") (hu : A.units < cLine)
    (h : ∀ nm, wpAny (model prog w) A.in1 (Builtin.Dict.samePairs nm a b) (fun r s' => Q (.bool r) s') E s) : wpAny (model prog w) A (richCompare .Eq (.ref a) (.ref b)) Q E s := by
  refine wpAny_richCompare_same_room (op := .Eq) ta tb PySem.F.slot_dict_eq (wpAny_call_entry PySem.F.slot_dict_eq ta PySem.F.entry_dict_eq ?_ (PySem.F.args_dict_eq_2 _ _)) hu
  (show wpAny _ _ (Builtin.Dict.dictSlotArgs "__eq__" ⟨[.ref a, .ref b], []⟩ >>= _) _ _ s; refine wpAny_bind ?_; unfold Builtin.Dict.dictSlotArgs)
  refine wpAny_bind (wpAny_notOrdered_dict ta ?_)
  (show wpAny _ _ (pure (Value.ref a, Value.ref b)) _ _ s; refine wpAny_pure (wpAny_bind (wpAny_isInstance (T := "dict") tb PySem.F.sub_dict_dict ?_)))
  (simp only [Bool.not_true, Bool.false_eq_true, if_false]; refine wpAny_bind (wpAny_pure (wpAny_bind (wpAny_pure (wpAny_bind (wpAny_mono (h _) (fun r s' q => ?_) fun _ _ z => z))))))
  refine wpAny_pure ⟨_, rfl, (fun x => nomatch x), ?_⟩
  simpa using q
theorem ned {a b : Addr} {Q : Value → Shared → Prop} (ta : s.TypeIs (.ref a) "dict") (tb : s.TypeIs (.ref b) "dict") (hu : A.units < cLine)
    (h : ∀ nm, wpAny (model prog w) A.in1 (Builtin.Dict.samePairs nm a b) (fun r s' => Q (.bool (!r)) s') E s) : wpAny (model prog w) A (richCompare .NotEq (.ref a) (.ref b)) Q E s := by
  refine wpAny_richCompare_same_room (op := .NotEq) ta tb PySem.F.slot_dict_ne (wpAny_call_entry PySem.F.slot_dict_ne ta PySem.F.entry_dict_ne ?_ (PySem.F.args_dict_ne_2 _ _)) hu
  (show wpAny _ _ (Builtin.Dict.dictSlotArgs "__ne__" ⟨[.ref a, .ref b], []⟩ >>= _) _ _ s; refine wpAny_bind ?_; unfold Builtin.Dict.dictSlotArgs)
  refine wpAny_bind (wpAny_notOrdered_dict ta ?_)
  (show wpAny _ _ (pure (Value.ref a, Value.ref b)) _ _ s; refine wpAny_pure (wpAny_bind (wpAny_isInstance (T := "dict") tb PySem.F.sub_dict_dict ?_)))
  (simp only [Bool.not_true, Bool.false_eq_true, if_false]; refine wpAny_bind (wpAny_pure (wpAny_bind (wpAny_pure (wpAny_bind (wpAny_mono (h _) (fun r s' q => ?_) fun _ _ z => z))))))
  refine wpAny_pure ⟨_, rfl, (fun x => nomatch x), ?_⟩
  cases r <;> exact q
end
end DeG
theorem kv_get {ka : List (Key × V)} {va : List (Key × Value)} (r : KV ka va) : ∀ {i : Nat} {p : Key × V} {q : Key × Value}, ka[i]? = some p → va[i]? = some q → p.1 = q.1 ∧ RelV p.2 q.2 := by
  unfold KV at r
  induction r with
  | nil => intro i p q h; simp at h
  | cons h t ih =>
    intro i p q h1 h2
    cases i with
    | zero => simp at h1 h2; subst h1 h2; exact h
    | succ i => simp at h1 h2; exact ih h1 h2
/-- the abstract heap without two of its things -/
def hide2 (H : Hp) (a b : Addr) : Hp := fun c => if c = a ∨ c = b then none else H c
theorem ext_hide {H H' : Hp} {a b : Addr} (h : ∀ c, c ≠ a → c ≠ b → H' c = H c) : Ext (hide2 H a b) H' := fun c o e => by
  unfold hide2 at e
  split at e
  · cases e
  · rename_i q
    rw [h c (fun z => q (.inl z)) (fun z => q (.inr z))]
    exact e
def DDict (D : Eqv) : Eqv := fun x y H => ∃ (a b : Addr) (ka kb : List (Key × V)), x = .ref a ∧ y = .ref b ∧ a ≠ b ∧ H a = some (.dK ka) ∧ H b = some (.dK kb) ∧ ka.length = kb.length ∧ ∀ (i : Nat) (k : Key) (v : V), ka[i]? = some (k, v) → ∃ u, valV kb k = some u ∧ D v u (hide2 H a b)
section
variable {X : Cx} {n : Nat} {D : Eqv}
theorem dict_run (hD : Mon D) (h : EqG X n D) {A : Around} {pins : List (Addr × Obj)} {s : Shared} {σ : St} {H : Hp} {a b : Addr} {ka kb : List (Key × V)} (sb : Sub X (n + 1) A) (I : Inv X pins σ H s) (ne : a ≠ b) (ha : H a = some (.dK ka)) (hb : H b = some (.dK kb)) (hl : ka.length = kb.length)
    (hv : ∀ (i : Nat) (k : Key) (v : V), ka[i]? = some (k, v) → ∃ u, valV kb k = some u ∧ D v u (hide2 H a b)) (nm : String) :
    s.TypeIs (.ref a) "dict" ∧ s.TypeIs (.ref b) "dict" ∧ wpAny (model X.prog X.w) A.in1 (Builtin.Dict.samePairs nm a b) (fun r s' => r = true ∧ ∃ H', Inv X pins σ H' s' ∧ Ext H H') X.xe s := by
  obtain ⟨od, I1⟩ := I.lock ha trivial
  obtain ⟨ob, I2⟩ := I1.lock (show upd H a (.frz od (.dK ka)) b = some (.dK kb) by rw [upd_ne (Ne.symm ne)]; exact hb) trivial
  have ea : upd (upd H a (.frz od (.dK ka))) b (.frz ob (.dK kb)) a = some (.frz od (.dK ka)) := by rw [upd_ne ne, upd_same]
  have eb : upd (upd H a (.frz od (.dK ka))) b (.frz ob (.dK kb)) b = some (.frz ob (.dK kb)) := upd_same
  generalize hH : upd (upd H a (.frz od (.dK ka))) b (.frz ob (.dK kb)) = H0 at I2 ea eb
  obtain ⟨ga, xa⟩ := (show ObjOk X.prog X.w H0 s.heap a (.frz od (.dK ka)) from I2.hok a _ ea)
  obtain ⟨gb, xb⟩ := (show ObjOk X.prog X.w H0 s.heap b (.frz ob (.dK kb)) from I2.hok b _ eb)
  obtain ⟨_, na, va, ra, dA⟩ := (show ObjOk X.prog X.w H0 s.heap a (.dK ka) from xa)
  obtain ⟨_, nb, vb, rb, dB⟩ := (show ObjOk X.prog X.w H0 s.heap b (.dK kb) from xb)
  refine ⟨dA.typeIs, dB.typeIs, ?_⟩
  obtain ⟨o1, es, p1, g1, _, d1, u1, w1, _⟩ := dA
  obtain ⟨o2, et, p2, g2, _, d2, u2, w2, _⟩ := dB
  rw [ga] at g1
  rw [gb] at g2
  (cases g1; cases g2)
  have up : Ext (hide2 H a b) H0 := ext_hide fun c h1 h2 => by rw [← hH, upd_ne h2, upd_ne h1]
  refine DeG.pairs na nb d1 d2 u1 u2 w1 w2 (by rw [← ra.length, ← rb.length]; exact hl) (fun _ s' => LoopI X pins σ H0 s') (fun i s' ⟨H', I', e'⟩ => ?_) (fun i k v s' hi ⟨H', I', e'⟩ => ?_) ⟨H0, I2, Ext.rfl'⟩ (fun s' ⟨H', I', e'⟩ => ⟨rfl, ?_⟩)
  · exact ⟨(show ObjOk X.prog X.w H' s'.heap a (.frz od (.dK ka)) from I'.hok a _ (e' _ _ ea)).1, (show ObjOk X.prog X.w H' s'.heap b (.frz ob (.dK kb)) from I'.hok b _ (e' _ _ eb)).1⟩
  · have li : i < ka.length := by rw [ra.length]; exact (List.getElem?_eq_some_iff.mp hi).1
    obtain ⟨⟨k0, x⟩, hx⟩ : ∃ p, ka[i]? = some p := ⟨_, List.getElem?_eq_getElem li⟩
    obtain ⟨k1, r1⟩ := kv_get ra hx hi
    obtain rfl : k0 = k := k1
    obtain ⟨u, hu, hd⟩ := hv i k0 x hx
    have rr : RelO (some u) (valueAt vb k0) := by rw [← hu]; exact rb.val k0
    obtain ⟨y, hy, ry⟩ := rr.some_of
    refine ⟨y, hy, wpAny_mono (h A.in1 pins s' σ H' x u v y sb.in1 I' r1 ry (hD _ _ _ _ e' (hD _ _ _ _ up hd))) (fun r s2 z => ?_) fun _ _ z => z⟩
    obtain ⟨rfl, H2, I3, e2⟩ := z
    exact ⟨rfl, H2, I3, e'.trans e2⟩
  · have f1 : H' b = some (.frz ob (.dK kb)) := e' _ _ eb
    have f2 : upd H' b (.dK kb) a = some (.frz od (.dK ka)) := by rw [upd_ne ne]; exact e' _ _ ea
    refine ⟨_, (I'.unlock f1 (I.nofrz hb trivial)).unlock f2 (I.nofrz ha trivial), fun c o e => ?_⟩
    by_cases c1 : c = a
    · rw [c1, upd_same, ← ha, ← c1]; exact e
    · rw [upd_ne c1]
      by_cases c2 : c = b
      · rw [c2, upd_same, ← hb, ← c2]; exact e
      · rw [upd_ne c2]
        exact e' _ _ (by rw [← hH, upd_ne c2, upd_ne c1]; exact e)
theorem rcG_dict (hD : Mon D) (h : EqG X n D) : RcG X (n + 1) (DDict D) := by
  intro A pins s σ H x y u v sb I rx ry d
  obtain ⟨a, b, ka, kb, rfl, rfl, ne, ha, hb, hl, hv⟩ := d
  (cases rx; cases ry)
  obtain ⟨ta, tb, _⟩ := dict_run hD h sb I ne ha hb hl hv ""
  refine DeG.eqd ta tb sb.room.units0 fun nm => wpAny_mono (dict_run hD h sb I ne ha hb hl hv nm).2.2 (fun r s' z => ?_) fun _ _ z => z
  obtain ⟨rfl, q⟩ := z
  exact ⟨rfl, q⟩
theorem rnG_dict (hD : Mon D) (h : EqG X n D) : RnG X (n + 1) (DDict D) := by
  intro A pins s σ H x y u v sb I rx ry d
  obtain ⟨a, b, ka, kb, rfl, rfl, ne, ha, hb, hl, hv⟩ := d
  (cases rx; cases ry)
  obtain ⟨ta, tb, _⟩ := dict_run hD h sb I ne ha hb hl hv ""
  refine DeG.ned ta tb sb.room.units0 fun nm => wpAny_mono (dict_run hD h sb I ne ha hb hl hv nm).2.2 (fun r s' z => ?_) fun _ _ z => z
  obtain ⟨rfl, q⟩ := z
  exact ⟨rfl, q⟩
theorem mon_dict (hD : Mon D) : Mon (DDict D) := fun x y H H' e d => by
  obtain ⟨a, b, ka, kb, hx, hy, ne, ha, hb, hl, hv⟩ := d
  refine ⟨a, b, ka, kb, hx, hy, ne, e _ _ ha, e _ _ hb, hl, fun i k v hi => ?_⟩
  obtain ⟨u, hu, hd⟩ := hv i k v hi
  refine ⟨u, hu, hD _ _ _ _ (fun c o q => ?_) hd⟩
  unfold hide2 at q ⊢
  split at q
  · cases q
  · rename_i z
    rw [if_neg z]
    exact e _ _ q
theorem eqG_dict (hD : Mon D) (h : EqG X n D) : EqG X (n + 1) (DDict D) := (rcG_dict hD h).eqG fun _ _ _ d => let ⟨a, b, _, _, hx, hy, _⟩ := d; ⟨a, b, hx, hy⟩
end
/-! ### what stays: all but lists and dicts -/
def Soft : HO → Bool
  | .lst _ => true
  | .dK _ => true
  | .dT _ => true
  | _ => false
def Keep (H H' : Hp) : Prop := ∀ b o, H b = some o → Soft o = false → H' b = some o
theorem Keep.refl (H : Hp) : Keep H H := fun _ _ h _ => h
theorem Keep.trans {H H1 H2 : Hp} (a : Keep H H1) (b : Keep H1 H2) : Keep H H2 := fun c o h s => b c o (a c o h s) s
theorem Same.keep {H H' : Hp} (e : Same H H') : Keep H H' := fun b o h _ => e b o h
theorem keep_upd {H : Hp} {a : Addr} {o o' : HO} (h : H a = some o) (s : Soft o = true) : Keep H (upd H a o') := fun b u e su => by
  by_cases z : b = a
  · rw [z, h] at e
    cases e
    rw [s] at su
    cases su
  · rw [upd_ne z]
    exact e
theorem keep_hide {H : Hp} {a b : Addr} {o o' : HO} (h : H a = some o) (s : Soft o = true) (h' : H b = some o') (s' : Soft o' = true) : Keep H (hide2 H a b) := fun c u e su => by
  unfold hide2
  by_cases z : c = a ∨ c = b
  · rcases z with z | z
    · rw [z, h] at e
      cases e
      rw [s] at su
      cases su
    · rw [z, h'] at e
      cases e
      rw [s'] at su
      cases su
  · rw [if_neg z]
    exact e
theorem SqT.keep {K : PySem.W.Frag} {H H' : Hp} {a : Addr} {xs : List V} (h : SqT K H a xs) (e : Keep H H') : SqT K H' a xs :=
  h.elim (fun h => .inl (h.elim (fun h => .inl (e _ _ h rfl)) fun ⟨o, h⟩ => .inr ⟨o, e _ _ h rfl⟩)) fun h => .inr h
theorem SqT.same {K : PySem.W.Frag} {H H' : Hp} {a : Addr} {xs : List V} (h : SqT K H a xs) (e : Same H H') : SqT K H' a xs := SqT.keep h (Same.keep e)
theorem SqL.same {K : PySem.W.Frag} {H H' : Hp} {a : Addr} {xs : List V} (h : SqL K H a xs) (e : Same H H') : SqL K H' a xs :=
  h.elim (fun h => .inl (h.elim (fun h => .inl (e _ _ h)) fun ⟨o, h⟩ => .inr ⟨o, e _ _ h⟩)) fun h => .inr h
theorem same_upd {H H' : Hp} {a : Addr} {o : HO} (e : Same H H') (h : H a = none) : Same H (upd H' a o) := fun b u q => by
  rw [upd_ne (ne_of_none q h)]
  exact e b u q
theorem Paired.at_ {α β : Type} {F : α → β → Prop} : ∀ {xs : List α} {ys : List β} {i : Nat} {x : α} {y : β}, Paired F xs ys → xs[i]? = some x → ys[i]? = some y → F x y
  | _, _, _, _, _, .nil, h, _ => by simp at h
  | _, _, 0, _, _, .cons r _, h, h' => by simp at h h'; rw [← h, ← h']; exact r
  | _, _, i + 1, _, _, .cons _ t, h, h' => Paired.at_ (i := i) t (by simpa using h) (by simpa using h')
theorem Paired.some {α β : Type} {F : α → β → Prop} : ∀ {xs : List α} {ys : List β} {i : Nat} {x : α}, Paired F xs ys → xs[i]? = some x → ∃ y, ys[i]? = some y ∧ F x y
  | _, _, _, _, .nil, h => by simp at h
  | _, _, 0, _, .cons r _, h => by simp at h; exact ⟨_, rfl, h ▸ r⟩
  | _, _, i + 1, _, .cons _ t, h => by
    obtain ⟨y, h1, h2⟩ := Paired.some (i := i) t (by simpa using h)
    exact ⟨y, by simpa using h1, h2⟩
theorem Paired.take {α β : Type} {F : α → β → Prop} : ∀ {xs : List α} {ys : List β} (n : Nat), Paired F xs ys → Paired F (xs.take n) (ys.take n)
  | _, _, 0, _ => .nil
  | _, _, _ + 1, .nil => .nil
  | _, _, n + 1, .cons r t => .cons r (Paired.take n t)
theorem Paired.drop {α β : Type} {F : α → β → Prop} : ∀ {xs : List α} {ys : List β} (n : Nat), Paired F xs ys → Paired F (xs.drop n) (ys.drop n)
  | _, _, 0, r => r
  | _, _, _ + 1, .nil => .nil
  | _, _, n + 1, .cons _ t => Paired.drop n t
theorem Paired.app {α β : Type} {F : α → β → Prop} : ∀ {xs xs' : List α} {ys ys' : List β}, Paired F xs ys → Paired F xs' ys' → Paired F (xs ++ xs') (ys ++ ys')
  | _, _, _, _, .nil, s => s
  | _, _, _, _, .cons r t, s => .cons r (Paired.app t s)
theorem Paired.set {α β : Type} {F : α → β → Prop} {x : α} {y : β} (r : F x y) : ∀ {xs : List α} {ys : List β} (i : Nat), Paired F xs ys → Paired F (xs.set i x) (ys.set i y)
  | _, _, _, .nil => .nil
  | _, _, 0, .cons _ t => .cons r t
  | _, _, i + 1, .cons q t => .cons q (Paired.set r i t)
theorem Paired.imp {α β : Type} {F G : α → β → Prop} (h : ∀ a b, F a b → G a b) : ∀ {xs : List α} {ys : List β}, Paired F xs ys → Paired G xs ys
  | _, _, .nil => .nil
  | _, _, .cons r t => .cons (h _ _ r) (Paired.imp h t)
/-! ### a for over a list, any target; comprehensions over a list -/
section
variable {σ : St} {H H1 : Hp} {g : TG} {tb : TS} {nx : St → Hp → Prop} {rt : VK} {bk ct : St → Hp → Prop} {K : PySem.W.Frag} {a : Addr} {xs : List V} {wi : TI} {tt : TT} {te : TE} {vs : List Nat} {Q : VK}
theorem for_lstG (Pv : Nat → St → Hp → Prop) (h0 : Pv 0 σ H) (hl : ∀ i σ H, i ≤ xs.length → Pv i σ H → SqL K H a xs) (hs : ∀ i x σ H, xs[i]? = some x → Pv i σ H → g x σ H fun σ2 H2 => tb ⟨Pv (i + 1), rt, nx, Pv (i + 1)⟩ σ2 H2) (hd : ∀ σ H, Pv xs.length σ H → nx σ H) :
    forR (Itl K a) g tb ⟨nx, rt, bk, ct⟩ σ H := by
  refine ⟨fun i m σ H => m = xs.length - i ∧ i ≤ xs.length ∧ Pv i σ H, ⟨xs.length, by simp, Nat.zero_le _, h0⟩, ?_⟩
  rintro i m σ H ⟨rfl, hi, p⟩
  have q := hl i σ H hi p
  by_cases lt : i < xs.length
  · refine .inr ⟨⟨xs, xs[i], q, by simp [lt]⟩, Pv (i + 1), fun σ' H' p' => ⟨xs.length - (i + 1), by omega, rfl, lt, p'⟩, fun x H' y => ?_⟩
    obtain ⟨rfl, y⟩ := y
    exact hs i x σ H' (y xs q) p
  · obtain rfl : i = xs.length := by omega
    exact .inl ⟨⟨xs, q, Nat.le_refl _⟩, hd σ H p⟩
def lcR (J : It) (g : TG) (tt : TT) (te : TE) (vs : List Nat) (σ : St) (H1 : Hp) (Q : VK) : Prop := ∀ D, H1 D = none → ∃ W : Nat → Nat → Hp → Prop, (∃ m, W 0 m (upd H1 D (.lst []))) ∧ ∀ i m H, W i m H → (J.stop i H ∧ Q (.ref D) H) ∨
  (J.go i H ∧ ∃ N : Hp → Prop, (∀ H', N H' → ∃ m', m' < m ∧ W (i + 1) m' H') ∧ ∀ x H', J.yld i H x H' → g x (wipe σ vs) H' fun σ2 H2 => wipe σ2 vs = wipe σ vs ∧ tt σ2 H2 fun b H3 =>
    if b = true then te σ2 H3 fun y H4 => ∃ acc, H4 D = some (.lst acc) ∧ acc.length < sizeLine ∧ N (upd H4 D (.lst (acc ++ [y]))) else N H3)
theorem r_lc (h : wi σ H fun J H1 => lcR J g tt te vs σ H1 Q) : tLc wi g tt te vs σ H Q := h
/-- behind a turn of a comprehension -/
def LcN (H1 : Hp) (D : Addr) (Pv : Nat → List V → Hp → Prop) (i : Nat) (H : Hp) : Prop := Same H1 H ∧ ∃ acc, acc.length ≤ i ∧ H D = some (.lst acc) ∧ Pv i acc H
theorem lc_add {Pv : Nat → List V → Hp → Prop} {D : Addr} {i : Nat} {acc : List V} {y : V} {H4 : Hp} (hD : H1 D = none) (hS : Same H1 H) (s : Same H H4) (ha : H D = some (.lst acc)) (hl : acc.length ≤ i) (hi : i < 100000) (p : Pv (i + 1) (acc ++ [y]) (upd H4 D (.lst (acc ++ [y])))) :
    ∃ acc, H4 D = some (.lst acc) ∧ acc.length < sizeLine ∧ LcN H1 D Pv (i + 1) (upd H4 D (.lst (acc ++ [y]))) :=
  ⟨acc, s _ _ ha, by rw [sizeLine_eq]; omega, same_upd (hS.trans s) hD, _, by rw [List.length_append, List.length_singleton]; omega, upd_same, p⟩
theorem lc_skip {Pv : Nat → List V → Hp → Prop} {D : Addr} {i : Nat} {acc : List V} {H4 : Hp} (hS : Same H1 H) (s : Same H H4) (ha : H D = some (.lst acc)) (hl : acc.length ≤ i) (p : Pv (i + 1) acc H4) : LcN H1 D Pv (i + 1) H4 :=
  ⟨hS.trans s, acc, Nat.le_succ_of_le hl, s _ _ ha, p⟩
/-- [te for g in xs if tt]: what holds of the part taken -/
theorem lc_lst (hl : SqL K H1 a xs) (hz : xs.length ≤ 100000) (Pv : Nat → List V → Hp → Prop) (h0 : ∀ D, H1 D = none → Pv 0 [] (upd H1 D (.lst [])))
    (hs : ∀ D i x acc H, H1 D = none → xs[i]? = some x → i < 100000 → Same H1 H → H D = some (.lst acc) → acc.length ≤ i → Pv i acc H → g x (wipe σ vs) H fun σ2 H2 => wipe σ2 vs = wipe σ vs ∧ tt σ2 H2 fun b H3 =>
      if b = true then te σ2 H3 fun y H4 => ∃ acc, H4 D = some (.lst acc) ∧ acc.length < sizeLine ∧ LcN H1 D Pv (i + 1) (upd H4 D (.lst (acc ++ [y]))) else LcN H1 D Pv (i + 1) H3)
    (hd : ∀ D acc H, H1 D = none → Same H1 H → H D = some (.lst acc) → Pv xs.length acc H → Q (.ref D) H) : lcR (Itl K a) g tt te vs σ H1 Q := by
  intro D hD
  refine ⟨fun i m H => m = xs.length - i ∧ i ≤ xs.length ∧ LcN H1 D Pv i H, ⟨xs.length, by simp, Nat.zero_le _, same_new hD, [], Nat.le_refl _, upd_same, h0 D hD⟩, ?_⟩
  rintro i m H ⟨rfl, hi, hS, acc, ha, hD2, p⟩
  have q := SqL.same hl hS
  by_cases lt : i < xs.length
  · refine .inr ⟨⟨xs, xs[i], q, by simp [lt]⟩, LcN H1 D Pv (i + 1), fun H' p' => ⟨xs.length - (i + 1), by omega, rfl, lt, p'⟩, fun x H' y => ?_⟩
    obtain ⟨rfl, y⟩ := y
    exact hs D i x acc H' hD (y xs q) (by omega) hS hD2 ha p
  · obtain rfl : i = xs.length := by omega
    exact .inl ⟨⟨xs, q, Nat.le_refl _⟩, hd D acc H hD hS hD2 p⟩
end
/-! ### more steps of a reading -/
section
variable {σ : St} {H : Hp} {K : PySem.W.Frag} {a : Addr} {xs : List V} {g : TG} {gs : TGs} {N : St → Hp → Prop} {Q : VK} {v : V} {n i : Nat} {te : TE} {ts : List TE} {acc : Str} {J : Str → Hp → Prop}
theorem r_gname (h : N (σ.set i (some v)) H) : gName i v σ H N := h
theorem r_gnil (h : N σ H) : gNil [] σ H N := ⟨rfl, h⟩
theorem r_gcons {vs : List V} (h : g v σ H fun σ' H' => gs vs σ' H' N) : gCons g gs (v :: vs) σ H N := ⟨v, vs, rfl, h⟩
theorem r_gtup (hs : SqT K H a xs) (hn : xs.length = n) (h : gs xs σ H N) : gTup K n gs (.ref a) σ H N := ⟨a, xs, rfl, hs, hn, h⟩
theorem r_jnil (h : J acc H) : tJs [] acc σ H J := h
theorem r_jcons (h : te σ H fun x H1 => ∃ y : Str, x = .str y ∧ (acc ++ y).length ≤ sizeLine ∧ tJs ts (acc ++ y) σ H1 J) : tJs (te :: ts) acc σ H J := h
theorem r_jstr {y : Str} (hz : (acc ++ y).length ≤ sizeLine) (h : tJs ts (acc ++ y) σ H J) : tJs (tC (.str y) :: ts) acc σ H J := ⟨y, rfl, hz, h⟩
theorem r_jvar {y : Str} (e : σ[i]? = some (some (.str y))) (hy : y.length ≤ sizeLine) (hz : (acc ++ y).length ≤ sizeLine) (h : tJs ts (acc ++ y) σ H J) : tJs (tFmt (tVar i) :: ts) acc σ H J := ⟨_, e, .inl ⟨y, rfl, hy, y, rfl, hz, h⟩⟩
theorem r_fmt (h : te σ H fun x H1 => (∃ y : Str, x = .str y ∧ y.length ≤ sizeLine ∧ Q (.str y) H1) ∨ ∃ i : Int, x = .int i ∧ i.natAbs.log2 < 1920 ∧ Q (.str (toString i)) H1) : tFmt te σ H Q := h
theorem r_fmtS {y : Str} {R : V → Prop} (hy : y.length ≤ sizeLine) (h : R (.str y)) : (∃ z : Str, V.str y = .str z ∧ z.length ≤ sizeLine ∧ R (.str z)) ∨ ∃ i : Int, V.str y = .int i ∧ i.natAbs.log2 < 1920 ∧ R (.str (toString i)) := .inl ⟨y, rfl, hy, h⟩
theorem r_dnew (h : ∀ p, H p = none → Q (.ref p) (upd H p (.dK []))) : tDNewK σ H Q := h
theorem r_dput {td ty tv : TE} {nx : St → Hp → Prop} {rt : VK} {bk ct : St → Hp → Prop} (h : tv σ H fun v H1 => td σ H1 fun x H2 => ty σ H2 fun y H3 => ∃ a H4, x = .ref a ∧ DPut H3 a y v H4 ∧ nx σ H4) : sDPut td ty tv ⟨nx, rt, bk, ct⟩ σ H := h
theorem sapp_len (x y : Str) : (x ++ y).length = x.length + y.length := by simp [Str.length, Str.cps_append]
theorem sapp_nil (x : Str) : Str.empty ++ x = x := by
  show Str.mk (Str.empty.cps ++ x.cps) = x
  simp [Str.empty]
end
/-! ### sorted(xs, key=f) by an own def -/
def rSortK (K : PySem.W.Frag) (f : Addr) (sp : Sp) : List V → List V → Hp → VK → Prop := fun vs zs H Q => ∃ (a : Addr) (bs : List VD), vs = [.ref a] ∧ zs = [.ref f] ∧ SqL K H a (bs.map (·.1)) ∧ (∀ b ∈ bs, b.2.depth ≤ 8) ∧ PySem.W.AllAlike (bs.map (·.2)) ∧ PySem.W.Sortable (bs.map (·.2)) ∧
  ∃ J : Nat → List V → Hp → Prop, J 0 [] H ∧ (∀ i b ys H', bs[i]? = some b → J i ys H' → sp [b.1] H' (fun y H'' => J (i + 1) (ys ++ [y]) H'') fun _ _ _ => False) ∧
    ∀ ys H', J bs.length ys H' → DatsV K H' ys (bs.map (·.2)) ∧ ∀ p, H' p = none → Q (.ref p) (upd H' p (.lst ((sortD bs).map (·.1))))
section
open PySem.W PyProof.Rows
variable {X : Cx} {k : Nat} {f g : Addr} {fd : FuncData} {ps : List Str} {sp : Sp}
theorem run_in2 {pins : List (Addr × Obj)} {σ : L2.St} {H : Hp} {s : Shared} {Q : VK} {us : List Value} {vs : List V} {E : XK} (F : FnOk X.prog X.w X.K X.mg X.base CX0 k g fd ps sp) (room : Room (k + 2) X.A) (bd : Binds X.K fd ps [])
    (I : Inv X pins σ H s) (r : Vals vs us) (h : sp vs H Q E) : wpAny (model X.prog X.w) X.A.in1.in1 (call (.ref g) us) (EP X pins σ Q) (fun _ _ => False) s := by
  have hl : (us ++ []).length = ps.length := by rw [List.append_nil, ← r.length]; exact F.len _ _ _ _ h
  have b := bd s us I.kIn hl
  rw [List.append_nil] at b
  refine wpAny_call (codeAny_mono (F.run X.A.in1.in1 X.stack s H ⟨us, []⟩ us vs Q E (Room.in1 (Room.in1 room)) I.env0.in1.in1 b r h) fun r s' z => ?_)
  match r, z with
  | .error e, z => exact z.elim
  | .ok (.ret u), z => exact I.after z
  | .ok .next, z => exact z.elim
  | .ok .brk, z => exact z.elim
  | .ok .cont, z => exact z.elim
/-- a pinned record of our own is written -/
theorem inv_pinned {pins : List (Addr × Obj)} {σ : L2.St} {H : Hp} {s : Shared} {h' : Heap} {kS D : Addr} {o o' o2 : Obj} (I : Inv X (pins ++ [(kS, o), (D, o2)]) σ H s) (sb : Heap.SameBut kS s.heap h') (e : h'.get? kS = some o') (nc : ∀ v, o'.data ≠ .cell v)
    (hL : X.s_0.heap.objs.size ≤ kS) (hc : ∀ x c, X.env.cells.lookup x = some c → c ≠ kS) (hp : ∀ p ∈ X.pn ++ pins, p.1 ≠ kS) (hD : D ≠ kS) : Inv X (pins ++ [(kS, o'), (D, o2)]) σ H { s with heap := h' } := by
  have m1 : (kS, o) ∈ X.pn ++ (pins ++ [(kS, o), (D, o2)]) := List.mem_append_right _ (List.mem_append_right _ List.mem_cons_self)
  have m2 : (D, o2) ∈ X.pn ++ (pins ++ [(kS, o), (D, o2)]) := List.mem_append_right _ (List.mem_append_right _ (List.mem_cons_of_mem _ List.mem_cons_self))
  have q := I.pin _ m1
  have J : Inv X (pins ++ [(D, o2)]) σ H s := I.pins_of fun p hp => by
    rcases List.mem_append.mp hp with z | z
    · exact I.pin p (List.mem_append_right _ (List.mem_append_left _ z))
    · rw [List.mem_singleton] at z
      subst z
      exact I.pin _ m2
  have J2 := J.turned (it := kS) (h' := h') (t' := s.toks) (fun b ob hb e => (sb.2 b hb).trans e) q.2.1 q.2.2.1 (.inr hL) hc (fun p h => by
    rcases List.mem_append.mp h with z | z
    · exact hp p (List.mem_append_left _ z)
    · rcases List.mem_append.mp z with z | z
      · exact hp p (List.mem_append_right _ z)
      · rw [List.mem_singleton] at z
        subst z
        exact hD)
  refine J2.pins_of fun p hp => ?_
  rcases List.mem_append.mp hp with z | z
  · exact J2.pin p (List.mem_append_right _ (List.mem_append_left _ z))
  · rcases List.mem_cons.mp z with rfl | z
    · exact ⟨e, q.2.1, q.2.2.1, q.2.2.2.1, nc⟩
    · rw [List.mem_singleton] at z
      subst z
      exact J2.pin _ (List.mem_append_right _ (List.mem_append_right _ (List.mem_singleton.mpr rfl)))
theorem datsV_each {pins : List (Addr × Obj)} {σ : L2.St} {H : Hp} {s : Shared} (I : Inv X pins σ H s) : ∀ {ys : List V} {ds : List PyData} {us : List Value}, DatsV X.K H ys ds → Vals ys us → EachIs (fun u d => ∃ as, Reads s.heap u d as) us ds
  | [], _, _, h, r => by
    cases h
    cases r
    exact .nil
  | _ :: _, _, _, h, r => by
    cases h with
    | cons h1 h2 =>
      cases r with
      | cons r1 r2 => exact .cons (DatV.reads I _ _ _ h1 r1) (datsV_each I h2 r2)
theorem seq_nc {c : String} {xs : Array Value} {n : Nat} : ∀ v, (seqObj c xs n).data ≠ .cell v := fun v z => nomatch z
theorem cr_sortK (F : FnOk X.prog X.w X.K X.mg X.base CX0 k g fd ps sp) (room : Room (k + 2) X.A) (bd : Binds X.K fd ps []) : CallRK X (.builtin "sorted") [Str.ofString "key"] (rSortK X.K g sp) := by
  intro pins s σ H vs zs us ws Q I r rz h
  obtain ⟨a, bs, rfl, rfl, hs, hd, hal, hk, J, j0, js, jd⟩ := h
  obtain ⟨its, rv, hl, hz⟩ := I.list hs
  rw [Vals.ref1 r]
  obtain ⟨w1, rfl, e1⟩ := vals1 rz
  obtain rfl : w1 = Value.ref g := e1
  have hlen : its.length = bs.length := by rw [← rv.length, List.length_map]
  have hZ : its.length ≤ sizeLine := by rw [← rv.length]; exact hz
  refine sorted_of_sort hl.isList hZ (ksk_s1 _ _) (fun _ => ksk_l1 _ _) fun E' => ?_
  show wpAny _ _ (Builtin.«list.sort» ⟨[.ref (s.heap.objs.size + 1)], [(Str.ofString "key", .ref g)]⟩) _ _ _
  rw [ksk_t1]
  have ho := copyHeap_at s.heap its
  generalize hD : s.heap.objs.size + 1 = D at *
  have ltD : s.heap.objs.size < D := by omega
  generalize hh1 : copyHeap s.heap its = h1 at *
  have old1 : ∀ b o, s.heap.get? b = some o → h1.get? b = some o := fun b o e => by rw [← hh1]; exact copyHeap_old e
  have haD : D < h1.objs.size := Heap.lt_size ho
  obtain ⟨e1, ho1⟩ : ∃ e1, (h1.update D (Obj.mapSeq fun _ => (#[] : Array Value))).get? D = some (seqObj "list" #[] e1) := ⟨_, get?_update_seq ho fun _ => #[]⟩
  have hkS : ((h1.update D (Obj.mapSeq fun _ => (#[] : Array Value))).push (seqObj "tuple" its.toArray 0)).objs.size = h1.objs.size + 1 := by rw [size_push', Heap.size_update]
  unfold ksk_tree
  refine wpAny_bind (listItems_at ho rfl ?_)
  refine wpAny_bind (listUpdate_at ho rfl ?_ (by rw [List.size_toArray]; exact hZ) (Nat.zero_le _))
  refine wpAny_bind (seqEpoch_at ho1 rfl ?_)
  refine wpAny_bind (wpAny_newTuple ?_ (by show its.length ≤ _; exact hZ))
  refine wpAny_bind (wpAny_newList ?_ (Nat.zero_le _))
  refine wpAny_holding ?_
  have ltS : s.heap.objs.size < h1.objs.size + 1 := by omega
  have old3 : ∀ b o, s.heap.get? b = some o → (sortingHeap h1 D its).get? b = some o := fun b o e => sortingHeap_old (Nat.ne_of_lt (Nat.lt_trans (Heap.lt_size e) ltD)) (old1 b o e)
  have I3 : Inv X pins σ H { s with heap := sortingHeap h1 D its } := I.kept (t' := s.toks) old3
  have nk3 : (sortingHeap h1 D its).get? (h1.objs.size + 1) = some (seqObj "list" #[] 0) := by
    rw [← hkS]
    exact Heap.get?_push_size _ rfl
  have na3 : (sortingHeap h1 D its).get? D = some (seqObj "list" #[] e1) := Heap.get?_push_of_some _ (Heap.get?_push_of_some _ ho1)
  have new : ∀ b, s.heap.objs.size ≤ b → H b = none ∧ b ≠ X.env.locals ∧ b ∉ X.fs ∧ X.s_0.heap.objs.size ≤ b ∧ (∀ x c, X.env.cells.lookup x = some c → c ≠ b) ∧ ∀ p ∈ X.pn ++ pins, p.1 ≠ b := fun b hb =>
    ⟨I.hok.fresh hb, Nat.ne_of_gt (Nat.lt_of_lt_of_le I.lt hb), I.nofs hb, Nat.le_trans I.sz hb, fun x c e z => by
      obtain ⟨v, q⟩ := I.cell x c e
      exact absurd (Nat.lt_of_lt_of_le q.lt (by rw [z]; exact hb)) (Nat.lt_irrefl _), fun p hp z => absurd (Nat.lt_of_lt_of_le (Heap.lt_size (I.pin p hp).1) (by rw [z]; exact hb)) (Nat.lt_irrefl _)⟩
  obtain ⟨nD1, nD2, nD3, nD4, nD5, nD6⟩ := new D (Nat.le_of_lt ltD)
  obtain ⟨nS1, nS2, nS3, nS4, nS5, nS6⟩ := new (h1.objs.size + 1) (Nat.le_of_lt ltS)
  have hDS : D ≠ h1.objs.size + 1 := Nat.ne_of_lt (Nat.lt_succ_of_lt haD)
  have I4 : Inv X (pins ++ [(h1.objs.size + 1, seqObj "list" #[] 0), (D, seqObj "list" #[] e1)]) σ H { s with heap := sortingHeap h1 D its } := I3.pins_of fun p hp => by
    rcases List.mem_append.mp hp with z | z
    · exact I3.pin p (List.mem_append_right _ z)
    · rcases List.mem_cons.mp z with rfl | z
      · exact ⟨nk3, nS1, nS2, nS3, seq_nc⟩
      · rw [List.mem_singleton] at z
        subst z
        exact ⟨na3, nD1, nD2, nD3, seq_nc⟩
  rw [hkS]
  show wpAny _ _ (ksk_rest D (.ref g) false its.toArray e1 (.ref (h1.objs.size + 1))) _ _ { s with heap := sortingHeap h1 D its }
  generalize h1.objs.size + 1 = kS at *
  unfold ksk_rest
  refine wpAny_bind (wpAny_rule ?_)
  first
    | rw [List.forIn_toArray]
    | (rw [← Array.forIn_toList]; simp only [List.toList_toArray])
    | rw [← Array.forIn_toList]
  refine wpAny_bind (ksk_fold (fun i s' => ∃ kA e ys H', Inv X (pins ++ [(kS, seqObj "list" kA e), (D, seqObj "list" #[] e1)]) σ H' s' ∧ J i ys H' ∧ Vals ys kA.toList ∧ kA.size = i) its 0 _ ⟨#[], 0, [], H, I4, j0, .nil, rfl⟩ ?step ?done)
  case step =>
    rintro j x s' hx ⟨kA, e, ys, H', I', ji, rk, hsz⟩
    simp only [Nat.zero_add] at ji hsz ⊢
    have hj : j < bs.length := by rw [← hlen]; exact (List.getElem?_eq_some_iff.mp hx).1
    have hb : bs[j]? = some bs[j] := List.getElem?_eq_getElem hj
    have rx : RelV bs[j].1 x := by
      obtain ⟨u, e2, ru⟩ := rv.get (i := j) (x := bs[j].1) (by rw [List.getElem?_map, hb]; rfl)
      rw [hx] at e2
      cases e2
      exact ru
    refine wpAny_bind (wpAny_attempt (wpAny_mono (run_in2 (vs := [bs[j].1]) (us := [x]) F room bd I' (.cons rx .nil) (js j bs[j] ys H' hb ji)) (fun v s'' he => ?_) fun _ _ hF => hF.elim))
    obtain ⟨y, H'', I'', ry, jy⟩ := he
    try dsimp only
    have m1 : (kS, seqObj "list" kA e) ∈ X.pn ++ (pins ++ [(kS, seqObj "list" kA e), (D, seqObj "list" #[] e1)]) := List.mem_append_right _ (List.mem_append_right _ List.mem_cons_self)
    have nk2 := (I''.pin _ m1).1
    have s1 := Heap.SameBut.update s''.heap kS (Obj.mapSeq (·.push v))
    obtain ⟨c2, hc2⟩ : ∃ c2, (s''.heap.update kS (Obj.mapSeq (·.push v))).get? kS = some (seqObj "list" (kA.push v) c2) := ⟨_, get?_update_seq nk2 (·.push v)⟩
    have hz2 : kA.size ≤ sizeLine := by rw [hsz]; exact Nat.le_trans (Nat.le_of_lt (by rw [hlen]; exact hj)) hZ
    refine wpAny_bind (listUpdate_at nk2 rfl ?_ hz2 (Nat.le_trans (Nat.le_of_eq (Array.size_push ..)) (Nat.succ_le_succ hz2)))
    refine wpAny_pure ⟨rfl, kA.push v, c2, ys ++ [y], H'', inv_pinned I'' s1 hc2 seq_nc nS4 nS5 nS6 hDS, jy, ?_, by rw [Array.size_push, hsz]⟩
    rw [show (kA.push v).toList = kA.toList ++ [v] from by simp]
    exact rk.append (.cons ry .nil)
  case done =>
    rintro s' ⟨kA, e, ys, H', I', ji, rk, hsz⟩
    rw [Nat.zero_add, hlen] at ji hsz
    obtain ⟨jdat, jq⟩ := jd ys H' ji
    have m1 : (kS, seqObj "list" kA e) ∈ X.pn ++ (pins ++ [(kS, seqObj "list" kA e), (D, seqObj "list" #[] e1)]) := List.mem_append_right _ (List.mem_append_right _ List.mem_cons_self)
    have m2 : (D, seqObj "list" #[] e1) ∈ X.pn ++ (pins ++ [(kS, seqObj "list" kA e), (D, seqObj "list" #[] e1)]) := List.mem_append_right _ (List.mem_append_right _ (List.mem_cons_of_mem _ List.mem_cons_self))
    obtain ⟨nk, hkn, _⟩ := I'.pin _ m1
    obtain ⟨na, hDn, _⟩ := I'.pin _ m2
    have er := datsV_each I' jdat rk
    try dsimp only
    refine wpAny_bind (listItems_at nk rfl ?_)
    have hu : ∀ d, d ∈ bs.map (·.2) → X.A.in1.in1.units + d.depth < cLine := fun d hd2 => by
      obtain ⟨b, hb, rfl⟩ := List.mem_map.mp hd2
      have := hd b hb
      have := room.un
      show X.A.units + 1 + 1 + b.2.depth < _
      omega
    refine keyH_end (κ := dataKind s'.heap (bs.map (·.2))) (h₁ := hideAll s'.heap [kS]) (fun b o _ q => of_hideAll _ q) (hideAll_none _ List.mem_cons_self) nk na hDS.symm (SortsAt.data (s := s') er hal hk hu) (by rw [hsz, hlen]) hZ fun h' tk c k3 n3 => ⟨rfl, ?_⟩
    have ko : KeyedOut false (bs.map (·.2)) its (sortVals (dataKind s'.heap (bs.map (·.2))) false kA.toList its) := ⟨s'.heap, kA.toList, hal, rfl, er⟩
    have eo := keyedOut_each (R := fun u (b : VD) => RelV b.1 u) (fun b : VD => b.2) ko (each_vals rv)
    have kept : ∀ b o, b ≠ kS → b ≠ D → s'.heap.get? b = some o → h'.get? b = some o := fun b o h1 h2 q => k3 b o h2 (hideAll_get _ q (by simp [h1]))
    have lo : ((sortD bs).map (·.1)).length ≤ sizeLine := by
      rw [List.length_map, (sortD_perm bs).length_eq, ← hlen]
      exact hZ
    have trk : ∀ b u, H' b = some u → b ≠ kS ∧ b ≠ D := fun b u q => ⟨fun z => (by rw [z, hkn] at q; cases q), fun z => (by rw [z, hDn] at q; cases q)⟩
    have hP : ∀ p ∈ X.pn ++ pins, p.1 ≠ kS ∧ p.1 ≠ D := fun p hp => ⟨nS6 p hp, nD6 p hp⟩
    have I5 : Inv X pins σ H' s' := I'.pins_of fun p hp => I'.pin p (List.mem_append_right _ (List.mem_append_left _ hp))
    have gl : ∃ o, s'.heap.get? X.env.locals = some o := by
      obtain ⟨m, ⟨o, _, _, e, _⟩, _⟩ := I5.loc
      exact ⟨o, e⟩
    have fin := I5.step (g' := s'.gens) (d' := s'.drawn) (t' := tk) (h' := h') (H' := upd H' D (.lst ((sortD bs).map (·.1)))) (ch := [kS, D]) (fun b hb => by
        rcases List.mem_cons.mp hb with rfl | hb
        · exact ⟨.inr nS4, nS2, nS5, nS6⟩
        · rw [List.mem_singleton] at hb
          subst hb
          exact ⟨.inr nD4, nD2, nD5, nD6⟩)
      (fun b o _ _ hc q _ => kept b o (fun z => hc (by simp [z])) (fun z => hc (by simp [z])) q)
      (fun b o _ _ hc q _ => ⟨o.slots, kept b o (fun z => hc (by simp [z])) (fun z => hc (by simp [z])) q⟩)
      (fun b o hc q n => by rw [upd_ne (fun z => hc (by simp [z]))]; exact n)
      (fun b o hc q => ⟨o, kept b o (fun z => hc (by simp [z])) (fun z => hc (by simp [z])) q⟩)
      (fun b xs q => by rw [upd_ne (trk b _ q).2]; exact q) (fun b o u q => by rw [upd_ne (trk b _ q).2]; exact q) (fun b ps q => ⟨#[], by rw [upd_ne (trk b _ q).2, q]; simp⟩)
      (fun mm hm => by
        obtain ⟨o, es, ep, q, rest⟩ := hm
        exact ⟨o, es, ep, kept _ _ nS2.symm nD2.symm q, rest⟩)
      (fun b u q => by
        by_cases hb : b = D
        · rw [hb, upd_same] at q
          cases q
          rw [hb]
          exact ⟨lo, _, c, vals_each eo, n3⟩
        · rw [upd_ne hb] at q
          have st := I5.hok b u q
          refine st.stay (fun b2 v hb2 q2 => ?_) (fun b2 q2 => by rw [upd_ne (trk b2 _ q2).2]; exact q2) (fun b2 xs q2 => by rw [upd_ne (trk b2 _ q2).2]; exact q2)
          rcases hb2 with rfl | hb2
          · exact kept _ _ (trk _ _ q).1 (trk _ _ q).2 q2
          · exact kept _ _ (trk _ _ hb2).1 (trk _ _ hb2).2 q2) I5.bare
    exact ⟨.ref D, _, fin, rfl, jq D hDn⟩
end
theorem Room.units2 {k : Nat} {A : Around} (r : Room k A) : A.units + 65 < cLine := by have := r.un; omega
theorem op_inDK {X : Cx} {K : PySem.W.Frag} (h : X.K = K) (hu : X.A.units + 65 < cLine) : OpR X (compareOp .In) (rInD K) := by subst h; exact op_inD hu
theorem op_notInDK {X : Cx} {K : PySem.W.Frag} (h : X.K = K) (hu : X.A.units + 65 < cLine) : OpR X (compareOp .NotIn) (rNotInD K) := by subst h; exact op_notInD hu
/-! ### one step, at the goal's head -/
local macro_rules | `(tactic| walk_at "go1") => `(tactic| first
  | (with_reducible apply r_seq) | (with_reducible apply r_set) | (with_reducible apply r_if) | (with_reducible apply r_ret) | (with_reducible apply r_next)
  | (with_reducible apply r_op) | (with_reducible apply r_c) | ((with_reducible apply r_var); exact rfl) | (with_reducible apply r_consA) | (with_reducible apply r_nilA)
  | (with_reducible apply r_call) | (with_reducible apply r_callS) | (with_reducible apply r_CB) | (with_reducible apply r_I0) | (with_reducible apply r_test) | (with_reducible apply r_bl)
  | (with_reducible apply r_B) | (with_reducible apply r_un) | (with_reducible apply r_U) | ((with_reducible apply r_eq); exact rfl) | ((with_reducible apply r_ne); exact rfl)
  | (with_reducible apply r_and) | (with_reducible apply r_or) | (with_reducible apply r_not) | (with_reducible apply r_andV) | (with_reducible apply r_orV) | (with_reducible apply r_notV) | (with_reducible apply r_ifE)
  | (with_reducible apply r_asg) | (with_reducible apply r_sub) | (with_reducible apply r_par) | (with_reducible apply r_drop) | (with_reducible apply r_brk) | (with_reducible apply r_cont)
  | (with_reducible apply r_fld) | (with_reducible apply r_tup) | (with_reducible apply r_lst))
local macro_rules | `(tactic| walk_at "go") => `(tactic| repeat walk_at "go1")
local macro_rules | `(tactic| walk_at "go1") => `(tactic| first | (with_reducible apply r_make) | (with_reducible apply r_makeS))
local macro_rules | `(tactic| walk_at "go1") => `(tactic| first | (with_reducible apply r_for) | (with_reducible apply r_iRng1) | (with_reducible apply r_iList))
local macro_rules | `(tactic| walk_at "go1") => `(tactic| first | ((with_reducible apply r_ixL); exact SqL.of upd_same; exact rfl) | ((with_reducible apply r_ixT); exact SqT.of upd_same; exact rfl))
local macro_rules | `(tactic| walk_at "go2") => `(tactic| first | (refine Or.inl ⟨_, rfl, ?_⟩) | (refine ⟨_, rfl, ?_⟩) | (refine ⟨_, _, rfl, ?_⟩) | (refine ⟨_, _, rfl, rfl, ?_⟩))
local macro_rules | `(tactic| walk_at "go") => `(tactic| repeat first | walk_at "go1" | walk_at "go2")
local macro_rules | `(tactic| walk_at "go1") => `(tactic| ((with_reducible apply r_setL); exact upd_same; exact rfl))
local macro_rules | `(tactic| walk_at "go2") => `(tactic| (refine And.intro (by first | omega | (dsimp only; omega) | decide) ?_))
local macro_rules | `(tactic| walk_at "go1") => `(tactic| (with_reducible apply r_sfld))
local macro_rules | `(tactic| walk_at "go2") => `(tactic| (refine And.intro (show CPow _ _ from ⟨by decide, by decide, by decide⟩) ?_))
local macro_rules | `(tactic| walk_at "go2") => `(tactic| (refine And.intro (by assumption) ?_))
local macro_rules | `(tactic| walk_at "go1") => `(tactic| first | (with_reducible apply ite_nt) | (with_reducible apply ite_nf) | (with_reducible apply iteT) | (with_reducible apply iteF))
local macro_rules | `(tactic| walk_at "go1") => `(tactic| first | (with_reducible apply r_gname) | (with_reducible apply r_gcons) | (with_reducible apply r_gnil) | (with_reducible apply r_dput) | (with_reducible apply r_dnew) | (with_reducible apply r_lc) | (with_reducible apply r_fmt) | (with_reducible apply r_jnil) | (with_reducible apply r_jcons))
local macro_rules | `(tactic| walk_at "js") => `(tactic| repeat first | walk_at "go1" | (refine And.intro (by ((try dsimp only); (try simp only [sapp_nil, sapp_len]); omega)) ?_) | (refine ⟨_, rfl, (by ((try dsimp only); (try simp only [sapp_nil, sapp_len]); omega)), ?_⟩) | walk_at "go2")
/-! ### the text by places -/
def top (i : Nat) : Stmt := PySem.Challenge.pw_linkwork_k56_kernels_and_contradictions.main.body.getD i (.Pass ⟨0, 0, 0, 0⟩)
abbrev s_Ratio___init__ : Stmt := inClass (top 7) 0
abbrev s_Ratio___eq__ : Stmt := inClass (top 7) 1
abbrev s_Ratio___add__ : Stmt := inClass (top 7) 2
abbrev s_Ratio___sub__ : Stmt := inClass (top 7) 3
abbrev s_Ratio___mul__ : Stmt := inClass (top 7) 4
abbrev s_Ratio___neg__ : Stmt := inClass (top 7) 5
abbrev s_Elimination___init__ : Stmt := inClass (top 9) 0
abbrev s_Elimination__integers : Stmt := inClass (top 9) 1
abbrev s_Elimination__reduced : Stmt := inClass (top 9) 2
abbrev s_Elimination_free_columns : Stmt := inClass (top 9) 3
abbrev s_Elimination_solution : Stmt := inClass (top 9) 4
abbrev s_solve_linear : Stmt := top 10
abbrev s_kernel : Stmt := top 11
abbrev s_contradiction : Stmt := top 12
abbrev s__without_constants : Stmt := top 13
abbrev s__common_bottom : Stmt := top 14
abbrev s__law_stream : Stmt := top 16
abbrev s__law_draw : Stmt := top 17
abbrev s__law_matrix : Stmt := top 18
abbrev s__law_part : Stmt := top 19
abbrev s__law_lowest : Stmt := top 20
abbrev s__law_sum : Stmt := top 21
abbrev s__law_times : Stmt := top 22
abbrev s__law_over : Stmt := top 23
abbrev s__law_ratios : Stmt := top 24
abbrev s__law_pairs : Stmt := top 25
abbrev s__law_left : Stmt := top 26
abbrev s__law_basis : Stmt := top 27
abbrev s__law_rank : Stmt := top 28
abbrev s__law_dot : Stmt := top 29
abbrev s__law_is_kernel : Stmt := top 30
abbrev s__law_is_shown : Stmt := top 31
abbrev s_law : Stmt := top 32
/-! ### the head's facts -/
def d_Ratio___init__ : He.DefD := ⟨(("Ratio" : Str), some ("__init__" : Str)), ("__init__" : Str), ("Ratio.__init__" : Str), defArgs s_Ratio___init__, defBody s_Ratio___init__, defScope s_Ratio___init__, [(.int (1))], []⟩
def d_Ratio___eq__ : He.DefD := ⟨(("Ratio" : Str), some ("__eq__" : Str)), ("__eq__" : Str), ("Ratio.__eq__" : Str), defArgs s_Ratio___eq__, defBody s_Ratio___eq__, defScope s_Ratio___eq__, [], []⟩
def d_Ratio___add__ : He.DefD := ⟨(("Ratio" : Str), some ("__add__" : Str)), ("__add__" : Str), ("Ratio.__add__" : Str), defArgs s_Ratio___add__, defBody s_Ratio___add__, defScope s_Ratio___add__, [], []⟩
def d_Ratio___sub__ : He.DefD := ⟨(("Ratio" : Str), some ("__sub__" : Str)), ("__sub__" : Str), ("Ratio.__sub__" : Str), defArgs s_Ratio___sub__, defBody s_Ratio___sub__, defScope s_Ratio___sub__, [], []⟩
def d_Ratio___mul__ : He.DefD := ⟨(("Ratio" : Str), some ("__mul__" : Str)), ("__mul__" : Str), ("Ratio.__mul__" : Str), defArgs s_Ratio___mul__, defBody s_Ratio___mul__, defScope s_Ratio___mul__, [], []⟩
def d_Ratio___neg__ : He.DefD := ⟨(("Ratio" : Str), some ("__neg__" : Str)), ("__neg__" : Str), ("Ratio.__neg__" : Str), defArgs s_Ratio___neg__, defBody s_Ratio___neg__, defScope s_Ratio___neg__, [], []⟩
def d_Elimination___init__ : He.DefD := ⟨(("Elimination" : Str), some ("__init__" : Str)), ("__init__" : Str), ("Elimination.__init__" : Str), defArgs s_Elimination___init__, defBody s_Elimination___init__, defScope s_Elimination___init__, [], []⟩
def d_Elimination__integers : He.DefD := ⟨(("Elimination" : Str), some ("_integers" : Str)), ("_integers" : Str), ("Elimination._integers" : Str), defArgs s_Elimination__integers, defBody s_Elimination__integers, defScope s_Elimination__integers, [], []⟩
def d_Elimination__reduced : He.DefD := ⟨(("Elimination" : Str), some ("_reduced" : Str)), ("_reduced" : Str), ("Elimination._reduced" : Str), defArgs s_Elimination__reduced, defBody s_Elimination__reduced, defScope s_Elimination__reduced, [], []⟩
def d_Elimination_free_columns : He.DefD := ⟨(("Elimination" : Str), some ("free_columns" : Str)), ("free_columns" : Str), ("Elimination.free_columns" : Str), defArgs s_Elimination_free_columns, defBody s_Elimination_free_columns, defScope s_Elimination_free_columns, [], []⟩
def d_Elimination_solution : He.DefD := ⟨(("Elimination" : Str), some ("solution" : Str)), ("solution" : Str), ("Elimination.solution" : Str), defArgs s_Elimination_solution, defBody s_Elimination_solution, defScope s_Elimination_solution, [], []⟩
def d_solve_linear : He.DefD := ⟨(("solve_linear" : Str), none), ("solve_linear" : Str), ("solve_linear" : Str), defArgs s_solve_linear, defBody s_solve_linear, defScope s_solve_linear, [], []⟩
def d_kernel : He.DefD := ⟨(("kernel" : Str), none), ("kernel" : Str), ("kernel" : Str), defArgs s_kernel, defBody s_kernel, defScope s_kernel, [], []⟩
def d_contradiction : He.DefD := ⟨(("contradiction" : Str), none), ("contradiction" : Str), ("contradiction" : Str), defArgs s_contradiction, defBody s_contradiction, defScope s_contradiction, [], []⟩
def d__without_constants : He.DefD := ⟨(("_without_constants" : Str), none), ("_without_constants" : Str), ("_without_constants" : Str), defArgs s__without_constants, defBody s__without_constants, defScope s__without_constants, [], []⟩
def d__common_bottom : He.DefD := ⟨(("_common_bottom" : Str), none), ("_common_bottom" : Str), ("_common_bottom" : Str), defArgs s__common_bottom, defBody s__common_bottom, defScope s__common_bottom, [], []⟩
def d__law_stream : He.DefD := ⟨(("_law_stream" : Str), none), ("_law_stream" : Str), ("_law_stream" : Str), defArgs s__law_stream, defBody s__law_stream, defScope s__law_stream, [], []⟩
def d__law_draw : He.DefD := ⟨(("_law_draw" : Str), none), ("_law_draw" : Str), ("_law_draw" : Str), defArgs s__law_draw, defBody s__law_draw, defScope s__law_draw, [], []⟩
def d__law_matrix : He.DefD := ⟨(("_law_matrix" : Str), none), ("_law_matrix" : Str), ("_law_matrix" : Str), defArgs s__law_matrix, defBody s__law_matrix, defScope s__law_matrix, [], []⟩
def d__law_part : He.DefD := ⟨(("_law_part" : Str), none), ("_law_part" : Str), ("_law_part" : Str), defArgs s__law_part, defBody s__law_part, defScope s__law_part, [], []⟩
def d__law_lowest : He.DefD := ⟨(("_law_lowest" : Str), none), ("_law_lowest" : Str), ("_law_lowest" : Str), defArgs s__law_lowest, defBody s__law_lowest, defScope s__law_lowest, [], []⟩
def d__law_sum : He.DefD := ⟨(("_law_sum" : Str), none), ("_law_sum" : Str), ("_law_sum" : Str), defArgs s__law_sum, defBody s__law_sum, defScope s__law_sum, [], []⟩
def d__law_times : He.DefD := ⟨(("_law_times" : Str), none), ("_law_times" : Str), ("_law_times" : Str), defArgs s__law_times, defBody s__law_times, defScope s__law_times, [], []⟩
def d__law_over : He.DefD := ⟨(("_law_over" : Str), none), ("_law_over" : Str), ("_law_over" : Str), defArgs s__law_over, defBody s__law_over, defScope s__law_over, [], []⟩
def d__law_ratios : He.DefD := ⟨(("_law_ratios" : Str), none), ("_law_ratios" : Str), ("_law_ratios" : Str), defArgs s__law_ratios, defBody s__law_ratios, defScope s__law_ratios, [], []⟩
def d__law_pairs : He.DefD := ⟨(("_law_pairs" : Str), none), ("_law_pairs" : Str), ("_law_pairs" : Str), defArgs s__law_pairs, defBody s__law_pairs, defScope s__law_pairs, [], []⟩
def d__law_left : He.DefD := ⟨(("_law_left" : Str), none), ("_law_left" : Str), ("_law_left" : Str), defArgs s__law_left, defBody s__law_left, defScope s__law_left, [], []⟩
def d__law_basis : He.DefD := ⟨(("_law_basis" : Str), none), ("_law_basis" : Str), ("_law_basis" : Str), defArgs s__law_basis, defBody s__law_basis, defScope s__law_basis, [], []⟩
def d__law_rank : He.DefD := ⟨(("_law_rank" : Str), none), ("_law_rank" : Str), ("_law_rank" : Str), defArgs s__law_rank, defBody s__law_rank, defScope s__law_rank, [], []⟩
def d__law_dot : He.DefD := ⟨(("_law_dot" : Str), none), ("_law_dot" : Str), ("_law_dot" : Str), defArgs s__law_dot, defBody s__law_dot, defScope s__law_dot, [], []⟩
def d__law_is_kernel : He.DefD := ⟨(("_law_is_kernel" : Str), none), ("_law_is_kernel" : Str), ("_law_is_kernel" : Str), defArgs s__law_is_kernel, defBody s__law_is_kernel, defScope s__law_is_kernel, [], []⟩
def d__law_is_shown : He.DefD := ⟨(("_law_is_shown" : Str), none), ("_law_is_shown" : Str), ("_law_is_shown" : Str), defArgs s__law_is_shown, defBody s__law_is_shown, defScope s__law_is_shown, [], []⟩
def d_law : He.DefD := ⟨(("law" : Str), none), ("law" : Str), ("law" : Str), defArgs s_law, defBody s_law, defScope s_law, [], []⟩
def fnL : List He.DefD := [d_Ratio___init__, d_Ratio___eq__, d_Ratio___add__, d_Ratio___sub__, d_Ratio___mul__, d_Ratio___neg__, d_Elimination___init__, d_Elimination__integers, d_Elimination__reduced, d_Elimination_free_columns, d_Elimination_solution, d_solve_linear, d_kernel, d_contradiction, d__without_constants, d__common_bottom, d__law_stream, d__law_draw, d__law_matrix, d__law_part, d__law_lowest, d__law_sum, d__law_times, d__law_over, d__law_ratios, d__law_pairs, d__law_left, d__law_basis, d__law_rank, d__law_dot, d__law_is_kernel, d__law_is_shown, d_law]
def faL : List He.Fa := [.glo ("solve_linear" : Str), .glo ("kernel" : Str), .glo ("contradiction" : Str), .glo ("_without_constants" : Str), .glo ("_common_bottom" : Str), .glo ("_law_stream" : Str), .glo ("_law_draw" : Str), .glo ("_law_matrix" : Str), .glo ("_law_part" : Str), .glo ("_law_lowest" : Str), .glo ("_law_sum" : Str), .glo ("_law_times" : Str), .glo ("_law_over" : Str), .glo ("_law_ratios" : Str), .glo ("_law_pairs" : Str), .glo ("_law_left" : Str), .glo ("_law_basis" : Str), .glo ("_law_rank" : Str), .glo ("_law_dot" : Str), .glo ("_law_is_kernel" : Str), .glo ("_law_is_shown" : Str), .glo ("law" : Str), .glo ("LinkworkError" : Str), .glo ("ByZero" : Str), .glo ("NoSolution" : Str), .glo ("ManySolutions" : Str), .glo ("Ratio" : Str), .glo ("Elimination" : Str), .free ("abs" : Str), .free ("any" : Str), .free ("enumerate" : Str), .free ("int" : Str), .free ("isinstance" : Str), .free ("len" : Str), .free ("list" : Str), .free ("max" : Str), .free ("range" : Str), .free ("sorted" : Str), .free ("zip" : Str), .exc ("LinkworkError" : Str), .exc ("ByZero" : Str), .exc ("NoSolution" : Str), .exc ("ManySolutions" : Str), .cls ("Ratio" : Str), .noat ("Ratio" : Str) ("top" : Str), .noat ("Ratio" : Str) ("bottom" : Str), .mkr ("Ratio" : Str), .meth ("Ratio" : Str) ("__eq__" : Str), .meth ("Ratio" : Str) ("__add__" : Str), .meth ("Ratio" : Str) ("__sub__" : Str), .meth ("Ratio" : Str) ("__mul__" : Str), .meth ("Ratio" : Str) ("__neg__" : Str), .cls ("Elimination" : Str), .noat ("Elimination" : Str) ("columns" : Str), .noat ("Elimination" : Str) ("scale" : Str), .noat ("Elimination" : Str) ("basis" : Str), .noat ("Elimination" : Str) ("rows" : Str), .noat ("Elimination" : Str) ("leads" : Str), .noat ("Elimination" : Str) ("wrong" : Str), .mkr ("Elimination" : Str), .meth ("Elimination" : Str) ("_integers" : Str), .meth ("Elimination" : Str) ("_reduced" : Str), .meth ("Elimination" : Str) ("free_columns" : Str), .meth ("Elimination" : Str) ("solution" : Str), .exm ("ByZero" : Str) ("ByZero" : Str) true, .exm ("NoSolution" : Str) ("NoSolution" : Str) true, .exm ("ManySolutions" : Str) ("ManySolutions" : Str) true, .exm ("ManySolutions" : Str) ("NoSolution" : Str) false, .exm ("NoSolution" : Str) ("ManySolutions" : Str) false]
def ex_ne_Ratio (K : PySem.W.Frag) : Bool := He.eqO (PySem.W.findIn K (.ref (He.ga K ("Ratio" : Str))) "__ne__") (some (some (.builtin "object.__ne__")))
def ex_ob_Ratio (K : PySem.W.Frag) : Bool := decide (PySem.W.subIn K (.ref (He.ga K ("Ratio" : Str))) (.type "object") = some true)
def ex_imp_gcd (K : PySem.W.Frag) : Bool := He.eqO (PySem.W.nsIn K mainGlobals ("gcd" : Str)) (some (some (.builtin "math.gcd")))
def ex_imp_lcm (K : PySem.W.Frag) : Bool := He.eqO (PySem.W.nsIn K mainGlobals ("lcm" : Str)) (some (some (.builtin "math.lcm")))
def ex_excC_LinkworkError (K : PySem.W.Frag) : Bool := excCB K (He.ga K ("LinkworkError" : Str))
def ex_excC_ByZero (K : PySem.W.Frag) : Bool := excCB K (He.ga K ("ByZero" : Str))
def ex_excC_NoSolution (K : PySem.W.Frag) : Bool := excCB K (He.ga K ("NoSolution" : Str))
def ex_excC_ManySolutions (K : PySem.W.Frag) : Bool := excCB K (He.ga K ("ManySolutions" : Str))
def ex_isi_Ratio (K : PySem.W.Frag) : Bool := isiCB K (He.ga K ("Ratio" : Str))
def ex_first_Ratio (K : PySem.W.Frag) : Bool := PySem.W.selfFirst K (He.ga K ("Ratio" : Str))
def ex_isi_Elimination (K : PySem.W.Frag) : Bool := isiCB K (He.ga K ("Elimination" : Str))
def ex_first_Elimination (K : PySem.W.Frag) : Bool := PySem.W.selfFirst K (He.ga K ("Elimination" : Str))
def ex_kit_ByZero_LinkworkError (K : PySem.W.Frag) : Bool := decide (PySem.W.kitOne K (.ref (He.ga K ("ByZero" : Str))) (.ref (He.ga K ("LinkworkError" : Str))) = some true)
def ex_kit_NoSolution_LinkworkError (K : PySem.W.Frag) : Bool := decide (PySem.W.kitOne K (.ref (He.ga K ("NoSolution" : Str))) (.ref (He.ga K ("LinkworkError" : Str))) = some true)
def ex_kit_ManySolutions_LinkworkError (K : PySem.W.Frag) : Bool := decide (PySem.W.kitOne K (.ref (He.ga K ("ManySolutions" : Str))) (.ref (He.ga K ("LinkworkError" : Str))) = some true)
def ex_kit_NoSolution_ManySolutions (K : PySem.W.Frag) : Bool := decide (PySem.W.kitOne K (.ref (He.ga K ("NoSolution" : Str))) (.ref (He.ga K ("ManySolutions" : Str))) = some false)
def ex_kit_Ratio_Ratio (K : PySem.W.Frag) : Bool := decide (PySem.W.kitOne K (.ref (He.ga K ("Ratio" : Str))) (.ref (He.ga K ("Ratio" : Str))) = some true)
def ex_kit_t_int_t_bool (K : PySem.W.Frag) : Bool := decide (PySem.W.kitOne K (.type "int") (.type "bool") = some false)
def ex_kit_t_list_t_list (K : PySem.W.Frag) : Bool := decide (PySem.W.kitOne K (.type "list") (.type "list") = some true)
def ex_kit_t_tuple_t_list (K : PySem.W.Frag) : Bool := decide (PySem.W.kitOne K (.type "tuple") (.type "list") = some false)
def ex_kit_t_tuple_t_tuple (K : PySem.W.Frag) : Bool := decide (PySem.W.kitOne K (.type "tuple") (.type "tuple") = some true)
def ex_kit_t_list_t_tuple (K : PySem.W.Frag) : Bool := decide (PySem.W.kitOne K (.type "list") (.type "tuple") = some false)
def exL : List (PySem.W.Frag → Bool) := [ex_ne_Ratio, ex_ob_Ratio, ex_imp_gcd, ex_imp_lcm, ex_excC_LinkworkError, ex_excC_ByZero, ex_excC_NoSolution, ex_excC_ManySolutions, ex_isi_Ratio, ex_first_Ratio, ex_isi_Elimination, ex_first_Elimination, ex_kit_ByZero_LinkworkError, ex_kit_NoSolution_LinkworkError, ex_kit_ManySolutions_LinkworkError, ex_kit_NoSolution_ManySolutions, ex_kit_Ratio_Ratio, ex_kit_t_int_t_bool, ex_kit_t_list_t_list, ex_kit_t_tuple_t_list, ex_kit_t_tuple_t_tuple, ex_kit_t_list_t_tuple]
def exB (K : PySem.W.Frag) : Bool := exL.all fun f => f K
abbrev R : PySem.W.OpenRow := PySem.W.OpenLaw.row PySem.Challenge.rw_linkwork_k56_kernels_and_contradictions
abbrev hk : PySem.W.Hook := hookS 5 faL fnL exB
def ob (s : PySem.W.SharedT) : AlS := obsS 5 faL fnL exB (HeadRun.getT s)
theorem ob_eq (s : PySem.W.SharedT) : ob s = hk.obs s.abs := obsS_eq (HeadRun.getT_eq s)
def looseL : List PySem.Str := [("__name__" : Str), ("LinkworkError" : Str), ("ByZero" : Str), ("NoSolution" : Str), ("ManySolutions" : Str), ("Ratio" : Str), ("Elimination" : Str), ("solve_linear" : Str), ("kernel" : Str), ("contradiction" : Str), ("_without_constants" : Str), ("_common_bottom" : Str), ("_law_stream" : Str), ("_law_draw" : Str), ("_law_matrix" : Str), ("_law_part" : Str), ("_law_lowest" : Str), ("_law_sum" : Str), ("_law_times" : Str), ("_law_over" : Str), ("_law_ratios" : Str), ("_law_pairs" : Str), ("_law_left" : Str), ("_law_basis" : Str), ("_law_rank" : Str), ("_law_dot" : Str), ("_law_is_kernel" : Str), ("_law_is_shown" : Str)]
abbrev qv : Program := PySem.W.view R.prog [0, 32]
theorem run (w : World) : HeadRun.RunEqI R qv hk ob 30000 looseL w := by
  unfold HeadRun.RunEqI
  kernel_rfl
/-! ### the facts by names -/
def Top (w : World) (K : PySem.W.Frag) (mg : Str → Option Value) : Prop := ∃ h : Heap, K.In h ∧ h.Ns mainGlobals mg ∧ SaysS faL fnL exB K
noncomputable def fdOf (K : PySem.W.Frag) (d : He.DefD) : FuncData := @Classical.epsilon FuncData ⟨PySem.W.fnOf d.name d.qual d.params d.body d.scope .none .none .none .none none .none .none⟩ fun fd => FunD K d.name d.qual d.params d.body d.scope (d.dvs K) (d.kws K) (He.fAd K d.at_) fd
section
variable {w : World} {K : PySem.W.Frag} {mg : Str → Option Value}
theorem Top.fun_ (T : Top w K mg) (i : Nat) {d : He.DefD} (h : fnL[i]? = some d) : FunD K d.name d.qual d.params d.body d.scope (d.dvs K) (d.kws K) (He.fAd K d.at_) (fdOf K d) := by
  obtain ⟨_, _, _, c⟩ := T
  exact Classical.epsilon_spec (c.d.def_ i h)
theorem Top.fact (T : Top w K mg) (i : Nat) {f : He.Fa} (h : faL[i]? = some f) : f.ok K = true := by
  obtain ⟨_, _, _, c⟩ := T
  exact c.d.fact i h
theorem Top.ex (T : Top w K mg) (i : Nat) {f : PySem.W.Frag → Bool} (h : exL[i]? = some f) : f K = true := by
  obtain ⟨_, _, _, c⟩ := T
  exact List.all_eq_true.mp (show (exL.all fun f => f K) = true from c.more) f (List.mem_of_getElem? h)
theorem Top.g_solve_linear (T : Top w K mg) : mg ("solve_linear" : Str) = some (.ref (He.ga K ("solve_linear" : Str))) := by obtain ⟨h, X, G, c⟩ := T; exact He.glo_ok X G (c.d.fact 0 rfl)
theorem Top.g_kernel (T : Top w K mg) : mg ("kernel" : Str) = some (.ref (He.ga K ("kernel" : Str))) := by obtain ⟨h, X, G, c⟩ := T; exact He.glo_ok X G (c.d.fact 1 rfl)
theorem Top.g_contradiction (T : Top w K mg) : mg ("contradiction" : Str) = some (.ref (He.ga K ("contradiction" : Str))) := by obtain ⟨h, X, G, c⟩ := T; exact He.glo_ok X G (c.d.fact 2 rfl)
theorem Top.g__without_constants (T : Top w K mg) : mg ("_without_constants" : Str) = some (.ref (He.ga K ("_without_constants" : Str))) := by obtain ⟨h, X, G, c⟩ := T; exact He.glo_ok X G (c.d.fact 3 rfl)
theorem Top.g__common_bottom (T : Top w K mg) : mg ("_common_bottom" : Str) = some (.ref (He.ga K ("_common_bottom" : Str))) := by obtain ⟨h, X, G, c⟩ := T; exact He.glo_ok X G (c.d.fact 4 rfl)
theorem Top.g__law_stream (T : Top w K mg) : mg ("_law_stream" : Str) = some (.ref (He.ga K ("_law_stream" : Str))) := by obtain ⟨h, X, G, c⟩ := T; exact He.glo_ok X G (c.d.fact 5 rfl)
theorem Top.g__law_draw (T : Top w K mg) : mg ("_law_draw" : Str) = some (.ref (He.ga K ("_law_draw" : Str))) := by obtain ⟨h, X, G, c⟩ := T; exact He.glo_ok X G (c.d.fact 6 rfl)
theorem Top.g__law_matrix (T : Top w K mg) : mg ("_law_matrix" : Str) = some (.ref (He.ga K ("_law_matrix" : Str))) := by obtain ⟨h, X, G, c⟩ := T; exact He.glo_ok X G (c.d.fact 7 rfl)
theorem Top.g__law_part (T : Top w K mg) : mg ("_law_part" : Str) = some (.ref (He.ga K ("_law_part" : Str))) := by obtain ⟨h, X, G, c⟩ := T; exact He.glo_ok X G (c.d.fact 8 rfl)
theorem Top.g__law_lowest (T : Top w K mg) : mg ("_law_lowest" : Str) = some (.ref (He.ga K ("_law_lowest" : Str))) := by obtain ⟨h, X, G, c⟩ := T; exact He.glo_ok X G (c.d.fact 9 rfl)
theorem Top.g__law_sum (T : Top w K mg) : mg ("_law_sum" : Str) = some (.ref (He.ga K ("_law_sum" : Str))) := by obtain ⟨h, X, G, c⟩ := T; exact He.glo_ok X G (c.d.fact 10 rfl)
theorem Top.g__law_times (T : Top w K mg) : mg ("_law_times" : Str) = some (.ref (He.ga K ("_law_times" : Str))) := by obtain ⟨h, X, G, c⟩ := T; exact He.glo_ok X G (c.d.fact 11 rfl)
theorem Top.g__law_over (T : Top w K mg) : mg ("_law_over" : Str) = some (.ref (He.ga K ("_law_over" : Str))) := by obtain ⟨h, X, G, c⟩ := T; exact He.glo_ok X G (c.d.fact 12 rfl)
theorem Top.g__law_ratios (T : Top w K mg) : mg ("_law_ratios" : Str) = some (.ref (He.ga K ("_law_ratios" : Str))) := by obtain ⟨h, X, G, c⟩ := T; exact He.glo_ok X G (c.d.fact 13 rfl)
theorem Top.g__law_pairs (T : Top w K mg) : mg ("_law_pairs" : Str) = some (.ref (He.ga K ("_law_pairs" : Str))) := by obtain ⟨h, X, G, c⟩ := T; exact He.glo_ok X G (c.d.fact 14 rfl)
theorem Top.g__law_left (T : Top w K mg) : mg ("_law_left" : Str) = some (.ref (He.ga K ("_law_left" : Str))) := by obtain ⟨h, X, G, c⟩ := T; exact He.glo_ok X G (c.d.fact 15 rfl)
theorem Top.g__law_basis (T : Top w K mg) : mg ("_law_basis" : Str) = some (.ref (He.ga K ("_law_basis" : Str))) := by obtain ⟨h, X, G, c⟩ := T; exact He.glo_ok X G (c.d.fact 16 rfl)
theorem Top.g__law_rank (T : Top w K mg) : mg ("_law_rank" : Str) = some (.ref (He.ga K ("_law_rank" : Str))) := by obtain ⟨h, X, G, c⟩ := T; exact He.glo_ok X G (c.d.fact 17 rfl)
theorem Top.g__law_dot (T : Top w K mg) : mg ("_law_dot" : Str) = some (.ref (He.ga K ("_law_dot" : Str))) := by obtain ⟨h, X, G, c⟩ := T; exact He.glo_ok X G (c.d.fact 18 rfl)
theorem Top.g__law_is_kernel (T : Top w K mg) : mg ("_law_is_kernel" : Str) = some (.ref (He.ga K ("_law_is_kernel" : Str))) := by obtain ⟨h, X, G, c⟩ := T; exact He.glo_ok X G (c.d.fact 19 rfl)
theorem Top.g__law_is_shown (T : Top w K mg) : mg ("_law_is_shown" : Str) = some (.ref (He.ga K ("_law_is_shown" : Str))) := by obtain ⟨h, X, G, c⟩ := T; exact He.glo_ok X G (c.d.fact 20 rfl)
theorem Top.g_law (T : Top w K mg) : mg ("law" : Str) = some (.ref (He.ga K ("law" : Str))) := by obtain ⟨h, X, G, c⟩ := T; exact He.glo_ok X G (c.d.fact 21 rfl)
theorem Top.g_LinkworkError (T : Top w K mg) : mg ("LinkworkError" : Str) = some (.ref (He.ga K ("LinkworkError" : Str))) := by obtain ⟨h, X, G, c⟩ := T; exact He.glo_ok X G (c.d.fact 22 rfl)
theorem Top.g_ByZero (T : Top w K mg) : mg ("ByZero" : Str) = some (.ref (He.ga K ("ByZero" : Str))) := by obtain ⟨h, X, G, c⟩ := T; exact He.glo_ok X G (c.d.fact 23 rfl)
theorem Top.g_NoSolution (T : Top w K mg) : mg ("NoSolution" : Str) = some (.ref (He.ga K ("NoSolution" : Str))) := by obtain ⟨h, X, G, c⟩ := T; exact He.glo_ok X G (c.d.fact 24 rfl)
theorem Top.g_ManySolutions (T : Top w K mg) : mg ("ManySolutions" : Str) = some (.ref (He.ga K ("ManySolutions" : Str))) := by obtain ⟨h, X, G, c⟩ := T; exact He.glo_ok X G (c.d.fact 25 rfl)
theorem Top.g_Ratio (T : Top w K mg) : mg ("Ratio" : Str) = some (.ref (He.ga K ("Ratio" : Str))) := by obtain ⟨h, X, G, c⟩ := T; exact He.glo_ok X G (c.d.fact 26 rfl)
theorem Top.g_Elimination (T : Top w K mg) : mg ("Elimination" : Str) = some (.ref (He.ga K ("Elimination" : Str))) := by obtain ⟨h, X, G, c⟩ := T; exact He.glo_ok X G (c.d.fact 27 rfl)
theorem Top.n_abs (T : Top w K mg) : mg ("abs" : Str) = none := by obtain ⟨h, X, G, c⟩ := T; exact He.free_ok X G (c.d.fact 28 rfl)
theorem Top.n_any (T : Top w K mg) : mg ("any" : Str) = none := by obtain ⟨h, X, G, c⟩ := T; exact He.free_ok X G (c.d.fact 29 rfl)
theorem Top.n_enumerate (T : Top w K mg) : mg ("enumerate" : Str) = none := by obtain ⟨h, X, G, c⟩ := T; exact He.free_ok X G (c.d.fact 30 rfl)
theorem Top.n_int (T : Top w K mg) : mg ("int" : Str) = none := by obtain ⟨h, X, G, c⟩ := T; exact He.free_ok X G (c.d.fact 31 rfl)
theorem Top.n_isinstance (T : Top w K mg) : mg ("isinstance" : Str) = none := by obtain ⟨h, X, G, c⟩ := T; exact He.free_ok X G (c.d.fact 32 rfl)
theorem Top.n_len (T : Top w K mg) : mg ("len" : Str) = none := by obtain ⟨h, X, G, c⟩ := T; exact He.free_ok X G (c.d.fact 33 rfl)
theorem Top.n_list (T : Top w K mg) : mg ("list" : Str) = none := by obtain ⟨h, X, G, c⟩ := T; exact He.free_ok X G (c.d.fact 34 rfl)
theorem Top.n_max (T : Top w K mg) : mg ("max" : Str) = none := by obtain ⟨h, X, G, c⟩ := T; exact He.free_ok X G (c.d.fact 35 rfl)
theorem Top.n_range (T : Top w K mg) : mg ("range" : Str) = none := by obtain ⟨h, X, G, c⟩ := T; exact He.free_ok X G (c.d.fact 36 rfl)
theorem Top.n_sorted (T : Top w K mg) : mg ("sorted" : Str) = none := by obtain ⟨h, X, G, c⟩ := T; exact He.free_ok X G (c.d.fact 37 rfl)
theorem Top.n_zip (T : Top w K mg) : mg ("zip" : Str) = none := by obtain ⟨h, X, G, c⟩ := T; exact He.free_ok X G (c.d.fact 38 rfl)
theorem Top.exc_LinkworkError (T : Top w K mg) : PySem.W.excIn K (He.ga K ("LinkworkError" : Str)) He.veBase "ValueError.__new__" = true ∧ PySem.W.keepIn K (.ref (He.ga K ("LinkworkError" : Str))) = true ∧ PySem.W.subIn K (.ref (He.ga K ("LinkworkError" : Str))) (.type "BaseException") = some true ∧ PySem.W.typeIn K (.ref (He.ga K ("LinkworkError" : Str))) = some (.type "type") := He.exc_ok (T.fact 39 rfl)
theorem Top.exc_ByZero (T : Top w K mg) : PySem.W.excIn K (He.ga K ("ByZero" : Str)) He.veBase "ValueError.__new__" = true ∧ PySem.W.keepIn K (.ref (He.ga K ("ByZero" : Str))) = true ∧ PySem.W.subIn K (.ref (He.ga K ("ByZero" : Str))) (.type "BaseException") = some true ∧ PySem.W.typeIn K (.ref (He.ga K ("ByZero" : Str))) = some (.type "type") := He.exc_ok (T.fact 40 rfl)
theorem Top.exc_NoSolution (T : Top w K mg) : PySem.W.excIn K (He.ga K ("NoSolution" : Str)) He.veBase "ValueError.__new__" = true ∧ PySem.W.keepIn K (.ref (He.ga K ("NoSolution" : Str))) = true ∧ PySem.W.subIn K (.ref (He.ga K ("NoSolution" : Str))) (.type "BaseException") = some true ∧ PySem.W.typeIn K (.ref (He.ga K ("NoSolution" : Str))) = some (.type "type") := He.exc_ok (T.fact 41 rfl)
theorem Top.exc_ManySolutions (T : Top w K mg) : PySem.W.excIn K (He.ga K ("ManySolutions" : Str)) He.veBase "ValueError.__new__" = true ∧ PySem.W.keepIn K (.ref (He.ga K ("ManySolutions" : Str))) = true ∧ PySem.W.subIn K (.ref (He.ga K ("ManySolutions" : Str))) (.type "BaseException") = some true ∧ PySem.W.typeIn K (.ref (He.ga K ("ManySolutions" : Str))) = some (.type "type") := He.exc_ok (T.fact 42 rfl)
theorem Top.cls_Ratio (T : Top w K mg) : Cls K (He.ga K ("Ratio" : Str)) := He.cls_ok (T.fact 43 rfl)
theorem Top.na_Ratio_top (T : Top w K mg) : NoAttr K (He.ga K ("Ratio" : Str)) ("top" : Str) := He.noat_ok (T.fact 44 rfl)
theorem Top.na_Ratio_bottom (T : Top w K mg) : NoAttr K (He.ga K ("Ratio" : Str)) ("bottom" : Str) := He.noat_ok (T.fact 45 rfl)
theorem Top.mk_Ratio (T : Top w K mg) : Mk K (He.ga K ("Ratio" : Str)) (He.ma K (He.ga K ("Ratio" : Str)) "__init__") := He.mkr_ok (T.fact 46 rfl)
theorem Top.m_Ratio___eq__ (T : Top w K mg) : Meth K (He.ga K ("Ratio" : Str)) ("__eq__" : Str) (He.ma K (He.ga K ("Ratio" : Str)) ("__eq__" : Str)) := He.meth_ok (T.fact 47 rfl)
theorem Top.m_Ratio___add__ (T : Top w K mg) : Meth K (He.ga K ("Ratio" : Str)) ("__add__" : Str) (He.ma K (He.ga K ("Ratio" : Str)) ("__add__" : Str)) := He.meth_ok (T.fact 48 rfl)
theorem Top.m_Ratio___sub__ (T : Top w K mg) : Meth K (He.ga K ("Ratio" : Str)) ("__sub__" : Str) (He.ma K (He.ga K ("Ratio" : Str)) ("__sub__" : Str)) := He.meth_ok (T.fact 49 rfl)
theorem Top.m_Ratio___mul__ (T : Top w K mg) : Meth K (He.ga K ("Ratio" : Str)) ("__mul__" : Str) (He.ma K (He.ga K ("Ratio" : Str)) ("__mul__" : Str)) := He.meth_ok (T.fact 50 rfl)
theorem Top.m_Ratio___neg__ (T : Top w K mg) : Meth K (He.ga K ("Ratio" : Str)) ("__neg__" : Str) (He.ma K (He.ga K ("Ratio" : Str)) ("__neg__" : Str)) := He.meth_ok (T.fact 51 rfl)
theorem Top.cls_Elimination (T : Top w K mg) : Cls K (He.ga K ("Elimination" : Str)) := He.cls_ok (T.fact 52 rfl)
theorem Top.na_Elimination_columns (T : Top w K mg) : NoAttr K (He.ga K ("Elimination" : Str)) ("columns" : Str) := He.noat_ok (T.fact 53 rfl)
theorem Top.na_Elimination_scale (T : Top w K mg) : NoAttr K (He.ga K ("Elimination" : Str)) ("scale" : Str) := He.noat_ok (T.fact 54 rfl)
theorem Top.na_Elimination_basis (T : Top w K mg) : NoAttr K (He.ga K ("Elimination" : Str)) ("basis" : Str) := He.noat_ok (T.fact 55 rfl)
theorem Top.na_Elimination_rows (T : Top w K mg) : NoAttr K (He.ga K ("Elimination" : Str)) ("rows" : Str) := He.noat_ok (T.fact 56 rfl)
theorem Top.na_Elimination_leads (T : Top w K mg) : NoAttr K (He.ga K ("Elimination" : Str)) ("leads" : Str) := He.noat_ok (T.fact 57 rfl)
theorem Top.na_Elimination_wrong (T : Top w K mg) : NoAttr K (He.ga K ("Elimination" : Str)) ("wrong" : Str) := He.noat_ok (T.fact 58 rfl)
theorem Top.mk_Elimination (T : Top w K mg) : Mk K (He.ga K ("Elimination" : Str)) (He.ma K (He.ga K ("Elimination" : Str)) "__init__") := He.mkr_ok (T.fact 59 rfl)
theorem Top.m_Elimination__integers (T : Top w K mg) : Meth K (He.ga K ("Elimination" : Str)) ("_integers" : Str) (He.ma K (He.ga K ("Elimination" : Str)) ("_integers" : Str)) := He.meth_ok (T.fact 60 rfl)
theorem Top.m_Elimination__reduced (T : Top w K mg) : Meth K (He.ga K ("Elimination" : Str)) ("_reduced" : Str) (He.ma K (He.ga K ("Elimination" : Str)) ("_reduced" : Str)) := He.meth_ok (T.fact 61 rfl)
theorem Top.m_Elimination_free_columns (T : Top w K mg) : Meth K (He.ga K ("Elimination" : Str)) ("free_columns" : Str) (He.ma K (He.ga K ("Elimination" : Str)) ("free_columns" : Str)) := He.meth_ok (T.fact 62 rfl)
theorem Top.m_Elimination_solution (T : Top w K mg) : Meth K (He.ga K ("Elimination" : Str)) ("solution" : Str) (He.ma K (He.ga K ("Elimination" : Str)) ("solution" : Str)) := He.meth_ok (T.fact 63 rfl)
theorem Top.exm_ByZero_ByZero (T : Top w K mg) : PySem.W.exmOne K (.ref (He.ga K ("ByZero" : Str))) (.ref (He.ga K ("ByZero" : Str))) = some true := He.exm_ok (T.fact 64 rfl)
theorem Top.exm_NoSolution_NoSolution (T : Top w K mg) : PySem.W.exmOne K (.ref (He.ga K ("NoSolution" : Str))) (.ref (He.ga K ("NoSolution" : Str))) = some true := He.exm_ok (T.fact 65 rfl)
theorem Top.exm_ManySolutions_ManySolutions (T : Top w K mg) : PySem.W.exmOne K (.ref (He.ga K ("ManySolutions" : Str))) (.ref (He.ga K ("ManySolutions" : Str))) = some true := He.exm_ok (T.fact 66 rfl)
theorem Top.exm_ManySolutions_NoSolution (T : Top w K mg) : PySem.W.exmOne K (.ref (He.ga K ("ManySolutions" : Str))) (.ref (He.ga K ("NoSolution" : Str))) = some false := He.exm_ok (T.fact 67 rfl)
theorem Top.exm_NoSolution_ManySolutions (T : Top w K mg) : PySem.W.exmOne K (.ref (He.ga K ("NoSolution" : Str))) (.ref (He.ga K ("ManySolutions" : Str))) = some false := He.exm_ok (T.fact 68 rfl)
theorem Top.x_ne_Ratio (T : Top w K mg) : ex_ne_Ratio K = true := T.ex 0 rfl
theorem Top.x_ob_Ratio (T : Top w K mg) : ex_ob_Ratio K = true := T.ex 1 rfl
theorem Top.x_imp_gcd (T : Top w K mg) : ex_imp_gcd K = true := T.ex 2 rfl
theorem Top.x_imp_lcm (T : Top w K mg) : ex_imp_lcm K = true := T.ex 3 rfl
theorem Top.x_excC_LinkworkError (T : Top w K mg) : ex_excC_LinkworkError K = true := T.ex 4 rfl
theorem Top.x_excC_ByZero (T : Top w K mg) : ex_excC_ByZero K = true := T.ex 5 rfl
theorem Top.x_excC_NoSolution (T : Top w K mg) : ex_excC_NoSolution K = true := T.ex 6 rfl
theorem Top.x_excC_ManySolutions (T : Top w K mg) : ex_excC_ManySolutions K = true := T.ex 7 rfl
theorem Top.x_isi_Ratio (T : Top w K mg) : ex_isi_Ratio K = true := T.ex 8 rfl
theorem Top.x_first_Ratio (T : Top w K mg) : ex_first_Ratio K = true := T.ex 9 rfl
theorem Top.x_isi_Elimination (T : Top w K mg) : ex_isi_Elimination K = true := T.ex 10 rfl
theorem Top.x_first_Elimination (T : Top w K mg) : ex_first_Elimination K = true := T.ex 11 rfl
theorem Top.x_kit_ByZero_LinkworkError (T : Top w K mg) : ex_kit_ByZero_LinkworkError K = true := T.ex 12 rfl
theorem Top.x_kit_NoSolution_LinkworkError (T : Top w K mg) : ex_kit_NoSolution_LinkworkError K = true := T.ex 13 rfl
theorem Top.x_kit_ManySolutions_LinkworkError (T : Top w K mg) : ex_kit_ManySolutions_LinkworkError K = true := T.ex 14 rfl
theorem Top.x_kit_NoSolution_ManySolutions (T : Top w K mg) : ex_kit_NoSolution_ManySolutions K = true := T.ex 15 rfl
theorem Top.x_kit_Ratio_Ratio (T : Top w K mg) : ex_kit_Ratio_Ratio K = true := T.ex 16 rfl
theorem Top.x_kit_t_int_t_bool (T : Top w K mg) : ex_kit_t_int_t_bool K = true := T.ex 17 rfl
theorem Top.x_kit_t_list_t_list (T : Top w K mg) : ex_kit_t_list_t_list K = true := T.ex 18 rfl
theorem Top.x_kit_t_tuple_t_list (T : Top w K mg) : ex_kit_t_tuple_t_list K = true := T.ex 19 rfl
theorem Top.x_kit_t_tuple_t_tuple (T : Top w K mg) : ex_kit_t_tuple_t_tuple K = true := T.ex 20 rfl
theorem Top.x_kit_t_list_t_tuple (T : Top w K mg) : ex_kit_t_list_t_tuple K = true := T.ex 21 rfl
theorem Top.gcdM (T : Top w K mg) : mg ("gcd" : Str) = some (.builtin "math.gcd") := by have e := T.x_imp_gcd; obtain ⟨h, X, G, c⟩ := T; exact PySem.W.mg_of X G (He.eqO_ok e)
theorem Top.lcmM (T : Top w K mg) : mg ("lcm" : Str) = some (.builtin "math.lcm") := by have e := T.x_imp_lcm; obtain ⟨h, X, G, c⟩ := T; exact PySem.W.mg_of X G (He.eqO_ok e)
theorem Top.f_Ratio___init__ (T : Top w K mg) : FunD K ("__init__" : Str) ("Ratio.__init__" : Str) (defArgs s_Ratio___init__) (defBody s_Ratio___init__) (defScope s_Ratio___init__) (d_Ratio___init__.dvs K) (d_Ratio___init__.kws K) (He.ma K (He.ga K ("Ratio" : Str)) ("__init__" : Str)) (fdOf K d_Ratio___init__) := T.fun_ 0 rfl
theorem Top.b0_Ratio___init__ (T : Top w K mg) : ∃ ds, Vals ((d_Ratio___init__.dvs K).drop 0) ds ∧ Binds K (fdOf K d_Ratio___init__) ["self", "numerator", "denominator"] ds := T.f_Ratio___init__.binds1 2 0 (by intro z; cases z) rfl fun _ _ _ _ _ _ _ us its h1 h2 => match us, its, h1, h2 with | [_, _], [_], _, _ => ⟨_, rfl, rfl⟩
theorem Top.b1_Ratio___init__ (T : Top w K mg) : ∃ ds, Vals ((d_Ratio___init__.dvs K).drop 1) ds ∧ Binds K (fdOf K d_Ratio___init__) ["self", "numerator", "denominator"] ds := T.f_Ratio___init__.binds1 3 1 (by intro z; cases z) rfl fun _ _ _ _ _ _ _ us its h1 h2 => match us, its, h1, h2 with | [_, _, _], [_], _, _ => ⟨_, rfl, rfl⟩
theorem sc_Ratio___init__ : FnScope ["self", "numerator", "denominator", "divisor"] ["self", "numerator", "denominator"] (defScope s_Ratio___init__) := ⟨rfl, rfl, rfl, by decide +kernel, rfl, by decide +kernel, by decide +kernel⟩
theorem Top.f_Ratio___eq__ (T : Top w K mg) : FunD K ("__eq__" : Str) ("Ratio.__eq__" : Str) (defArgs s_Ratio___eq__) (defBody s_Ratio___eq__) (defScope s_Ratio___eq__) (d_Ratio___eq__.dvs K) (d_Ratio___eq__.kws K) (He.ma K (He.ga K ("Ratio" : Str)) ("__eq__" : Str)) (fdOf K d_Ratio___eq__) := T.fun_ 1 rfl
theorem Top.b_Ratio___eq__ (T : Top w K mg) : Binds K (fdOf K d_Ratio___eq__) ["self", "other"] [] := (show FunD K ("__eq__" : Str) ("Ratio.__eq__" : Str) (defArgs s_Ratio___eq__) (defBody s_Ratio___eq__) (defScope s_Ratio___eq__) [] (d_Ratio___eq__.kws K) (He.ma K (He.ga K ("Ratio" : Str)) ("__eq__" : Str)) (fdOf K d_Ratio___eq__) from T.f_Ratio___eq__).bindsN fun _ _ _ _ _ _ us hl => match us, hl with | [_, _], _ => rfl
theorem sc_Ratio___eq__ : FnScope ["self", "other"] ["self", "other"] (defScope s_Ratio___eq__) := ⟨rfl, rfl, rfl, by decide +kernel, rfl, by decide +kernel, by decide +kernel⟩
theorem Top.f_Ratio___add__ (T : Top w K mg) : FunD K ("__add__" : Str) ("Ratio.__add__" : Str) (defArgs s_Ratio___add__) (defBody s_Ratio___add__) (defScope s_Ratio___add__) (d_Ratio___add__.dvs K) (d_Ratio___add__.kws K) (He.ma K (He.ga K ("Ratio" : Str)) ("__add__" : Str)) (fdOf K d_Ratio___add__) := T.fun_ 2 rfl
theorem Top.b_Ratio___add__ (T : Top w K mg) : Binds K (fdOf K d_Ratio___add__) ["self", "other"] [] := (show FunD K ("__add__" : Str) ("Ratio.__add__" : Str) (defArgs s_Ratio___add__) (defBody s_Ratio___add__) (defScope s_Ratio___add__) [] (d_Ratio___add__.kws K) (He.ma K (He.ga K ("Ratio" : Str)) ("__add__" : Str)) (fdOf K d_Ratio___add__) from T.f_Ratio___add__).bindsN fun _ _ _ _ _ _ us hl => match us, hl with | [_, _], _ => rfl
theorem sc_Ratio___add__ : FnScope ["self", "other"] ["self", "other"] (defScope s_Ratio___add__) := ⟨rfl, rfl, rfl, by decide +kernel, rfl, by decide +kernel, by decide +kernel⟩
theorem Top.f_Ratio___sub__ (T : Top w K mg) : FunD K ("__sub__" : Str) ("Ratio.__sub__" : Str) (defArgs s_Ratio___sub__) (defBody s_Ratio___sub__) (defScope s_Ratio___sub__) (d_Ratio___sub__.dvs K) (d_Ratio___sub__.kws K) (He.ma K (He.ga K ("Ratio" : Str)) ("__sub__" : Str)) (fdOf K d_Ratio___sub__) := T.fun_ 3 rfl
theorem Top.b_Ratio___sub__ (T : Top w K mg) : Binds K (fdOf K d_Ratio___sub__) ["self", "other"] [] := (show FunD K ("__sub__" : Str) ("Ratio.__sub__" : Str) (defArgs s_Ratio___sub__) (defBody s_Ratio___sub__) (defScope s_Ratio___sub__) [] (d_Ratio___sub__.kws K) (He.ma K (He.ga K ("Ratio" : Str)) ("__sub__" : Str)) (fdOf K d_Ratio___sub__) from T.f_Ratio___sub__).bindsN fun _ _ _ _ _ _ us hl => match us, hl with | [_, _], _ => rfl
theorem sc_Ratio___sub__ : FnScope ["self", "other"] ["self", "other"] (defScope s_Ratio___sub__) := ⟨rfl, rfl, rfl, by decide +kernel, rfl, by decide +kernel, by decide +kernel⟩
theorem Top.f_Ratio___mul__ (T : Top w K mg) : FunD K ("__mul__" : Str) ("Ratio.__mul__" : Str) (defArgs s_Ratio___mul__) (defBody s_Ratio___mul__) (defScope s_Ratio___mul__) (d_Ratio___mul__.dvs K) (d_Ratio___mul__.kws K) (He.ma K (He.ga K ("Ratio" : Str)) ("__mul__" : Str)) (fdOf K d_Ratio___mul__) := T.fun_ 4 rfl
theorem Top.b_Ratio___mul__ (T : Top w K mg) : Binds K (fdOf K d_Ratio___mul__) ["self", "other"] [] := (show FunD K ("__mul__" : Str) ("Ratio.__mul__" : Str) (defArgs s_Ratio___mul__) (defBody s_Ratio___mul__) (defScope s_Ratio___mul__) [] (d_Ratio___mul__.kws K) (He.ma K (He.ga K ("Ratio" : Str)) ("__mul__" : Str)) (fdOf K d_Ratio___mul__) from T.f_Ratio___mul__).bindsN fun _ _ _ _ _ _ us hl => match us, hl with | [_, _], _ => rfl
theorem sc_Ratio___mul__ : FnScope ["self", "other"] ["self", "other"] (defScope s_Ratio___mul__) := ⟨rfl, rfl, rfl, by decide +kernel, rfl, by decide +kernel, by decide +kernel⟩
theorem Top.f_Ratio___neg__ (T : Top w K mg) : FunD K ("__neg__" : Str) ("Ratio.__neg__" : Str) (defArgs s_Ratio___neg__) (defBody s_Ratio___neg__) (defScope s_Ratio___neg__) (d_Ratio___neg__.dvs K) (d_Ratio___neg__.kws K) (He.ma K (He.ga K ("Ratio" : Str)) ("__neg__" : Str)) (fdOf K d_Ratio___neg__) := T.fun_ 5 rfl
theorem Top.b_Ratio___neg__ (T : Top w K mg) : Binds K (fdOf K d_Ratio___neg__) ["self"] [] := (show FunD K ("__neg__" : Str) ("Ratio.__neg__" : Str) (defArgs s_Ratio___neg__) (defBody s_Ratio___neg__) (defScope s_Ratio___neg__) [] (d_Ratio___neg__.kws K) (He.ma K (He.ga K ("Ratio" : Str)) ("__neg__" : Str)) (fdOf K d_Ratio___neg__) from T.f_Ratio___neg__).bindsN fun _ _ _ _ _ _ us hl => match us, hl with | [_], _ => rfl
theorem sc_Ratio___neg__ : FnScope ["self"] ["self"] (defScope s_Ratio___neg__) := ⟨rfl, rfl, rfl, by decide +kernel, rfl, by decide +kernel, by decide +kernel⟩
theorem Top.f_Elimination___init__ (T : Top w K mg) : FunD K ("__init__" : Str) ("Elimination.__init__" : Str) (defArgs s_Elimination___init__) (defBody s_Elimination___init__) (defScope s_Elimination___init__) (d_Elimination___init__.dvs K) (d_Elimination___init__.kws K) (He.ma K (He.ga K ("Elimination" : Str)) ("__init__" : Str)) (fdOf K d_Elimination___init__) := T.fun_ 6 rfl
theorem Top.b_Elimination___init__ (T : Top w K mg) : Binds K (fdOf K d_Elimination___init__) ["self", "rows", "constants"] [] := (show FunD K ("__init__" : Str) ("Elimination.__init__" : Str) (defArgs s_Elimination___init__) (defBody s_Elimination___init__) (defScope s_Elimination___init__) [] (d_Elimination___init__.kws K) (He.ma K (He.ga K ("Elimination" : Str)) ("__init__" : Str)) (fdOf K d_Elimination___init__) from T.f_Elimination___init__).bindsN fun _ _ _ _ _ _ us hl => match us, hl with | [_, _, _], _ => rfl
theorem sc_Elimination___init__ : FnScope ["self", "rows", "constants", "at", "row", "constant", "reduced", "used", "column"] ["self", "rows", "constants"] (defScope s_Elimination___init__) := ⟨rfl, rfl, rfl, by decide +kernel, rfl, by decide +kernel, by decide +kernel⟩
theorem Top.f_Elimination__integers (T : Top w K mg) : FunD K ("_integers" : Str) ("Elimination._integers" : Str) (defArgs s_Elimination__integers) (defBody s_Elimination__integers) (defScope s_Elimination__integers) (d_Elimination__integers.dvs K) (d_Elimination__integers.kws K) (He.ma K (He.ga K ("Elimination" : Str)) ("_integers" : Str)) (fdOf K d_Elimination__integers) := T.fun_ 7 rfl
theorem Top.b_Elimination__integers (T : Top w K mg) : Binds K (fdOf K d_Elimination__integers) ["self", "row", "constant"] [] := (show FunD K ("_integers" : Str) ("Elimination._integers" : Str) (defArgs s_Elimination__integers) (defBody s_Elimination__integers) (defScope s_Elimination__integers) [] (d_Elimination__integers.kws K) (He.ma K (He.ga K ("Elimination" : Str)) ("_integers" : Str)) (fdOf K d_Elimination__integers) from T.f_Elimination__integers).bindsN fun _ _ _ _ _ _ us hl => match us, hl with | [_, _, _], _ => rfl
theorem sc_Elimination__integers : FnScope ["self", "row", "constant", "bottom", "found", "number"] ["self", "row", "constant"] (defScope s_Elimination__integers) := ⟨rfl, rfl, rfl, by decide +kernel, rfl, by decide +kernel, by decide +kernel⟩
theorem Top.f_Elimination__reduced (T : Top w K mg) : FunD K ("_reduced" : Str) ("Elimination._reduced" : Str) (defArgs s_Elimination__reduced) (defBody s_Elimination__reduced) (defScope s_Elimination__reduced) (d_Elimination__reduced.dvs K) (d_Elimination__reduced.kws K) (He.ma K (He.ga K ("Elimination" : Str)) ("_reduced" : Str)) (fdOf K d_Elimination__reduced) := T.fun_ 8 rfl
theorem Top.b_Elimination__reduced (T : Top w K mg) : Binds K (fdOf K d_Elimination__reduced) ["self", "row"] [] := (show FunD K ("_reduced" : Str) ("Elimination._reduced" : Str) (defArgs s_Elimination__reduced) (defBody s_Elimination__reduced) (defScope s_Elimination__reduced) [] (d_Elimination__reduced.kws K) (He.ma K (He.ga K ("Elimination" : Str)) ("_reduced" : Str)) (fdOf K d_Elimination__reduced) from T.f_Elimination__reduced).bindsN fun _ _ _ _ _ _ us hl => match us, hl with | [_, _], _ => rfl
theorem sc_Elimination__reduced : FnScope ["self", "row", "divisor", "basis_row", "lead", "pivot", "factor", "number", "other"] ["self", "row"] (defScope s_Elimination__reduced) := ⟨rfl, rfl, rfl, by decide +kernel, rfl, by decide +kernel, by decide +kernel⟩
theorem Top.f_Elimination_free_columns (T : Top w K mg) : FunD K ("free_columns" : Str) ("Elimination.free_columns" : Str) (defArgs s_Elimination_free_columns) (defBody s_Elimination_free_columns) (defScope s_Elimination_free_columns) (d_Elimination_free_columns.dvs K) (d_Elimination_free_columns.kws K) (He.ma K (He.ga K ("Elimination" : Str)) ("free_columns" : Str)) (fdOf K d_Elimination_free_columns) := T.fun_ 9 rfl
theorem Top.b_Elimination_free_columns (T : Top w K mg) : Binds K (fdOf K d_Elimination_free_columns) ["self"] [] := (show FunD K ("free_columns" : Str) ("Elimination.free_columns" : Str) (defArgs s_Elimination_free_columns) (defBody s_Elimination_free_columns) (defScope s_Elimination_free_columns) [] (d_Elimination_free_columns.kws K) (He.ma K (He.ga K ("Elimination" : Str)) ("free_columns" : Str)) (fdOf K d_Elimination_free_columns) from T.f_Elimination_free_columns).bindsN fun _ _ _ _ _ _ us hl => match us, hl with | [_], _ => rfl
theorem sc_Elimination_free_columns : FnScope ["self", "column"] ["self"] (defScope s_Elimination_free_columns) := ⟨rfl, rfl, rfl, by decide +kernel, rfl, by decide +kernel, by decide +kernel⟩
theorem Top.f_Elimination_solution (T : Top w K mg) : FunD K ("solution" : Str) ("Elimination.solution" : Str) (defArgs s_Elimination_solution) (defBody s_Elimination_solution) (defScope s_Elimination_solution) (d_Elimination_solution.dvs K) (d_Elimination_solution.kws K) (He.ma K (He.ga K ("Elimination" : Str)) ("solution" : Str)) (fdOf K d_Elimination_solution) := T.fun_ 10 rfl
theorem Top.b_Elimination_solution (T : Top w K mg) : Binds K (fdOf K d_Elimination_solution) ["self", "free_numbers"] [] := (show FunD K ("solution" : Str) ("Elimination.solution" : Str) (defArgs s_Elimination_solution) (defBody s_Elimination_solution) (defScope s_Elimination_solution) [] (d_Elimination_solution.kws K) (He.ma K (He.ga K ("Elimination" : Str)) ("solution" : Str)) (fdOf K d_Elimination_solution) from T.f_Elimination_solution).bindsN fun _ _ _ _ _ _ us hl => match us, hl with | [_, _], _ => rfl
theorem sc_Elimination_solution : FnScope ["self", "free_numbers", "determinant", "found", "column", "lead", "at", "row", "total", "number"] ["self", "free_numbers"] (defScope s_Elimination_solution) := ⟨rfl, rfl, rfl, by decide +kernel, rfl, by decide +kernel, by decide +kernel⟩
theorem Top.f_solve_linear (T : Top w K mg) : FunD K ("solve_linear" : Str) ("solve_linear" : Str) (defArgs s_solve_linear) (defBody s_solve_linear) (defScope s_solve_linear) (d_solve_linear.dvs K) (d_solve_linear.kws K) (He.ga K ("solve_linear" : Str)) (fdOf K d_solve_linear) := T.fun_ 11 rfl
theorem Top.b_solve_linear (T : Top w K mg) : Binds K (fdOf K d_solve_linear) ["rows", "constants"] [] := (show FunD K ("solve_linear" : Str) ("solve_linear" : Str) (defArgs s_solve_linear) (defBody s_solve_linear) (defScope s_solve_linear) [] (d_solve_linear.kws K) (He.ga K ("solve_linear" : Str)) (fdOf K d_solve_linear) from T.f_solve_linear).bindsN fun _ _ _ _ _ _ us hl => match us, hl with | [_, _], _ => rfl
theorem sc_solve_linear : FnScope ["rows", "constants", "elimination"] ["rows", "constants"] (defScope s_solve_linear) := ⟨rfl, rfl, rfl, by decide +kernel, rfl, by decide +kernel, by decide +kernel⟩
theorem Top.f_kernel (T : Top w K mg) : FunD K ("kernel" : Str) ("kernel" : Str) (defArgs s_kernel) (defBody s_kernel) (defScope s_kernel) (d_kernel.dvs K) (d_kernel.kws K) (He.ga K ("kernel" : Str)) (fdOf K d_kernel) := T.fun_ 12 rfl
theorem Top.b_kernel (T : Top w K mg) : Binds K (fdOf K d_kernel) ["rows"] [] := (show FunD K ("kernel" : Str) ("kernel" : Str) (defArgs s_kernel) (defBody s_kernel) (defScope s_kernel) [] (d_kernel.kws K) (He.ga K ("kernel" : Str)) (fdOf K d_kernel) from T.f_kernel).bindsN fun _ _ _ _ _ _ us hl => match us, hl with | [_], _ => rfl
theorem sc_kernel : FnScope ["rows", "elimination", "column"] ["rows"] (defScope s_kernel) := ⟨rfl, rfl, rfl, by decide +kernel, rfl, by decide +kernel, by decide +kernel⟩
theorem Top.f_contradiction (T : Top w K mg) : FunD K ("contradiction" : Str) ("contradiction" : Str) (defArgs s_contradiction) (defBody s_contradiction) (defScope s_contradiction) (d_contradiction.dvs K) (d_contradiction.kws K) (He.ga K ("contradiction" : Str)) (fdOf K d_contradiction) := T.fun_ 13 rfl
theorem Top.b_contradiction (T : Top w K mg) : Binds K (fdOf K d_contradiction) ["rows", "constants"] [] := (show FunD K ("contradiction" : Str) ("contradiction" : Str) (defArgs s_contradiction) (defBody s_contradiction) (defScope s_contradiction) [] (d_contradiction.kws K) (He.ga K ("contradiction" : Str)) (fdOf K d_contradiction) from T.f_contradiction).bindsN fun _ _ _ _ _ _ us hl => match us, hl with | [_, _], _ => rfl
theorem sc_contradiction : FnScope ["rows", "constants", "elimination", "wrong", "basis", "at", "turned", "column", "factors", "_", "factor", "number"] ["rows", "constants"] (defScope s_contradiction) := ⟨rfl, rfl, rfl, by decide +kernel, rfl, by decide +kernel, by decide +kernel⟩
theorem Top.f__without_constants (T : Top w K mg) : FunD K ("_without_constants" : Str) ("_without_constants" : Str) (defArgs s__without_constants) (defBody s__without_constants) (defScope s__without_constants) (d__without_constants.dvs K) (d__without_constants.kws K) (He.ga K ("_without_constants" : Str)) (fdOf K d__without_constants) := T.fun_ 14 rfl
theorem Top.b__without_constants (T : Top w K mg) : Binds K (fdOf K d__without_constants) ["rows"] [] := (show FunD K ("_without_constants" : Str) ("_without_constants" : Str) (defArgs s__without_constants) (defBody s__without_constants) (defScope s__without_constants) [] (d__without_constants.kws K) (He.ga K ("_without_constants" : Str)) (fdOf K d__without_constants) from T.f__without_constants).bindsN fun _ _ _ _ _ _ us hl => match us, hl with | [_], _ => rfl
theorem sc__without_constants : FnScope ["rows", "_"] ["rows"] (defScope s__without_constants) := ⟨rfl, rfl, rfl, by decide +kernel, rfl, by decide +kernel, by decide +kernel⟩
theorem Top.f__common_bottom (T : Top w K mg) : FunD K ("_common_bottom" : Str) ("_common_bottom" : Str) (defArgs s__common_bottom) (defBody s__common_bottom) (defScope s__common_bottom) (d__common_bottom.dvs K) (d__common_bottom.kws K) (He.ga K ("_common_bottom" : Str)) (fdOf K d__common_bottom) := T.fun_ 15 rfl
theorem Top.b__common_bottom (T : Top w K mg) : Binds K (fdOf K d__common_bottom) ["numbers"] [] := (show FunD K ("_common_bottom" : Str) ("_common_bottom" : Str) (defArgs s__common_bottom) (defBody s__common_bottom) (defScope s__common_bottom) [] (d__common_bottom.kws K) (He.ga K ("_common_bottom" : Str)) (fdOf K d__common_bottom) from T.f__common_bottom).bindsN fun _ _ _ _ _ _ us hl => match us, hl with | [_], _ => rfl
theorem sc__common_bottom : FnScope ["numbers", "found", "number"] ["numbers"] (defScope s__common_bottom) := ⟨rfl, rfl, rfl, by decide +kernel, rfl, by decide +kernel, by decide +kernel⟩
theorem Top.f__law_stream (T : Top w K mg) : FunD K ("_law_stream" : Str) ("_law_stream" : Str) (defArgs s__law_stream) (defBody s__law_stream) (defScope s__law_stream) (d__law_stream.dvs K) (d__law_stream.kws K) (He.ga K ("_law_stream" : Str)) (fdOf K d__law_stream) := T.fun_ 16 rfl
theorem Top.b__law_stream (T : Top w K mg) : Binds K (fdOf K d__law_stream) ["script"] [] := (show FunD K ("_law_stream" : Str) ("_law_stream" : Str) (defArgs s__law_stream) (defBody s__law_stream) (defScope s__law_stream) [] (d__law_stream.kws K) (He.ga K ("_law_stream" : Str)) (fdOf K d__law_stream) from T.f__law_stream).bindsN fun _ _ _ _ _ _ us hl => match us, hl with | [_], _ => rfl
theorem sc__law_stream : FnScope ["script", "mixed", "cell"] ["script"] (defScope s__law_stream) := ⟨rfl, rfl, rfl, by decide +kernel, rfl, by decide +kernel, by decide +kernel⟩
theorem Top.f__law_draw (T : Top w K mg) : FunD K ("_law_draw" : Str) ("_law_draw" : Str) (defArgs s__law_draw) (defBody s__law_draw) (defScope s__law_draw) (d__law_draw.dvs K) (d__law_draw.kws K) (He.ga K ("_law_draw" : Str)) (fdOf K d__law_draw) := T.fun_ 17 rfl
theorem Top.b__law_draw (T : Top w K mg) : Binds K (fdOf K d__law_draw) ["stream", "many"] [] := (show FunD K ("_law_draw" : Str) ("_law_draw" : Str) (defArgs s__law_draw) (defBody s__law_draw) (defScope s__law_draw) [] (d__law_draw.kws K) (He.ga K ("_law_draw" : Str)) (fdOf K d__law_draw) from T.f__law_draw).bindsN fun _ _ _ _ _ _ us hl => match us, hl with | [_, _], _ => rfl
theorem sc__law_draw : FnScope ["stream", "many", "value"] ["stream", "many"] (defScope s__law_draw) := ⟨rfl, rfl, rfl, by decide +kernel, rfl, by decide +kernel, by decide +kernel⟩
theorem Top.f__law_matrix (T : Top w K mg) : FunD K ("_law_matrix" : Str) ("_law_matrix" : Str) (defArgs s__law_matrix) (defBody s__law_matrix) (defScope s__law_matrix) (d__law_matrix.dvs K) (d__law_matrix.kws K) (He.ga K ("_law_matrix" : Str)) (fdOf K d__law_matrix) := T.fun_ 18 rfl
theorem Top.b__law_matrix (T : Top w K mg) : Binds K (fdOf K d__law_matrix) ["stream", "many", "wide"] [] := (show FunD K ("_law_matrix" : Str) ("_law_matrix" : Str) (defArgs s__law_matrix) (defBody s__law_matrix) (defScope s__law_matrix) [] (d__law_matrix.kws K) (He.ga K ("_law_matrix" : Str)) (fdOf K d__law_matrix) from T.f__law_matrix).bindsN fun _ _ _ _ _ _ us hl => match us, hl with | [_, _, _], _ => rfl
theorem sc__law_matrix : FnScope ["stream", "many", "wide", "rows", "k", "row", "j", "value", "one", "two"] ["stream", "many", "wide"] (defScope s__law_matrix) := ⟨rfl, rfl, rfl, by decide +kernel, rfl, by decide +kernel, by decide +kernel⟩
theorem Top.f__law_part (T : Top w K mg) : FunD K ("_law_part" : Str) ("_law_part" : Str) (defArgs s__law_part) (defBody s__law_part) (defScope s__law_part) (d__law_part.dvs K) (d__law_part.kws K) (He.ga K ("_law_part" : Str)) (fdOf K d__law_part) := T.fun_ 19 rfl
theorem Top.b__law_part (T : Top w K mg) : Binds K (fdOf K d__law_part) ["a", "b"] [] := (show FunD K ("_law_part" : Str) ("_law_part" : Str) (defArgs s__law_part) (defBody s__law_part) (defScope s__law_part) [] (d__law_part.kws K) (He.ga K ("_law_part" : Str)) (fdOf K d__law_part) from T.f__law_part).bindsN fun _ _ _ _ _ _ us hl => match us, hl with | [_, _], _ => rfl
theorem sc__law_part : FnScope ["a", "b"] ["a", "b"] (defScope s__law_part) := ⟨rfl, rfl, rfl, by decide +kernel, rfl, by decide +kernel, by decide +kernel⟩
theorem Top.f__law_lowest (T : Top w K mg) : FunD K ("_law_lowest" : Str) ("_law_lowest" : Str) (defArgs s__law_lowest) (defBody s__law_lowest) (defScope s__law_lowest) (d__law_lowest.dvs K) (d__law_lowest.kws K) (He.ga K ("_law_lowest" : Str)) (fdOf K d__law_lowest) := T.fun_ 20 rfl
theorem Top.b__law_lowest (T : Top w K mg) : Binds K (fdOf K d__law_lowest) ["top", "bottom"] [] := (show FunD K ("_law_lowest" : Str) ("_law_lowest" : Str) (defArgs s__law_lowest) (defBody s__law_lowest) (defScope s__law_lowest) [] (d__law_lowest.kws K) (He.ga K ("_law_lowest" : Str)) (fdOf K d__law_lowest) from T.f__law_lowest).bindsN fun _ _ _ _ _ _ us hl => match us, hl with | [_, _], _ => rfl
theorem sc__law_lowest : FnScope ["top", "bottom", "part"] ["top", "bottom"] (defScope s__law_lowest) := ⟨rfl, rfl, rfl, by decide +kernel, rfl, by decide +kernel, by decide +kernel⟩
theorem Top.f__law_sum (T : Top w K mg) : FunD K ("_law_sum" : Str) ("_law_sum" : Str) (defArgs s__law_sum) (defBody s__law_sum) (defScope s__law_sum) (d__law_sum.dvs K) (d__law_sum.kws K) (He.ga K ("_law_sum" : Str)) (fdOf K d__law_sum) := T.fun_ 21 rfl
theorem Top.b__law_sum (T : Top w K mg) : Binds K (fdOf K d__law_sum) ["one", "two"] [] := (show FunD K ("_law_sum" : Str) ("_law_sum" : Str) (defArgs s__law_sum) (defBody s__law_sum) (defScope s__law_sum) [] (d__law_sum.kws K) (He.ga K ("_law_sum" : Str)) (fdOf K d__law_sum) from T.f__law_sum).bindsN fun _ _ _ _ _ _ us hl => match us, hl with | [_, _], _ => rfl
theorem sc__law_sum : FnScope ["one", "two"] ["one", "two"] (defScope s__law_sum) := ⟨rfl, rfl, rfl, by decide +kernel, rfl, by decide +kernel, by decide +kernel⟩
theorem Top.f__law_times (T : Top w K mg) : FunD K ("_law_times" : Str) ("_law_times" : Str) (defArgs s__law_times) (defBody s__law_times) (defScope s__law_times) (d__law_times.dvs K) (d__law_times.kws K) (He.ga K ("_law_times" : Str)) (fdOf K d__law_times) := T.fun_ 22 rfl
theorem Top.b__law_times (T : Top w K mg) : Binds K (fdOf K d__law_times) ["one", "two"] [] := (show FunD K ("_law_times" : Str) ("_law_times" : Str) (defArgs s__law_times) (defBody s__law_times) (defScope s__law_times) [] (d__law_times.kws K) (He.ga K ("_law_times" : Str)) (fdOf K d__law_times) from T.f__law_times).bindsN fun _ _ _ _ _ _ us hl => match us, hl with | [_, _], _ => rfl
theorem sc__law_times : FnScope ["one", "two"] ["one", "two"] (defScope s__law_times) := ⟨rfl, rfl, rfl, by decide +kernel, rfl, by decide +kernel, by decide +kernel⟩
theorem Top.f__law_over (T : Top w K mg) : FunD K ("_law_over" : Str) ("_law_over" : Str) (defArgs s__law_over) (defBody s__law_over) (defScope s__law_over) (d__law_over.dvs K) (d__law_over.kws K) (He.ga K ("_law_over" : Str)) (fdOf K d__law_over) := T.fun_ 23 rfl
theorem Top.b__law_over (T : Top w K mg) : Binds K (fdOf K d__law_over) ["one", "two"] [] := (show FunD K ("_law_over" : Str) ("_law_over" : Str) (defArgs s__law_over) (defBody s__law_over) (defScope s__law_over) [] (d__law_over.kws K) (He.ga K ("_law_over" : Str)) (fdOf K d__law_over) from T.f__law_over).bindsN fun _ _ _ _ _ _ us hl => match us, hl with | [_, _], _ => rfl
theorem sc__law_over : FnScope ["one", "two"] ["one", "two"] (defScope s__law_over) := ⟨rfl, rfl, rfl, by decide +kernel, rfl, by decide +kernel, by decide +kernel⟩
theorem Top.f__law_ratios (T : Top w K mg) : FunD K ("_law_ratios" : Str) ("_law_ratios" : Str) (defArgs s__law_ratios) (defBody s__law_ratios) (defScope s__law_ratios) (d__law_ratios.dvs K) (d__law_ratios.kws K) (He.ga K ("_law_ratios" : Str)) (fdOf K d__law_ratios) := T.fun_ 24 rfl
theorem Top.b__law_ratios (T : Top w K mg) : Binds K (fdOf K d__law_ratios) ["rows"] [] := (show FunD K ("_law_ratios" : Str) ("_law_ratios" : Str) (defArgs s__law_ratios) (defBody s__law_ratios) (defScope s__law_ratios) [] (d__law_ratios.kws K) (He.ga K ("_law_ratios" : Str)) (fdOf K d__law_ratios) from T.f__law_ratios).bindsN fun _ _ _ _ _ _ us hl => match us, hl with | [_], _ => rfl
theorem sc__law_ratios : FnScope ["rows", "one", "row"] ["rows"] (defScope s__law_ratios) := ⟨rfl, rfl, rfl, by decide +kernel, rfl, by decide +kernel, by decide +kernel⟩
theorem Top.f__law_pairs (T : Top w K mg) : FunD K ("_law_pairs" : Str) ("_law_pairs" : Str) (defArgs s__law_pairs) (defBody s__law_pairs) (defScope s__law_pairs) (d__law_pairs.dvs K) (d__law_pairs.kws K) (He.ga K ("_law_pairs" : Str)) (fdOf K d__law_pairs) := T.fun_ 25 rfl
theorem Top.b__law_pairs (T : Top w K mg) : Binds K (fdOf K d__law_pairs) ["row"] [] := (show FunD K ("_law_pairs" : Str) ("_law_pairs" : Str) (defArgs s__law_pairs) (defBody s__law_pairs) (defScope s__law_pairs) [] (d__law_pairs.kws K) (He.ga K ("_law_pairs" : Str)) (fdOf K d__law_pairs) from T.f__law_pairs).bindsN fun _ _ _ _ _ _ us hl => match us, hl with | [_], _ => rfl
theorem sc__law_pairs : FnScope ["row", "one"] ["row"] (defScope s__law_pairs) := ⟨rfl, rfl, rfl, by decide +kernel, rfl, by decide +kernel, by decide +kernel⟩
theorem Top.f__law_left (T : Top w K mg) : FunD K ("_law_left" : Str) ("_law_left" : Str) (defArgs s__law_left) (defBody s__law_left) (defScope s__law_left) (d__law_left.dvs K) (d__law_left.kws K) (He.ga K ("_law_left" : Str)) (fdOf K d__law_left) := T.fun_ 26 rfl
theorem Top.b__law_left (T : Top w K mg) : Binds K (fdOf K d__law_left) ["row", "basis"] [] := (show FunD K ("_law_left" : Str) ("_law_left" : Str) (defArgs s__law_left) (defBody s__law_left) (defScope s__law_left) [] (d__law_left.kws K) (He.ga K ("_law_left" : Str)) (fdOf K d__law_left) from T.f__law_left).bindsN fun _ _ _ _ _ _ us hl => match us, hl with | [_, _], _ => rfl
theorem sc__law_left : FnScope ["row", "basis", "at", "other", "factor", "j"] ["row", "basis"] (defScope s__law_left) := ⟨rfl, rfl, rfl, by decide +kernel, rfl, by decide +kernel, by decide +kernel⟩
theorem Top.f__law_basis (T : Top w K mg) : FunD K ("_law_basis" : Str) ("_law_basis" : Str) (defArgs s__law_basis) (defBody s__law_basis) (defScope s__law_basis) (d__law_basis.dvs K) (d__law_basis.kws K) (He.ga K ("_law_basis" : Str)) (fdOf K d__law_basis) := T.fun_ 27 rfl
theorem Top.b__law_basis (T : Top w K mg) : Binds K (fdOf K d__law_basis) ["rows", "wide"] [] := (show FunD K ("_law_basis" : Str) ("_law_basis" : Str) (defArgs s__law_basis) (defBody s__law_basis) (defScope s__law_basis) [] (d__law_basis.kws K) (He.ga K ("_law_basis" : Str)) (fdOf K d__law_basis) from T.f__law_basis).bindsN fun _ _ _ _ _ _ us hl => match us, hl with | [_, _], _ => rfl
theorem sc__law_basis : FnScope ["rows", "wide", "basis", "numbers", "k", "row", "ats", "j"] ["rows", "wide"] (defScope s__law_basis) := ⟨rfl, rfl, rfl, by decide +kernel, rfl, by decide +kernel, by decide +kernel⟩
theorem Top.f__law_rank (T : Top w K mg) : FunD K ("_law_rank" : Str) ("_law_rank" : Str) (defArgs s__law_rank) (defBody s__law_rank) (defScope s__law_rank) (d__law_rank.dvs K) (d__law_rank.kws K) (He.ga K ("_law_rank" : Str)) (fdOf K d__law_rank) := T.fun_ 28 rfl
theorem Top.b__law_rank (T : Top w K mg) : Binds K (fdOf K d__law_rank) ["rows"] [] := (show FunD K ("_law_rank" : Str) ("_law_rank" : Str) (defArgs s__law_rank) (defBody s__law_rank) (defScope s__law_rank) [] (d__law_rank.kws K) (He.ga K ("_law_rank" : Str)) (fdOf K d__law_rank) from T.f__law_rank).bindsN fun _ _ _ _ _ _ us hl => match us, hl with | [_], _ => rfl
theorem sc__law_rank : FnScope ["rows"] ["rows"] (defScope s__law_rank) := ⟨rfl, rfl, rfl, by decide +kernel, rfl, by decide +kernel, by decide +kernel⟩
theorem Top.f__law_dot (T : Top w K mg) : FunD K ("_law_dot" : Str) ("_law_dot" : Str) (defArgs s__law_dot) (defBody s__law_dot) (defScope s__law_dot) (d__law_dot.dvs K) (d__law_dot.kws K) (He.ga K ("_law_dot" : Str)) (fdOf K d__law_dot) := T.fun_ 29 rfl
theorem Top.b__law_dot (T : Top w K mg) : Binds K (fdOf K d__law_dot) ["row", "values"] [] := (show FunD K ("_law_dot" : Str) ("_law_dot" : Str) (defArgs s__law_dot) (defBody s__law_dot) (defScope s__law_dot) [] (d__law_dot.kws K) (He.ga K ("_law_dot" : Str)) (fdOf K d__law_dot) from T.f__law_dot).bindsN fun _ _ _ _ _ _ us hl => match us, hl with | [_, _], _ => rfl
theorem sc__law_dot : FnScope ["row", "values", "total", "j"] ["row", "values"] (defScope s__law_dot) := ⟨rfl, rfl, rfl, by decide +kernel, rfl, by decide +kernel, by decide +kernel⟩
theorem Top.f__law_is_kernel (T : Top w K mg) : FunD K ("_law_is_kernel" : Str) ("_law_is_kernel" : Str) (defArgs s__law_is_kernel) (defBody s__law_is_kernel) (defScope s__law_is_kernel) (d__law_is_kernel.dvs K) (d__law_is_kernel.kws K) (He.ga K ("_law_is_kernel" : Str)) (fdOf K d__law_is_kernel) := T.fun_ 30 rfl
theorem Top.b__law_is_kernel (T : Top w K mg) : Binds K (fdOf K d__law_is_kernel) ["rows", "wide", "found"] [] := (show FunD K ("_law_is_kernel" : Str) ("_law_is_kernel" : Str) (defArgs s__law_is_kernel) (defBody s__law_is_kernel) (defScope s__law_is_kernel) [] (d__law_is_kernel.kws K) (He.ga K ("_law_is_kernel" : Str)) (fdOf K d__law_is_kernel) from T.f__law_is_kernel).bindsN fun _ _ _ _ _ _ us hl => match us, hl with | [_, _, _], _ => rfl
theorem sc__law_is_kernel : FnScope ["rows", "wide", "found", "columns", "row", "j", "basis", "others", "k", "values"] ["rows", "wide", "found"] (defScope s__law_is_kernel) := ⟨rfl, rfl, rfl, by decide +kernel, rfl, by decide +kernel, by decide +kernel⟩
theorem Top.f__law_is_shown (T : Top w K mg) : FunD K ("_law_is_shown" : Str) ("_law_is_shown" : Str) (defArgs s__law_is_shown) (defBody s__law_is_shown) (defScope s__law_is_shown) (d__law_is_shown.dvs K) (d__law_is_shown.kws K) (He.ga K ("_law_is_shown" : Str)) (fdOf K d__law_is_shown) := T.fun_ 31 rfl
theorem Top.b__law_is_shown (T : Top w K mg) : Binds K (fdOf K d__law_is_shown) ["rows", "constants", "factors"] [] := (show FunD K ("_law_is_shown" : Str) ("_law_is_shown" : Str) (defArgs s__law_is_shown) (defBody s__law_is_shown) (defScope s__law_is_shown) [] (d__law_is_shown.kws K) (He.ga K ("_law_is_shown" : Str)) (fdOf K d__law_is_shown) from T.f__law_is_shown).bindsN fun _ _ _ _ _ _ us hl => match us, hl with | [_, _, _], _ => rfl
theorem sc__law_is_shown : FnScope ["rows", "constants", "factors", "own", "k", "basis", "first", "pairs", "j", "row"] ["rows", "constants", "factors"] (defScope s__law_is_shown) := ⟨rfl, rfl, rfl, by decide +kernel, rfl, by decide +kernel, by decide +kernel⟩
theorem Top.f_law (T : Top w K mg) : FunD K ("law" : Str) ("law" : Str) (defArgs s_law) (defBody s_law) (defScope s_law) (d_law.dvs K) (d_law.kws K) (He.ga K ("law" : Str)) (fdOf K d_law) := T.fun_ 32 rfl
theorem Top.b_law (T : Top w K mg) : Binds K (fdOf K d_law) ["script"] [] := (show FunD K ("law" : Str) ("law" : Str) (defArgs s_law) (defBody s_law) (defScope s_law) [] (d_law.kws K) (He.ga K ("law" : Str)) (fdOf K d_law) from T.f_law).bindsN fun _ _ _ _ _ _ us hl => match us, hl with | [_], _ => rfl
theorem sc_law : FnScope ["script", "stream", "many", "wide", "rows", "constants", "point", "row", "given", "right", "told", "one", "found", "k"] ["script"] (defScope s_law) := ⟨rfl, rfl, rfl, by decide +kernel, rfl, by decide +kernel, by decide +kernel⟩
end
/-! ### heap-free readings: data, how values read as data in a frozen part of the heap -/
inductive Dt where
  | non | bl (b : Bool) | int (i : Int) | str (x : Str) | ty (n : String) | adr (a : Addr) | strm
  | rat (n d : Int)
  | tup (ds : List Dt) | lst (t : Bool) (ds : List Dt)
  | dic (t : Bool) (ks : List Key) (ds : List Dt) | dit (t : Bool) (ks : List (List Key)) (ds : List Dt)
  | ins (C : Addr) (fs : List Str) (ds : List Dt)
deriving Inhabited
def ratF (n d : Int) : List (Str × V) := [("top", .int n), ("bottom", .int d)]
mutual
def Rz (K : PySem.W.Frag) (B F : Hp) : Dt → V → Prop
  | .non, v => v = .non
  | .bl b, v => v = .bl b
  | .int i, v => v = .int i
  | .str x, v => v = .str x
  | .ty n, v => v = .ty n
  | .adr a, v => v = .ref a
  | .strm, v => ∃ a, v = .ref a ∧ Strm F a
  | .rat n d, v => ∃ a dx, v = .ref a ∧ F a = some (.ins (He.ga K "Ratio") dx (ratF n d))
  | .tup ds, v => ∃ a xs, v = .ref a ∧ F a = some (.tup xs) ∧ Rzl K B F ds xs
  | .lst t ds, v => ∃ a xs, v = .ref a ∧ F a = some (.lst xs) ∧ (t = true → B a = none) ∧ Rzl K B F ds xs
  | .dic t ks ds, v => ∃ a kvs, v = .ref a ∧ F a = some (.dK kvs) ∧ (t = true → B a = none) ∧ kvs.map Prod.fst = ks ∧ Rzl K B F ds (kvs.map Prod.snd)
  | .dit t ks ds, v => ∃ a kvs, v = .ref a ∧ F a = some (.dT kvs) ∧ (t = true → B a = none) ∧ kvs.map Prod.fst = ks ∧ Rzl K B F ds (kvs.map Prod.snd)
  | .ins C fs ds, v => ∃ a dx kvs, v = .ref a ∧ F a = some (.ins C dx kvs) ∧ kvs.map Prod.fst = fs ∧ Rzl K B F ds (kvs.map Prod.snd)
def Rzl (K : PySem.W.Frag) (B F : Hp) : List Dt → List V → Prop
  | [], xs => xs = []
  | d :: ds, xs => ∃ x r, xs = x :: r ∧ Rz K B F d x ∧ Rzl K B F ds r
end
mutual
/-- seen by a callee: nothing is new -/
def Dt.old : Dt → Dt
  | .tup ds => .tup (Dt.olds ds)
  | .lst _ ds => .lst false (Dt.olds ds)
  | .dic _ ks ds => .dic false ks (Dt.olds ds)
  | .dit _ ks ds => .dit false ks (Dt.olds ds)
  | .ins C fs ds => .ins C fs (Dt.olds ds)
  | .non => .non | .bl b => .bl b | .int i => .int i | .str x => .str x | .ty n => .ty n | .adr a => .adr a | .strm => .strm | .rat n d => .rat n d
def Dt.olds : List Dt → List Dt
  | [] => []
  | d :: ds => d.old :: Dt.olds ds
end
theorem olds_map : ∀ ds : List Dt, Dt.olds ds = ds.map Dt.old
  | [] => rfl
  | d :: ds => by rw [Dt.olds, olds_map ds]; rfl
theorem rz_str {F F' : Hp} {a : Addr} (e : Same F F') (h : Strm F a) : Strm F' a := h.mono e
mutual
theorem rz_mono {K : PySem.W.Frag} {B F F' : Hp} (e : Same F F') : ∀ (d : Dt) (v : V), Rz K B F d v → Rz K B F' d v
  | .non, _, h | .bl _, _, h | .int _, _, h | .str _, _, h | .ty _, _, h | .adr _, _, h => by simpa only [Rz] using h
  | .strm, _, h => by
    simp only [Rz] at h ⊢
    obtain ⟨a, r, h⟩ := h
    exact ⟨a, r, h.mono e⟩
  | .rat _ _, _, h => by
    simp only [Rz] at h ⊢
    obtain ⟨a, dx, r, h⟩ := h
    exact ⟨a, dx, r, e _ _ h⟩
  | .tup ds, _, h => by
    simp only [Rz] at h ⊢
    obtain ⟨a, xs, r, h1, h2⟩ := h
    exact ⟨a, xs, r, e _ _ h1, rzl_mono e ds xs h2⟩
  | .lst _ ds, _, h => by
    simp only [Rz] at h ⊢
    obtain ⟨a, xs, r, h1, h3, h2⟩ := h
    exact ⟨a, xs, r, e _ _ h1, h3, rzl_mono e ds xs h2⟩
  | .dic _ _ ds, _, h => by
    simp only [Rz] at h ⊢
    obtain ⟨a, xs, r, h1, h3, h4, h2⟩ := h
    exact ⟨a, xs, r, e _ _ h1, h3, h4, rzl_mono e ds _ h2⟩
  | .dit _ _ ds, _, h => by
    simp only [Rz] at h ⊢
    obtain ⟨a, xs, r, h1, h3, h4, h2⟩ := h
    exact ⟨a, xs, r, e _ _ h1, h3, h4, rzl_mono e ds _ h2⟩
  | .ins _ _ ds, _, h => by
    simp only [Rz] at h ⊢
    obtain ⟨a, dx, xs, r, h1, h4, h2⟩ := h
    exact ⟨a, dx, xs, r, e _ _ h1, h4, rzl_mono e ds _ h2⟩
theorem rzl_mono {K : PySem.W.Frag} {B F F' : Hp} (e : Same F F') : ∀ (ds : List Dt) (vs : List V), Rzl K B F ds vs → Rzl K B F' ds vs
  | [], _, h => by simpa only [Rzl] using h
  | d :: ds, _, h => by
    simp only [Rzl] at h ⊢
    obtain ⟨x, r, e0, h1, h2⟩ := h
    exact ⟨x, r, e0, rz_mono e d x h1, rzl_mono e ds r h2⟩
end
mutual
theorem rz_old {K : PySem.W.Frag} {B B' F : Hp} : ∀ (d : Dt) (v : V), Rz K B F d v → Rz K B' F d.old v
  | .non, _, h | .bl _, _, h | .int _, _, h | .str _, _, h | .ty _, _, h | .adr _, _, h | .strm, _, h | .rat _ _, _, h => by simpa only [Rz, Dt.old] using h
  | .tup ds, _, h => by
    simp only [Rz, Dt.old] at h ⊢
    obtain ⟨a, xs, r, h1, h2⟩ := h
    exact ⟨a, xs, r, h1, rzl_old ds xs h2⟩
  | .lst _ ds, _, h => by
    simp only [Rz, Dt.old] at h ⊢
    obtain ⟨a, xs, r, h1, _, h2⟩ := h
    exact ⟨a, xs, r, h1, (fun z => nomatch z), rzl_old ds xs h2⟩
  | .dic _ _ ds, _, h => by
    simp only [Rz, Dt.old] at h ⊢
    obtain ⟨a, xs, r, h1, _, h4, h2⟩ := h
    exact ⟨a, xs, r, h1, (fun z => nomatch z), h4, rzl_old ds _ h2⟩
  | .dit _ _ ds, _, h => by
    simp only [Rz, Dt.old] at h ⊢
    obtain ⟨a, xs, r, h1, _, h4, h2⟩ := h
    exact ⟨a, xs, r, h1, (fun z => nomatch z), h4, rzl_old ds _ h2⟩
  | .ins _ _ ds, _, h => by
    simp only [Rz, Dt.old] at h ⊢
    obtain ⟨a, dx, xs, r, h1, h4, h2⟩ := h
    exact ⟨a, dx, xs, r, h1, h4, rzl_old ds _ h2⟩
theorem rzl_old {K : PySem.W.Frag} {B B' F : Hp} : ∀ (ds : List Dt) (vs : List V), Rzl K B F ds vs → Rzl K B' F (Dt.olds ds) vs
  | [], _, h => by simpa only [Rzl, Dt.olds] using h
  | d :: ds, _, h => by
    simp only [Rzl, Dt.olds] at h ⊢
    obtain ⟨x, r, e0, h1, h2⟩ := h
    exact ⟨x, r, e0, rz_old d x h1, rzl_old ds r h2⟩
end
mutual
theorem rz_base {K : PySem.W.Frag} {B B' F : Hp} (hb : ∀ a, B' a = none → B a = none) : ∀ (d : Dt) (v : V), Rz K B' F d v → Rz K B F d v
  | .non, _, h | .bl _, _, h | .int _, _, h | .str _, _, h | .ty _, _, h | .adr _, _, h | .strm, _, h | .rat _ _, _, h => by simpa only [Rz] using h
  | .tup ds, _, h => by
    simp only [Rz] at h ⊢
    obtain ⟨a, xs, r, h1, h2⟩ := h
    exact ⟨a, xs, r, h1, rzl_base hb ds xs h2⟩
  | .lst _ ds, _, h => by
    simp only [Rz] at h ⊢
    obtain ⟨a, xs, r, h1, t, h2⟩ := h
    exact ⟨a, xs, r, h1, fun z => hb _ (t z), rzl_base hb ds xs h2⟩
  | .dic _ _ ds, _, h => by
    simp only [Rz] at h ⊢
    obtain ⟨a, xs, r, h1, t, h4, h2⟩ := h
    exact ⟨a, xs, r, h1, fun z => hb _ (t z), h4, rzl_base hb ds _ h2⟩
  | .dit _ _ ds, _, h => by
    simp only [Rz] at h ⊢
    obtain ⟨a, xs, r, h1, t, h4, h2⟩ := h
    exact ⟨a, xs, r, h1, fun z => hb _ (t z), h4, rzl_base hb ds _ h2⟩
  | .ins _ _ ds, _, h => by
    simp only [Rz] at h ⊢
    obtain ⟨a, dx, xs, r, h1, h4, h2⟩ := h
    exact ⟨a, dx, xs, r, h1, h4, rzl_base hb ds _ h2⟩
theorem rzl_base {K : PySem.W.Frag} {B B' F : Hp} (hb : ∀ a, B' a = none → B a = none) : ∀ (ds : List Dt) (vs : List V), Rzl K B' F ds vs → Rzl K B F ds vs
  | [], _, h => by simpa only [Rzl] using h
  | d :: ds, _, h => by
    simp only [Rzl] at h ⊢
    obtain ⟨x, r, e0, h1, h2⟩ := h
    exact ⟨x, r, e0, rz_base hb d x h1, rzl_base hb ds r h2⟩
end
/-! ### lists of readings -/
section
variable {K : PySem.W.Frag} {B F : Hp}
theorem Rzl.nil : Rzl K B F [] [] := by simp only [Rzl]
theorem Rzl.cons {d : Dt} {ds : List Dt} {v : V} {vs : List V} (h : Rz K B F d v) (t : Rzl K B F ds vs) : Rzl K B F (d :: ds) (v :: vs) := by
  simp only [Rzl]
  exact ⟨v, vs, rfl, h, t⟩
theorem Rzl.inv {d : Dt} {ds : List Dt} {vs : List V} (h : Rzl K B F (d :: ds) vs) : ∃ v r, vs = v :: r ∧ Rz K B F d v ∧ Rzl K B F ds r := by
  simpa only [Rzl] using h
theorem Rzl.inv0 {vs : List V} (h : Rzl K B F [] vs) : vs = [] := by simpa only [Rzl] using h
theorem Rzl.len : ∀ {ds : List Dt} {vs : List V}, Rzl K B F ds vs → vs.length = ds.length
  | [], _, h => by rw [h.inv0]; rfl
  | d :: ds, _, h => by
    obtain ⟨v, r, rfl, _, t⟩ := h.inv
    rw [List.length_cons, List.length_cons, Rzl.len t]
theorem Rzl.app : ∀ {ds es : List Dt} {vs us : List V}, Rzl K B F ds vs → Rzl K B F es us → Rzl K B F (ds ++ es) (vs ++ us)
  | [], _, _, _, h, g => by rw [h.inv0]; exact g
  | d :: ds, _, _, _, h, g => by
    obtain ⟨v, r, rfl, h1, t⟩ := h.inv
    exact .cons h1 (Rzl.app t g)
theorem Rzl.at_ : ∀ {ds : List Dt} {vs : List V} {i : Nat} {d : Dt}, Rzl K B F ds vs → ds[i]? = some d → ∃ v, vs[i]? = some v ∧ Rz K B F d v
  | [], _, _, _, _, e => by simp at e
  | d :: ds, _, 0, _, h, e => by
    obtain ⟨v, r, rfl, h1, t⟩ := h.inv
    simp at e
    exact ⟨v, rfl, e ▸ h1⟩
  | d :: ds, _, i + 1, _, h, e => by
    obtain ⟨v, r, rfl, h1, t⟩ := h.inv
    obtain ⟨u, h2, h3⟩ := Rzl.at_ (i := i) t (by simpa using e)
    exact ⟨u, by simpa using h2, h3⟩
theorem Rzl.back : ∀ {ds : List Dt} {vs : List V} {i : Nat} {v : V}, Rzl K B F ds vs → vs[i]? = some v → ∃ d, ds[i]? = some d ∧ Rz K B F d v := fun {ds vs i v} h e => by
  have l := h.len
  have hi : i < vs.length := (List.getElem?_eq_some_iff.mp e).1
  obtain ⟨u, h1, h2⟩ := h.at_ (i := i) (d := ds[i]'(by omega)) (List.getElem?_eq_getElem (by omega))
  rw [e] at h1
  cases h1
  exact ⟨_, List.getElem?_eq_getElem (by omega), h2⟩
theorem Rzl.take : ∀ {ds : List Dt} {vs : List V} (n : Nat), Rzl K B F ds vs → Rzl K B F (ds.take n) (vs.take n)
  | _, _, 0, _ => by simp only [List.take_zero]; exact .nil
  | [], _, n + 1, h => by rw [h.inv0]; simp only [List.take_nil]; exact .nil
  | d :: ds, _, n + 1, h => by
    obtain ⟨v, r, rfl, h1, t⟩ := h.inv
    exact .cons h1 (Rzl.take n t)
theorem Rzl.drop : ∀ {ds : List Dt} {vs : List V} (n : Nat), Rzl K B F ds vs → Rzl K B F (ds.drop n) (vs.drop n)
  | _, _, 0, h => h
  | [], _, n + 1, h => by rw [h.inv0]; simp only [List.drop_nil]; exact .nil
  | d :: ds, _, n + 1, h => by
    obtain ⟨v, r, rfl, h1, t⟩ := h.inv
    exact Rzl.drop n t
theorem Rzl.set {e : Dt} {u : V} (he : Rz K B F e u) : ∀ {ds : List Dt} {vs : List V} (n : Nat), Rzl K B F ds vs → Rzl K B F (ds.set n e) (vs.set n u)
  | [], _, n, h => by rw [h.inv0]; exact .nil
  | d :: ds, _, 0, h => by
    obtain ⟨v, r, rfl, h1, t⟩ := h.inv
    exact .cons he t
  | d :: ds, _, n + 1, h => by
    obtain ⟨v, r, rfl, h1, t⟩ := h.inv
    exact .cons h1 (Rzl.set he n t)
theorem Rzl.rev : ∀ {ds : List Dt} {vs : List V}, Rzl K B F ds vs → Rzl K B F ds.reverse vs.reverse
  | [], _, h => by rw [h.inv0]; exact .nil
  | d :: ds, _, h => by
    obtain ⟨v, r, rfl, h1, t⟩ := h.inv
    rw [List.reverse_cons, List.reverse_cons]
    exact (Rzl.rev t).app (.cons h1 .nil)
end
/-! ### tables -/
section
variable {κ : Type} [DecidableEq κ] {α : Type}
def look : List κ → List α → κ → Option α
  | k :: ks, d :: ds, x => if k = x then some d else look ks ds x
  | _, _, _ => none
def putDs (ks : List κ) (ds : List α) (k : κ) (d : α) : List α := if k ∈ ks then List.zipWith (fun k' d' => if k' = k then d else d') ks ds else ds ++ [d]
def putKs (ks : List κ) (k : κ) : List κ := if k ∈ ks then ks else ks ++ [k]
theorem look_none {ks : List κ} {ds : List α} {k : κ} (hl : ds.length = ks.length) : look ks ds k = none ↔ k ∉ ks := by
  induction ks generalizing ds with
  | nil => simp [look]
  | cons a ks ih =>
    cases ds with
    | nil => cases hl
    | cons d ds =>
      by_cases e : a = k
      · simp [look, e]
      · simp only [look, if_neg e, List.mem_cons, not_or, ih (by simpa using hl)]
        exact ⟨fun h => ⟨fun z => e z.symm, h⟩, fun h => h.2⟩
end
section
variable {κ : Type} [DecidableEq κ] {K : PySem.W.Frag} {B F : Hp}
theorem tab_look {k : κ} : ∀ {kvs : List (κ × V)} {ds : List Dt}, Rzl K B F ds (kvs.map Prod.snd) → match look (kvs.map Prod.fst) ds k with | some d => ∃ v, valV kvs k = some v ∧ Rz K B F d v | none => valV kvs k = none
  | [], ds, h => by
    cases ds with
    | nil => rfl
    | cons d ds => obtain ⟨_, _, e, _⟩ := h.inv; cases e
  | p :: r, ds, h => by
    cases ds with
    | nil => cases h.inv0
    | cons d ds =>
      obtain ⟨v, r', e, h1, t⟩ := h.inv
      rw [List.map_cons] at e
      obtain ⟨rfl, rfl⟩ := List.cons.inj e
      rw [List.map_cons, look]
      by_cases c : p.1 = k
      · rw [if_pos c]
        exact ⟨_, valV_pos c, h1⟩
      · rw [if_neg c, valV_neg c]
        exact tab_look t
theorem any_mem (kvs : List (κ × V)) (k : κ) : ((kvs.any fun kv => decide (kv.1 = k)) = true) ↔ k ∈ kvs.map Prod.fst := by
  simp only [List.any_eq_true, decide_eq_true_eq, List.mem_map]
theorem tab_putK {kvs : List (κ × V)} {k : κ} {v : V} : (putK kvs k v).map Prod.fst = putKs (kvs.map Prod.fst) k := by
  unfold putK putKs
  by_cases c : k ∈ kvs.map Prod.fst
  · rw [if_pos ((any_mem _ _).mpr c), if_pos c, List.map_map]
    refine List.map_congr_left fun p _ => ?_
    show (if p.1 = k then (p.1, v) else p).1 = p.1
    split <;> rfl
  · rw [if_neg (fun z => c ((any_mem _ _).mp z)), if_neg c, List.map_append]
    rfl
theorem tab_repl {k : κ} {v : V} {d : Dt} (hv : Rz K B F d v) : ∀ {kvs : List (κ × V)} {ds : List Dt}, Rzl K B F ds (kvs.map Prod.snd) →
    Rzl K B F (List.zipWith (fun k' d' => if k' = k then d else d') (kvs.map Prod.fst) ds) ((kvs.map (fun kv => if kv.1 = k then (kv.1, v) else kv)).map Prod.snd)
  | [], ds, h => by
    cases ds with
    | nil => exact .nil
    | cons d ds => obtain ⟨_, _, e, _⟩ := h.inv; cases e
  | p :: r, ds, h => by
    cases ds with
    | nil => cases h.inv0
    | cons d' ds =>
      obtain ⟨u, r', e, h1, t⟩ := h.inv
      rw [List.map_cons] at e
      obtain ⟨rfl, rfl⟩ := List.cons.inj e
      rw [List.map_cons, List.map_cons, List.map_cons, List.zipWith_cons_cons]
      refine .cons ?_ (tab_repl hv t)
      by_cases c : p.1 = k
      · rw [if_pos c, if_pos c]; exact hv
      · rw [if_neg c, if_neg c]; exact h1
theorem tab_putD {kvs : List (κ × V)} {ds : List Dt} {k : κ} {v : V} {d : Dt} (h : Rzl K B F ds (kvs.map Prod.snd)) (hv : Rz K B F d v) : Rzl K B F (putDs (kvs.map Prod.fst) ds k d) ((putK kvs k v).map Prod.snd) := by
  unfold putK putDs
  by_cases c : k ∈ kvs.map Prod.fst
  · rw [if_pos ((any_mem _ _).mpr c), if_pos c]
    exact tab_repl hv h
  · rw [if_neg (fun z => c ((any_mem _ _).mp z)), if_neg c, List.map_append]
    exact h.app (.cons hv .nil)
end
/-! ### the frozen part, locks aside -/
def isDk : HO → Bool
  | .dK _ => true
  | .dT _ => true
  | _ => false
def Le (F H : Hp) : Prop := ∀ a o, F a = some o → H a = some o ∨ (isDk o = true ∧ ∃ ob, H a = some (.frz ob o))
theorem Le.refl (H : Hp) : Le H H := fun _ _ h => .inl h
theorem Le.same {F H H' : Hp} (l : Le F H) (s : Same H H') : Le F H' := fun a o e => (l a o e).elim (fun h => .inl (s _ _ h)) fun ⟨d, ob, h⟩ => .inr ⟨d, ob, s _ _ h⟩
theorem Le.of {F F' H : Hp} (s : Same F F') (l : Le F' H) : Le F H := fun a o e => l a o (s _ _ e)
theorem Le.exact {F H : Hp} (l : Le F H) {a : Addr} {o : HO} (e : F a = some o) (h : isDk o = false) : H a = some o := (l a o e).elim id fun ⟨d, _⟩ => by rw [h] at d; cases d
theorem Le.rd {F H : Hp} (l : Le F H) {a : Addr} {o : HO} (e : F a = some o) : L2.Rd H a o := (l a o e).elim .inl fun ⟨_, ob, h⟩ => .inr ⟨ob, h⟩
theorem Le.free {F H : Hp} (l : Le F H) {a : Addr} (e : H a = none) : F a = none := by
  cases z : F a with
  | none => rfl
  | some o => rcases l a o z with h | ⟨_, _, h⟩ <;> (rw [e] at h; cases h)
theorem Le.new {F H : Hp} (l : Le F H) {p : Addr} {o : HO} (e : H p = none) : Le (upd F p o) (upd H p o) := fun a u q => by
  by_cases c : a = p
  · rw [c, upd_same] at q
    rw [c, upd_same]
    exact .inl q
  · rw [upd_ne c] at q ⊢
    exact l a u q
/-- frozen: what is owned already stands in the heap -/
theorem Le.frz {F H : Hp} (l : Le F H) {p : Addr} {o : HO} (e : H p = some o) : Le (upd F p o) H := fun a u q => by
  by_cases c : a = p
  · rw [c, upd_same] at q
    rw [c, ← q]
    exact .inl e
  · rw [upd_ne c] at q
    exact l a u q
/-- written: an address outside of the frozen part -/
theorem Le.put {F H : Hp} (l : Le F H) {p : Addr} {o : HO} (e : F p = none) : Le F (upd H p o) := fun a u q => by
  rw [upd_ne (fun c => by rw [c, e] at q; cases q)]
  exact l a u q
/-- .. where each lock is one that is known -/
def Lk (J F H : Hp) : Prop := ∀ a o, F a = some o → H a = some o ∨ (isDk o = true ∧ ∃ ob, H a = some (.frz ob o) ∧ J a = some (.frz ob o))
theorem Lk.le {J F H : Hp} (l : Lk J F H) : Le F H := fun a o e => (l a o e).elim .inl fun ⟨d, ob, h, _⟩ => .inr ⟨d, ob, h⟩
theorem Le.lk {F H : Hp} (l : Le F H) : Lk H F H := fun a o e => (l a o e).elim .inl fun ⟨d, ob, h⟩ => .inr ⟨d, ob, h, h⟩
theorem Lk.same {J F H H' : Hp} (l : Lk J F H) (s : Same H H') : Lk J F H' := fun a o e => (l a o e).elim (fun h => .inl (s _ _ h)) fun ⟨d, ob, h, j⟩ => .inr ⟨d, ob, s _ _ h, j⟩
theorem Lk.new {J F H : Hp} (l : Lk J F H) {p : Addr} {o : HO} (e : H p = none) : Lk J (upd F p o) (upd H p o) := fun a u q => by
  by_cases c : a = p
  · rw [c, upd_same] at q
    rw [c, upd_same]
    exact .inl q
  · rw [upd_ne c] at q ⊢
    exact l a u q
theorem Lk.frz {J F H : Hp} (l : Lk J F H) {p : Addr} {o : HO} (e : H p = some o) : Lk J (upd F p o) H := fun a u q => by
  by_cases c : a = p
  · rw [c, upd_same] at q
    rw [c, ← q]
    exact .inl e
  · rw [upd_ne c] at q
    exact l a u q
theorem Lk.put {J F H : Hp} (l : Lk J F H) {p : Addr} {o : HO} (e : F p = none) : Lk J F (upd H p o) := fun a u q => by
  rw [upd_ne (fun c => by rw [c, e] at q; cases q)]
  exact l a u q
theorem same_new' {F : Hp} {p : Addr} {o : HO} (e : F p = none) : Same F (upd F p o) := same_new e
def isFz : HO → Bool
  | .frz _ _ => true
  | _ => false
def isTp : HO → Bool
  | .tup _ => true
  | _ => false
/-- what F' has more than F is new over H, or a tuple -/
def Nw (F H F' : Hp) : Prop := ∀ a o, F' a = some o → F a ≠ none ∨ H a = none ∨ isTp o = true
theorem Nw.refl (F H : Hp) : Nw F H F := fun _ _ e => .inl (by rw [e]; exact fun z => nomatch z)
theorem Nw.trans {F F' F'' H H' : Hp} (a : Nw F H F') (b : Nw F' H' F'') (s : ∀ a, H' a = none → H a = none) (m : Same F' F'') : Nw F H F'' := fun x o e => by
  rcases b x o e with h | h | h
  · cases z : F' x with
    | none => exact absurd z h
    | some u =>
      have := m _ _ z
      rw [e] at this
      cases this
      exact a x o z
  · exact .inr (.inl (s _ h))
  · exact .inr (.inr h)
structure Cz where
  K : PySem.W.Frag
  Er : XK
  Eh : Addr → List (Str × V) → Prop
/-- an error's object behind a call -/
def ErrR (B : Hp) (fs : List (Str × V)) (dd : Option Addr) (H : Hp) : Prop := Le B H ∧ match fs with
  | [] => dd = none
  | _ => ∃ x, dd = some x ∧ B x = none ∧ H x = some (.xd fs)
/-- what stays through a body: the heap at its entry, the frozen part there, what is held, what is hidden -/
structure Fm where
  B : Hp
  F0 : Hp
  J : Hp
  hd : Addr → Prop
structure Sc (z : Cz) (m : Fm) (F H : Hp) : Prop where
  lk : Lk m.J F H
  base : Same m.J H
  fr : Nw m.F0 m.B F
  dom : ∀ a, H a = none → m.B a = none
  bj : Le m.B m.J
  er : ∀ C fs dd H', z.Eh C fs → ErrR m.B fs dd H' → z.Er (.ref C) dd H'
  hid : ∀ a, m.hd a → F a = none ∧ ∃ o, m.J a = some o ∧ isTp o = false
  fj : ∀ a ob u, H a = some (.frz ob u) → m.J a = some (.frz ob u)
theorem Sc.le {z : Cz} {m : Fm} {F H : Hp} (S : Sc z m F H) : Le F H := S.lk.le
inductive Sl where
  | un | v (d : Dt) | o (d : Dt) | l (a : Addr) (d : Dt)
/-- the content of an object reads as d -/
inductive HoR (K : PySem.W.Frag) (B F : Hp) : HO → Dt → Prop
  | lst {xs : List V} {ds : List Dt} : Rzl K B F ds xs → HoR K B F (.lst xs) (.lst true ds)
  | dK {kvs : List (Key × V)} {ds : List Dt} : Rzl K B F ds (kvs.map Prod.snd) → HoR K B F (.dK kvs) (.dic true (kvs.map Prod.fst) ds)
  | dT {kvs : List (List Key × V)} {ds : List Dt} : Rzl K B F ds (kvs.map Prod.snd) → HoR K B F (.dT kvs) (.dit true (kvs.map Prod.fst) ds)
def OwnAt (K : PySem.W.Frag) (m : Fm) (F H : Hp) (l : Addr) (d : Dt) : Prop := F l = none ∧ m.B l = none ∧ m.J l = none ∧ ∃ ho, H l = some ho ∧ HoR K m.B F ho d
/-- held: as it stands now -/
def PinAt (K : PySem.W.Frag) (m : Fm) (F : Hp) (l : Addr) (d : Dt) : Prop := m.hd l ∧ m.B l = none ∧ ∃ ho, (m.J l = some ho ∨ isDk ho = true ∧ ∃ ob, m.J l = some (.frz ob ho)) ∧ HoR K m.B F ho d
def SlOk (K : PySem.W.Frag) (m : Fm) (F H : Hp) (ov : Option V) : Sl → Prop
  | .un => True
  | .v d => ∃ v, ov = some v ∧ Rz K m.B F d v
  | .o d => ∃ l, ov = some (.ref l) ∧ OwnAt K m F H l d
  | .l a d => ov = some (.ref a) ∧ PinAt K m F a d
structure Sm (z : Cz) (m : Fm) (F H : Hp) (σ : L2.St) (ρ : List Sl) : Prop extends Sc z m F H where
  len : σ.length = ρ.length
  slot : ∀ (i : Nat) (s : Sl) (ov : Option V), ρ[i]? = some s → σ[i]? = some ov → SlOk z.K m F H ov s
  sep : ∀ (i j : Nat) (d e : Dt) (l : Addr), ρ[i]? = some (.o d) → ρ[j]? = some (.o e) → σ[i]? = some (some (.ref l)) → σ[j]? = some (some (.ref l)) → i = j
  psep : ∀ (i j : Nat) (a : Addr) (d e : Dt), ρ[i]? = some (.l a d) → ρ[j]? = some (.l a e) → i = j
theorem HoR.mono {K : PySem.W.Frag} {B F F' : Hp} {ho : HO} {d : Dt} (h : HoR K B F ho d) (e : Same F F') : HoR K B F' ho d := by
  cases h with
  | lst h => exact .lst (rzl_mono e _ _ h)
  | dK h => exact .dK (rzl_mono e _ _ h)
  | dT h => exact .dT (rzl_mono e _ _ h)
theorem HoR.notFz {K : PySem.W.Frag} {B F : Hp} {ho : HO} {d : Dt} (h : HoR K B F ho d) : isFz ho = false := by
  cases h <;> rfl
theorem HoR.notTp {K : PySem.W.Frag} {B F : Hp} {ho : HO} {d : Dt} (h : HoR K B F ho d) : isTp ho = false := by
  cases h <;> rfl
theorem HoR.rz {K : PySem.W.Frag} {B F : Hp} {l : Addr} {ho : HO} {d : Dt} (h : HoR K B F ho d) (hb : B l = none) (hf : F l = none) : Rz K B (upd F l ho) d (.ref l) := by
  cases h with
  | lst h => simp only [Rz]; exact ⟨l, _, rfl, upd_same, fun _ => hb, rzl_mono (same_new hf) _ _ h⟩
  | dK h => simp only [Rz]; exact ⟨l, _, rfl, upd_same, fun _ => hb, rfl, rzl_mono (same_new hf) _ _ h⟩
  | dT h => simp only [Rz]; exact ⟨l, _, rfl, upd_same, fun _ => hb, rfl, rzl_mono (same_new hf) _ _ h⟩
section
variable {z : Cz} {m : Fm} {F F' H H' : Hp} {σ : L2.St} {ρ : List Sl}
theorem OwnAt.ext {K : PySem.W.Frag} {l : Addr} {d : Dt} (h : OwnAt K m F H l d) (f : Same F F') (s : Same H H') (le : Le F' H') (nw : Nw F H F') : OwnAt K m F' H' l d := by
  obtain ⟨h1, h2, h3, ho, h4, h5⟩ := h
  refine ⟨?_, h2, h3, ho, s _ _ h4, h5.mono f⟩
  cases e : F' l with
  | none => rfl
  | some u =>
    rcases nw l u e with q | q | q
    · exact absurd h1 q
    · rw [h4] at q; cases q
    · have := le.exact e (by cases u <;> first | rfl | cases q)
      rw [s _ _ h4] at this
      cases this
      rw [h5.notTp] at q
      cases q
theorem PinAt.ext {K : PySem.W.Frag} {l : Addr} {d : Dt} (h : PinAt K m F l d) (f : Same F F') : PinAt K m F' l d := by
  obtain ⟨h1, h2, ho, h4, h5⟩ := h
  exact ⟨h1, h2, ho, h4, h5.mono f⟩
theorem SlOk.ext {K : PySem.W.Frag} {ov : Option V} {s : Sl} (h : SlOk K m F H ov s) (f : Same F F') (e : Same H H') (le : Le F' H') (nw : Nw F H F') : SlOk K m F' H' ov s := by
  cases s with
  | un => trivial
  | v d => obtain ⟨v, q, h⟩ := h; exact ⟨v, q, rz_mono f _ _ h⟩
  | o d => obtain ⟨l, q, h⟩ := h; exact ⟨l, q, h.ext f e le nw⟩
  | l a d => exact ⟨h.1, h.2.ext f⟩
theorem Sc.ext (S : Sc z m F H) (f : Same F F') (e : Same H H') (lk : Lk m.J F' H') (nw : Nw F H F') (fz : ∀ a ob u, H' a = some (.frz ob u) → H a = some (.frz ob u)) : Sc z m F' H' :=
  ⟨lk, S.base.trans e, S.fr.trans nw S.dom f, fun a q => S.dom a (e.free q), S.bj, S.er, fun a ha => by
    obtain ⟨h1, o, h2, h3⟩ := S.hid a ha
    refine ⟨?_, o, h2, h3⟩
    cases q : F' a with
    | none => rfl
    | some u =>
      have hH := S.base _ _ h2
      rcases nw a u q with c | c | c
      · exact absurd h1 c
      · rw [hH] at c; cases c
      · have := lk.le.exact q (by cases u <;> first | rfl | cases c)
        rw [e _ _ hH] at this
        cases this
        rw [h3] at c
        exact absurd c Bool.false_ne_true, fun a ob u q => S.fj a ob u (fz a ob u q)⟩
theorem Sm.ext (S : Sm z m F H σ ρ) (f : Same F F') (e : Same H H') (lk : Lk m.J F' H') (nw : Nw F H F') (fz : ∀ a ob u, H' a = some (.frz ob u) → H a = some (.frz ob u)) : Sm z m F' H' σ ρ :=
  { S.toSc.ext f e lk nw fz with len := S.len, slot := fun i s ov a b => (S.slot i s ov a b).ext f e lk.le nw, sep := S.sep, psep := S.psep }
theorem nw_new {p : Addr} {o : HO} (e : H p = none) : Nw F H (upd F p o) := fun a u q => by
  by_cases c : a = p
  · exact .inr (.inl (c ▸ e))
  · rw [upd_ne c] at q
    exact .inl (by rw [q]; exact fun z => nomatch z)
/-- a new object, frozen at once -/
theorem fz_new {H : Hp} {p : Addr} {o : HO} (no : isFz o = false) : ∀ a ob u, upd H p o a = some (.frz ob u) → H a = some (.frz ob u) := fun a ob u q => by
  by_cases c : a = p
  · rw [c, upd_same] at q
    cases q
    cases no
  · rw [upd_ne c] at q
    exact q
theorem Sm.new (S : Sm z m F H σ ρ) {p : Addr} {o : HO} (e : H p = none) (no : isFz o = false := by rfl) : Same F (upd F p o) ∧ Sm z m (upd F p o) (upd H p o) σ ρ :=
  ⟨same_new (S.le.free e), S.ext (same_new (S.le.free e)) (same_new e) (S.lk.new e) (nw_new e) (fz_new no)⟩
/-- a new object, owned -/
theorem Sm.newO (S : Sm z m F H σ ρ) {p : Addr} {o : HO} (e : H p = none) (no : isFz o = false := by rfl) : Sm z m F (upd H p o) σ ρ :=
  S.ext (Same.refl F) (same_new e) (S.lk.same (same_new e)) (Nw.refl F H) (fz_new no)
theorem Sm.j_none (S : Sm z m F H σ ρ) {p : Addr} (e : H p = none) : m.J p = none := S.base.free e
/-- a tuple that stands is frozen -/
theorem Sm.tup (S : Sm z m F H σ ρ) {p : Addr} {xs : List V} (e : H p = some (.tup xs)) : ∃ F', Same F F' ∧ F' p = some (.tup xs) ∧ Sm z m F' H σ ρ := by
  by_cases c : F p = none
  · refine ⟨upd F p (.tup xs), same_new c, upd_same, S.ext (same_new c) (Same.refl H) (S.lk.frz e) (fun a u q => ?_) fun _ _ _ q => q⟩
    by_cases d : a = p
    · rw [d, upd_same] at q
      cases q
      exact .inr (.inr rfl)
    · rw [upd_ne d] at q
      exact .inl (by rw [q]; exact fun z => nomatch z)
  · obtain ⟨u, hu⟩ := Option.ne_none_iff_exists'.mp c
    refine ⟨F, Same.refl F, ?_, S⟩
    rcases S.le _ _ hu with h | ⟨_, ob, h⟩
    · rw [e] at h; cases h; exact hu
    · rw [e] at h; cases h
theorem Sm.get (S : Sm z m F H σ ρ) {i : Nat} {s : Sl} (h : ρ[i]? = some s) : ∃ ov, σ[i]? = some ov ∧ SlOk z.K m F H ov s := by
  have hi : i < σ.length := by rw [S.len]; exact (List.getElem?_eq_some_iff.mp h).1
  exact ⟨σ[i], List.getElem?_eq_getElem hi, S.slot i s _ h (List.getElem?_eq_getElem hi)⟩
theorem Sm.getv (S : Sm z m F H σ ρ) {i : Nat} {d : Dt} (h : ρ[i]? = some (.v d)) : ∃ v, σ[i]? = some (some v) ∧ Rz z.K m.B F d v := by
  obtain ⟨ov, e, v, rfl, r⟩ := S.get h
  exact ⟨v, e, r⟩
theorem Sm.geto (S : Sm z m F H σ ρ) {i : Nat} {d : Dt} (h : ρ[i]? = some (.o d)) : ∃ l, σ[i]? = some (some (.ref l)) ∧ OwnAt z.K m F H l d := by
  obtain ⟨ov, e, l, rfl, r⟩ := S.get h
  exact ⟨l, e, r⟩
theorem Sm.set (S : Sm z m F H σ ρ) {i : Nat} {s : Sl} {ov : Option V} (hs : SlOk z.K m F H ov s) (hp : ∀ d e l j, s = .o d → ov = some (.ref l) → ρ[j]? = some (.o e) → σ[j]? = some (some (.ref l)) → j = i) (hl : ∀ a d, s ≠ .l a d) : Sm z m F H (σ.set i ov) (ρ.set i s) := by
  refine { S.toSc with len := by rw [List.length_set, List.length_set]; exact S.len, slot := fun j s' ov' a b => ?_, sep := fun j k d e l a b c c' => ?_, psep := fun j k q d e a b => ?_ }
  · by_cases c : i = j
    · subst c
      have hi : i < ρ.length := by rw [← List.length_set (i := i) (a := s)]; exact (List.getElem?_eq_some_iff.mp a).1
      rw [List.getElem?_set_self hi] at a
      rw [List.getElem?_set_self (by rw [S.len]; exact hi)] at b
      cases a
      cases b
      exact hs
    · rw [List.getElem?_set_ne c] at a b
      exact S.slot j s' ov' a b
  · have key : ∀ {x : Nat} {u : Dt}, (ρ.set i s)[x]? = some (.o u) → (σ.set i ov)[x]? = some (some (.ref l)) → x ≠ i → ρ[x]? = some (.o u) ∧ σ[x]? = some (some (.ref l)) := fun {x u} p q n => by
      rw [List.getElem?_set_ne (Ne.symm n)] at p q
      exact ⟨p, q⟩
    have key2 : ∀ {x : Nat} {u : Dt}, (ρ.set i s)[x]? = some (.o u) → (σ.set i ov)[x]? = some (some (.ref l)) → x = i → s = .o u ∧ ov = some (.ref l) := fun {x u} p q n => by
      subst n
      have hi : x < ρ.length := by rw [← List.length_set (i := x) (a := s)]; exact (List.getElem?_eq_some_iff.mp p).1
      rw [List.getElem?_set_self hi] at p
      rw [List.getElem?_set_self (by rw [S.len]; exact hi)] at q
      exact ⟨Option.some.inj p, Option.some.inj q⟩
    by_cases hj : j = i
    · by_cases hk : k = i
      · exact hj.trans hk.symm
      · obtain ⟨p1, p2⟩ := key2 a c hj
        obtain ⟨q1, q2⟩ := key b c' hk
        exact absurd (hp _ _ _ _ p1 p2 q1 q2) hk
    · by_cases hk : k = i
      · obtain ⟨p1, p2⟩ := key2 b c' hk
        obtain ⟨q1, q2⟩ := key a c hj
        exact absurd (hp _ _ _ _ p1 p2 q1 q2) hj
      · obtain ⟨q1, q2⟩ := key a c hj
        obtain ⟨q3, q4⟩ := key b c' hk
        exact S.sep j k d e l q1 q3 q2 q4
  · have key : ∀ {x : Nat} {u : Dt}, (ρ.set i s)[x]? = some (.l q u) → ρ[x]? = some (.l q u) := fun {x u} p => by
      by_cases c : i = x
      · subst c
        have hi : i < ρ.length := by rw [← List.length_set (i := i) (a := s)]; exact (List.getElem?_eq_some_iff.mp p).1
        rw [List.getElem?_set_self hi] at p
        exact absurd (Option.some.inj p) (hl _ _)
      · rw [List.getElem?_set_ne c] at p
        exact p
    exact S.psep j k q d e (key a) (key b)
theorem Sm.setv (S : Sm z m F H σ ρ) {i : Nat} {d : Dt} {v : V} (h : Rz z.K m.B F d v) : Sm z m F H (σ.set i (some v)) (ρ.set i (.v d)) := S.set ⟨v, rfl, h⟩ (fun _ _ _ _ e => nomatch e) fun _ _ e => nomatch e
theorem Sm.setu (S : Sm z m F H σ ρ) {i : Nat} {ov : Option V} : Sm z m F H (σ.set i ov) (ρ.set i .un) := S.set trivial (fun _ _ _ _ e => nomatch e) fun _ _ e => nomatch e
theorem set_back {α : Type} {l : List α} {i : Nat} {x : α} (h : l[i]? = some x) : l.set i x = l := by
  obtain ⟨hi, e⟩ := List.getElem?_eq_some_iff.mp h
  rw [← e]
  exact List.set_getElem_self hi
/-- an owned thing is frozen -/
theorem Sm.frz (S : Sm z m F H σ ρ) {i : Nat} {d : Dt} (h : ρ[i]? = some (.o d)) : ∃ F' l, Same F F' ∧ σ[i]? = some (some (.ref l)) ∧ Rz z.K m.B F' d (.ref l) ∧ Sm z m F' H σ (ρ.set i (.v d)) := by
  obtain ⟨l, e, h1, h2, h3, ho, h4, h5⟩ := S.geto h
  have sf := same_new (o := ho) h1
  have rz := h5.rz h2 h1
  refine ⟨upd F l ho, l, sf, e, rz, ?_⟩
  have C : Sc z m (upd F l ho) H := ⟨S.lk.frz h4, S.base, fun a u q => by
    by_cases c : a = l
    · exact .inr (.inl (c ▸ h2))
    · rw [upd_ne c] at q; exact S.fr a u q, S.dom, S.bj, S.er, fun a ha => by
    obtain ⟨q1, q2⟩ := S.hid a ha
    refine ⟨?_, q2⟩
    obtain ⟨o, q3, _⟩ := q2
    rw [upd_ne (fun c => by rw [c, h3] at q3; cases q3)]
    exact q1, S.fj⟩
  refine { C with len := by rw [List.length_set]; exact S.len, slot := fun j s ov a b => ?_, sep := fun j k d1 d2 l' a b c c' => ?_, psep := fun j k q d1 d2 a b => ?_ }
  · by_cases c : i = j
    · subst c
      have hi : i < ρ.length := (List.getElem?_eq_some_iff.mp h).1
      rw [List.getElem?_set_self hi] at a
      cases a
      rw [e] at b
      cases b
      exact ⟨_, rfl, rz⟩
    · rw [List.getElem?_set_ne c] at a
      have q := S.slot j s ov a b
      cases s with
      | un => trivial
      | v d => obtain ⟨v, e', q⟩ := q; exact ⟨v, e', rz_mono sf _ _ q⟩
      | o d' =>
        obtain ⟨l', e', q1, q2, q3, ho', q4, q5⟩ := q
        subst e'
        refine ⟨l', rfl, ?_, q2, q3, ho', q4, q5.mono sf⟩
        rw [upd_ne (fun z => c (S.sep i j _ _ l h a e (by rw [b, z])))]
        exact q1
      | l a' d' => exact ⟨q.1, q.2.ext sf⟩
  · have key : ∀ {x : Nat} {u : Dt}, (ρ.set i (.v d))[x]? = some (.o u) → ρ[x]? = some (.o u) := fun {x u} p => by
      by_cases c : i = x
      · subst c
        have hi : i < ρ.length := (List.getElem?_eq_some_iff.mp h).1
        rw [List.getElem?_set_self hi] at p
        cases p
      · rw [List.getElem?_set_ne c] at p
        exact p
    exact S.sep j k d1 d2 l' (key a) (key b) c c'
  · have key : ∀ {x : Nat} {u : Dt}, (ρ.set i (.v d))[x]? = some (.l q u) → ρ[x]? = some (.l q u) := fun {x u} p => by
      by_cases c : i = x
      · subst c
        rw [List.getElem?_set_self (List.getElem?_eq_some_iff.mp h).1] at p
        cases p
      · rw [List.getElem?_set_ne c] at p
        exact p
    exact S.psep j k q d1 d2 (key a) (key b)
/-- an owned thing is written -/
theorem Sm.put (S : Sm z m F H σ ρ) {i : Nat} {d d' : Dt} {l : Addr} {ho : HO} (h : ρ[i]? = some (.o d)) (e : σ[i]? = some (some (.ref l))) (hr : HoR z.K m.B F ho d') : Sm z m F (upd H l ho) σ (ρ.set i (.o d')) := by
  obtain ⟨l', e', h1, h2, h3, ho', h4, h5⟩ := S.geto h
  rw [e] at e'
  cases e'
  have C : Sc z m F (upd H l ho) := ⟨S.lk.put h1, fun a u q => by rw [upd_ne (fun c => by rw [c, h3] at q; cases q)]; exact S.base a u q, S.fr, fun a q => by
    by_cases c : a = l
    · rw [c, upd_same] at q; cases q
    · rw [upd_ne c] at q; exact S.dom a q, S.bj, S.er, S.hid, fun a ob u q => S.fj a ob u (fz_new hr.notFz a ob u q)⟩
  have hi : i < ρ.length := (List.getElem?_eq_some_iff.mp h).1
  refine { C with len := by rw [List.length_set]; exact S.len, slot := fun j s ov a b => ?_, sep := fun j k d1 d2 l' a b c c' => ?_, psep := fun j k q d1 d2 a b => ?_ }
  · by_cases c : i = j
    · subst c
      rw [List.getElem?_set_self hi] at a
      cases a
      rw [e] at b
      cases b
      exact ⟨l, rfl, h1, h2, h3, ho, upd_same, hr⟩
    · rw [List.getElem?_set_ne c] at a
      have q := S.slot j s ov a b
      cases s with
      | un => trivial
      | v d => exact q
      | o d2 =>
        obtain ⟨l', e', q1, q2, q3, ho2, q4, q5⟩ := q
        subst e'
        refine ⟨l', rfl, q1, q2, q3, ho2, ?_, q5⟩
        rw [upd_ne (fun z => c (S.sep i j _ _ l h a e (by rw [b, z])))]
        exact q4
      | l a2 d2 => exact q
  · have key : ∀ {x : Nat} {u : Dt}, (ρ.set i (.o d'))[x]? = some (.o u) → ∃ u', ρ[x]? = some (.o u') := fun {x u} p => by
      by_cases c : i = x
      · subst c
        exact ⟨_, h⟩
      · rw [List.getElem?_set_ne c] at p
        exact ⟨_, p⟩
    obtain ⟨u1, a'⟩ := key a
    obtain ⟨u2, b'⟩ := key b
    exact S.sep j k u1 u2 l' a' b' c c'
  · have key : ∀ {x : Nat} {u : Dt}, (ρ.set i (.o d'))[x]? = some (.l q u) → ρ[x]? = some (.l q u) := fun {x u} p => by
      by_cases c : i = x
      · subst c
        rw [List.getElem?_set_self hi] at p
        cases p
      · rw [List.getElem?_set_ne c] at p
        exact p
    exact S.psep j k q d1 d2 (key a) (key b)
end
/-! ### the judgements -/
/-- a result: frozen, or a fresh thing of one's own -/
def RzF (z : Cz) (m : Fm) (F H : Hp) (σ : L2.St) (ρ : List Sl) (fr : Bool) (d : Dt) (v : V) : Prop :=
  if fr = true then ∃ l, v = .ref l ∧ OwnAt z.K m F H l d ∧ ∀ (j : Nat) (e : Dt), ρ[j]? = some (.o e) → σ[j]? ≠ some (some (.ref l)) else Rz z.K m.B F d v
def ZE (z : Cz) (t : TE) (ρ : List Sl) (N : Dt → Bool → List Sl → Prop) : Prop := ∀ m F H σ Q, Sm z m F H σ ρ →
  (∀ d fr ρ' F' H' v, N d fr ρ' → Same F F' → Sm z m F' H' σ ρ' → RzF z m F' H' σ ρ' fr d v → Q v H') → t σ H Q
def ZT (z : Cz) (t : TT) (ρ : List Sl) (N : Bool → List Sl → Prop) : Prop := ∀ m F H σ Q, Sm z m F H σ ρ →
  (∀ b ρ' F' H', N b ρ' → Same F F' → Sm z m F' H' σ ρ' → Q b H') → t σ H Q
def ZA (z : Cz) (t : TA) (ρ : List Sl) (N : List Dt → List Sl → Prop) : Prop := ∀ m F H σ Q, Sm z m F H σ ρ →
  (∀ ds ρ' F' H' vs, N ds ρ' → Same F F' → Sm z m F' H' σ ρ' → Rzl z.K m.B F' ds vs → Q vs H') → t σ H Q
structure Zn where
  nx : List Sl → Prop
  rt : Dt → Bool → Prop
  bk : List Sl → Prop := fun _ => False
  ct : List Sl → Prop := fun _ => False
/-- what is returned -/
def RtR (z : Cz) (m : Fm) (F H : Hp) (fr : Bool) (d : Dt) (v : V) : Prop := Sc z m F H ∧ if fr = true then ∃ l, v = .ref l ∧ OwnAt z.K m F H l d else Rz z.K m.B F d v
def ZS (z : Cz) (t : TS) (ρ : List Sl) (N : Zn) : Prop := ∀ m F H σ D, Sm z m F H σ ρ →
  (∀ ρ' F' H' σ', N.nx ρ' → Same F F' → Sm z m F' H' σ' ρ' → D.nx σ' H') → (∀ d fr F' H' v, N.rt d fr → Same F F' → RtR z m F' H' fr d v → D.rt v H') →
  (∀ ρ' F' H' σ', N.bk ρ' → Same F F' → Sm z m F' H' σ' ρ' → D.bk σ' H') → (∀ ρ' F' H' σ', N.ct ρ' → Same F F' → Sm z m F' H' σ' ρ' → D.ct σ' H') → t D σ H
/-- what is walked: ds, one by one -/
def ItZ (z : Cz) (m : Fm) (F : Hp) (Jt : It) (ds : List Dt) : Prop := ∃ (n : Nat) (G : Hp → Prop) (Y : Nat → Hp → V → Hp → Prop), Walk Jt n G Y ∧ n = ds.length ∧
  (∀ F' H', Same F F' → Le F' H' → Same m.J H' → G H') ∧
  ∀ m2 i d F' H' H'' x σ ρ, m2.B = m.B → ds[i]? = some d → Same F F' → Sm z m2 F' H' σ ρ → Y i H' x H'' → ∃ F'', Same F' F'' ∧ Sm z m2 F'' H'' σ ρ ∧ Rz z.K m.B F'' d x
/-- a target -/
def ZG (z : Cz) (g : TG) (d : Dt) (fr : Bool) (ρ : List Sl) (N : List Sl → Prop) : Prop := ∀ m F H σ v Q, Sm z m F H σ ρ → RzF z m F H σ ρ fr d v →
  (∀ ρ' F' H' σ', N ρ' → Same F F' → Sm z m F' H' σ' ρ' → Q σ' H') → g v σ H Q
def ZGs (z : Cz) (g : TGs) (ds : List Dt) (ρ : List Sl) (N : List Sl → Prop) : Prop := ∀ m F H σ vs Q, Sm z m F H σ ρ → Rzl z.K m.B F ds vs →
  (∀ ρ' F' H' σ', N ρ' → Same F F' → Sm z m F' H' σ' ρ' → Q σ' H') → g vs σ H Q
/-- a fresh thing frozen -/
theorem rzF_frz {z : Cz} {m : Fm} {F H : Hp} {σ : L2.St} {ρ : List Sl} {fr : Bool} {d : Dt} {v : V} (S : Sm z m F H σ ρ) (h : RzF z m F H σ ρ fr d v) : ∃ F', Same F F' ∧ Sm z m F' H σ ρ ∧ Rz z.K m.B F' d v := by
  cases fr with
  | false => exact ⟨F, Same.refl F, S, h⟩
  | true =>
    obtain ⟨l, rfl, ⟨h1, h2, h3, ho, h4, h5⟩, hs⟩ := h
    have sf := same_new (o := ho) h1
    have C : Sc z m (upd F l ho) H := ⟨S.lk.frz h4, S.base, fun a u q => by
      by_cases c : a = l
      · exact .inr (.inl (c ▸ h2))
      · rw [upd_ne c] at q; exact S.fr a u q, S.dom, S.bj, S.er, fun a ha => by
    obtain ⟨q1, q2⟩ := S.hid a ha
    refine ⟨?_, q2⟩
    obtain ⟨o, q3, _⟩ := q2
    rw [upd_ne (fun c => by rw [c, h3] at q3; cases q3)]
    exact q1, S.fj⟩
    refine ⟨upd F l ho, sf, { C with len := S.len, slot := fun j s ov a b => ?_, sep := S.sep, psep := S.psep }, h5.rz h2 h1⟩
    have q := S.slot j s ov a b
    cases s with
    | un => trivial
    | v d => obtain ⟨v, e', q⟩ := q; exact ⟨v, e', rz_mono sf _ _ q⟩
    | o d' =>
      obtain ⟨l', e', q1, q2, q3, ho', q4, q5⟩ := q
      subst e'
      refine ⟨l', rfl, ?_, q2, q3, ho', q4, q5.mono sf⟩
      rw [upd_ne (fun z => hs j _ a (by rw [b, z]))]
      exact q1
    | l a' d' => exact ⟨q.1, q.2.ext sf⟩
theorem rzF_f {z : Cz} {m : Fm} {F H : Hp} {σ : L2.St} {ρ : List Sl} {d : Dt} {v : V} (h : Rz z.K m.B F d v) : RzF z m F H σ ρ false d v := h
/-- a new thing of one's own -/
theorem rzF_new {z : Cz} {m : Fm} {F H : Hp} {σ : L2.St} {ρ : List Sl} {d : Dt} {p : Addr} {o : HO} (S : Sm z m F H σ ρ) (e : H p = none) (h : HoR z.K m.B F o d) : RzF z m F (upd H p o) σ ρ true d (.ref p) := by
  refine ⟨p, rfl, ⟨S.le.free e, S.dom p e, S.j_none e, o, upd_same, h⟩, fun j e' a b => ?_⟩
  obtain ⟨l, hl, _, _, _, ho, h4, _⟩ := S.geto a
  rw [b] at hl
  cases hl
  rw [e] at h4
  cases h4
/-! ### expressions -/
section
variable {z : Cz} {ρ : List Sl} {N : Dt → Bool → List Sl → Prop} {ta tb te : TE} {i : Nat} {d : Dt}
theorem ze_var (h : ρ[i]? = some (.v d)) (n : N d false ρ) : ZE z (tVar i) ρ N := fun m F H σ Q S k => by
  obtain ⟨v, e, r⟩ := S.getv h
  exact ⟨v, e, k _ _ _ _ _ _ n (Same.refl F) S (rzF_f r)⟩
/-- an owned thing used as a value: frozen from here on -/
theorem ze_varo (h : ρ[i]? = some (.o d)) (n : N d false (ρ.set i (.v d))) : ZE z (tVar i) ρ N := fun m F H σ Q S k => by
  obtain ⟨F', l, sf, e, r, S'⟩ := S.frz h
  exact ⟨.ref l, e, k _ _ _ _ _ _ n sf S' r⟩
theorem ze_k {v : V} (h : ∀ B F, Rz z.K B F d v) (n : N d false ρ) : ZE z (tC v) ρ N := fun m F H σ Q S k => k _ _ _ _ _ _ n (Same.refl F) S (rzF_f (h _ _))
theorem ze_int {i : Int} (n : N (.int i) false ρ) : ZE z (tC (.int i)) ρ N := ze_k (fun _ _ => by simp only [Rz]) n
theorem ze_str {x : Str} (n : N (.str x) false ρ) : ZE z (tC (.str x)) ρ N := ze_k (fun _ _ => by simp only [Rz]) n
theorem ze_bl {b : Bool} (n : N (.bl b) false ρ) : ZE z (tC (.bl b)) ρ N := ze_k (fun _ _ => by simp only [Rz]) n
theorem ze_non (n : N .non false ρ) : ZE z (tC .non) ρ N := ze_k (fun _ _ => by simp only [Rz]) n
theorem ze_adr {a : Addr} (n : N (.adr a) false ρ) : ZE z (tC (.ref a)) ρ N := ze_k (fun _ _ => by simp only [Rz]) n
theorem ze_ty {x : String} (n : N (.ty x) false ρ) : ZE z (tC (.ty x)) ρ N := ze_k (fun _ _ => by simp only [Rz]) n
/-- two operands, both frozen -/
theorem ze_op2 {r : R2} (h : ZE z ta ρ fun x _ ρ1 => ZE z tb ρ1 fun y _ ρ2 => ∀ m F H σ Q vx vy, Sm z m F H σ ρ2 → Rz z.K m.B F x vx → Rz z.K m.B F y vy →
    (∀ d fr ρ' F' H' v, N d fr ρ' → Same F F' → Sm z m F' H' σ ρ' → RzF z m F' H' σ ρ' fr d v → Q v H') → r vx vy H Q) : ZE z (tOp r ta tb) ρ N := fun m F H σ Q S k => by
  refine h m F H σ _ S fun x fx ρ1 F1 H1 vx n1 s1 S1 r1 => ?_
  obtain ⟨F2, s2, S2, rx⟩ := rzF_frz S1 r1
  refine n1 m F2 H1 σ _ S2 fun y fy ρ2 F3 H2 vy n2 s3 S3 r3 => ?_
  obtain ⟨F4, s4, S4, ry⟩ := rzF_frz S3 r3
  exact n2 m F4 H2 σ Q vx vy S4 (rz_mono (s3.trans s4) _ _ rx) ry fun d fr ρ' F' H' v n sf => k d fr ρ' F' H' v n (((s1.trans s2).trans (s3.trans s4)).trans sf)
theorem ze_un1 {r : V → Hp → VK → Prop} (h : ZE z ta ρ fun x _ ρ1 => ∀ m F H σ Q vx, Sm z m F H σ ρ1 → Rz z.K m.B F x vx →
    (∀ d fr ρ' F' H' v, N d fr ρ' → Same F F' → Sm z m F' H' σ ρ' → RzF z m F' H' σ ρ' fr d v → Q v H') → r vx H Q) : ZE z (tUn r ta) ρ N := fun m F H σ Q S k => by
  refine h m F H σ _ S fun x fx ρ1 F1 H1 vx n1 s1 S1 r1 => ?_
  obtain ⟨F2, s2, S2, rx⟩ := rzF_frz S1 r1
  exact n1 m F2 H1 σ Q vx S2 rx fun d fr ρ' F' H' v n sf => k d fr ρ' F' H' v n ((s1.trans s2).trans sf)
theorem rz_i {K : PySem.W.Frag} {B F : Hp} {i : Int} {v : V} (h : Rz K B F (.int i) v) : v = .int i := by simpa only [Rz] using h
theorem rz_s {K : PySem.W.Frag} {B F : Hp} {i : Str} {v : V} (h : Rz K B F (.str i) v) : v = .str i := by simpa only [Rz] using h
theorem rz_b {K : PySem.W.Frag} {B F : Hp} {i : Bool} {v : V} (h : Rz K B F (.bl i) v) : v = .bl i := by simpa only [Rz] using h
theorem rz_n {K : PySem.W.Frag} {B F : Hp} {v : V} (h : Rz K B F .non v) : v = .non := by simpa only [Rz] using h
theorem rz_a {K : PySem.W.Frag} {B F : Hp} {v : V} {a : Addr} (h : Rz K B F (.adr a) v) : v = .ref a := by simpa only [Rz] using h
theorem rzi {K : PySem.W.Frag} {B F : Hp} {i : Int} : Rz K B F (.int i) (.int i) := by simp only [Rz]
theorem rzs {K : PySem.W.Frag} {B F : Hp} {i : Str} : Rz K B F (.str i) (.str i) := by simp only [Rz]
theorem rzb {K : PySem.W.Frag} {B F : Hp} {i : Bool} : Rz K B F (.bl i) (.bl i) := by simp only [Rz]
theorem rzn {K : PySem.W.Frag} {B F : Hp} : Rz K B F .non .non := by simp only [Rz]
theorem ze_I0 {g : Int → Int → Int} (h : ZE z ta ρ fun x _ ρ1 => ZE z tb ρ1 fun y _ ρ2 => ∃ i j, x = .int i ∧ y = .int j ∧ N (.int (g i j)) false ρ2) : ZE z (tOp (rI0 fun i j => .int (g i j)) ta tb) ρ N :=
  ze_op2 fun m F H σ Q S k => h m F H σ Q S fun x fx ρ1 F1 H1 vx n1 s1 S1 r1 => k x fx ρ1 F1 H1 vx (fun m F H σ Q S k => n1 m F H σ Q S fun y fy ρ2 F2 H2 vy n2 s2 S2 r2 => k y fy ρ2 F2 H2 vy (by
    obtain ⟨i, j, rfl, rfl, n⟩ := n2
    intro m F H σ Q vx vy S r1 r2 k
    exact ⟨i, j, rz_i r1, rz_i r2, k _ _ _ _ _ _ n (Same.refl F) S (rzF_f rzi)⟩) s2 S2 r2) s1 S1 r1
/-- the premise of two operands from what is wanted of their data -/
theorem ze_op2w {r : R2} {W : Dt → Dt → (Dt → Bool → List Sl → Prop) → List Sl → Prop}
    (w : ∀ x y ρ2 N, W x y N ρ2 → ∀ m F H σ Q vx vy, Sm z m F H σ ρ2 → Rz z.K m.B F x vx → Rz z.K m.B F y vy → (∀ d fr ρ' F' H' v, N d fr ρ' → Same F F' → Sm z m F' H' σ ρ' → RzF z m F' H' σ ρ' fr d v → Q v H') → r vx vy H Q)
    (h : ZE z ta ρ fun x _ ρ1 => ZE z tb ρ1 fun y _ ρ2 => W x y N ρ2) : ZE z (tOp r ta tb) ρ N :=
  ze_op2 fun m F H σ Q S k => h m F H σ Q S fun x fx ρ1 F1 H1 vx n1 s1 S1 r1 => k x fx ρ1 F1 H1 vx (fun m F H σ Q S k => n1 m F H σ Q S fun y fy ρ2 F2 H2 vy n2 s2 S2 r2 => k y fy ρ2 F2 H2 vy (w x y ρ2 N n2) s2 S2 r2) s1 S1 r1
theorem ze_IB {g : Int → Int → Bool} (h : ZE z ta ρ fun x _ ρ1 => ZE z tb ρ1 fun y _ ρ2 => ∃ i j, x = .int i ∧ y = .int j ∧ N (.bl (g i j)) false ρ2) : ZE z (tOp (rI0 fun i j => .bl (g i j)) ta tb) ρ N :=
  ze_op2w (W := fun x y N ρ2 => ∃ i j, x = .int i ∧ y = .int j ∧ N (.bl (g i j)) false ρ2) (fun x y ρ2 N n2 m F H σ Q vx vy S r1 r2 k => by
    obtain ⟨i, j, rfl, rfl, n⟩ := n2
    exact ⟨i, j, rz_i r1, rz_i r2, k _ _ _ _ _ _ n (Same.refl F) S (rzF_f rzb)⟩) h
theorem ze_I {C : Int → Int → Prop} {g : Int → Int → Int} (h : ZE z ta ρ fun x _ ρ1 => ZE z tb ρ1 fun y _ ρ2 => ∃ i j, x = .int i ∧ y = .int j ∧ C i j ∧ N (.int (g i j)) false ρ2) : ZE z (tOp (rI C fun i j => .int (g i j)) ta tb) ρ N :=
  ze_op2w (W := fun x y N ρ2 => ∃ i j, x = .int i ∧ y = .int j ∧ C i j ∧ N (.int (g i j)) false ρ2) (fun x y ρ2 N n2 m F H σ Q vx vy S r1 r2 k => by
    obtain ⟨i, j, rfl, rfl, c, n⟩ := n2
    exact ⟨i, j, rz_i r1, rz_i r2, c, k _ _ _ _ _ _ n (Same.refl F) S (rzF_f rzi)⟩) h
theorem ze_neg {g : Int → Int} (h : ZE z ta ρ fun x _ ρ1 => ∃ i, x = .int i ∧ N (.int (g i)) false ρ1) : ZE z (tUn (rU fun i => .int (g i)) ta) ρ N :=
  ze_un1 fun m F H σ Q S k => h m F H σ Q S fun x fx ρ1 F1 H1 vx n1 s1 S1 r1 => k x fx ρ1 F1 H1 vx (by
    obtain ⟨i, rfl, n⟩ := n1
    intro m F H σ Q vx S r1 k
    exact ⟨i, rz_i r1, k _ _ _ _ _ _ n (Same.refl F) S (rzF_f rzi)⟩) s1 S1 r1
/-- scalars compared -/
inductive Seq2 : Dt → Dt → Bool → Prop
  | ii (i j : Int) : Seq2 (.int i) (.int j) (decide (i = j))
  | ss (i j : Str) : Seq2 (.str i) (.str j) (decide (i = j))
  | bb (i j : Bool) : Seq2 (.bl i) (.bl j) (decide (i = j))
  | nn : Seq2 .non .non true
  | ni (i : Int) : Seq2 .non (.int i) false
  | isn (i : Int) : Seq2 (.int i) .non false
  | ns (i : Str) : Seq2 .non (.str i) false
  | sn (i : Str) : Seq2 (.str i) .non false
theorem seq2_of {K : PySem.W.Frag} {B F : Hp} {x y : Dt} {b : Bool} {vx vy : V} (h : Seq2 x y b) (r1 : Rz K B F x vx) (r2 : Rz K B F y vy) : scal vx vy = true ∧ decide (vx = vy) = b := by
  cases h <;> (simp only [Rz] at r1 r2; subst r1 r2) <;> refine ⟨rfl, ?_⟩ <;> simp
theorem ze_eq (h : ZE z ta ρ fun x _ ρ1 => ZE z tb ρ1 fun y _ ρ2 => ∃ b, Seq2 x y b ∧ N (.bl b) false ρ2) : ZE z (tOp rEq ta tb) ρ N :=
  ze_op2w (W := fun x y N ρ2 => ∃ b, Seq2 x y b ∧ N (.bl b) false ρ2) (fun x y ρ2 N n2 m F H σ Q vx vy S r1 r2 k => by
    obtain ⟨b, s, n⟩ := n2
    obtain ⟨h1, h2⟩ := seq2_of s r1 r2
    refine ⟨h1, ?_⟩
    rw [h2]
    exact k _ _ _ _ _ _ n (Same.refl F) S (rzF_f rzb)) h
theorem ze_ne (h : ZE z ta ρ fun x _ ρ1 => ZE z tb ρ1 fun y _ ρ2 => ∃ b, Seq2 x y b ∧ N (.bl (!b)) false ρ2) : ZE z (tOp rNe ta tb) ρ N :=
  ze_op2w (W := fun x y N ρ2 => ∃ b, Seq2 x y b ∧ N (.bl (!b)) false ρ2) (fun x y ρ2 N n2 m F H σ Q vx vy S r1 r2 k => by
    obtain ⟨b, s, n⟩ := n2
    obtain ⟨h1, h2⟩ := seq2_of s r1 r2
    refine ⟨h1, ?_⟩
    rw [h2]
    exact k _ _ _ _ _ _ n (Same.refl F) S (rzF_f rzb)) h
/-! tests -/
variable {M : Bool → List Sl → Prop} {tt tu : TT}
theorem zt_val (h : ZE z te ρ fun x _ ρ1 => ∃ b, x = .bl b ∧ M b ρ1) : ZT z (tTest te) ρ M := fun m F H σ Q S k => by
  refine h m F H σ _ S fun x fx ρ1 F1 H1 vx n1 s1 S1 r1 => ?_
  obtain ⟨F2, s2, S2, rx⟩ := rzF_frz S1 r1
  obtain ⟨b, rfl, n⟩ := n1
  exact ⟨b, rz_b rx, k _ _ _ _ n (s1.trans s2) S2⟩
theorem zt_B (h : ZE z te ρ fun x _ ρ1 => ∃ b, x = .bl b ∧ M b ρ1) : ZT z (tB te) ρ M := zt_val h
theorem zt_and (h : ZT z tt ρ fun b ρ1 => if b = true then ZT z tu ρ1 M else M false ρ1) : ZT z (tAnd tt tu) ρ M := fun m F H σ Q S k => by
  refine h m F H σ _ S fun b ρ1 F1 H1 n1 s1 S1 => ?_
  cases b with
  | true => exact n1 m F1 H1 σ Q S1 fun b ρ' F' H' n s => k b ρ' F' H' n (s1.trans s)
  | false => exact k _ _ _ _ n1 s1 S1
theorem zt_or (h : ZT z tt ρ fun b ρ1 => if b = true then M true ρ1 else ZT z tu ρ1 M) : ZT z (tOr tt tu) ρ M := fun m F H σ Q S k => by
  refine h m F H σ _ S fun b ρ1 F1 H1 n1 s1 S1 => ?_
  cases b with
  | false => exact n1 m F1 H1 σ Q S1 fun b ρ' F' H' n s => k b ρ' F' H' n (s1.trans s)
  | true => exact k _ _ _ _ n1 s1 S1
theorem zt_not (h : ZT z tt ρ fun b ρ1 => M (!b) ρ1) : ZT z (tNot tt) ρ M := fun m F H σ Q S k => h m F H σ _ S fun b ρ1 F1 H1 n1 s1 S1 => k _ _ _ _ n1 s1 S1
theorem zt_yes (h : M true ρ) : ZT z tYes ρ M := fun m F H σ Q S k => k _ _ _ _ h (Same.refl F) S
theorem ze_andV (h : ZE z ta ρ fun x _ ρ1 => ∃ b, x = .bl b ∧ if b = true then ZE z tb ρ1 N else N (.bl false) false ρ1) : ZE z (tAndV ta tb) ρ N := fun m F H σ Q S k => by
  refine h m F H σ _ S fun x fx ρ1 F1 H1 vx n1 s1 S1 r1 => ?_
  obtain ⟨F2, s2, S2, rx⟩ := rzF_frz S1 r1
  obtain ⟨b, rfl, n⟩ := n1
  refine ⟨b, rz_b rx, ?_⟩
  cases b with
  | true => exact n m F2 H1 σ Q S2 fun d fr ρ' F' H' v n s => k d fr ρ' F' H' v n ((s1.trans s2).trans s)
  | false => exact k _ _ _ _ _ _ n (s1.trans s2) S2 (rzF_f rzb)
theorem ze_orV (h : ZE z ta ρ fun x _ ρ1 => ∃ b, x = .bl b ∧ if b = true then N (.bl true) false ρ1 else ZE z tb ρ1 N) : ZE z (tOrV ta tb) ρ N := fun m F H σ Q S k => by
  refine h m F H σ _ S fun x fx ρ1 F1 H1 vx n1 s1 S1 r1 => ?_
  obtain ⟨F2, s2, S2, rx⟩ := rzF_frz S1 r1
  obtain ⟨b, rfl, n⟩ := n1
  refine ⟨b, rz_b rx, ?_⟩
  cases b with
  | false => exact n m F2 H1 σ Q S2 fun d fr ρ' F' H' v n s => k d fr ρ' F' H' v n ((s1.trans s2).trans s)
  | true => exact k _ _ _ _ _ _ n (s1.trans s2) S2 (rzF_f rzb)
theorem ze_notV (h : ZE z ta ρ fun x _ ρ1 => ∃ b, x = .bl b ∧ N (.bl (!b)) false ρ1) : ZE z (tNotV ta) ρ N := fun m F H σ Q S k => by
  refine h m F H σ _ S fun x fx ρ1 F1 H1 vx n1 s1 S1 r1 => ?_
  obtain ⟨F2, s2, S2, rx⟩ := rzF_frz S1 r1
  obtain ⟨b, rfl, n⟩ := n1
  exact ⟨b, rz_b rx, k _ _ _ _ _ _ n (s1.trans s2) S2 (rzF_f rzb)⟩
theorem ze_ifE (h : ZT z tt ρ fun b ρ1 => if b = true then ZE z ta ρ1 N else ZE z tb ρ1 N) : ZE z (tIf tt ta tb) ρ N := fun m F H σ Q S k => by
  refine h m F H σ _ S fun b ρ1 F1 H1 n1 s1 S1 => ?_
  cases b with
  | true => exact n1 m F1 H1 σ Q S1 fun d fr ρ' F' H' v n s => k d fr ρ' F' H' v n (s1.trans s)
  | false => exact n1 m F1 H1 σ Q S1 fun d fr ρ' F' H' v n s => k d fr ρ' F' H' v n (s1.trans s)
theorem ze_chain {r r' : R2} {tc : TE} {g g' : Int → Int → Bool} (h : ZE z ta ρ fun x _ ρ1 => ZE z tb ρ1 fun y _ ρ2 => ∃ i j, x = .int i ∧ y = .int j ∧ if g i j = true then ZE z tc ρ2 fun w _ ρ3 => ∃ k, w = .int k ∧ N (.bl (g' j k)) false ρ3 else N (.bl false) false ρ2) :
    ZE z (tChain (rI0 fun i j => .bl (g i j)) (rI0 fun i j => .bl (g' i j)) ta tb tc) ρ N := fun m F H σ Q S k => by
  refine h m F H σ _ S fun x fx ρ1 F1 H1 vx n1 s1 S1 r1 => ?_
  obtain ⟨F2, s2, S2, rx⟩ := rzF_frz S1 r1
  refine n1 m F2 H1 σ _ S2 fun y fy ρ2 F3 H2 vy n2 s3 S3 r3 => ?_
  obtain ⟨F4, s4, S4, ry⟩ := rzF_frz S3 r3
  obtain ⟨i, j, rfl, rfl, n⟩ := n2
  refine ⟨i, j, rz_i (rz_mono (s3.trans s4) _ _ rx), rz_i ry, g i j, rfl, ?_⟩
  by_cases c : g i j = true
  · rw [if_pos c] at n ⊢
    refine n m F4 H2 σ _ S4 fun w fw ρ3 F5 H3 vw n3 s5 S5 r5 => ?_
    obtain ⟨F6, s6, S6, rw_⟩ := rzF_frz S5 r5
    obtain ⟨l, rfl, n⟩ := n3
    exact ⟨j, l, rz_i ry, rz_i rw_, k _ _ _ _ _ _ n ((((s1.trans s2).trans (s3.trans s4)).trans s5).trans s6) S6 (rzF_f rzb)⟩
  · rw [if_neg c] at n ⊢
    exact k _ _ _ _ _ _ n ((s1.trans s2).trans (s3.trans s4)) S4 (rzF_f rzb)
/-! argument lists, displays -/
variable {L : List Dt → List Sl → Prop} {ts : TA}
theorem za_nil (h : L [] ρ) : ZA z tNil ρ L := fun m F H σ Q S k => k _ _ _ _ _ h (Same.refl F) S .nil
theorem za_cons (h : ZE z te ρ fun x _ ρ1 => ZA z ts ρ1 fun xs ρ2 => L (x :: xs) ρ2) : ZA z (tCons te ts) ρ L := fun m F H σ Q S k => by
  refine h m F H σ _ S fun x fx ρ1 F1 H1 vx n1 s1 S1 r1 => ?_
  obtain ⟨F2, s2, S2, rx⟩ := rzF_frz S1 r1
  exact n1 m F2 H1 σ _ S2 fun ds ρ' F' H' vs n s S' r => k _ _ _ _ _ n ((s1.trans s2).trans s) S' (.cons (rz_mono s _ _ rx) r)
theorem ze_tup (h : ZA z ts ρ fun ds ρ1 => ds.length ≤ 1000 ∧ N (.tup ds) false ρ1) : ZE z (tTup ts) ρ N := fun m F H σ Q S k => by
  refine h m F H σ _ S fun ds ρ1 F1 H1 vs n1 s1 S1 r1 => ⟨by rw [r1.len, sizeLine_eq]; omega, fun p hp => ?_⟩
  obtain ⟨s2, S2⟩ := S1.new (o := .tup vs) hp
  exact k _ _ _ _ _ _ n1.2 (s1.trans s2) S2 (show Rz z.K m.B _ (.tup ds) _ by simp only [Rz]; exact ⟨p, vs, rfl, upd_same, rzl_mono s2 _ _ r1⟩)
theorem ze_lst (h : ZA z ts ρ fun ds ρ1 => ds.length ≤ 1000 ∧ N (.lst true ds) true ρ1) : ZE z (tLst ts) ρ N := fun m F H σ Q S k => by
  refine h m F H σ _ S fun ds ρ1 F1 H1 vs n1 s1 S1 r1 => ⟨by rw [r1.len, sizeLine_eq]; omega, fun p hp => ?_⟩
  exact k _ _ _ _ _ _ n1.2 s1 (S1.newO hp) (rzF_new S1 hp (.lst r1))
theorem ze_dnewK (h : N (.dic true [] []) true ρ) : ZE z tDNewK ρ N := fun m F H σ Q S k p hp => k _ _ _ _ _ _ h (Same.refl F) (S.newO hp) (rzF_new S hp (HoR.dK (kvs := []) .nil))
theorem ze_dnewT (h : N (.dit true [] []) true ρ) : ZE z tDNewT ρ N := fun m F H σ Q S k p hp => k _ _ _ _ _ _ h (Same.refl F) (S.newO hp) (rzF_new S hp (HoR.dT (kvs := []) .nil))
/-! attributes -/
inductive FldD (K : PySem.W.Frag) : Dt → Str → Addr → Dt → Prop
  | ins {C : Addr} {fs : List Str} {ds : List Dt} {f : Str} {d : Dt} : look fs ds f = some d → FldD K (.ins C fs ds) f C d
  | top (n d : Int) : FldD K (.rat n d) "top" (He.ga K "Ratio") (.int n)
  | bot (n d : Int) : FldD K (.rat n d) "bottom" (He.ga K "Ratio") (.int d)
theorem ratF_top (n d : Int) : (ratF n d).lookup ("top" : Str) = some (.int n) := rfl
theorem ratF_bot (n d : Int) : (ratF n d).lookup ("bottom" : Str) = some (.int d) := by
  show (match (("bottom" : Str) == "top") with | true => some (V.int n) | false => List.lookup ("bottom" : Str) [("bottom", V.int d)]) = some (.int d)
  rw [show ((("bottom" : Str) == "top") = false) from by decide +kernel]
  rfl
theorem look_fld {K : PySem.W.Frag} {B F : Hp} {f : Str} {d : Dt} : ∀ {kvs : List (Str × V)} {ds : List Dt}, Rzl K B F ds (kvs.map Prod.snd) → look (kvs.map Prod.fst) ds f = some d → ∃ v, kvs.lookup f = some v ∧ Rz K B F d v
  | [], ds, h, e => by simp [look] at e
  | p :: r, ds, h, e => by
    cases ds with
    | nil => cases h.inv0
    | cons d' ds =>
      obtain ⟨u, r', e', h1, t⟩ := h.inv
      rw [List.map_cons] at e'
      obtain ⟨rfl, rfl⟩ := List.cons.inj e'
      rw [List.map_cons, look] at e
      obtain ⟨pk, pv⟩ := p
      by_cases c : pk = f
      · rw [if_pos c] at e
        cases e
        subst c
        exact ⟨pv, by simp [List.lookup_cons], h1⟩
      · rw [if_neg c] at e
        obtain ⟨v, h2, h3⟩ := look_fld t e
        exact ⟨v, by rw [List.lookup_cons, show (f == pk) = false from beq_eq_false_iff_ne.mpr (Ne.symm c)]; exact h2, h3⟩
theorem ze_fld {f : Str} (h : ZE z ta ρ fun x _ ρ1 => ∃ C d, FldD z.K x f C d ∧ Cls z.K C ∧ NoAttr z.K C f ∧ N d false ρ1) : ZE z (tFld z.K ta f) ρ N := fun m F H σ Q S k => by
  refine h m F H σ _ S fun x fx ρ1 F1 H1 vx n1 s1 S1 r1 => ?_
  obtain ⟨F2, s2, S2, rx⟩ := rzF_frz S1 r1
  obtain ⟨C, d, hf, hc, hn, n⟩ := n1
  cases hf with
  | ins hl =>
    simp only [Rz] at rx
    obtain ⟨a, dx, kvs, rfl, e, rfl, r⟩ := rx
    obtain ⟨v, h1, h2⟩ := look_fld r hl
    exact ⟨a, _, dx, kvs, v, rfl, S2.le.exact e rfl, hc, hn, h1, k _ _ _ _ _ _ n (s1.trans s2) S2 (rzF_f h2)⟩
  | top n' d' =>
    simp only [Rz] at rx
    obtain ⟨a, dx, rfl, e⟩ := rx
    exact ⟨a, _, dx, _, _, rfl, S2.le.exact e rfl, hc, hn, ratF_top _ _, k _ _ _ _ _ _ n (s1.trans s2) S2 (rzF_f rzi)⟩
  | bot n' d' =>
    simp only [Rz] at rx
    obtain ⟨a, dx, rfl, e⟩ := rx
    exact ⟨a, _, dx, _, _, rfl, S2.le.exact e rfl, hc, hn, ratF_bot _ _, k _ _ _ _ _ _ n (s1.trans s2) S2 (rzF_f rzi)⟩
/-! a variable looked into: as it stands, frozen or not -/
def Pk (s : Sl) (d : Dt) : Prop := s = .v d ∨ s = .o d ∨ ∃ a, s = .l a d
theorem Sm.peekL {m : Fm} {F H : Hp} {σ : L2.St} (S : Sm z m F H σ ρ) {t : Bool} {ds : List Dt} {s : Sl} (h : ρ[i]? = some s) (p : Pk s (.lst t ds)) : ∃ a xs, σ[i]? = some (some (.ref a)) ∧ H a = some (.lst xs) ∧ Rzl z.K m.B F ds xs := by
  obtain ⟨ov, e, ok⟩ := S.get h
  rcases p with rfl | rfl | ⟨a, rfl⟩
  · obtain ⟨v, rfl, r⟩ := ok
    simp only [Rz] at r
    obtain ⟨a, xs, rfl, h1, _, h2⟩ := r
    exact ⟨a, xs, e, S.le.exact h1 rfl, h2⟩
  · obtain ⟨l, rfl, _, _, _, ho, h1, h2⟩ := ok
    cases h2 with
    | lst r => exact ⟨l, _, e, h1, r⟩
  · obtain ⟨rfl, _, _, ho, h1, h2⟩ := ok
    cases h2 with
    | lst r =>
      rcases h1 with h1 | ⟨c, _⟩
      · exact ⟨a, _, e, S.base _ _ h1, r⟩
      · cases c
end
/-! ### calls -/
/-- a def's promise, heap-free: what w says of the arguments' data, the answer, the error -/
abbrev Wz := List Dt → (Dt → Bool → Prop) → (Addr → List (Str × V) → Prop) → Prop
def Got (K : PySem.W.Frag) (F H F' H' : Hp) (fr : Bool) (d : Dt) (v : V) : Prop := Same F F' ∧ Same H H' ∧ Lk H F' H' ∧ Nw F H F' ∧ (∀ a ob u, H' a = some (.frz ob u) → H a = some (.frz ob u)) ∧
  if fr = true then ∃ l, v = .ref l ∧ F' l = none ∧ H l = none ∧ ∃ ho, H' l = some ho ∧ HoR K H F' ho d else Rz K H F' d v
def spZ (K : PySem.W.Frag) (w : Wz) : Sp := fun vs H Q E => ∃ (F : Hp) (ds : List Dt) (Nv : Dt → Bool → Prop) (Ne : Addr → List (Str × V) → Prop), Le F H ∧ Rzl K H F ds vs ∧ w ds Nv Ne ∧
  (∀ d fr F' H' v, Nv d fr → Got K F H F' H' fr d v → Q v H') ∧ ∀ C fs dd H', Ne C fs → ErrR H fs dd H' → E (.ref C) dd H'
theorem HoR.base {K : PySem.W.Frag} {B B' F : Hp} {ho : HO} {d : Dt} (h : HoR K B' F ho d) (hb : ∀ a, B' a = none → B a = none) : HoR K B F ho d := by
  cases h with
  | lst h => exact .lst (rzl_base hb _ _ h)
  | dK h => exact .dK (rzl_base hb _ _ h)
  | dT h => exact .dT (rzl_base hb _ _ h)
section
variable {z : Cz} {m : Fm} {F F' H H' : Hp} {σ : L2.St} {ρ : List Sl} {fr : Bool} {d : Dt} {v : V}
theorem Sm.got (S : Sm z m F H σ ρ) (g : Got z.K F H F' H' fr d v) : Sm z m F' H' σ ρ ∧ RzF z m F' H' σ ρ fr d v := by
  obtain ⟨f, h, lk, nw, fz, r⟩ := g
  have lk' : Lk m.J F' H' := fun a o e => by
    rcases lk a o e with q | ⟨q, ob, q1, q2⟩
    · exact .inl q
    · rcases nw a o e with c | c | c
      · obtain ⟨u, hu⟩ := Option.ne_none_iff_exists'.mp c
        have := f _ _ hu
        rw [e] at this
        cases this
        rcases S.lk a o hu with p | ⟨_, ob', p1, p2⟩
        · rw [q2] at p
          cases p
        · rw [q2] at p1
          cases p1
          exact .inr ⟨q, ob, q1, p2⟩
      · rw [q2] at c; cases c
      · cases o <;> first | (exact absurd c Bool.false_ne_true) | (exact absurd q Bool.false_ne_true)
  have S' := S.ext f h lk' nw fz
  refine ⟨S', ?_⟩
  unfold RzF
  cases fr with
  | false =>
    rw [if_neg (fun x => nomatch x)] at r ⊢
    exact rz_base S.dom _ _ r
  | true =>
    rw [if_pos rfl] at r ⊢
    obtain ⟨l, rfl, h1, h2, ho, h3, h4⟩ := r
    refine ⟨l, rfl, ⟨h1, S.dom _ h2, S.j_none h2, ho, h3, h4.base S.dom⟩, fun j e a b => ?_⟩
    obtain ⟨l', e', _, _, _, ho', h5, _⟩ := S.geto a
    rw [b] at e'
    cases e'
    rw [h2] at h5
    cases h5
end
section
variable {z : Cz} {ρ : List Sl} {N : Dt → Bool → List Sl → Prop} {t : TA} {w : Wz} {E : XK}
theorem ze_call (h : ZA z t ρ fun ds ρ1 => w (Dt.olds ds) (fun d fr => N d fr ρ1) fun _ _ => False) : ZE z (tCall (spZ z.K w) [] E t) ρ N := fun m F H σ Q S k => by
  refine h m F H σ _ S fun ds ρ1 F1 H1 vs n1 s1 S1 r1 => ?_
  rw [List.append_nil]
  refine ⟨F1, Dt.olds ds, _, _, S1.le, rzl_old _ _ r1, n1, fun d fr F' H' v nd g => ?_, fun C fs dd H' f => f.elim⟩
  obtain ⟨S2, r2⟩ := S1.got g
  exact k _ _ _ _ _ _ nd (s1.trans g.1) S2 r2
/-- .. that may raise -/
theorem ze_callR (h : ZA z t ρ fun ds ρ1 => w (Dt.olds ds) (fun d fr => N d fr ρ1) z.Eh) : ZE z (tCall (spZ z.K w) [] z.Er t) ρ N := fun m F H σ Q S k => by
  refine h m F H σ _ S fun ds ρ1 F1 H1 vs n1 s1 S1 r1 => ?_
  rw [List.append_nil]
  refine ⟨F1, Dt.olds ds, _, _, S1.le, rzl_old _ _ r1, n1, fun d fr F' H' v nd g => ?_, fun C fs dd H' e er => ?_⟩
  · obtain ⟨S2, r2⟩ := S1.got g
    exact k _ _ _ _ _ _ nd (s1.trans g.1) S2 r2
  · refine S1.er C fs dd H' e ⟨?_, ?_⟩
    · intro a o q
      rcases S1.bj a o q with c | ⟨c, ob, c'⟩
      · rcases er.1 a o (S1.base _ _ c) with q | q
        · exact .inl q
        · exact .inr q
      · refine .inr ⟨c, ob, ?_⟩
        rcases er.1 a _ (S1.base _ _ c') with q | ⟨q, _⟩
        · exact q
        · cases q
    · have q := er.2
      cases fs with
      | nil => exact q
      | cons p r =>
        obtain ⟨x, h1, h2, h3⟩ := q
        exact ⟨x, h1, S1.dom _ h2, h3⟩
end
/-! ### a def by its body -/
def slots (N : List Str) (ds : List Dt) : List Sl := ds.map Sl.v ++ List.replicate (N.length - ds.length) .un
def fmE (F H : Hp) : Fm := ⟨H, F, H, fun _ => False⟩
theorem slots_ok {K : PySem.W.Frag} {F H : Hp} {ds : List Dt} {vs : List V} {n : Nat} (r : Rzl K H F ds vs) {i : Nat} {s : Sl} {ov : Option V}
    (a : (ds.map Sl.v ++ List.replicate n Sl.un)[i]? = some s) (b : (vs.map some ++ List.replicate n none)[i]? = some ov) : (s = .un) ∨ ∃ d v, s = .v d ∧ ov = some v ∧ Rz K H F d v := by
  have l := r.len
  by_cases c : i < ds.length
  · rw [List.getElem?_append_left (by rw [List.length_map]; exact c), List.getElem?_map] at a
    rw [List.getElem?_append_left (by rw [List.length_map]; omega), List.getElem?_map] at b
    cases e : ds[i]? with
    | none => rw [e] at a; cases a
    | some d =>
      rw [e] at a
      cases a
      obtain ⟨v, e2, r2⟩ := r.at_ e
      rw [e2] at b
      cases b
      exact .inr ⟨d, v, rfl, rfl, r2⟩
  · rw [List.getElem?_append_right (by rw [List.length_map]; omega), List.getElem?_replicate] at a
    split at a
    · cases a; exact .inl rfl
    · cases a
theorem Sm.start {K : PySem.W.Frag} {E : XK} {Ne : Addr → List (Str × V) → Prop} {F H : Hp} {ds : List Dt} {vs : List V} {N : List Str} (le : Le F H) (r : Rzl K H F ds vs) (er : ∀ C fs dd H', Ne C fs → ErrR H fs dd H' → E (.ref C) dd H') :
    Sm ⟨K, E, Ne⟩ (fmE F H) F H (L2.start N vs) (slots N ds) := by
  have l := r.len
  have key : ∀ {i : Nat} {s : Sl} {ov : Option V}, (slots N ds)[i]? = some s → (L2.start N vs)[i]? = some ov → (s = .un) ∨ ∃ d v, s = .v d ∧ ov = some v ∧ Rz K H F d v := fun {i s ov} a b => slots_ok r a (by rw [← l]; exact b)
  refine { lk := le.lk, base := Same.refl H, fr := Nw.refl F H, dom := fun _ h => h, bj := Le.refl H, er := er, hid := fun _ h => h.elim, fj := fun _ _ _ q => q, len := ?_, slot := fun i s ov a b => ?_, sep := fun i j d e q a b c c' => ?_, psep := fun i j q d e a b => ?_ }
  · unfold L2.start slots
    rw [List.length_append, List.length_append, List.length_map, List.length_map, List.length_replicate, List.length_replicate, l]
  · rcases key a b with rfl | ⟨d, v, rfl, rfl, r⟩
    · trivial
    · exact ⟨v, rfl, r⟩
  · rcases key a c with h | ⟨d, v, h, _⟩ <;> cases h
  · have hi : i < (slots N ds).length := (List.getElem?_eq_some_iff.mp a).1
    have hl : (L2.start N vs).length = (slots N ds).length := by
      unfold L2.start slots
      rw [List.length_append, List.length_append, List.length_map, List.length_map, List.length_replicate, List.length_replicate, l]
    rcases key a (List.getElem?_eq_getElem (by rw [hl]; exact hi)) with h | ⟨d, v, h, _⟩ <;> cases h
theorem z_fn {X : Cx} {body : List Stmt} {t : TS} {K : PySem.W.Frag} {w : Wz} {N : List Str} {vs : List V} {H : Hp} {Q : VK} {E : XK} (h : spZ K w vs H Q E) (P : PSs X body t)
    (go : ∀ ds Nv Ne, w ds Nv Ne → ZS ⟨K, E, Ne⟩ t (slots N ds) ⟨fun _ => Nv .non false, Nv, fun _ => False, fun _ => False⟩) : ∃ t, PSs X body t ∧ t { nx := fun _ H' => Q .non H', rt := Q } (L2.start N vs) H := by
  obtain ⟨F, ds, Nv, Ne, le, r, hw, hq, he⟩ := h
  refine ⟨t, P, go ds Nv Ne hw (fmE F H) F H _ _ (Sm.start le r he) (fun ρ' F' H' σ' n s S => hq _ _ F' H' _ n ⟨s, S.base, S.lk, S.fr, S.fj, show Rz K H F' .non .non from rzn⟩) (fun d fr F' H' v n s R => ?_) (fun _ _ _ _ n => n.elim) (fun _ _ _ _ n => n.elim)⟩
  obtain ⟨S, r⟩ := R
  refine hq d fr F' H' v n ⟨s, S.base, S.lk, S.fr, S.fj, ?_⟩
  cases fr with
  | false => exact r
  | true =>
    rw [if_pos rfl] at r ⊢
    obtain ⟨l, rfl, h1, h2, h3, ho, h4, h5⟩ := r
    exact ⟨l, rfl, h1, h2, ho, h4, h5⟩
theorem spz_len {K : PySem.W.Frag} {w : Wz} {vs : List V} {H : Hp} {Q : VK} {E : XK} {n : Nat} (h : spZ K w vs H Q E) (hl : ∀ ds Nv Ne, w ds Nv Ne → ds.length = n) : vs.length = n := by
  obtain ⟨F, ds, Nv, Ne, le, r, hw, _⟩ := h
  rw [r.len, hl ds Nv Ne hw]
/-! ### dicts -/
def keyD : Key → Dt
  | .inl i => .int i
  | .inr x => .str x
theorem rz_key {K : PySem.W.Frag} {B F : Hp} : ∀ {k : Key} {v : V}, Rz K B F (keyD k) v → v = kV k
  | .inl _, _, h => rz_i h
  | .inr _, _, h => rz_s h
theorem key_rz {K : PySem.W.Frag} {B F : Hp} : ∀ (k : Key), Rz K B F (keyD k) (kV k)
  | .inl _ => rzi
  | .inr _ => rzs
theorem rzl_keys {K : PySem.W.Frag} {B F : Hp} : ∀ {ks : List Key} {vs : List V}, Rzl K B F (ks.map keyD) vs → vs = ks.map kV
  | [], _, h => h.inv0
  | k :: ks, _, h => by
    obtain ⟨v, r, rfl, h1, t⟩ := h.inv
    rw [rz_key h1, rzl_keys t]
    rfl
theorem keys_rzl {K : PySem.W.Frag} {B F : Hp} : ∀ (ks : List Key), Rzl K B F (ks.map keyD) (ks.map kV)
  | [] => .nil
  | k :: ks => .cons (key_rz k) (keys_rzl ks)
inductive GetD : Dt → Dt → Option Dt → Prop
  | k {t : Bool} {ks : List Key} {ds : List Dt} (x : Key) {o : Option Dt} : look ks ds x = o → GetD (.dic t ks ds) (keyD x) o
  | t {t : Bool} {ks : List (List Key)} {ds : List Dt} (x : List Key) {o : Option Dt} : look ks ds x = o → GetD (.dit t ks ds) (.tup (x.map keyD)) o
theorem GetD.str {t : Bool} {ks : List Key} {ds : List Dt} {x : Str} {o : Option Dt} (h : look ks ds (.inr x) = o) : GetD (.dic t ks ds) (.str x) o := .k (.inr x) h
theorem GetD.int {t : Bool} {ks : List Key} {ds : List Dt} {x : Int} {o : Option Dt} (h : look ks ds (.inl x) = o) : GetD (.dic t ks ds) (.int x) o := .k (.inl x) h
inductive PutD : Dt → Dt → Dt → Dt → Prop
  | k {ks : List Key} {ds : List Dt} {d : Dt} (x : Key) : ks.length < 100000 → PutD (.dic true ks ds) (keyD x) d (.dic true (putKs ks x) (putDs ks ds x d))
  | t {ks : List (List Key)} {ds : List Dt} {d : Dt} (x : List Key) : ks.length < 100000 → PutD (.dit true ks ds) (.tup (x.map keyD)) d (.dit true (putKs ks x) (putDs ks ds x d))
theorem PutD.str {ks : List Key} {ds : List Dt} {d : Dt} {x : Str} (h : ks.length < 100000) : PutD (.dic true ks ds) (.str x) d (.dic true (putKs ks (.inr x)) (putDs ks ds (.inr x) d)) := .k (.inr x) h
/-- a dict at a -/
inductive DctR (K : PySem.W.Frag) (B F H : Hp) (a : Addr) : Dt → Prop
  | k {t : Bool} {kvs : List (Key × V)} {ds : List Dt} : L2.Rd H a (.dK kvs) → Rzl K B F ds (kvs.map Prod.snd) → DctR K B F H a (.dic t (kvs.map Prod.fst) ds)
  | t {t : Bool} {kvs : List (List Key × V)} {ds : List Dt} : L2.Rd H a (.dT kvs) → Rzl K B F ds (kvs.map Prod.snd) → DctR K B F H a (.dit t (kvs.map Prod.fst) ds)
def isDd : Dt → Bool
  | .dic _ _ _ => true
  | .dit _ _ _ => true
  | _ => false
theorem rz_dct {K : PySem.W.Frag} {B F H : Hp} {d : Dt} {v : V} (h : Rz K B F d v) (le : Le F H) (i : isDd d = true) : ∃ a, v = .ref a ∧ DctR K B F H a d := by
  cases d <;> first | cases i | skip
  · simp only [Rz] at h
    obtain ⟨a, kvs, rfl, h1, _, rfl, h2⟩ := h
    exact ⟨a, rfl, .k (le.rd h1) h2⟩
  · simp only [Rz] at h
    obtain ⟨a, kvs, rfl, h1, _, rfl, h2⟩ := h
    exact ⟨a, rfl, .t (le.rd h1) h2⟩
theorem GetD.isDd {c y : Dt} {o : Option Dt} (h : GetD c y o) : isDd c = true := by cases h <;> rfl
def OptR (K : PySem.W.Frag) (B F : Hp) : Option Dt → Option V → Prop
  | some d, some v => Rz K B F d v
  | none, none => True
  | _, _ => False
theorem dct_get {K : PySem.W.Frag} {B F H : Hp} {a : Addr} {c y : Dt} {o : Option Dt} {vy : V} (h : DctR K B F H a c) (g : GetD c y o) (r : Rz K B F y vy) (le : Le F H) : ∃ vo, DGet H a vy vo ∧ OptR K B F o vo := by
  cases g with
  | k x e =>
    obtain rfl := rz_key r
    cases h with
    | k h1 h2 =>
      have q := tab_look (k := x) h2
      rw [e] at q
      refine ⟨_, .inl ⟨_, x, h1, rfl, rfl⟩, ?_⟩
      cases o with
      | none => rw [q]; trivial
      | some d =>
        obtain ⟨v, e1, e2⟩ := q
        rw [e1]
        exact e2
  | t x e =>
    simp only [Rz] at r
    obtain ⟨b, xs, rfl, hb, rx⟩ := r
    obtain rfl := rzl_keys rx
    cases h with
    | t h1 h2 =>
      have q := tab_look (k := x) h2
      rw [e] at q
      refine ⟨_, .inr ⟨_, x, b, h1, rfl, le.exact hb rfl, rfl⟩, ?_⟩
      cases o with
      | none => rw [q]; trivial
      | some d =>
        obtain ⟨v, e1, e2⟩ := q
        rw [e1]
        exact e2
theorem OptR.isSome {K : PySem.W.Frag} {B F : Hp} : ∀ {o : Option Dt} {vo : Option V}, OptR K B F o vo → vo.isSome = o.isSome
  | some _, some _, _ => rfl
  | none, none, _ => rfl
section
variable {z : Cz} {ρ : List Sl} {i : Nat}
theorem Sm.has {m : Fm} {F H : Hp} {σ : L2.St} (S : Sm z m F H σ ρ) {s : Sl} {c : Dt} (h : ρ[i]? = some s) (p : Pk s c) : ∃ v, σ[i]? = some (some v) := by
  obtain ⟨ov, e, ok⟩ := S.get h
  rcases p with rfl | rfl | ⟨a, rfl⟩
  · obtain ⟨v, rfl, r⟩ := ok; exact ⟨v, e⟩
  · obtain ⟨l, rfl, _⟩ := ok; exact ⟨_, e⟩
  · obtain ⟨rfl, _⟩ := ok; exact ⟨_, e⟩
theorem Sm.peekD {m : Fm} {F H : Hp} {σ : L2.St} (S : Sm z m F H σ ρ) {s : Sl} {c : Dt} (h : ρ[i]? = some s) (p : Pk s c) (hc : isDd c = true) : ∃ a, σ[i]? = some (some (.ref a)) ∧ DctR z.K m.B F H a c := by
  obtain ⟨ov, e, ok⟩ := S.get h
  rcases p with rfl | rfl | ⟨a, rfl⟩
  · obtain ⟨v, rfl, r⟩ := ok
    obtain ⟨a, rfl, q⟩ := rz_dct r S.le hc
    exact ⟨a, e, q⟩
  · obtain ⟨l, rfl, _, _, _, ho, h1, h2⟩ := ok
    cases h2 with
    | lst r => cases hc
    | dK r => exact ⟨l, e, .k (.inl h1) r⟩
    | dT r => exact ⟨l, e, .t (.inl h1) r⟩
  · obtain ⟨rfl, _, _, ho, h1, h2⟩ := ok
    have hr : L2.Rd H a ho := by
      rcases h1 with h1 | ⟨_, ob, h1⟩
      · exact .inl (S.base _ _ h1)
      · exact .inr ⟨ob, S.base _ _ h1⟩
    cases h2 with
    | lst r => cases hc
    | dK r => exact ⟨a, e, .k hr r⟩
    | dT r => exact ⟨a, e, .t hr r⟩
theorem DctR.isD {K : PySem.W.Frag} {B F H : Hp} {a : Addr} {c : Dt} (h : DctR K B F H a c) : IsD H a := by
  cases h with
  | k h1 _ => exact .inl ⟨_, h1⟩
  | t h1 _ => exact .inr ⟨_, h1⟩
variable {N : Dt → Bool → List Sl → Prop} {td ty tx tv : TE} {s0 : Sl} {c0 : Dt}
theorem ze_dgetv (h0 : ρ[i]? = some s0) (p0 : Pk s0 c0) (h : ZE z ty ρ fun y _ ρ1 => ∃ s c d, ρ1[i]? = some s ∧ Pk s c ∧ GetD c y (some d) ∧ N d false ρ1) : ZE z (tDGet (tVar i) ty) ρ N := fun m F H σ Q S k => by
  obtain ⟨v, e⟩ := S.has h0 p0
  refine ⟨v, e, h m F H σ _ S fun y fy ρ1 F1 H1 vy n1 s1 S1 r1 => ?_⟩
  obtain ⟨F2, s2, S2, ry⟩ := rzF_frz S1 r1
  obtain ⟨s, c, d, hs, p, g, n⟩ := n1
  obtain ⟨a, e', q⟩ := S2.peekD hs p g.isDd
  rw [e] at e'
  cases e'
  obtain ⟨vo, q1, q2⟩ := dct_get q g ry S2.le
  cases vo with
  | none => exact q2.elim
  | some u => exact ⟨a, u, rfl, q1, k _ _ _ _ _ _ n (s1.trans s2) S2 (rzF_f q2)⟩
theorem ze_dget (h : ZE z td ρ fun c _ ρ1 => ZE z ty ρ1 fun y _ ρ2 => ∃ d, GetD c y (some d) ∧ N d false ρ2) : ZE z (tDGet td ty) ρ N := fun m F H σ Q S k => by
  refine h m F H σ _ S fun c fc ρ1 F1 H1 vc n1 s1 S1 r1 => ?_
  obtain ⟨F2, s2, S2, rc⟩ := rzF_frz S1 r1
  refine n1 m F2 H1 σ _ S2 fun y fy ρ2 F3 H2 vy n2 s3 S3 r3 => ?_
  obtain ⟨F4, s4, S4, ry⟩ := rzF_frz S3 r3
  obtain ⟨d, g, n⟩ := n2
  obtain ⟨a, rfl, q⟩ := rz_dct (rz_mono (s3.trans s4) _ _ rc) S4.le g.isDd
  obtain ⟨vo, q1, q2⟩ := dct_get q g ry S4.le
  cases vo with
  | none => exact q2.elim
  | some u => exact ⟨a, u, rfl, q1, k _ _ _ _ _ _ n ((s1.trans s2).trans (s3.trans s4)) S4 (rzF_f q2)⟩
theorem ze_dinv (h0 : ρ[i]? = some s0) (h : ZE z ty ρ fun y _ ρ1 => ∃ s c o, ρ1[i]? = some s ∧ Pk s c ∧ GetD c y o ∧ N (.bl o.isSome) false ρ1) : ZE z (tDIn ty (tVar i)) ρ N := fun m F H σ Q S k => by
  refine h m F H σ _ S fun y fy ρ1 F1 H1 vy n1 s1 S1 r1 => ?_
  obtain ⟨F2, s2, S2, ry⟩ := rzF_frz S1 r1
  obtain ⟨s, c, o, hs, p, g, n⟩ := n1
  obtain ⟨a, e', q⟩ := S2.peekD hs p g.isDd
  obtain ⟨vo, q1, q2⟩ := dct_get q g ry S2.le
  exact ⟨_, e', a, vo, rfl, q1, by rw [q2.isSome]; exact k _ _ _ _ _ _ n (s1.trans s2) S2 (rzF_f rzb)⟩
theorem ze_dnotinv (h0 : ρ[i]? = some s0) (h : ZE z ty ρ fun y _ ρ1 => ∃ s c o, ρ1[i]? = some s ∧ Pk s c ∧ GetD c y o ∧ N (.bl (!o.isSome)) false ρ1) : ZE z (tDNotIn ty (tVar i)) ρ N := fun m F H σ Q S k => by
  refine h m F H σ _ S fun y fy ρ1 F1 H1 vy n1 s1 S1 r1 => ?_
  obtain ⟨F2, s2, S2, ry⟩ := rzF_frz S1 r1
  obtain ⟨s, c, o, hs, p, g, n⟩ := n1
  obtain ⟨a, e', q⟩ := S2.peekD hs p g.isDd
  obtain ⟨vo, q1, q2⟩ := dct_get q g ry S2.le
  exact ⟨_, e', a, vo, rfl, q1, by rw [q2.isSome]; exact k _ _ _ _ _ _ n (s1.trans s2) S2 (rzF_f rzb)⟩
theorem ze_din (h : ZE z ty ρ fun y _ ρ1 => ZE z td ρ1 fun c _ ρ2 => ∃ o, GetD c y o ∧ N (.bl o.isSome) false ρ2) : ZE z (tDIn ty td) ρ N := fun m F H σ Q S k => by
  refine h m F H σ _ S fun y fy ρ1 F1 H1 vy n1 s1 S1 r1 => ?_
  obtain ⟨F2, s2, S2, ry⟩ := rzF_frz S1 r1
  refine n1 m F2 H1 σ _ S2 fun c fc ρ2 F3 H2 vc n2 s3 S3 r3 => ?_
  obtain ⟨F4, s4, S4, rc⟩ := rzF_frz S3 r3
  obtain ⟨o, g, n⟩ := n2
  obtain ⟨a, rfl, q⟩ := rz_dct rc S4.le g.isDd
  obtain ⟨vo, q1, q2⟩ := dct_get q g (rz_mono (s3.trans s4) _ _ ry) S4.le
  exact ⟨a, vo, rfl, q1, by rw [q2.isSome]; exact k _ _ _ _ _ _ n ((s1.trans s2).trans (s3.trans s4)) S4 (rzF_f rzb)⟩
theorem ze_dget2v (h0 : ρ[i]? = some s0) (p0 : Pk s0 c0) (hc : isDd c0 = true) (h : ZE z ty ρ fun y _ ρ1 => ZE z tx ρ1 fun x _ ρ2 => ∃ s c o, ρ2[i]? = some s ∧ Pk s c ∧ GetD c y o ∧ N (o.getD x) false ρ2) : ZE z (tDGet2 (tVar i) ty tx) ρ N := fun m F H σ Q S k => by
  obtain ⟨a, e, q0⟩ := S.peekD h0 p0 hc
  refine ⟨_, e, a, rfl, q0.isD, h m F H σ _ S fun y fy ρ1 F1 H1 vy n1 s1 S1 r1 => ?_⟩
  obtain ⟨F2, s2, S2, ry⟩ := rzF_frz S1 r1
  refine n1 m F2 H1 σ _ S2 fun x fx ρ2 F3 H2 vx n2 s3 S3 r3 => ?_
  obtain ⟨F4, s4, S4, rx⟩ := rzF_frz S3 r3
  obtain ⟨s, c, o, hs, p, g, n⟩ := n2
  obtain ⟨a', e', q⟩ := S4.peekD hs p g.isDd
  rw [e] at e'
  cases e'
  obtain ⟨vo, q1, q2⟩ := dct_get q g (rz_mono (s3.trans s4) _ _ ry) S4.le
  refine ⟨vo, q1, k _ _ _ _ _ _ n ((s1.trans s2).trans (s3.trans s4)) S4 (rzF_f ?_)⟩
  cases o <;> cases vo <;> first | exact q2.elim | exact rx | exact q2
theorem zs_dput {D : Zn} (h : ZE z tv ρ fun v _ ρ1 => ∃ s0 c0, ρ1[i]? = some s0 ∧ Pk s0 c0 ∧ ZE z ty ρ1 fun y _ ρ2 => ∃ c c', ρ2[i]? = some (.o c) ∧ PutD c y v c' ∧ D.nx (ρ2.set i (.o c'))) : ZS z (sDPut (tVar i) ty tv) ρ D := fun m F H σ E S kn kr kb kc => by
  refine h m F H σ _ S fun v fv ρ1 F1 H1 vv n1 s1 S1 r1 => ?_
  obtain ⟨F2, s2, S2, rv⟩ := rzF_frz S1 r1
  obtain ⟨s0, c0, hs0, hp0, n1⟩ := n1
  obtain ⟨u, eu⟩ := S2.has hs0 hp0
  refine ⟨u, eu, n1 m F2 H1 σ _ S2 fun y fy ρ2 F3 H2 vy n2 s3 S3 r3 => ?_⟩
  obtain ⟨F4, s4, S4, ry⟩ := rzF_frz S3 r3
  obtain ⟨c, c', hc, p, n⟩ := n2
  obtain ⟨l, el, h1, h2, h3, ho, h4, h5⟩ := S4.geto hc
  rw [eu] at el
  cases el
  have ss := (s1.trans s2).trans (s3.trans s4)
  have rv' := rz_mono (s3.trans s4) _ _ rv
  cases p with
  | k x hl =>
    obtain rfl := rz_key ry
    cases h5 with
    | dK r =>
      have hr := HoR.dK (tab_putD (k := x) r rv')
      rw [tab_putK] at hr
      exact ⟨l, _, rfl, DPut.k h4 (by rw [List.length_map] at hl; rw [sizeLine_eq]; omega), kn _ _ _ _ n ss (S4.put hc eu hr)⟩
  | t x hl =>
    simp only [Rz] at ry
    obtain ⟨b, xs, rfl, hb, rx⟩ := ry
    obtain rfl := rzl_keys rx
    cases h5 with
    | dT r =>
      have hr := HoR.dT (tab_putD (k := x) r rv')
      rw [tab_putK] at hr
      exact ⟨l, _, rfl, DPut.t h4 (S4.le.exact hb rfl) (by rw [List.length_map] at hl; rw [sizeLine_eq]; omega), kn _ _ _ _ n ss (S4.put hc eu hr)⟩
end
/-! ### a dict locked where it is walked -/
/-- behind: the dict that was locked within is open again -/
def unlN (H : Hp) (N : L2.St → Hp → Prop) : L2.St → Hp → Prop := fun σ' H' => N σ' H' ∨ ∃ d od u, (∀ o' u', H d ≠ some (.frz o' u')) ∧ H' d = some (.frz od u) ∧ N σ' (upd H' d u)
def unlV (H : Hp) (N : VK) : VK := fun v H' => N v H' ∨ ∃ d od u, (∀ o' u', H d ≠ some (.frz o' u')) ∧ H' d = some (.frz od u) ∧ N v (upd H' d u)
def tLockL (t : TS) : TS := fun D σ H => t ⟨unlN H D.nx, unlV H D.rt, unlN H D.bk, unlN H D.ct⟩ σ H
def tLockLE (t : TE) : TE := fun σ H Q => t σ H (unlV H Q)
def tLk (td : TE) : TE := fun σ H Q => td σ H fun x H1 => ∃ d u, x = .ref d ∧ ((H1 d = some u ∧ Mut (some u) ∧ ∀ o, Q x (upd H1 d (.frz o u))) ∨ Q x H1)
section
variable {X : Cx}
theorem nofrz0 {pins : List (Addr × Obj)} {σ : L2.St} {H : Hp} {s : Shared} {d : Addr} (I : Inv X pins σ H s) (h : ∀ o' u', H d ≠ some (.frz o' u')) : ∀ o' u', X.H_0 d ≠ some (.frz o' u') := fun o' u' e => h o' u' (I.base.frzs d o' u' e)
theorem ps_lockL {st : Stmt} {t : TS} (h : PS X st t) : PS X st (tLockL t) := by
  refine ⟨fun pins s σ H D I hw => ?_⟩
  refine thn (h.run pins s σ _ _ I hw) fun f s1 q => ?_
  cases f with
  | next =>
    obtain ⟨σ', H', I2, q | ⟨d, od, u, hn, e, q⟩⟩ := q
    · exact ⟨σ', _, I2, q⟩
    · exact ⟨σ', _, I2.unlock e (nofrz0 I hn), q⟩
  | brk =>
    obtain ⟨σ', H', I2, q | ⟨d, od, u, hn, e, q⟩⟩ := q
    · exact ⟨σ', _, I2, q⟩
    · exact ⟨σ', _, I2.unlock e (nofrz0 I hn), q⟩
  | cont =>
    obtain ⟨σ', H', I2, q | ⟨d, od, u, hn, e, q⟩⟩ := q
    · exact ⟨σ', _, I2, q⟩
    · exact ⟨σ', _, I2.unlock e (nofrz0 I hn), q⟩
  | ret v =>
    obtain ⟨x, σ', H', I2, r, q | ⟨d, od, u, hn, e, q⟩⟩ := q
    · exact ⟨x, σ', _, I2, r, q⟩
    · exact ⟨x, σ', _, I2.unlock e (nofrz0 I hn), r, q⟩
theorem pe_lockL {e : Expr} {t : TE} (h : PE X e t) : PE X e (tLockLE t) := by
  refine ⟨fun pins s σ H Q I hw => ?_⟩
  refine thn (h.run pins s σ _ _ I hw) fun v s1 q => ?_
  obtain ⟨x, H1, I2, r, q | ⟨d, od, u, hn, e, q⟩⟩ := q
  · exact ⟨x, _, I2, r, q⟩
  · exact ⟨x, _, I2.unlock e (nofrz0 I hn), r, q⟩
theorem pe_lk {e : Expr} {t : TE} (h : PE X e t) : PE X e (tLk t) := by
  refine ⟨fun pins s σ H Q I hw => ?_⟩
  refine thn (h.run pins s σ _ _ I hw) fun v s1 q => ?_
  obtain ⟨x, H1, I2, r, d, u, rfl, ⟨e, mu, q⟩ | q⟩ := q
  · obtain ⟨od, I3⟩ := I2.lock e mu
    exact ⟨_, _, I3, r, q od⟩
  · exact ⟨_, _, I2, r, q⟩
end
/-! ### held things -/
def Fm.pin (m : Fm) (l : Addr) (o : HO) : Fm := { m with J := upd m.J l o, hd := fun a => m.hd a ∨ a = l }
def Fm.lock (m : Fm) (l : Addr) (o : HO) : Fm := { m with J := upd m.J l o }
def undo (un : Option (Addr × HO)) (H : Hp) : Hp := match un with
  | none => H
  | some (d, u) => upd H d u
structure Back (z : Cz) (H0 F1 : Hp) (m m' : Fm) (un : Option (Addr × HO)) (bp : List Sl → Prop) (bm : List Sl → List Sl) : Prop where
  leg : ∀ d u, un = some (d, u) → ∀ o' u', H0 d ≠ some (.frz o' u')
  fz : ∀ F H, Sc z m' F H → ∀ d u, un = some (d, u) → ∃ od, H d = some (.frz od u)
  sm : ∀ F H σ ρ, Same F1 F → Sm z m' F H σ ρ → bp ρ → Sm z m F (undo un H) σ (bm ρ)
  bb : m'.B = m.B
  rt : ∀ F H fr d v, Same F1 F → RtR z m' F H fr d v → RtR z m F (undo un H) fr d v
section
variable {z : Cz} {m : Fm} {F H : Hp} {σ : L2.St} {ρ : List Sl} {i : Nat} {d : Dt} {l : Addr}
theorem Back.id {H0 F1 : Hp} : Back z H0 F1 m m none (fun _ => True) (fun ρ => ρ) := ⟨fun _ _ e => (nomatch e), fun _ _ _ _ _ e => (nomatch e), fun _ _ _ _ _ S _ => S, rfl, fun _ _ _ _ _ _ R => R⟩
/-- an owned thing is held: a list as it stands; ho' what is told of it within -/
theorem Sm.pin {ho ho' : HO} (S : Sm z m F H σ ρ) (h : ρ[i]? = some (.o d)) (e : σ[i]? = some (some (.ref l))) (hl : H l = some ho) (k : ho' = ho ∨ isDk ho = true ∧ ∃ ob, ho' = .frz ob ho) :
    Sm z (m.pin l ho') F (upd H l ho') σ (ρ.set i (.l l d)) := by
  obtain ⟨l', e', h1, h2, h3, ho2, h4, h5⟩ := S.geto h
  rw [e] at e'
  cases e'
  rw [hl] at h4
  cases h4
  have nt : isTp ho' = false := by
    rcases k with rfl | ⟨_, ob, rfl⟩
    · exact h5.notTp
    · rfl
  have C : Sc z (m.pin l ho') F (upd H l ho') := ⟨fun a o q => by
      have n : a ≠ l := fun c => by rw [c, h1] at q; cases q
      show upd H l ho' a = some o ∨ _
      rw [upd_ne n]
      refine (S.lk a o q).elim .inl fun ⟨p, ob, p1, p2⟩ => .inr ⟨p, ob, p1, ?_⟩
      show upd m.J l ho' a = _
      rw [upd_ne n]
      exact p2, fun a o q => by
      have q : upd m.J l ho' a = some o := q
      by_cases c : a = l
      · rw [c, upd_same] at q ⊢; exact q
      · rw [upd_ne c] at q ⊢; exact S.base a o q, S.fr, fun a q => by
      by_cases c : a = l
      · rw [c, upd_same] at q; cases q
      · rw [upd_ne c] at q; exact S.dom a q, fun a o q => by
      have n : a ≠ l := fun c => by
        have q : m.B a = some o := q
        rw [c, h2] at q; cases q
      show upd m.J l ho' a = some o ∨ _
      rw [upd_ne n]
      refine (S.bj a o q).elim .inl fun ⟨p, ob, p1⟩ => .inr ⟨p, ob, ?_⟩
      show upd m.J l ho' a = _
      rw [upd_ne n]
      exact p1, S.er, fun a ha => by
      rcases ha with ha | rfl
      · obtain ⟨q1, o, q2, q3⟩ := S.hid a ha
        refine ⟨q1, o, ?_, q3⟩
        show upd m.J l ho' a = _
        rw [upd_ne (fun c => by rw [c, h3] at q2; cases q2)]
        exact q2
      · exact ⟨h1, ho', upd_same, nt⟩, fun a ob u q => by
      show upd m.J l ho' a = _
      by_cases c : a = l
      · rw [c, upd_same] at q ⊢; exact q
      · rw [upd_ne c] at q ⊢; exact S.fj a ob u q⟩
  have hi : i < ρ.length := (List.getElem?_eq_some_iff.mp h).1
  refine { C with len := by rw [List.length_set]; exact S.len, slot := fun j s ov a b => ?_, sep := fun j k d1 d2 l' a b c c' => ?_, psep := fun j k q d1 d2 a b => ?_ }
  · by_cases c : i = j
    · subst c
      rw [List.getElem?_set_self hi] at a
      cases a
      rw [e] at b
      cases b
      refine ⟨rfl, .inr rfl, h2, ho, ?_, h5⟩
      rcases k with rfl | ⟨k1, ob, rfl⟩
      · exact .inl upd_same
      · exact .inr ⟨k1, ob, upd_same⟩
    · rw [List.getElem?_set_ne c] at a
      have q := S.slot j s ov a b
      cases s with
      | un => trivial
      | v d => exact q
      | o d2 =>
        obtain ⟨l', e', q1, q2, q3, ho2, q4, q5⟩ := q
        subst e'
        have n : l' ≠ l := fun z => c (S.sep i j _ _ l h a e (by rw [b, z]))
        refine ⟨l', rfl, q1, q2, ?_, ho2, ?_, q5⟩
        · show upd m.J l ho' l' = none
          rw [upd_ne n]; exact q3
        · rw [upd_ne n]; exact q4
      | l a2 d2 =>
        obtain ⟨q0, q1, q2, ho2, q4, q5⟩ := q
        have n : a2 ≠ l := fun z => by rw [z, h3] at q4; rcases q4 with q4 | ⟨_, _, q4⟩ <;> cases q4
        refine ⟨q0, .inl q1, q2, ho2, ?_, q5⟩
        show upd m.J l ho' a2 = some ho2 ∨ isDk ho2 = true ∧ ∃ ob, upd m.J l ho' a2 = _
        rw [upd_ne n]
        exact q4
  · have key : ∀ {x : Nat} {u : Dt}, (ρ.set i (.l l d))[x]? = some (.o u) → ρ[x]? = some (.o u) := fun {x u} p => by
      by_cases c : i = x
      · subst c
        rw [List.getElem?_set_self hi] at p
        cases p
      · rw [List.getElem?_set_ne c] at p
        exact p
    exact S.sep j k d1 d2 l' (key a) (key b) c c'
  · have key : ∀ {x : Nat} {u : Dt}, (ρ.set i (.l l d))[x]? = some (.l q u) → (x = i ∧ q = l) ∨ (ρ[x]? = some (.l q u) ∧ q ≠ l) := fun {x u} p => by
      by_cases c : i = x
      · subst c
        rw [List.getElem?_set_self hi] at p
        cases p
        exact .inl ⟨rfl, rfl⟩
      · rw [List.getElem?_set_ne c] at p
        refine .inr ⟨p, fun z => ?_⟩
        obtain ⟨ov, _, _, _, _, ho2, q4, _⟩ := S.get p
        rw [z, h3] at q4
        rcases q4 with q4 | ⟨_, _, q4⟩ <;> cases q4
    rcases key a with ⟨rfl, rfl⟩ | ⟨p1, p2⟩
    · rcases key b with ⟨rfl, _⟩ | ⟨_, p3⟩
      · rfl
      · exact absurd rfl p3
    · rcases key b with ⟨_, rfl⟩ | ⟨p3, _⟩
      · exact absurd rfl p2
      · exact S.psep j k q d1 d2 p1 p3
/-- .. and one's own again -/
theorem Sc.unpin {ho ho' : HO} (nf : ∀ ob u, ho ≠ .frz ob u) (S : Sc z (m.pin l ho') F H) (hB : m.B l = none) (hJ : m.J l = none) (hh : ¬ m.hd l) : Sc z m F (upd H l ho) := by
  obtain ⟨hF, _⟩ := S.hid l (.inr rfl)
  refine ⟨fun a o q => ?_, fun a o q => ?_, S.fr, fun a q => ?_, fun a o q => ?_, S.er, fun a ha => ?_, fun a ob u q => ?_⟩
  · have n : a ≠ l := fun c => by rw [c, hF] at q; cases q
    rw [upd_ne n]
    refine (S.lk a o q).elim .inl fun ⟨p, ob, p1, p2⟩ => .inr ⟨p, ob, p1, ?_⟩
    have p2 : upd m.J l ho' a = _ := p2
    rw [upd_ne n] at p2
    exact p2
  · have n : a ≠ l := fun c => by rw [c, hJ] at q; cases q
    rw [upd_ne n]
    refine S.base a o ?_
    show upd m.J l ho' a = _
    rw [upd_ne n]
    exact q
  · by_cases c : a = l
    · rw [c, upd_same] at q; cases q
    · rw [upd_ne c] at q; exact S.dom a q
  · have n : a ≠ l := fun c => by rw [c, hB] at q; cases q
    refine (S.bj a o q).elim (fun p => .inl ?_) fun ⟨p, ob, p1⟩ => .inr ⟨p, ob, ?_⟩
    · have p : upd m.J l ho' a = _ := p
      rw [upd_ne n] at p
      exact p
    · have p1 : upd m.J l ho' a = _ := p1
      rw [upd_ne n] at p1
      exact p1
  · obtain ⟨q1, o, q2, q3⟩ := S.hid a (.inl ha)
    refine ⟨q1, o, ?_, q3⟩
    have q2 : upd m.J l ho' a = _ := q2
    rw [upd_ne (fun c => hh (by rw [← c]; exact ha))] at q2
    exact q2
  · by_cases c : a = l
    · rw [c, upd_same] at q
      exact absurd (Option.some.inj q) (nf ob u)
    · rw [upd_ne c] at q
      have q2 : upd m.J l ho' a = _ := S.fj a ob u q
      rw [upd_ne c] at q2
      exact q2
theorem back_pin {H0 F1 : Hp} {ho ho' : HO} {un : Option (Addr × HO)} (nf : ∀ ob u, ho ≠ .frz ob u) (hB : m.B l = none) (hJ : m.J l = none) (hh : ¬ m.hd l) (k : (ho' = ho ∧ un = none) ∨ (isDk ho = true ∧ (∃ ob, ho' = .frz ob ho) ∧ un = some (l, ho) ∧ ∀ o' u', H0 l ≠ some (.frz o' u'))) :
    Back z H0 F1 m (m.pin l ho') un (fun ρ => ρ[i]? = some (.l l d)) (fun ρ => ρ.set i (.o d)) := by
  have st : ∀ {F H : Hp}, Sc z (m.pin l ho') F H → undo un H = upd H l ho ∧ H l = some ho' := fun {F H} S => by
    have q : H l = some ho' := S.base l ho' upd_same
    refine ⟨?_, q⟩
    rcases k with ⟨rfl, rfl⟩ | ⟨_, _, rfl, _⟩
    · show H = upd H l ho'
      funext b
      by_cases c : b = l
      · rw [c, upd_same]; exact q
      · rw [upd_ne c]
    · rfl
  refine ⟨fun d u e => ?_, fun F H S d u e => ?_, fun F H σ ρ _ S hb => ?_, rfl, fun F H fr d v _ R => ?_⟩
  · rcases k with ⟨_, rfl⟩ | ⟨_, _, rfl, k⟩
    · cases e
    · cases e; exact k
  · rcases k with ⟨_, rfl⟩ | ⟨_, ⟨ob, rfl⟩, rfl, _⟩
    · cases e
    · cases e; exact ⟨ob, (st S).2⟩
  · rw [(st S.toSc).1]
    obtain ⟨hF, _⟩ := S.hid l (.inr rfl)
    have hi : i < ρ.length := (List.getElem?_eq_some_iff.mp hb).1
    obtain ⟨ov, eo, ok⟩ := S.get hb
    obtain ⟨rfl, _, _, ho2, h4, h5⟩ := ok
    have eho : ho2 = ho := by
      have j : (m.pin l ho').J l = some ho' := upd_same
      rw [j] at h4
      rcases k with ⟨rfl, _⟩ | ⟨k1, ⟨ob, rfl⟩, _⟩
      · rcases h4 with h4 | ⟨k2, ob', h4⟩
        · cases h4; rfl
        · cases h4
          exact absurd rfl (nf _ _)
      · rcases h4 with h4 | ⟨_, ob', h4⟩
        · cases h4; cases h5
        · cases h4; rfl
    subst eho
    refine { Sc.unpin nf S.toSc hB hJ hh with len := by rw [List.length_set]; exact S.len, slot := fun j s ov a b => ?_, sep := fun j k' d1 d2 l' a b c c' => ?_, psep := fun j k' q d1 d2 a b => ?_ }
    · by_cases c : i = j
      · subst c
        rw [List.getElem?_set_self hi] at a
        cases a
        rw [eo] at b
        cases b
        exact ⟨l, rfl, hF, hB, hJ, ho2, upd_same, h5⟩
      · rw [List.getElem?_set_ne c] at a
        have q := S.slot j s ov a b
        cases s with
        | un => trivial
        | v d => exact q
        | o d2 =>
          obtain ⟨l', e', q1, q2, q3, ho3, q4, q5⟩ := q
          subst e'
          have q3 : upd m.J l ho' l' = none := q3
          have n : l' ≠ l := fun z => by rw [z, upd_same] at q3; cases q3
          rw [upd_ne n] at q3
          exact ⟨l', rfl, q1, q2, q3, ho3, by rw [upd_ne n]; exact q4, q5⟩
        | l a2 d2 =>
          obtain ⟨q0, q1, q2, ho3, q4, q5⟩ := q
          have n : a2 ≠ l := fun z => by
            subst z
            exact c (S.psep i j _ _ _ hb a)
          have q4 : upd m.J l ho' a2 = some ho3 ∨ isDk ho3 = true ∧ ∃ ob, upd m.J l ho' a2 = some (.frz ob ho3) := q4
          rw [upd_ne n] at q4
          exact ⟨q0, q1.elim id fun z => absurd z n, q2, ho3, q4, q5⟩
    · have key : ∀ {x : Nat} {u : Dt}, (ρ.set i (.o d))[x]? = some (.o u) → σ[x]? = some (some (.ref l')) → (x = i ∧ l' = l) ∨ (ρ[x]? = some (.o u) ∧ l' ≠ l) := fun {x u} p q => by
        by_cases c : i = x
        · subst c
          rw [eo] at q
          cases q
          exact .inl ⟨rfl, rfl⟩
        · rw [List.getElem?_set_ne c] at p
          refine .inr ⟨p, fun z => ?_⟩
          obtain ⟨l2, e2, _, _, q3, _⟩ := S.geto p
          rw [q] at e2
          cases e2
          have q3 : upd m.J l ho' l' = none := q3
          rw [z, upd_same] at q3
          cases q3
      rcases key a c with ⟨rfl, rfl⟩ | ⟨p1, p2⟩
      · rcases key b c' with ⟨rfl, _⟩ | ⟨_, p3⟩
        · rfl
        · exact absurd rfl p3
      · rcases key b c' with ⟨_, rfl⟩ | ⟨p3, _⟩
        · exact absurd rfl p2
        · exact S.sep j k' d1 d2 l' p1 p3 c c'
    · have key : ∀ {x : Nat} {u : Dt}, (ρ.set i (.o d))[x]? = some (.l q u) → ρ[x]? = some (.l q u) := fun {x u} p => by
        by_cases c : i = x
        · subst c
          rw [List.getElem?_set_self hi] at p
          cases p
        · rw [List.getElem?_set_ne c] at p
          exact p
      exact S.psep j k' q d1 d2 (key a) (key b)
  · obtain ⟨S, r⟩ := R
    rw [(st S).1]
    refine ⟨Sc.unpin nf S hB hJ hh, ?_⟩
    cases fr with
    | false => exact r
    | true =>
      rw [if_pos rfl] at r ⊢
      obtain ⟨l', rfl, q1, q2, q3, ho3, q4, q5⟩ := r
      have q3 : upd m.J l ho' l' = none := q3
      have n : l' ≠ l := fun z => by rw [z, upd_same] at q3; cases q3
      rw [upd_ne n] at q3
      exact ⟨l', rfl, q1, q2, q3, ho3, by rw [upd_ne n]; exact q4, q5⟩
/-- a frozen dict is locked -/
theorem Sm.lock {u : HO} (S : Sm z m F H σ ρ) (hF : F l = some u) (hH : H l = some u) (hu : isDk u = true) (ob : Obj) : Sm z (m.lock l (.frz ob u)) F (upd H l (.frz ob u)) σ ρ := by
  have nh : ¬ m.hd l := fun h => by rw [(S.hid l h).1] at hF; cases hF
  have nf : ∀ {o : HO}, isDk o = true → ∀ ob u, o ≠ .frz ob u := fun h ob u z => by rw [z] at h; cases h
  have C : Sc z (m.lock l (.frz ob u)) F (upd H l (.frz ob u)) := ⟨fun a o q => by
      by_cases n : a = l
      · subst n
        rw [hF] at q
        cases q
        exact .inr ⟨hu, ob, upd_same, upd_same⟩
      · rw [upd_ne n]
        refine (S.lk a o q).elim .inl fun ⟨p, ob, p1, p2⟩ => .inr ⟨p, ob, p1, ?_⟩
        show upd m.J l _ a = _
        rw [upd_ne n]
        exact p2, fun a o q => by
      have q : upd m.J l _ a = some o := q
      by_cases c : a = l
      · rw [c, upd_same] at q ⊢; exact q
      · rw [upd_ne c] at q ⊢; exact S.base a o q, S.fr, fun a q => by
      by_cases c : a = l
      · rw [c, upd_same] at q; cases q
      · rw [upd_ne c] at q; exact S.dom a q, fun a o q => by
      show upd m.J l _ a = some o ∨ isDk o = true ∧ ∃ ob, upd m.J l _ a = _
      by_cases n : a = l
      · subst n
        rw [upd_same]
        rcases S.bj a o q with p | ⟨p, ob', p1⟩
        · have := S.base _ _ p
          rw [hH] at this
          cases this
          exact .inr ⟨hu, ob, rfl⟩
        · have := S.base _ _ p1
          rw [hH] at this
          cases this
          cases hu
      · rw [upd_ne n]
        exact S.bj a o q, S.er, fun a ha => by
      obtain ⟨q1, o, q2, q3⟩ := S.hid a ha
      refine ⟨q1, o, ?_, q3⟩
      show upd m.J l _ a = _
      rw [upd_ne (fun c => nh (by rw [← c]; exact ha))]
      exact q2, fun a ob' u' q => by
      show upd m.J l _ a = _
      by_cases c : a = l
      · rw [c, upd_same] at q ⊢; exact q
      · rw [upd_ne c] at q ⊢; exact S.fj a ob' u' q⟩
  refine { C with len := S.len, slot := fun j s ov a b => ?_, sep := S.sep, psep := S.psep }
  have q := S.slot j s ov a b
  cases s with
  | un => trivial
  | v d => exact q
  | o d2 =>
    obtain ⟨l', e', q1, q2, q3, ho2, q4, q5⟩ := q
    have n : l' ≠ l := fun z => by rw [z, hF] at q1; cases q1
    refine ⟨l', e', q1, q2, ?_, ho2, by rw [upd_ne n]; exact q4, q5⟩
    show upd m.J l _ l' = none
    rw [upd_ne n]; exact q3
  | l a2 d2 =>
    obtain ⟨q0, q1, q2, ho2, q4, q5⟩ := q
    have n : a2 ≠ l := fun z => nh (by rw [← z]; exact q1)
    refine ⟨q0, q1, q2, ho2, ?_, q5⟩
    show upd m.J l _ a2 = some ho2 ∨ isDk ho2 = true ∧ ∃ ob, upd m.J l _ a2 = _
    rw [upd_ne n]
    exact q4
theorem back_lock {H0 F1 : Hp} {u : HO} {ob : Obj} (hl : ∀ o' u', H0 l ≠ some (.frz o' u')) (hF : F1 l = some u) (hJ : ∀ o, m.J l = some o → o = u) (hB : ∀ o, m.B l = some o → m.J l = some o) (hu : isDk u = true) (nh : ¬ m.hd l) : Back z H0 F1 m (m.lock l (.frz ob u)) (some (l, u)) (fun _ => True) (fun ρ => ρ) := by
  have st : ∀ {F H : Hp}, Sc z (m.lock l (.frz ob u)) F H → H l = some (.frz ob u) := fun {F H} S => S.base l _ upd_same
  have un : ∀ {F H : Hp}, Same F1 F → Sc z (m.lock l (.frz ob u)) F H → Sc z m F (upd H l u) := fun {F H} sF S => by
    have hH := st S
    refine ⟨fun a o q => ?_, fun a o q => ?_, S.fr, fun a q => ?_, fun a o q => ?_, S.er, fun a ha => ?_, fun a ob' u' q => ?_⟩
    · by_cases n : a = l
      · subst n
        rw [upd_same]
        have := sF _ _ hF
        rw [q] at this
        exact .inl this.symm
      · rw [upd_ne n]
        refine (S.lk a o q).elim .inl fun ⟨p, ob, p1, p2⟩ => .inr ⟨p, ob, p1, ?_⟩
        have p2 : upd m.J l _ a = _ := p2
        rw [upd_ne n] at p2
        exact p2
    · by_cases n : a = l
      · subst n
        rw [upd_same, hJ o q]
      · rw [upd_ne n]
        refine S.base a o ?_
        show upd m.J l _ a = _
        rw [upd_ne n]
        exact q
    · by_cases c : a = l
      · rw [c, upd_same] at q; cases q
      · rw [upd_ne c] at q; exact S.dom a q
    · by_cases n : a = l
      · subst n
        exact .inl (hB o q)
      · refine (S.bj a o q).elim (fun p => .inl ?_) fun ⟨p, ob, p1⟩ => .inr ⟨p, ob, ?_⟩
        · have p : upd m.J l _ a = _ := p
          rw [upd_ne n] at p
          exact p
        · have p1 : upd m.J l _ a = _ := p1
          rw [upd_ne n] at p1
          exact p1
    · obtain ⟨q1, o, q2, q3⟩ := S.hid a ha
      refine ⟨q1, o, ?_, q3⟩
      have q2 : upd m.J l _ a = _ := q2
      rw [upd_ne (fun c => nh (by rw [← c]; exact ha))] at q2
      exact q2
    · by_cases c : a = l
      · rw [c, upd_same] at q
        cases q
        cases hu
      · rw [upd_ne c] at q
        have q2 : upd m.J l _ a = _ := S.fj a ob' u' q
        rw [upd_ne c] at q2
        exact q2
  have jn : ∀ {x : Addr}, (m.lock l (.frz ob u)).J x = none → x ≠ l ∧ m.J x = none := fun {x} q => by
    have q : upd m.J l (.frz ob u) x = none := q
    have n : x ≠ l := fun z => by rw [z, upd_same] at q; cases q
    rw [upd_ne n] at q
    exact ⟨n, q⟩
  refine ⟨fun d u' e => ?_, fun F H S d u' e => ?_, fun F H σ ρ sF S _ => ?_, rfl, fun F H fr d v sF R => ?_⟩
  · cases e; exact hl
  · cases e; exact ⟨ob, st S⟩
  · refine { un sF S.toSc with len := S.len, slot := fun j s ov a b => ?_, sep := S.sep, psep := S.psep }
    have q := S.slot j s ov a b
    cases s with
    | un => trivial
    | v d => exact q
    | o d2 =>
      obtain ⟨l', e', q1, q2, q3, ho2, q4, q5⟩ := q
      obtain ⟨n, q3⟩ := jn q3
      exact ⟨l', e', q1, q2, q3, ho2, by show upd H l u l' = _; rw [upd_ne n]; exact q4, q5⟩
    | l a2 d2 =>
      obtain ⟨q0, q1, q2, ho2, q4, q5⟩ := q
      have n : a2 ≠ l := fun z => nh (by rw [← z]; exact q1)
      have q4 : upd m.J l _ a2 = some ho2 ∨ isDk ho2 = true ∧ ∃ ob, upd m.J l _ a2 = _ := q4
      rw [upd_ne n] at q4
      exact ⟨q0, q1, q2, ho2, q4, q5⟩
  · obtain ⟨S, r⟩ := R
    refine ⟨un sF S, ?_⟩
    cases fr with
    | false => exact r
    | true =>
      rw [if_pos rfl] at r ⊢
      obtain ⟨l', rfl, q1, q2, q3, ho3, q4, q5⟩ := r
      obtain ⟨n, q3⟩ := jn q3
      exact ⟨l', rfl, q1, q2, q3, ho3, by show upd H l u l' = _; rw [upd_ne n]; exact q4, q5⟩
end
/-! ### what is walked -/
/-- the walk begins: perhaps behind a lock -/
def ZI (z : Cz) (wi : TI) (ρ : List Sl) (N : List Dt → List Sl → (List Sl → Prop) → (List Sl → List Sl) → Prop) : Prop := ∀ m F H σ R, Sm z m F H σ ρ →
  (∀ ds ρ' bp bm m' un F' H' Jt, N ds ρ' bp bm → Same F F' → Back z H F' m m' un bp bm → Sm z m' F' H' σ ρ' → ItZ z m' F' Jt ds → R Jt H') → wi σ H R
section
variable {z : Cz} {ρ : List Sl} {wi : TI} {g : TG} {tb : TS} {N : Zn} {I : List Dt → List Sl → (List Sl → Prop) → (List Sl → List Sl) → Prop}
/-- a for: the states that the turns reach -/
theorem zs_forL (h : ZI z wi ρ fun ds ρ1 bp bm => ∃ W : Nat → List Sl → Prop, W 0 ρ1 ∧ (∀ ρ2, W ds.length ρ2 → bp ρ2 ∧ N.nx (bm ρ2)) ∧
    ∀ i d ρ2, ds[i]? = some d → W i ρ2 → ZG z g d false ρ2 fun ρ3 => ZS z tb ρ3 ⟨W (i + 1), N.rt, fun ρ4 => bp ρ4 ∧ N.nx (bm ρ4), W (i + 1)⟩) : ZS z (tLockL (tFor wi g tb)) ρ N := fun m F H σ D S kn kr kb kc => by
  refine h m F H σ _ S fun ds ρ1 bp bm m' un F1 H1 Jt n1 s1 B S1 it => ?_
  obtain ⟨W, w0, wd, ws⟩ := n1
  obtain ⟨n, G, Y, wk, rfl, gk, yk⟩ := it
  have toN : ∀ F2 H2 σ2 ρ2, Same F1 F2 → Sm z m' F2 H2 σ2 ρ2 → bp ρ2 ∧ N.nx (bm ρ2) → unlN H D.nx σ2 H2 := fun F2 H2 σ2 ρ2 s2 S2 q => by
    have S3 := B.sm F2 H2 σ2 ρ2 s2 S2 q.1
    cases un with
    | none => exact .inl (kn _ _ _ _ q.2 (s1.trans s2) S3)
    | some p =>
      obtain ⟨d, u⟩ := p
      obtain ⟨od, e⟩ := B.fz F2 H2 S2.toSc d u rfl
      exact .inr ⟨d, od, u, B.leg d u rfl, e, kn _ _ _ _ q.2 (s1.trans s2) S3⟩
  refine for_it wk (D := ⟨unlN H D.nx, unlV H D.rt, unlN H D.bk, unlN H D.ct⟩) (fun i σ2 H2 => ∃ F2 ρ2, W i ρ2 ∧ Same F1 F2 ∧ Sm z m' F2 H2 σ2 ρ2) ⟨F1, ρ1, w0, Same.refl F1, S1⟩ ?_ ?_ ?_
  · rintro i σ2 H2 hi ⟨F2, ρ2, w, s2, S2⟩
    exact gk F2 H2 s2 S2.le S2.base
  · rintro i x σ2 H2 H3 hi ⟨F2, ρ2, w, s2, S2⟩ y
    obtain ⟨F3, s3, S3, rx⟩ := yk m' i ds[i] F2 H2 H3 x σ2 ρ2 rfl (List.getElem?_eq_getElem hi) s2 S2 y
    refine ws i ds[i] ρ2 (List.getElem?_eq_getElem hi) w m' F3 H3 σ2 x _ S3 (rzF_f rx) fun ρ4 F4 H4 σ4 n4 s4 S4 => ?_
    have ss := s2.trans (s3.trans s4)
    refine n4 m' F4 H4 σ4 _ S4 (fun ρ5 F5 H5 σ5 w5 s5 S5 => ⟨F5, ρ5, w5, ss.trans s5, S5⟩) (fun d fr F5 H5 v q s5 R => ?_) (fun ρ5 F5 H5 σ5 w5 s5 S5 => toN _ _ _ _ (ss.trans s5) S5 w5) fun ρ5 F5 H5 σ5 w5 s5 S5 => ⟨F5, ρ5, w5, ss.trans s5, S5⟩
    have R2 := B.rt F5 H5 fr d v (ss.trans s5) R
    cases un with
    | none => exact .inl (kr _ _ _ _ _ q (s1.trans (ss.trans s5)) R2)
    | some p =>
      obtain ⟨d', u⟩ := p
      obtain ⟨od, e⟩ := B.fz F5 H5 R.1 d' u rfl
      exact .inr ⟨d', od, u, B.leg d' u rfl, e, kr _ _ _ _ _ q (s1.trans (ss.trans s5)) R2⟩
  · rintro σ2 H2 ⟨F2, ρ2, w, s2, S2⟩
    exact toN _ _ _ _ s2 S2 (wd ρ2 w)
end
/-! ### walks -/
theorem upd_self2 {H : Hp} {a : Addr} {o : HO} (h : H a = some o) : upd H a o = H := by
  funext b
  by_cases c : b = a
  · rw [c, upd_same, h]
  · rw [upd_ne c]
section
variable {z : Cz} {ρ : List Sl} {I : List Dt → List Sl → (List Sl → Prop) → (List Sl → List Sl) → Prop} {te : TE} {ta : TA} {i : Nat}
abbrev bT : List Sl → Prop := fun _ => True
abbrev bI : List Sl → List Sl := fun ρ => ρ
theorem it_list {m : Fm} {F : Hp} {K : PySem.W.Frag} {a : Addr} {xs : List V} {ds : List Dt} (hg : ∀ F' H', Same F F' → Le F' H' → Same m.J H' → H' a = some (.lst xs)) (r : Rzl z.K m.B F ds xs) : ItZ z m F (Itl K a) ds :=
  ⟨xs.length, _, _, walk_list, r.len, fun F' H' f le b => SqL.of (hg F' H' f le b), fun m2 i d F' H' H'' x σ ρ eb e f S y => by
    obtain ⟨rfl, y⟩ := y
    obtain ⟨v, e2, r2⟩ := r.at_ e
    rw [y] at e2
    cases e2
    exact ⟨F', Same.refl F', S, rz_mono f _ _ r2⟩⟩
theorem zi_list {K : PySem.W.Frag} (h : ZE z te ρ fun x _ ρ1 => ∃ t ds, x = .lst t ds ∧ I ds ρ1 bT bI) : ZI z (iList K te) ρ I := fun m F H σ R S k => by
  refine h m F H σ _ S fun x fx ρ1 F1 H1 vx n1 s1 S1 r1 => ?_
  obtain ⟨F2, s2, S2, rx⟩ := rzF_frz S1 r1
  obtain ⟨t, ds, rfl, n⟩ := n1
  simp only [Rz] at rx
  obtain ⟨a, xs, rfl, e, _, r⟩ := rx
  exact ⟨a, rfl, ⟨xs, SqL.of (S2.le.exact e rfl)⟩, k _ _ _ _ _ _ _ _ _ n (s1.trans s2) .id S2 (it_list (fun F' H' f le _ => le.exact (f _ _ e) rfl) r)⟩
/-- an owned list, held meanwhile -/
theorem zi_listo {K : PySem.W.Frag} {t : Bool} {ds : List Dt} (h : ρ[i]? = some (.o (.lst t ds))) (n : ∀ l, I ds (ρ.set i (.l l (.lst t ds))) (fun ρ => ρ[i]? = some (.l l (.lst t ds))) (fun ρ => ρ.set i (.o (.lst t ds)))) : ZI z (iList K (tVar i)) ρ I := fun m F H σ R S k => by
  obtain ⟨l, e, h1, h2, h3, ho, h4, h5⟩ := S.geto h
  cases h5 with
  | @lst xs _ r =>
    refine ⟨.ref l, e, l, rfl, ⟨xs, SqL.of h4⟩, ?_⟩
    have S' := S.pin (ho' := .lst xs) h e h4 (.inl rfl)
    rw [upd_self2 h4] at S'
    have nh : ¬ m.hd l := fun q => by
      obtain ⟨_, o, q2, _⟩ := S.hid l q
      rw [h3] at q2
      cases q2
    exact k _ _ _ _ _ _ _ _ _ (n l) (Same.refl F) (back_pin (fun ob u q => HO.noConfusion q) h2 h3 nh (.inl ⟨rfl, rfl⟩)) S' (it_list (fun F' H' _ _ b => b _ _ upd_same) r)
theorem zi_tup {K : PySem.W.Frag} (h : ZE z te ρ fun x _ ρ1 => ∃ ds, x = .tup ds ∧ I ds ρ1 bT bI) : ZI z (iTup K te) ρ I := fun m F H σ R S k => by
  refine h m F H σ _ S fun x fx ρ1 F1 H1 vx n1 s1 S1 r1 => ?_
  obtain ⟨F2, s2, S2, rx⟩ := rzF_frz S1 r1
  obtain ⟨ds, rfl, n⟩ := n1
  simp only [Rz] at rx
  obtain ⟨a, xs, rfl, e, r⟩ := rx
  refine ⟨a, rfl, ⟨xs, SqT.of (S2.le.exact e rfl)⟩, k _ _ _ _ _ _ _ _ _ n (s1.trans s2) .id S2 ⟨xs.length, _, _, walk_tup, r.len, fun F' H' f le b => SqT.of (le.exact (f _ _ e) rfl), fun m2 i d F' H' H'' x σ ρ eb e f S y => ?_⟩⟩
  obtain ⟨rfl, y⟩ := y
  obtain ⟨v, e2, r2⟩ := r.at_ e
  rw [y] at e2
  cases e2
  exact ⟨F', Same.refl F', S, rz_mono f _ _ r2⟩
theorem zi_range1 (h : ZA z ta ρ fun ds ρ1 => ∃ j : Int, ds = [.int j] ∧ -(2 ^ 62) ≤ j ∧ j < 2 ^ 62 ∧ I ((List.range j.toNat).map fun (i : Nat) => Dt.int (i : Int)) ρ1 bT bI) : ZI z (iRng1 ta) ρ I := fun m F H σ R S k => by
  refine h m F H σ _ S fun ds ρ1 F1 H1 vs n1 s1 S1 r1 => ?_
  obtain ⟨j, rfl, h1, h2, n⟩ := n1
  obtain ⟨v, r, rfl, rv, rr⟩ := r1.inv
  obtain rfl := rz_i rv
  obtain rfl := rr.inv0
  refine ⟨j, rfl, h1, h2, k _ _ _ _ _ _ _ _ _ n s1 .id S1 ⟨j.toNat, _, _, walk_range, by simp, fun _ _ _ _ _ => trivial, fun m2 i d F' H' H'' x σ ρ eb e f S y => ?_⟩⟩
  obtain ⟨rfl, rfl⟩ := y
  rw [List.getElem?_map] at e
  cases q : (List.range j.toNat)[i]? with
  | none => rw [q] at e; cases e
  | some u =>
    rw [q] at e
    cases e
    have := (List.getElem?_eq_some_iff.mp q).2
    rw [List.getElem_range] at this
    subst this
    exact ⟨F', Same.refl F', S, by simp [Rz]⟩
/-! dicts -/
/-- a frozen dict opened for a walk -/
theorem lk_open {m : Fm} {F F0 H H0 : Hp} {σ : L2.St} {ρ0 : List Sl} {a : Addr} {u : HO} {Q : V → Hp → Prop} {σ0 : L2.St} (S0 : Sm z m F0 H0 σ0 ρ0) (S : Sm z m F H σ ρ) (hF : F a = some u) (hu : isDk u = true) (mu : Mut (some u))
    (k : ∀ m' un ob H', Back z H0 F m m' un bT bI → Sm z m' F H' σ ρ → m'.J a = some (.frz ob u) → H' a = some (.frz ob u) → Q (.ref a) H') : ∃ d u', V.ref a = .ref d ∧ ((H d = some u' ∧ Mut (some u') ∧ ∀ o, Q (.ref a) (upd H d (.frz o u'))) ∨ Q (.ref a) H) := by
  refine ⟨a, u, rfl, ?_⟩
  rcases S.lk a u hF with h | ⟨_, ob, h, j⟩
  · refine .inl ⟨h, mu, fun o => k _ (some (a, u)) o _ ?_ (S.lock hF h hu o) upd_same upd_same⟩
    have nh : ¬ m.hd a := fun q => by rw [(S.hid a q).1] at hF; cases hF
    refine back_lock (fun o' u' q => ?_) hF (fun o q => ?_) (fun o q => ?_) hu nh
    · have := S.base _ _ (S0.fj a o' u' q)
      rw [h] at this
      cases this
      cases hu
    · have := S.base _ _ q
      rw [h] at this
      exact (Option.some.inj this).symm
    · rcases S.bj a o q with p | ⟨p, ob, p1⟩
      · exact p
      · have := S.base _ _ p1
        rw [h] at this
        cases this
        cases hu
  · exact .inr (k _ _ ob _ .id S j h)
theorem it_keys {m : Fm} {F : Hp} {a : Addr} {kvs : List (Key × V)} {ob : Obj} (j : m.J a = some (.frz ob (.dK kvs))) : ItZ z m F (Itk a ob kvs) ((kvs.map Prod.fst).map keyD) :=
  ⟨kvs.length, _, _, walk_keys, by simp, fun F' H' f le b => b _ _ j, fun m2 i d F' H' H'' x σ ρ eb e f S y => by
    obtain ⟨rfl, k, v, e2, rfl⟩ := y
    rw [List.getElem?_map, List.getElem?_map, e2] at e
    cases e
    exact ⟨F', Same.refl F', S, key_rz k⟩⟩
theorem it_keysT {m : Fm} {F : Hp} {a : Addr} {kvs : List (List Key × V)} {ob : Obj} (j : m.J a = some (.frz ob (.dT kvs))) : ItZ z m F (Itkt a ob kvs) ((kvs.map Prod.fst).map fun k => .tup (k.map keyD)) :=
  ⟨kvs.length, _, _, walk_keysT, by simp, fun F' H' f le b => b _ _ j, fun m2 i d F' H' H'' x σ ρ eb e f S y => by
    obtain ⟨rfl, k, v, q, e2, rfl, hq⟩ := y
    rw [List.getElem?_map, List.getElem?_map, e2] at e
    cases e
    obtain ⟨F'', f2, h2, S2⟩ := S.tup hq
    exact ⟨F'', f2, S2, by simp only [Rz]; exact ⟨q, _, rfl, h2, keys_rzl k⟩⟩⟩
theorem it_vals {m : Fm} {F : Hp} {a : Addr} {kvs : List (Key × V)} {ob : Obj} {ds : List Dt} (j : m.J a = some (.frz ob (.dK kvs))) (r : Rzl z.K m.B F ds (kvs.map Prod.snd)) : ItZ z m F (Itd a ob kvs) ds :=
  ⟨kvs.length, _, _, walk_values, by rw [← r.len]; simp, fun F' H' f le b => b _ _ j, fun m2 i d F' H' H'' x σ ρ eb e f S y => by
    obtain ⟨rfl, k, e2⟩ := y
    obtain ⟨v, e3, r3⟩ := r.at_ e
    rw [List.getElem?_map, e2] at e3
    cases e3
    exact ⟨F', Same.refl F', S, rz_mono f _ _ r3⟩⟩
def pairsD (ks : List Key) (ds : List Dt) : List Dt := List.zipWith (fun k d => .tup [keyD k, d]) ks ds
theorem it_items {m : Fm} {F : Hp} {a : Addr} {kvs : List (Key × V)} {ob : Obj} {ds : List Dt} (j : m.J a = some (.frz ob (.dK kvs))) (r : Rzl z.K m.B F ds (kvs.map Prod.snd)) : ItZ z m F (Iti a ob kvs) (pairsD (kvs.map Prod.fst) ds) :=
  ⟨kvs.length, _, _, walk_items, by unfold pairsD; rw [List.length_zipWith, ← r.len]; simp, fun F' H' f le b => b _ _ j, fun m2 i d F' H' H'' x σ ρ eb e f S y => by
    obtain ⟨T, kx, vx, rfl, hT, rfl, e2, e3⟩ := y
    dsimp only at e2 e3
    cases q : kvs[i]? with
    | none => rw [q] at e2; cases e2
    | some p =>
      rw [q] at e2 e3
      cases e2
      cases e3
      unfold pairsD at e
      rw [List.getElem?_zipWith, List.getElem?_map, q] at e
      obtain ⟨d', hd, rd⟩ := r.back (i := i) (v := p.2) (by rw [List.getElem?_map, q]; rfl)
      rw [hd] at e
      cases e
      obtain ⟨f2, S2⟩ := S.new (o := .tup [kV p.1, p.2]) hT
      exact ⟨_, f2, S2, by simp only [Rz]; exact ⟨T, _, rfl, upd_same, .cons (key_rz _) (.cons (rz_mono (f.trans f2) _ _ rd) .nil)⟩⟩⟩
/-- values, items -/
theorem zi_dK {wi : TE → TI} {f : List Key → List Dt → List Dt} {Jt : Addr → Obj → List (Key × V) → It}
    (hw : ∀ td σ H R, (td σ H fun x H1 => ∃ d o kvs, x = .ref d ∧ H1 d = some (.frz o (.dK kvs)) ∧ R (Jt d o kvs) H1) → wi td σ H R)
    (it : ∀ m F a kvs ob ds, m.J a = some (.frz ob (.dK kvs)) → Rzl z.K m.B F ds (kvs.map Prod.snd) → ItZ z m F (Jt a ob kvs) (f (kvs.map Prod.fst) ds))
    (h : ZE z te ρ fun c _ ρ1 => ∃ t ks ds, c = .dic t ks ds ∧ I (f ks ds) ρ1 bT bI) : ZI z (wi (tLk te)) ρ I := fun m F H σ R S k => by
  refine hw _ _ _ _ (h m F H σ _ S fun c fc ρ1 F1 H1 vc n1 s1 S1 r1 => ?_)
  obtain ⟨F2, s2, S2, rc⟩ := rzF_frz S1 r1
  obtain ⟨t, ks, ds, rfl, n⟩ := n1
  simp only [Rz] at rc
  obtain ⟨a, kvs, rfl, e, _, rfl, r⟩ := rc
  refine lk_open (Q := fun x H1 => ∃ d o kvs, x = .ref d ∧ H1 d = some (.frz o (.dK kvs)) ∧ R (Jt d o kvs) H1) S S2 e rfl trivial fun m' un ob H' B S3 j hh => ?_
  exact ⟨a, ob, kvs, rfl, hh, k _ _ _ _ _ _ _ _ _ n (s1.trans s2) B S3 (it m' F2 a kvs ob ds j (by rw [B.bb]; exact r))⟩
theorem zi_vals (h : ZE z te ρ fun c _ ρ1 => ∃ t ks ds, c = .dic t ks ds ∧ I ds ρ1 bT bI) : ZI z (iVals (tLk te)) ρ I := zi_dK (wi := iVals) (f := fun _ ds => ds) (fun _ _ _ _ h => h) (fun _ _ _ _ _ _ j r => it_vals j r) h
theorem zi_items (h : ZE z te ρ fun c _ ρ1 => ∃ t ks ds, c = .dic t ks ds ∧ I (pairsD ks ds) ρ1 bT bI) : ZI z (iItems (tLk te)) ρ I := zi_dK (wi := iItems) (f := pairsD) (fun _ _ _ _ h => h) (fun _ _ _ _ _ _ j r => it_items j r) h
/-- keys of either kind -/
def keysD : Dt → Option (List Dt)
  | .dic _ ks _ => some (ks.map keyD)
  | .dit _ ks _ => some (ks.map fun k => .tup (k.map keyD))
  | _ => none
theorem zi_keys (h : ZE z te ρ fun c _ ρ1 => ∃ es, keysD c = some es ∧ I es ρ1 bT bI) : ZI z (iKeys (tLk te)) ρ I := fun m F H σ R S k => by
  refine h m F H σ _ S fun c fc ρ1 F1 H1 vc n1 s1 S1 r1 => ?_
  obtain ⟨F2, s2, S2, rc⟩ := rzF_frz S1 r1
  obtain ⟨es, he, n⟩ := n1
  unfold keysD at he
  split at he <;> first | cases he | skip
  · simp only [Rz] at rc
    obtain ⟨a, kvs, rfl, e, _, rfl, r⟩ := rc
    exact lk_open (Q := fun x H1 => ∃ d o, x = .ref d ∧ ((∃ kvs, H1 d = some (.frz o (.dK kvs)) ∧ R (Itk d o kvs) H1) ∨ ∃ kvs, H1 d = some (.frz o (.dT kvs)) ∧ R (Itkt d o kvs) H1)) S S2 e rfl trivial fun m' un ob H' B S3 j hh =>
      ⟨a, ob, rfl, .inl ⟨kvs, hh, k _ _ _ _ _ _ _ _ _ n (s1.trans s2) B S3 (it_keys j)⟩⟩
  · simp only [Rz] at rc
    obtain ⟨a, kvs, rfl, e, _, rfl, r⟩ := rc
    exact lk_open (Q := fun x H1 => ∃ d o, x = .ref d ∧ ((∃ kvs, H1 d = some (.frz o (.dK kvs)) ∧ R (Itk d o kvs) H1) ∨ ∃ kvs, H1 d = some (.frz o (.dT kvs)) ∧ R (Itkt d o kvs) H1)) S S2 e rfl trivial fun m' un ob H' B S3 j hh =>
      ⟨a, ob, rfl, .inr ⟨kvs, hh, k _ _ _ _ _ _ _ _ _ n (s1.trans s2) B S3 (it_keysT j)⟩⟩
/-- keys of an owned dict, held meanwhile -/
theorem zi_keyso {c : Dt} {es : List Dt} (h : ρ[i]? = some (.o c)) (he : keysD c = some es) (n : ∀ l, I es (ρ.set i (.l l c)) (fun ρ => ρ[i]? = some (.l l c)) (fun ρ => ρ.set i (.o c))) : ZI z (iKeys (tLk (tVar i))) ρ I := fun m F H σ R S k => by
  obtain ⟨l, e, h1, h2, h3, ho, h4, h5⟩ := S.geto h
  have nh : ¬ m.hd l := fun q => by
    obtain ⟨_, o, q2, _⟩ := S.hid l q
    rw [h3] at q2
    cases q2
  have leg : ∀ o' u', H l ≠ some (.frz o' u') := fun o' u' q => by
    rw [h4] at q
    cases q
    exact absurd h5.notFz (fun z => nomatch z)
  cases h5 with
  | lst r => cases he
  | @dK kvs _ r =>
    cases he
    refine ⟨.ref l, e, l, _, rfl, .inl ⟨h4, trivial, fun o => ⟨l, o, rfl, .inl ⟨kvs, upd_same, ?_⟩⟩⟩⟩
    exact k _ _ _ _ _ _ _ _ _ (n l) (Same.refl F) (back_pin (fun ob u q => HO.noConfusion q) h2 h3 nh (.inr ⟨rfl, ⟨o, rfl⟩, rfl, leg⟩)) (S.pin (ho' := .frz o (.dK kvs)) h e h4 (.inr ⟨rfl, o, rfl⟩)) (it_keys upd_same)
  | @dT kvs _ r =>
    cases he
    refine ⟨.ref l, e, l, _, rfl, .inl ⟨h4, trivial, fun o => ⟨l, o, rfl, .inr ⟨kvs, upd_same, ?_⟩⟩⟩⟩
    exact k _ _ _ _ _ _ _ _ _ (n l) (Same.refl F) (back_pin (fun ob u q => HO.noConfusion q) h2 h3 nh (.inr ⟨rfl, ⟨o, rfl⟩, rfl, leg⟩)) (S.pin (ho' := .frz o (.dT kvs)) h e h4 (.inr ⟨rfl, o, rfl⟩)) (it_keysT upd_same)
end
/-! ### statements -/
section
variable {z : Cz} {ρ : List Sl} {t u : TS} {nx : List Sl → Prop} {rt : Dt → Bool → Prop} {bk ct : List Sl → Prop} {N : Zn} {te : TE} {i : Nat} {c : TT} {g : TG} {tb : TS}
def slF (fr : Bool) (d : Dt) : Sl := if fr = true then .o d else .v d
theorem Sm.setF {m : Fm} {F H : Hp} {σ : L2.St} {fr : Bool} {d : Dt} {v : V} (S : Sm z m F H σ ρ) (h : RzF z m F H σ ρ fr d v) : Sm z m F H (σ.set i (some v)) (ρ.set i (slF fr d)) := by
  cases fr with
  | false => exact S.setv h
  | true =>
    obtain ⟨l, rfl, o, hs⟩ := h
    exact S.set ⟨l, rfl, o⟩ (fun d' e l' j h1 h2 h3 h4 => by cases h2; exact absurd h4 (hs j e h3)) fun _ _ q => nomatch q
theorem zs_seq (h : ZS z t ρ ⟨fun ρ1 => ZS z u ρ1 ⟨nx, rt, bk, ct⟩, rt, bk, ct⟩) : ZS z (tSeq t u) ρ ⟨nx, rt, bk, ct⟩ := fun m F H σ D S kn kr kb kc =>
  h m F H σ _ S (fun ρ' F' H' σ' n s S' => n m F' H' σ' D S' (fun ρ2 F2 H2 σ2 n2 s2 => kn ρ2 F2 H2 σ2 n2 (s.trans s2)) (fun d fr F2 H2 v n2 s2 => kr d fr F2 H2 v n2 (s.trans s2)) (fun ρ2 F2 H2 σ2 n2 s2 => kb ρ2 F2 H2 σ2 n2 (s.trans s2)) fun ρ2 F2 H2 σ2 n2 s2 => kc ρ2 F2 H2 σ2 n2 (s.trans s2)) kr kb kc
theorem zs_cut (Mid : List Sl → Prop) (h : ZS z t ρ ⟨Mid, rt, bk, ct⟩) (h2 : ∀ ρ1, Mid ρ1 → ZS z u ρ1 ⟨nx, rt, bk, ct⟩) : ZS z (C8.tCut t u) ρ ⟨nx, rt, bk, ct⟩ := fun m F H σ D S kn kr kb kc =>
  ⟨fun σ' H' => ∃ ρ' F', Mid ρ' ∧ Same F F' ∧ Sm z m F' H' σ' ρ', h m F H σ _ S (fun ρ' F' H' σ' n s S' => ⟨ρ', F', n, s, S'⟩) kr kb kc, fun σ' H' ⟨ρ', F', n, s, S'⟩ =>
    h2 ρ' n m F' H' σ' D S' (fun ρ2 F2 H2 σ2 n2 s2 => kn ρ2 F2 H2 σ2 n2 (s.trans s2)) (fun d fr F2 H2 v n2 s2 => kr d fr F2 H2 v n2 (s.trans s2)) (fun ρ2 F2 H2 σ2 n2 s2 => kb ρ2 F2 H2 σ2 n2 (s.trans s2)) fun ρ2 F2 H2 σ2 n2 s2 => kc ρ2 F2 H2 σ2 n2 (s.trans s2)⟩
theorem zs_asg (h : ZE z te ρ fun d fr ρ1 => ZG z g d fr ρ1 N.nx) : ZS z (tAsg te g) ρ N := fun m F H σ D S kn kr kb kc =>
  h m F H σ _ S fun d fr ρ1 F1 H1 v n1 s1 S1 r1 => n1 m F1 H1 σ v _ S1 r1 fun ρ2 F2 H2 σ2 n2 s2 => kn ρ2 F2 H2 σ2 n2 (s1.trans s2)
theorem zg_nameT {d : Dt} {L : List Sl → Prop} (n : L (ρ.set i (.o d))) : ZG z (gName i) d true ρ L := fun m F H σ v Q S r k => k _ F H _ n (Same.refl F) (S.setF r)
theorem zg_nameF {d : Dt} {L : List Sl → Prop} (n : L (ρ.set i (.v d))) : ZG z (gName i) d false ρ L := fun m F H σ v Q S r k => k _ F H _ n (Same.refl F) (S.setF r)
theorem zg_nameB {d : Dt} {fr : Bool} {L : List Sl → Prop} (n : L (ρ.set i (slF fr d))) : ZG z (gName i) d fr ρ L := fun m F H σ v Q S r k => k _ F H _ n (Same.refl F) (S.setF r)
theorem zg_tup {K : PySem.W.Frag} {n : Nat} {gs : TGs} {ds : List Dt} {fr : Bool} {L : List Sl → Prop} (hl : ds.length = n) (h : ZGs z gs ds ρ L) : ZG z (gTup K n gs) (.tup ds) fr ρ L := fun m F H σ v Q S r k => by
  obtain ⟨F1, s1, S1, r⟩ := rzF_frz S r
  simp only [Rz] at r
  obtain ⟨a, xs, rfl, e, r⟩ := r
  exact ⟨a, xs, rfl, SqT.of (S1.le.exact e rfl), by rw [r.len, hl], h m F1 H σ xs Q S1 r fun ρ2 F2 H2 σ2 n2 s2 => k ρ2 F2 H2 σ2 n2 (s1.trans s2)⟩
theorem zgs_nil {L : List Sl → Prop} (n : L ρ) : ZGs z gNil [] ρ L := fun m F H σ vs Q S r k => ⟨r.inv0, k _ _ _ _ n (Same.refl F) S⟩
theorem zgs_cons {g : TG} {gs : TGs} {d : Dt} {ds : List Dt} {L : List Sl → Prop} (h : ZG z g d false ρ fun ρ1 => ZGs z gs ds ρ1 L) : ZGs z (gCons g gs) (d :: ds) ρ L := fun m F H σ vs Q S r k => by
  obtain ⟨v, r', rfl, r1, r2⟩ := r.inv
  exact ⟨v, r', rfl, h m F H σ v _ S r1 fun ρ1 F1 H1 σ1 n1 s1 S1 => n1 m F1 H1 σ1 r' Q S1 (rzl_mono s1 _ _ r2) fun ρ2 F2 H2 σ2 n2 s2 => k ρ2 F2 H2 σ2 n2 (s1.trans s2)⟩
theorem zs_if (h : ZT z c ρ fun b ρ1 => if b = true then ZS z t ρ1 N else ZS z u ρ1 N) : ZS z (tIfS c t u) ρ N := fun m F H σ D S kn kr kb kc => by
  refine h m F H σ _ S fun b ρ1 F1 H1 n1 s1 S1 => ?_
  cases b with
  | true => exact n1 m F1 H1 σ D S1 (fun ρ2 F2 H2 σ2 n2 s2 => kn ρ2 F2 H2 σ2 n2 (s1.trans s2)) (fun d fr F2 H2 v n2 s2 => kr d fr F2 H2 v n2 (s1.trans s2)) (fun ρ2 F2 H2 σ2 n2 s2 => kb ρ2 F2 H2 σ2 n2 (s1.trans s2)) fun ρ2 F2 H2 σ2 n2 s2 => kc ρ2 F2 H2 σ2 n2 (s1.trans s2)
  | false => exact n1 m F1 H1 σ D S1 (fun ρ2 F2 H2 σ2 n2 s2 => kn ρ2 F2 H2 σ2 n2 (s1.trans s2)) (fun d fr F2 H2 v n2 s2 => kr d fr F2 H2 v n2 (s1.trans s2)) (fun ρ2 F2 H2 σ2 n2 s2 => kb ρ2 F2 H2 σ2 n2 (s1.trans s2)) fun ρ2 F2 H2 σ2 n2 s2 => kc ρ2 F2 H2 σ2 n2 (s1.trans s2)
theorem rt_of {m : Fm} {F H : Hp} {σ : L2.St} {fr : Bool} {d : Dt} {v : V} (S : Sm z m F H σ ρ) (h : RzF z m F H σ ρ fr d v) : RtR z m F H fr d v := by
  refine ⟨S.toSc, ?_⟩
  cases fr with
  | false => exact h
  | true =>
    obtain ⟨l, rfl, o, _⟩ := h
    exact ⟨l, rfl, o⟩
theorem zs_ret (h : ZE z te ρ fun d fr _ => N.rt d fr) : ZS z (tRet te) ρ N := fun m F H σ D S kn kr kb kc =>
  h m F H σ _ S fun d fr ρ1 F1 H1 v n1 s1 S1 r1 => kr _ _ _ _ _ n1 s1 (rt_of S1 r1)
/-- an owned thing is handed out -/
theorem zs_reto {d : Dt} (h : ρ[i]? = some (.o d)) (n : N.rt d true) : ZS z (tRet (tVar i)) ρ N := fun m F H σ D S kn kr kb kc => by
  obtain ⟨l, e, o⟩ := S.geto h
  exact ⟨.ref l, e, kr _ _ _ _ _ n (Same.refl F) ⟨S.toSc, l, rfl, o⟩⟩
theorem zs_retN (n : N.rt .non false) : ZS z tRetN ρ N := fun m F H σ D S kn kr kb kc => kr _ _ F H _ n (Same.refl F) ⟨S.toSc, show Rz z.K m.B F .non .non from rzn⟩
theorem zs_next (n : N.nx ρ) : ZS z tNext ρ N := fun m F H σ D S kn kr kb kc => kn _ _ _ _ n (Same.refl F) S
theorem zs_drop (h : ZE z te ρ fun _ _ ρ1 => N.nx ρ1) : ZS z (tDrop te) ρ N := fun m F H σ D S kn kr kb kc => h m F H σ _ S fun d fr ρ1 F1 H1 v n1 s1 S1 r1 => kn _ _ _ _ n1 s1 S1
theorem zs_brk (n : N.bk ρ) : ZS z tBreak ρ N := fun m F H σ D S kn kr kb kc => kb _ _ _ _ n (Same.refl F) S
theorem zs_cont (n : N.ct ρ) : ZS z tCont ρ N := fun m F H σ D S kn kr kb kc => kc _ _ _ _ n (Same.refl F) S
theorem zs_while (W : Nat → List Sl → Prop) (w0 : ∃ n, W n ρ) (hs : ∀ n ρ1, W n ρ1 → ZT z c ρ1 fun b ρ2 => if b = true then ZS z tb ρ2 ⟨fun ρ3 => ∃ n', n' < n ∧ W n' ρ3, N.rt, N.nx, fun ρ3 => ∃ n', n' < n ∧ W n' ρ3⟩ else N.nx ρ2) : ZS z (tWhile c tb) ρ N := fun m F H σ D S kn kr kb kc => by
  obtain ⟨n0, w0⟩ := w0
  refine ⟨fun n σ' H' => ∃ F' ρ', W n ρ' ∧ Same F F' ∧ Sm z m F' H' σ' ρ', ⟨n0, F, ρ, w0, Same.refl F, S⟩, ?_⟩
  rintro n σ1 H1 ⟨F1, ρ1, w, s1, S1⟩
  refine hs n ρ1 w m F1 H1 σ1 _ S1 fun b ρ2 F2 H2 n2 s2 S2 => ?_
  cases b with
  | false => exact kn _ _ _ _ n2 (s1.trans s2) S2
  | true =>
    refine ⟨fun σ' H' => ∃ F' ρ' n', n' < n ∧ W n' ρ' ∧ Same F F' ∧ Sm z m F' H' σ' ρ', fun σ' H' ⟨F', ρ', n', h1, h2, h3, h4⟩ => ⟨n', h1, F', ρ', h2, h3, h4⟩, ?_⟩
    have ss := s1.trans s2
    exact n2 m F2 H2 σ1 _ S2 (fun ρ3 F3 H3 σ3 ⟨n', h1, h2⟩ s3 S3 => ⟨F3, ρ3, n', h1, h2, ss.trans s3, S3⟩) (fun d fr F3 H3 v n3 s3 => kr d fr F3 H3 v n3 (ss.trans s3)) (fun ρ3 F3 H3 σ3 n3 s3 => kn _ _ _ _ n3 (ss.trans s3)) fun ρ3 F3 H3 σ3 ⟨n', h1, h2⟩ s3 S3 => ⟨F3, ρ3, n', h1, h2, ss.trans s3, S3⟩
end
/-! ### comprehensions -/
def wipeZ (ρ : List Sl) : List Nat → List Sl
  | [] => ρ
  | v :: vs => (wipeZ ρ vs).set v .un
def okW (ρ : List Sl) (vs : List Nat) : Bool := vs.all fun i => match ρ[i]? with
  | some (.o _) => false
  | some (.l _ _) => false
  | _ => true
theorem wipe_get (σ : L2.St) (j : Nat) : ∀ vs : List Nat, (wipe σ vs)[j]? = if j ∈ vs then (σ[j]?).map fun _ => none else σ[j]?
  | [] => by simp [wipe]
  | v :: vs => by
    unfold wipe
    by_cases c : v = j
    · subst c
      rw [List.getElem?_set, wipe_length]
      by_cases h : v < σ.length
      · simp [h]
      · simp [h, List.getElem?_eq_none (Nat.le_of_not_lt h)]
    · rw [List.getElem?_set_ne c, wipe_get σ j vs]
      by_cases h : j ∈ vs
      · simp [h]
      · simp [h, Ne.symm c]
theorem wipeZ_length (ρ : List Sl) : ∀ vs : List Nat, (wipeZ ρ vs).length = ρ.length
  | [] => rfl
  | v :: vs => by unfold wipeZ; rw [List.length_set, wipeZ_length ρ vs]
theorem wipeZ_get (ρ : List Sl) (j : Nat) : ∀ vs : List Nat, (wipeZ ρ vs)[j]? = if j ∈ vs then (ρ[j]?).map fun _ => .un else ρ[j]?
  | [] => by simp [wipeZ]
  | v :: vs => by
    unfold wipeZ
    by_cases c : v = j
    · subst c
      rw [List.getElem?_set, wipeZ_length]
      by_cases h : v < ρ.length
      · simp [h]
      · simp [h, List.getElem?_eq_none (Nat.le_of_not_lt h)]
    · rw [List.getElem?_set_ne c, wipeZ_get ρ j vs]
      by_cases h : j ∈ vs
      · simp [h]
      · simp [h, Ne.symm c]
theorem wipe_wipe (σ : L2.St) (vs : List Nat) : wipe (wipe σ vs) vs = wipe σ vs := List.ext_getElem? fun j => by
  rw [wipe_get, wipe_get]
  by_cases h : j ∈ vs
  · simp only [h, if_true]
    cases σ[j]? <;> rfl
  · simp [h]
theorem wipe_setin {σ : L2.St} {i : Nat} {x : Option V} {vs : List Nat} (h : i ∈ vs) : wipe (σ.set i x) vs = wipe σ vs := List.ext_getElem? fun j => by
  rw [wipe_get, wipe_get]
  by_cases c : i = j
  · subst c
    simp only [h, if_true, List.getElem?_set]
    by_cases l : i < σ.length
    · simp [l]
    · simp [l, List.getElem?_eq_none (Nat.le_of_not_lt l)]
  · rw [List.getElem?_set_ne c]
section
variable {z : Cz} {m : Fm} {F F' H : Hp} {σ : L2.St} {ρ : List Sl}
theorem Sm.wipe (S : Sm z m F H σ ρ) : ∀ vs : List Nat, Sm z m F H (L2.wipe σ vs) (wipeZ ρ vs)
  | [] => S
  | v :: vs => by
    unfold L2.wipe wipeZ
    exact (Sm.wipe S vs).setu
theorem Sm.unwipe {H0 : Hp} {vs : List Nat} (S0 : Sm z m F H0 σ ρ) (S : Sm z m F' H (L2.wipe σ vs) (wipeZ ρ vs)) (f : Same F F') (ok : okW ρ vs = true) : Sm z m F' H σ ρ := by
  have okv : ∀ i ∈ vs, (∀ d, ρ[i]? ≠ some (.o d)) ∧ ∀ a d, ρ[i]? ≠ some (.l a d) := fun i hi => by
    have q := List.all_eq_true.mp ok i hi
    refine ⟨fun d e => ?_, fun a d e => ?_⟩ <;> (rw [e] at q; cases q)
  have out : ∀ {j : Nat}, j ∉ vs → (wipeZ ρ vs)[j]? = ρ[j]? ∧ (L2.wipe σ vs)[j]? = σ[j]? := fun {j} h => by
    rw [wipeZ_get, wipe_get, if_neg h, if_neg h]
    exact ⟨rfl, rfl⟩
  refine { S.toSc with len := S0.len, slot := fun i s ov a b => ?_, sep := fun i j d e l a b c c' => ?_, psep := fun i j q d e a b => ?_ }
  · by_cases h : i ∈ vs
    · have q := S0.slot i s ov a b
      cases s with
      | un => trivial
      | v d => obtain ⟨v, e, r⟩ := q; exact ⟨v, e, rz_mono f _ _ r⟩
      | o d => exact absurd a ((okv i h).1 d)
      | l x d => exact absurd a ((okv i h).2 x d)
    · obtain ⟨e1, e2⟩ := out h
      exact S.slot i s ov (by rw [e1]; exact a) (by rw [e2]; exact b)
  · have hi : i ∉ vs := fun h => (okv i h).1 d a
    have hj : j ∉ vs := fun h => (okv j h).1 e b
    exact S.sep i j d e l (by rw [(out hi).1]; exact a) (by rw [(out hj).1]; exact b) (by rw [(out hi).2]; exact c) (by rw [(out hj).2]; exact c')
  · have hi : i ∉ vs := fun h => (okv i h).2 q d a
    have hj : j ∉ vs := fun h => (okv j h).2 q e b
    exact S.psep i j q d e (by rw [(out hi).1]; exact a) (by rw [(out hj).1]; exact b)
/-- a new thing is held (the comprehension's own) -/
theorem Sm.pinNew {D : Addr} {o : HO} (S : Sm z m F H σ ρ) (e : H D = none) (nt : isTp o = false) (nf : isFz o = false) : Sm z (m.pin D o) F (upd H D o) σ ρ := by
  have hF := S.le.free e
  have hB := S.dom D e
  have hJ := S.j_none e
  have C : Sc z (m.pin D o) F (upd H D o) := ⟨fun a u q => by
      have n : a ≠ D := fun c => by rw [c, hF] at q; cases q
      rw [upd_ne n]
      refine (S.lk a u q).elim .inl fun ⟨p, ob, p1, p2⟩ => .inr ⟨p, ob, p1, ?_⟩
      show upd m.J D o a = _
      rw [upd_ne n]
      exact p2, fun a u q => by
      have q : upd m.J D o a = some u := q
      by_cases c : a = D
      · rw [c, upd_same] at q ⊢; exact q
      · rw [upd_ne c] at q ⊢; exact S.base a u q, S.fr, fun a q => by
      by_cases c : a = D
      · rw [c, upd_same] at q; cases q
      · rw [upd_ne c] at q; exact S.dom a q, fun a u q => by
      have n : a ≠ D := fun c => by
        have q : m.B a = some u := q
        rw [c, hB] at q; cases q
      show upd m.J D o a = some u ∨ isDk u = true ∧ ∃ ob, upd m.J D o a = _
      rw [upd_ne n]
      exact S.bj a u q, S.er, fun a ha => by
      rcases ha with ha | rfl
      · obtain ⟨q1, u, q2, q3⟩ := S.hid a ha
        refine ⟨q1, u, ?_, q3⟩
        show upd m.J D o a = _
        rw [upd_ne (fun c => by rw [c, hJ] at q2; cases q2)]
        exact q2
      · exact ⟨hF, o, upd_same, nt⟩, fun a ob u q => by
      show upd m.J D o a = _
      by_cases c : a = D
      · rw [c, upd_same] at q; cases q; cases nf
      · rw [upd_ne c] at q ⊢; exact S.fj a ob u q⟩
  refine { C with len := S.len, slot := fun j s ov a b => ?_, sep := S.sep, psep := S.psep }
  have q := S.slot j s ov a b
  cases s with
  | un => trivial
  | v d => exact q
  | o d2 =>
    obtain ⟨l', e', q1, q2, q3, ho2, q4, q5⟩ := q
    have n : l' ≠ D := fun z => by rw [z, e] at q4; cases q4
    refine ⟨l', e', q1, q2, ?_, ho2, by rw [upd_ne n]; exact q4, q5⟩
    show upd m.J D o l' = none
    rw [upd_ne n]; exact q3
  | l a2 d2 =>
    obtain ⟨q0, q1, q2, ho2, q4, q5⟩ := q
    have n : a2 ≠ D := fun z => by rw [z, hJ] at q4; rcases q4 with q4 | ⟨_, _, q4⟩ <;> cases q4
    refine ⟨q0, .inl q1, q2, ho2, ?_, q5⟩
    show upd m.J D o a2 = some ho2 ∨ isDk ho2 = true ∧ ∃ ob, upd m.J D o a2 = _
    rw [upd_ne n]
    exact q4
theorem Sm.unpinNew {D : Addr} {o : HO} (S : Sm z (m.pin D o) F H σ ρ) (hB : m.B D = none) (hJ : m.J D = none) (hh : ¬ m.hd D) (nf : isFz o = false) (hs : ∀ (i : Nat) (d : Dt), ρ[i]? ≠ some (.l D d)) : Sm z m F H σ ρ ∧ H D = some o ∧ F D = none := by
  have hD : H D = some o := S.base D o upd_same
  obtain ⟨hF, _⟩ := S.hid D (.inr rfl)
  have C := Sc.unpin (ho := o) (fun ob u q => by rw [q] at nf; cases nf) S.toSc hB hJ hh
  rw [upd_self2 hD] at C
  refine ⟨{ C with len := S.len, slot := fun j s ov a b => ?_, sep := S.sep, psep := S.psep }, hD, hF⟩
  have q := S.slot j s ov a b
  cases s with
  | un => trivial
  | v d => exact q
  | o d2 =>
    obtain ⟨l', e', q1, q2, q3, ho2, q4, q5⟩ := q
    have q3 : upd m.J D o l' = none := q3
    have n : l' ≠ D := fun z => by rw [z, upd_same] at q3; cases q3
    rw [upd_ne n] at q3
    exact ⟨l', e', q1, q2, q3, ho2, q4, q5⟩
  | l a2 d2 =>
    obtain ⟨q0, q1, q2, ho2, q4, q5⟩ := q
    have n : a2 ≠ D := fun z => hs j d2 (by rw [← z]; exact a)
    have q4 : upd m.J D o a2 = some ho2 ∨ isDk ho2 = true ∧ ∃ ob, upd m.J D o a2 = _ := q4
    rw [upd_ne n] at q4
    exact ⟨q0, q1.elim id fun z => absurd z n, q2, ho2, q4, q5⟩
theorem Sm.repin {D : Addr} {o o' : HO} (S : Sm z (m.pin D o) F H σ ρ) (hB : m.B D = none) (hJ : m.J D = none) (hh : ¬ m.hd D) (nf : isFz o = false) (nt' : isTp o' = false) (nf' : isFz o' = false) (hs : ∀ (i : Nat) (d : Dt), ρ[i]? ≠ some (.l D d)) : Sm z (m.pin D o') F (upd H D o') σ ρ := by
  obtain ⟨S1, hD, hF⟩ := S.unpinNew hB hJ hh nf hs
  have C : Sc z (m.pin D o') F (upd H D o') := ⟨fun a u q => by
      have n : a ≠ D := fun c => by rw [c, hF] at q; cases q
      rw [upd_ne n]
      refine (S1.lk a u q).elim .inl fun ⟨p, ob, p1, p2⟩ => .inr ⟨p, ob, p1, ?_⟩
      show upd m.J D o' a = _
      rw [upd_ne n]
      exact p2, fun a u q => by
      have q : upd m.J D o' a = some u := q
      by_cases c : a = D
      · rw [c, upd_same] at q ⊢; exact q
      · rw [upd_ne c] at q ⊢; exact S1.base a u q, S1.fr, fun a q => by
      by_cases c : a = D
      · rw [c, upd_same] at q; cases q
      · rw [upd_ne c] at q; exact S1.dom a q, fun a u q => by
      have n : a ≠ D := fun c => by
        have q : m.B a = some u := q
        rw [c, hB] at q; cases q
      show upd m.J D o' a = some u ∨ isDk u = true ∧ ∃ ob, upd m.J D o' a = _
      rw [upd_ne n]
      exact S1.bj a u q, S1.er, fun a ha => by
      rcases ha with ha | rfl
      · obtain ⟨q1, u, q2, q3⟩ := S1.hid a ha
        refine ⟨q1, u, ?_, q3⟩
        show upd m.J D o' a = _
        rw [upd_ne (fun c => by rw [c, hJ] at q2; cases q2)]
        exact q2
      · exact ⟨hF, o', upd_same, nt'⟩, fun a ob u q => by
      show upd m.J D o' a = _
      by_cases c : a = D
      · rw [c, upd_same] at q; cases q; cases nf'
      · rw [upd_ne c] at q ⊢; exact S1.fj a ob u q⟩
  refine { C with len := S.len, slot := fun j s ov a b => ?_, sep := S.sep, psep := S.psep }
  have q := S.slot j s ov a b
  cases s with
  | un => trivial
  | v d => exact q
  | o d2 =>
    obtain ⟨l', e', q1, q2, q3, ho2, q4, q5⟩ := q
    have q3 : upd m.J D o l' = none := q3
    have n : l' ≠ D := fun z => by rw [z, upd_same] at q3; cases q3
    rw [upd_ne n] at q3
    refine ⟨l', e', q1, q2, ?_, ho2, by rw [upd_ne n]; exact q4, q5⟩
    show upd m.J D o' l' = none
    rw [upd_ne n]; exact q3
  | l a2 d2 =>
    obtain ⟨q0, q1, q2, ho2, q4, q5⟩ := q
    have n : a2 ≠ D := fun z => hs j d2 (by rw [← z]; exact a)
    have q4 : upd m.J D o a2 = some ho2 ∨ isDk ho2 = true ∧ ∃ ob, upd m.J D o a2 = _ := q4
    rw [upd_ne n] at q4
    refine ⟨q0, q1, q2, ho2, ?_, q5⟩
    show upd m.J D o' a2 = some ho2 ∨ isDk ho2 = true ∧ ∃ ob, upd m.J D o' a2 = _
    rw [upd_ne n]
    exact q4
end
/-- a comprehension's target -/
def ZGw (z : Cz) (g : TG) (vs : List Nat) (d : Dt) (ρ : List Sl) (N : List Sl → Prop) : Prop := ∀ m F H σ v Q, Sm z m F H σ ρ → Rz z.K m.B F d v →
  (∀ ρ' F' H' σ', N ρ' → Same F F' → Sm z m F' H' σ' ρ' → L2.wipe σ' vs = L2.wipe σ vs → Q σ' H') → g v σ H Q
def ZGws (z : Cz) (g : TGs) (vs : List Nat) (ds : List Dt) (ρ : List Sl) (N : List Sl → Prop) : Prop := ∀ m F H σ us Q, Sm z m F H σ ρ → Rzl z.K m.B F ds us →
  (∀ ρ' F' H' σ', N ρ' → Same F F' → Sm z m F' H' σ' ρ' → L2.wipe σ' vs = L2.wipe σ vs → Q σ' H') → g us σ H Q
section
variable {z : Cz} {ρ : List Sl} {N : List Sl → Prop} {i : Nat} {vs : List Nat} {d : Dt} {ds : List Dt}
theorem zgw_name (h : i ∈ vs) (n : N (ρ.set i (.v d))) : ZGw z (gName i) vs d ρ N := fun m F H σ v Q S r k => k _ F H _ n (Same.refl F) (S.setv r) (wipe_setin h)
theorem zgw_tup {K : PySem.W.Frag} {n : Nat} {gs : TGs} (hl : ds.length = n) (h : ZGws z gs vs ds ρ N) : ZGw z (gTup K n gs) vs (.tup ds) ρ N := fun m F H σ v Q S r k => by
  simp only [Rz] at r
  obtain ⟨a, xs, rfl, e, r⟩ := r
  exact ⟨a, xs, rfl, SqT.of (S.le.exact e rfl), by rw [r.len, hl], h m F H σ xs Q S r k⟩
theorem zgws_nil (n : N ρ) : ZGws z gNil vs [] ρ N := fun m F H σ us Q S r k => ⟨r.inv0, k _ _ _ _ n (Same.refl F) S rfl⟩
theorem zgws_cons {g : TG} {gs : TGs} (h : ZGw z g vs d ρ fun ρ1 => ZGws z gs vs ds ρ1 N) : ZGws z (gCons g gs) vs (d :: ds) ρ N := fun m F H σ us Q S r k => by
  obtain ⟨v, r', rfl, r1, r2⟩ := r.inv
  exact ⟨v, r', rfl, h m F H σ v _ S r1 fun ρ1 F1 H1 σ1 n1 s1 S1 w1 => n1 m F1 H1 σ1 r' Q S1 (rzl_mono s1 _ _ r2) fun ρ2 F2 H2 σ2 n2 s2 S2 w2 => k ρ2 F2 H2 σ2 n2 (s1.trans s2) S2 (w2.trans w1)⟩
end
section
variable {z : Cz} {ρ : List Sl} {wi : TI} {g : TG} {tt : TT} {te tk tv : TE} {vs : List Nat} {N : Dt → Bool → List Sl → Prop}
theorem take_succ_get2 {α : Type} {xs : List α} {j : Nat} {x : α} (h : xs[j]? = some x) : xs.take (j + 1) = xs.take j ++ [x] := by
  rw [List.take_succ, h]; rfl
theorem filterMap_take {α β : Type} (f : α → Option β) {xs : List α} {i : Nat} {x : α} (h : xs[i]? = some x) : (xs.take (i + 1)).filterMap f = (xs.take i).filterMap f ++ (f x).toList := by
  rw [take_succ_get2 h, List.filterMap_append]
  congr 1
theorem filterMap_le {α β : Type} (f : α → Option β) (xs : List α) (i : Nat) : ((xs.take i).filterMap f).length ≤ i := Nat.le_trans (List.length_filterMap_le f _) (by rw [List.length_take]; omega)
/-- [te for g in .. if tt] -/
theorem ze_lc (h : ZI z wi ρ fun ds ρ1 bp bm => bp ρ1 ∧ okW ρ1 vs = true ∧ ds.length ≤ 100000 ∧ ∃ f : Dt → Option Dt,
    (∀ d ∈ ds, ZGw z g vs d (wipeZ ρ1 vs) fun ρ2 => ZT z tt ρ2 fun b ρ3 => if b = true then ZE z te ρ3 fun y _ ρ4 => wipeZ ρ4 vs = wipeZ ρ1 vs ∧ f d = some y else wipeZ ρ3 vs = wipeZ ρ1 vs ∧ f d = none) ∧
    N (.lst true (ds.filterMap f)) true (bm ρ1)) : ZE z (tLockLE (tLc wi g tt te vs)) ρ N := fun m F H σ Q S k => by
  refine h m F H σ _ S fun ds ρ1 bp bm m' un F1 H1 Jt n1 s1 B S1 it => ?_
  obtain ⟨hbp, hw, hz, f, hf, n⟩ := n1
  obtain ⟨n', G, Y, wk, rfl, gk, yk⟩ := it
  intro D hD
  have hB := S1.dom D hD
  have hJ := S1.j_none hD
  have hh : ¬ m'.hd D := fun q => by
    obtain ⟨_, o, q2, _⟩ := S1.hid D q
    rw [hJ] at q2
    cases q2
  have hs : ∀ (i : Nat) (d : Dt), (wipeZ ρ1 vs)[i]? ≠ some (.l D d) := fun i d e => by
    obtain ⟨ov, _, _, q1, _⟩ := (S1.wipe vs).get e
    exact hh q1
  refine lc_it wk (fun i H2 => ∃ F2 acc, Same F1 F2 ∧ Sm z (m'.pin D (.lst acc)) F2 H2 (L2.wipe σ vs) (wipeZ ρ1 vs) ∧ Rzl z.K m'.B F2 ((ds.take i).filterMap f) acc) ?_ ?_ ?_ ?_
  · refine ⟨F1, [], Same.refl F1, (S1.wipe vs).pinNew hD rfl rfl, ?_⟩
    rw [List.take_zero]
    exact .nil
  · rintro i H2 hi ⟨F2, acc, s2, S2, r2⟩
    have b2 : Same m'.J H2 := fun a u q => S2.base a u (by
      show upd m'.J D _ a = _
      rw [upd_ne (fun c => by rw [c, hJ] at q; cases q)]
      exact q)
    exact gk F2 H2 s2 S2.le b2
  · rintro i x H2 H3 hi ⟨F2, acc, s2, S2, r2⟩ y
    obtain ⟨F3, s3, S3, rx⟩ := yk (m'.pin D (.lst acc)) i ds[i] F2 H2 H3 x _ _ rfl (List.getElem?_eq_getElem hi) s2 S2 y
    have hd : ds[i]? = some ds[i] := List.getElem?_eq_getElem hi
    refine hf ds[i] (List.getElem_mem hi) (m'.pin D (.lst acc)) F3 H3 _ x _ S3 rx fun ρ2 F4 H4 σ2 n2 s4 S4 w4 => ?_
    rw [wipe_wipe] at w4
    refine ⟨w4, n2 _ F4 H4 σ2 _ S4 fun b ρ3 F5 H5 n3 s5 S5 => ?_⟩
    have ss := s2.trans (s3.trans (s4.trans s5))
    cases b with
    | false =>
      obtain ⟨e1, e2⟩ := n3
      refine ⟨F5, acc, ss, ?_, ?_⟩
      · have := S5.wipe vs
        rw [e1, w4] at this
        exact this
      · rw [filterMap_take f hd, e2]
        simp only [Option.toList, List.append_nil]
        exact rzl_mono (s3.trans (s4.trans s5)) _ _ r2
    | true =>
      refine n3 _ F5 H5 σ2 _ S5 fun yd fy ρ4 F6 H6 vy n4 s6 S6 r6 => ?_
      obtain ⟨F7, s7, S7, ry⟩ := rzF_frz S6 r6
      obtain ⟨e1, e2⟩ := n4
      have hD6 : H6 D = some (.lst acc) := S7.base D _ upd_same
      have S8 := S7.wipe vs
      rw [e1, w4] at S8
      have sf := s3.trans (s4.trans (s5.trans (s6.trans s7)))
      refine ⟨acc, hD6, ?_, F7, acc ++ [vy], s2.trans sf, S8.repin hB hJ hh rfl rfl rfl hs, ?_⟩
      · have := filterMap_le f ds i
        rw [r2.len, sizeLine_eq]
        omega
      · rw [filterMap_take f hd, e2]
        exact (rzl_mono sf _ _ r2).app (.cons ry .nil)
  · rintro H2 ⟨F2, acc, s2, S2, r2⟩
    obtain ⟨S3, hD2, hF2⟩ := S2.unpinNew hB hJ hh rfl hs
    have S4 := S1.unwipe S3 s2 hw
    rw [List.take_length] at r2
    have S5 := B.sm F2 H2 σ ρ1 s2 S4 hbp
    have S0 := B.sm F1 H1 σ ρ1 (Same.refl F1) S1 hbp
    have uD : ∀ {Hx : Hp} {Fx : Hp}, Sc z m' Fx Hx → undo un Hx D = Hx D := fun {Hx Fx} C => by
      cases un with
      | none => rfl
      | some p =>
        obtain ⟨d, u⟩ := p
        obtain ⟨od, e⟩ := B.fz Fx Hx C d u rfl
        show upd Hx d u D = Hx D
        have j := C.fj d od u e
        rw [upd_ne (fun c => by rw [← c, hJ] at j; cases j)]
    have fresh : RzF z m F2 (undo un H2) σ (bm ρ1) true (.lst true (ds.filterMap f)) (.ref D) := by
      refine ⟨D, rfl, ⟨hF2, by rw [← B.bb]; exact hB, ?_, .lst acc, by rw [uD S3.toSc]; exact hD2, .lst (by rw [← B.bb]; exact r2)⟩, fun j e a b => ?_⟩
      · exact S0.base.free (by rw [uD S1.toSc]; exact hD)
      · obtain ⟨l, hl, _, _, _, ho, h4, _⟩ := S0.geto a
        rw [b] at hl
        cases hl
        rw [uD S1.toSc, hD] at h4
        cases h4
    have fin := k _ _ _ _ _ _ n (s1.trans s2) S5 fresh
    cases un with
    | none => exact .inl fin
    | some p =>
      obtain ⟨d, u⟩ := p
      obtain ⟨od, e⟩ := B.fz F2 H2 S3.toSc d u rfl
      exact .inr ⟨d, od, u, B.leg d u rfl, e, fin⟩
end
/-! ### built-ins, methods -/
section
variable {X : Cx}
theorem CallR.or2 {f : Value} {r r' : List V → Hp → VK → Prop} (h : CallR X f r) (h' : CallR X f r') : CallR X f (fun xs H Q => r xs H Q ∨ r' xs H Q) := by
  intro pins s σ H xs us Q I rr q
  rcases q with q | q
  · exact h pins s σ H xs us Q I rr q
  · exact h' pins s σ H xs us Q I rr q
def rListDR : List V → Hp → VK → Prop := fun xs H Q => ∃ p kvs, xs = [.ref p] ∧ L2.Rd H p (.dK kvs) ∧ ∀ q, H q = none → Q (.ref q) (upd H q (.lst (kvs.map fun kv => kV kv.1)))
theorem call_list_dKR (hc : X.calm = true) : CallR X (.type "list") rListDR := by
  intro pins s σ H xs us Q I r h
  obtain ⟨p, kvs, e, hk, q⟩ := h
  subst e
  obtain ⟨u, eu, rx⟩ := vals1 r
  subst eu
  obtain rfl : u = Value.ref p := rx
  obtain ⟨z, lo, vs, rk, hd⟩ := dk_rd I.hok hk
  obtain ⟨ep, hat⟩ := hd.dictAt
  have hl : kvs.length = vs.length := Paired.length rk
  refine PySem.W.kdl_call (PySem.W.kdl_dict (knd := mixKind X.prog X.w) (kvs := vs) (ep := ep) lo) (I.ok.hd hc) hat (by rw [← hl]; exact z) fun h' tk acc' c' hkeep hS hacc => ?_
  refine ⟨.ref s.heap.objs.size, upd H s.heap.objs.size (.lst (kvs.map fun kv => kV kv.1)), I.laid hkeep (Nat.le_refl _) (show ObjOk X.prog X.w _ _ _ (.lst (kvs.map fun kv => kV kv.1)) from ⟨?_, acc'.toList, c', ?_, ?_⟩), rfl, q _ (I.hok.fresh (Nat.le_refl _))⟩
  · rw [List.length_map]; exact z
  · have el : acc'.toList.length = acc'.size := by simp
    refine vals_of_at (by rw [List.length_map, el, hacc.1, hl]) fun j x w h1 h2 => ?_
    obtain ⟨k, y, hky, hi⟩ := hacc.2 j w (by rw [← Array.getElem?_toList]; exact h2)
    have e1 : (kvs.map (·.1))[j]? = some k := by
      rw [KV.keys rk, List.getElem?_map, hky] <;> rfl
    have e2 : (kvs.map fun kv => kV kv.1)[j]? = some (kV k) := by
      have e3 : (kvs.map fun kv => kV kv.1) = (kvs.map (·.1)).map kV := by rw [List.map_map] <;> rfl
      rw [e3, List.getElem?_map, e1] <;> rfl
    rw [e2] at h1
    cases h1
    exact keyIs_rel hi
  · rw [Array.toArray_toList]; exact hS
def rListSeq (K : PySem.W.Frag) : List V → Hp → VK → Prop := fun xs H Q => ∃ p ys, xs = [.ref p] ∧ (SqL K H p ys ∨ SqT K H p ys) ∧ ∀ l, H l = none → Q (.ref l) (upd H l (.lst ys))
def rListT : List V → Hp → VK → Prop := fun xs H Q => ∃ d kvs, xs = [V.ref d] ∧ L2.Rd H d (.dT kvs) ∧ ∀ p bs, H p = none → IsKeys H kvs bs → Q (.ref p) (upd H p (.lst (bs.map V.ref)))
/-- list(x): of a list, a tuple, a dict -/
def rListZ (K : PySem.W.Frag) : List V → Hp → VK → Prop := fun xs H Q => rListSeq K xs H Q ∨ (rListDR xs H Q ∨ rListT xs H Q)
theorem call_listZ {K : PySem.W.Frag} (e : X.K = K) (hc : X.calm = true) : CallR X (.type "list") (rListZ K) := CallR.or2 (call_listK e) (CallR.or2 (call_list_dKR hc) (call_list_dT hc))
theorem call_len_dTR : CallR X (.builtin "len") (fun xs H Q => ∃ (p : Addr) (kvs : List (List Key × V)), xs = [.ref p] ∧ L2.Rd H p (.dT kvs) ∧ Q (.int ((kvs.length : Nat) : Int)) H) := by
  intro pins s σ H xs us Q I r h
  obtain ⟨p, kvs, rfl, hp, q⟩ := h
  obtain ⟨u, rfl, rx⟩ := vals1 r
  obtain rfl : u = .ref p := rx
  obtain ⟨z, hd, ys, rel, dd⟩ := dt_rd I.hok hp
  have hl : kvs.length = ys.length := Paired.length rel
  refine call_len_dictH hd dd (by rw [← hl]; rw [sizeLine_eq] at z; omega) ?_
  rw [← hl]
  exact ⟨.int ((kvs.length : Nat) : Int), H, I.tok _, ⟨_, rfl⟩, q⟩
theorem call_lenDkR : CallR X (.builtin "len") (fun xs H Q => ∃ a kvs, xs = [V.ref a] ∧ L2.Rd H a (.dK kvs) ∧ Q (.int (kvs.length : Nat)) H) := by
  intro pins s σ H xs us Q I r h
  obtain ⟨a, kvs, rfl, ha, q⟩ := h
  obtain ⟨u, rfl, ru⟩ := vals1 r
  cases ru
  exact d_len I ha fun t s' I' => ⟨.int kvs.length, H, I', ⟨t, rfl⟩, q⟩
def rLenSeq (K : PySem.W.Frag) : List V → Hp → VK → Prop := fun xs H Q => ∃ p ys, xs = [.ref p] ∧ (SqL K H p ys ∨ SqT K H p ys) ∧ Q (.int ys.length) H
def rLenZ (K : PySem.W.Frag) : List V → Hp → VK → Prop := fun xs H Q => rLenSeq K xs H Q ∨ ((∃ a kvs, xs = [V.ref a] ∧ L2.Rd H a (.dK kvs) ∧ Q (.int (kvs.length : Nat)) H) ∨ ∃ (p : Addr) (kvs : List (List Key × V)), xs = [.ref p] ∧ L2.Rd H p (.dT kvs) ∧ Q (.int ((kvs.length : Nat) : Int)) H)
theorem call_lenZ {K : PySem.W.Frag} (e : X.K = K) : CallR X (.builtin "len") (rLenZ K) := CallR.or2 (call_lenK e) (CallR.or2 call_lenDkR call_len_dTR)
end
section
variable {z : Cz} {ρ : List Sl} {N : Dt → Bool → List Sl → Prop} {ta tb te : TE} {t : TA} {i : Nat}
/-- one argument, frozen -/
theorem ze_CB1 {r : List V → Hp → VK → Prop} {W : Dt → (Dt → Bool → List Sl → Prop) → List Sl → Prop}
    (w : ∀ x ρ2 N, W x N ρ2 → ∀ m F H σ Q vx, Sm z m F H σ ρ2 → Rz z.K m.B F x vx → (∀ d fr ρ' F' H' v, N d fr ρ' → Same F F' → Sm z m F' H' σ ρ' → RzF z m F' H' σ ρ' fr d v → Q v H') → r [vx] H Q)
    (h : ZE z ta ρ fun x _ ρ1 => W x N ρ1) : ZE z (tCB r (tCons ta tNil)) ρ N := fun m F H σ Q S k => by
  refine h m F H σ _ S fun x fx ρ1 F1 H1 vx n1 s1 S1 r1 => ?_
  obtain ⟨F2, s2, S2, rx⟩ := rzF_frz S1 r1
  exact w x ρ1 N n1 m F2 H1 σ Q vx S2 rx fun d fr ρ' F' H' v n sf => k d fr ρ' F' H' v n ((s1.trans s2).trans sf)
inductive LenD : Dt → Nat → Prop
  | lst (t : Bool) (ds : List Dt) : LenD (.lst t ds) ds.length
  | tup (ds : List Dt) : LenD (.tup ds) ds.length
  | dic (t : Bool) (ks : List Key) (ds : List Dt) : LenD (.dic t ks ds) ks.length
  | dit (t : Bool) (ks : List (List Key)) (ds : List Dt) : LenD (.dit t ks ds) ks.length
/-- what a container is made of, in the heap -/
inductive CtR (K : PySem.W.Frag) (B F H : Hp) (a : Addr) : Dt → Prop
  | lst {t : Bool} {xs : List V} {ds : List Dt} : H a = some (.lst xs) → Rzl K B F ds xs → CtR K B F H a (.lst t ds)
  | tup {xs : List V} {ds : List Dt} : H a = some (.tup xs) → Rzl K B F ds xs → CtR K B F H a (.tup ds)
  | dct {d : Dt} : DctR K B F H a d → CtR K B F H a d
def isCt : Dt → Bool
  | .lst _ _ | .tup _ | .dic _ _ _ | .dit _ _ _ => true
  | _ => false
theorem rz_ct {K : PySem.W.Frag} {B F H : Hp} {d : Dt} {v : V} (h : Rz K B F d v) (le : Le F H) (i : isCt d = true) : ∃ a, v = .ref a ∧ CtR K B F H a d := by
  cases d <;> first | cases i | skip
  · simp only [Rz] at h
    obtain ⟨a, xs, rfl, h1, h2⟩ := h
    exact ⟨a, rfl, .tup (le.exact h1 rfl) h2⟩
  · simp only [Rz] at h
    obtain ⟨a, xs, rfl, h1, _, h2⟩ := h
    exact ⟨a, rfl, .lst (le.exact h1 rfl) h2⟩
  · obtain ⟨a, e, q⟩ := rz_dct h le rfl
    exact ⟨a, e, .dct q⟩
  · obtain ⟨a, e, q⟩ := rz_dct h le rfl
    exact ⟨a, e, .dct q⟩
theorem Sm.peekC {m : Fm} {F H : Hp} {σ : L2.St} (S : Sm z m F H σ ρ) {s : Sl} {c : Dt} (h : ρ[i]? = some s) (p : Pk s c) (hc : isCt c = true) : ∃ a, σ[i]? = some (some (.ref a)) ∧ CtR z.K m.B F H a c := by
  cases c <;> first | cases hc | skip
  · obtain ⟨ov, e, ok⟩ := S.get h
    rcases p with rfl | rfl | ⟨a, rfl⟩
    · obtain ⟨v, rfl, r⟩ := ok
      obtain ⟨a, rfl, q⟩ := rz_ct r S.le rfl
      exact ⟨a, e, q⟩
    · obtain ⟨l, rfl, _, _, _, ho, h1, h2⟩ := ok
      cases h2
    · obtain ⟨rfl, _, _, ho, h1, h2⟩ := ok
      cases h2
  · obtain ⟨a, xs, e, h1, h2⟩ := S.peekL h p
    exact ⟨a, e, .lst h1 h2⟩
  · obtain ⟨a, e, q⟩ := S.peekD h p rfl
    exact ⟨a, e, .dct q⟩
  · obtain ⟨a, e, q⟩ := S.peekD h p rfl
    exact ⟨a, e, .dct q⟩
theorem LenD.isCt {d : Dt} {n : Nat} (h : LenD d n) : isCt d = true := by cases h <;> rfl
theorem ct_len {K : PySem.W.Frag} {B F H : Hp} {a : Addr} {d : Dt} {n : Nat} {Q : VK} (c : CtR K B F H a d) (h : LenD d n) (q : Q (.int n) H) : rLenZ K [.ref a] H Q := by
  cases h with
  | lst t ds =>
    cases c with
    | lst h1 h2 => exact .inl ⟨a, _, rfl, .inl (SqL.of h1), by rw [h2.len]; exact q⟩
    | dct h => cases h
  | tup ds =>
    cases c with
    | tup h1 h2 => exact .inl ⟨a, _, rfl, .inr (SqT.of h1), by rw [h2.len]; exact q⟩
    | dct h => cases h
  | dic t ks ds =>
    cases c with
    | dct h =>
      cases h with
      | k h1 h2 => exact .inr (.inl ⟨a, _, rfl, h1, by rw [List.length_map] at q; exact q⟩)
  | dit t ks ds =>
    cases c with
    | dct h =>
      cases h with
      | t h1 h2 => exact .inr (.inr ⟨a, _, rfl, h1, by rw [List.length_map] at q; exact q⟩)
theorem ze_lenv {s0 : Sl} {c0 : Dt} {n : Nat} (h0 : ρ[i]? = some s0) (p0 : Pk s0 c0) (hl : LenD c0 n) (q : N (.int n) false ρ) : ZE z (tCB (rLenZ z.K) (tCons (tVar i) tNil)) ρ N := fun m F H σ Q S k => by
  obtain ⟨a, e, c⟩ := S.peekC h0 p0 hl.isCt
  exact ⟨_, e, ct_len c hl (k _ _ _ _ _ _ q (Same.refl F) S (rzF_f rzi))⟩
theorem ze_len (h : ZE z ta ρ fun x _ ρ1 => ∃ n, LenD x n ∧ N (.int (n : Nat)) false ρ1) : ZE z (tCB (rLenZ z.K) (tCons ta tNil)) ρ N :=
  ze_CB1 (W := fun x N ρ1 => ∃ n, LenD x n ∧ N (.int (n : Nat)) false ρ1) (fun x ρ2 N n1 m F H σ Q vx S r k => by
    obtain ⟨n, hl, q⟩ := n1
    obtain ⟨a, rfl, c⟩ := rz_ct r S.le hl.isCt
    exact ct_len c hl (k _ _ _ _ _ _ q (Same.refl F) S (rzF_f rzi))) h
/-- list(x) -/
inductive ListD : Dt → List Dt → Prop
  | lst (t : Bool) (ds : List Dt) : ListD (.lst t ds) ds
  | tup (ds : List Dt) : ListD (.tup ds) ds
  | dic (t : Bool) (ks : List Key) (ds : List Dt) : ListD (.dic t ks ds) (ks.map keyD)
  | dit (t : Bool) (ks : List (List Key)) (ds : List Dt) : ListD (.dit t ks ds) (ks.map fun k => .tup (k.map keyD))
theorem ListD.isCt {d : Dt} {es : List Dt} (h : ListD d es) : isCt d = true := by cases h <;> rfl
theorem isKeys_frz {m : Fm} {F H : Hp} {σ : L2.St} : ∀ {kvs : List (List Key × V)} {bs : List Addr}, Sm z m F H σ ρ → IsKeys H kvs bs → ∃ F', Same F F' ∧ Sm z m F' H σ ρ ∧ Rzl z.K m.B F' ((kvs.map Prod.fst).map fun k => .tup (k.map keyD)) (bs.map V.ref)
  | [], _, S, h => by cases h; exact ⟨F, Same.refl F, S, .nil⟩
  | p :: r, _, S, h => by
    cases h with
    | cons h1 h2 =>
      obtain ⟨F1, s1, e1, S1⟩ := S.tup h1
      obtain ⟨F2, s2, S2, r2⟩ := isKeys_frz S1 h2
      exact ⟨F2, s1.trans s2, S2, .cons (by simp only [Rz]; exact ⟨_, _, rfl, s2 _ _ e1, keys_rzl _⟩) r2⟩
theorem ct_list {m : Fm} {F H : Hp} {σ : L2.St} {a : Addr} {d : Dt} {es : List Dt} {Q : VK} (S : Sm z m F H σ ρ) (c : CtR z.K m.B F H a d) (h : ListD d es)
    (q : ∀ F' H' v, Same F F' → Sm z m F' H' σ ρ → RzF z m F' H' σ ρ true (.lst true es) v → Q v H') : rListZ z.K [.ref a] H Q := by
  cases h with
  | lst t ds =>
    cases c with
    | lst h1 h2 => exact .inl ⟨a, _, rfl, .inl (SqL.of h1), fun p hp => q _ _ _ (Same.refl F) (S.newO hp) (rzF_new S hp (.lst h2))⟩
    | dct h => cases h
  | tup ds =>
    cases c with
    | tup h1 h2 => exact .inl ⟨a, _, rfl, .inr (SqT.of h1), fun p hp => q _ _ _ (Same.refl F) (S.newO hp) (rzF_new S hp (.lst h2))⟩
    | dct h => cases h
  | dic t ks ds =>
    cases c with
    | dct h =>
      cases h with
      | @k _ kvs _ h1 h2 => exact .inr (.inl ⟨a, _, rfl, h1, fun p hp => q _ _ _ (Same.refl F) (S.newO hp) (rzF_new S hp (.lst (by
          have := keys_rzl (K := z.K) (B := m.B) (F := F) (kvs.map Prod.fst)
          rw [List.map_map (f := Prod.fst) (g := kV)] at this
          exact this)))⟩)
  | dit t ks ds =>
    cases c with
    | dct h =>
      cases h with
      | @t _ kvs _ h1 h2 => exact .inr (.inr ⟨a, _, rfl, h1, fun p bs hp hk => by
          obtain ⟨F', s', S', r'⟩ := isKeys_frz S hk
          exact q _ _ _ s' (S'.newO hp) (rzF_new S' hp (.lst r'))⟩)
theorem ze_listv {s0 : Sl} {c0 : Dt} {es : List Dt} (h0 : ρ[i]? = some s0) (p0 : Pk s0 c0) (hl : ListD c0 es) (q : N (.lst true es) true ρ) : ZE z (tCB (rListZ z.K) (tCons (tVar i) tNil)) ρ N := fun m F H σ Q S k => by
  obtain ⟨a, e, c⟩ := S.peekC h0 p0 hl.isCt
  exact ⟨_, e, ct_list S c hl fun F' H' v s S' r => k _ _ _ _ _ _ q s S' r⟩
theorem ze_list (h : ZE z ta ρ fun x _ ρ1 => ∃ es, ListD x es ∧ N (.lst true es) true ρ1) : ZE z (tCB (rListZ z.K) (tCons ta tNil)) ρ N :=
  ze_CB1 (W := fun x N ρ1 => ∃ es, ListD x es ∧ N (.lst true es) true ρ1) (fun x ρ2 N n1 m F H σ Q vx S r k => by
    obtain ⟨es, hl, q⟩ := n1
    obtain ⟨a, rfl, c⟩ := rz_ct r S.le hl.isCt
    exact ct_list S c hl fun F' H' v s S' r => k _ _ _ _ _ _ q s S' r) h
/-! items -/
theorem ze_ixT {K : PySem.W.Frag} (h : ZE z ta ρ fun x _ ρ1 => ZE z tb ρ1 fun y _ ρ2 => ∃ ds i d, x = .tup ds ∧ y = .int i ∧ atI ds i = some d ∧ N d false ρ2) : ZE z (tOp (rIxT K) ta tb) ρ N :=
  ze_op2w (W := fun x y N ρ2 => ∃ ds i d, x = .tup ds ∧ y = .int i ∧ atI ds i = some d ∧ N d false ρ2) (fun x y ρ2 N n2 m F H σ Q vx vy S r1 r2 k => by
    obtain ⟨ds, i, d, rfl, rfl, e, n⟩ := n2
    simp only [Rz] at r1
    obtain ⟨a, xs, rfl, h1, r⟩ := r1
    unfold atI at e
    cases q : ixN ds.length i with
    | none => rw [q] at e; cases e
    | some j =>
      rw [q] at e
      obtain ⟨v, e2, rv⟩ := r.at_ e
      refine ⟨a, xs, i, v, rfl, rz_i r2, SqT.of (S.le.exact h1 rfl), ?_, k _ _ _ _ _ _ n (Same.refl F) S (rzF_f rv)⟩
      unfold atI
      rw [r.len, q]
      exact e2) h
theorem ze_ixL {K : PySem.W.Frag} (h : ZE z ta ρ fun x _ ρ1 => ZE z tb ρ1 fun y _ ρ2 => ∃ t ds i d, x = .lst t ds ∧ y = .int i ∧ atI ds i = some d ∧ N d false ρ2) : ZE z (tOp (rIxL K) ta tb) ρ N :=
  ze_op2w (W := fun x y N ρ2 => ∃ t ds i d, x = .lst t ds ∧ y = .int i ∧ atI ds i = some d ∧ N d false ρ2) (fun x y ρ2 N n2 m F H σ Q vx vy S r1 r2 k => by
    obtain ⟨t, ds, i, d, rfl, rfl, e, n⟩ := n2
    simp only [Rz] at r1
    obtain ⟨a, xs, rfl, h1, _, r⟩ := r1
    unfold atI at e
    cases q : ixN ds.length i with
    | none => rw [q] at e; cases e
    | some j =>
      rw [q] at e
      obtain ⟨v, e2, rv⟩ := r.at_ e
      refine ⟨a, xs, i, v, rfl, rz_i r2, SqL.of (S.le.exact h1 rfl), ?_, k _ _ _ _ _ _ n (Same.refl F) S (rzF_f rv)⟩
      unfold atI
      rw [r.len, q]
      exact e2) h
theorem ze_ixLv {K : PySem.W.Frag} {s0 : Sl} {c0 : Dt} (h0 : ρ[i]? = some s0) (p0 : Pk s0 c0) (h : ZE z tb ρ fun y _ ρ2 => ∃ s t ds j d, ρ2[i]? = some s ∧ Pk s (.lst t ds) ∧ y = .int j ∧ atI ds j = some d ∧ N d false ρ2) : ZE z (tOp (rIxL K) (tVar i) tb) ρ N := fun m F H σ Q S k => by
  obtain ⟨v, ev⟩ := S.has h0 p0
  refine ⟨v, ev, h m F H σ _ S fun y fy ρ2 F2 H2 vy n2 s2 S2 r2 => ?_⟩
  obtain ⟨F3, s3, S3, ry⟩ := rzF_frz S2 r2
  obtain ⟨s, t, ds, j, d, hs, p, rfl, e, n⟩ := n2
  obtain ⟨a, xs, ea, h1, r⟩ := S3.peekL hs p
  rw [ev] at ea
  cases ea
  unfold atI at e
  cases q : ixN ds.length j with
  | none => rw [q] at e; cases e
  | some j' =>
    rw [q] at e
    obtain ⟨u, e2, rv⟩ := r.at_ e
    refine ⟨a, xs, j, u, rfl, rz_i ry, SqL.of h1, ?_, k _ _ _ _ _ _ n (s2.trans s3) S3 (rzF_f rv)⟩
    unfold atI
    rw [r.len, q]
    exact e2
/-! slices -/
def ZO (z : Cz) (t : TO) (ρ : List Sl) (N : Option Int → List Sl → Prop) : Prop := ∀ m F H σ Q, Sm z m F H σ ρ → (∀ o ρ' F' H', N o ρ' → Same F F' → Sm z m F' H' σ ρ' → Q o H') → t σ H Q
theorem zo_no {M : Option Int → List Sl → Prop} (h : M none ρ) : ZO z tNoPart ρ M := fun m F H σ Q S k => k _ _ _ _ h (Same.refl F) S
theorem zo_some {M : Option Int → List Sl → Prop} (h : ZE z te ρ fun x _ ρ1 => ∃ i, x = .int i ∧ M (some i) ρ1) : ZO z (tPart te) ρ M := fun m F H σ Q S k => by
  refine h m F H σ _ S fun x fx ρ1 F1 H1 vx n1 s1 S1 r1 => ?_
  obtain ⟨F2, s2, S2, rx⟩ := rzF_frz S1 r1
  obtain ⟨i, rfl, n⟩ := n1
  exact ⟨i, rz_i rx, k _ _ _ _ n (s1.trans s2) S2⟩
def cutD (ds : List Dt) (lo hi : Option Int) : List Dt := (ds.drop (HT.sIx ds.length 0 lo)).take (HT.sIx ds.length ds.length hi - HT.sIx ds.length 0 lo)
theorem cut_rzl {K : PySem.W.Frag} {B F : Hp} {ds : List Dt} {xs : List V} (r : Rzl K B F ds xs) (lo hi : Option Int) : Rzl K B F (cutD ds lo hi) (cutV xs lo hi) := by
  unfold cutD cutV
  rw [r.len]
  exact (r.drop _).take _
theorem ze_slT {K : PySem.W.Frag} {tl th : TO} (h : ZE z te ρ fun x _ ρ1 => ZO z tl ρ1 fun lo ρ2 => ZO z th ρ2 fun hi ρ3 => ∃ ds, x = .tup ds ∧ ¬ (HT.sIx ds.length 0 lo = 0 ∧ HT.sIx ds.length ds.length hi = ds.length) ∧ N (.tup (cutD ds lo hi)) false ρ3) : ZE z (tSl (rSlT K) te tl th) ρ N := fun m F H σ Q S k => by
  refine h m F H σ _ S fun x fx ρ1 F1 H1 vx n1 s1 S1 r1 => ?_
  obtain ⟨F2, s2, S2, rx⟩ := rzF_frz S1 r1
  refine n1 m F2 H1 σ _ S2 fun lo ρ2 F3 H3 n2 s3 S3 => n2 m F3 H3 σ _ S3 fun hi ρ3 F4 H4 n3 s4 S4 => ?_
  obtain ⟨ds, rfl, hn, n⟩ := n3
  have rx := rz_mono (s3.trans s4) _ _ rx
  simp only [Rz] at rx
  obtain ⟨a, xs, rfl, e, r⟩ := rx
  refine ⟨a, xs, rfl, SqT.of (S4.le.exact e rfl), by rw [r.len]; exact hn, fun p hp => ?_⟩
  obtain ⟨s5, S5⟩ := S4.new (o := .tup (cutV xs lo hi)) hp
  exact k _ _ _ _ _ _ n ((s1.trans s2).trans ((s3.trans s4).trans s5)) S5 (show Rz z.K m.B _ (.tup _) _ by simp only [Rz]; exact ⟨p, _, rfl, upd_same, rzl_mono s5 _ _ (cut_rzl r lo hi)⟩)
theorem ze_slL {K : PySem.W.Frag} {tl th : TO} (h : ZE z te ρ fun x _ ρ1 => ZO z tl ρ1 fun lo ρ2 => ZO z th ρ2 fun hi ρ3 => ∃ t ds, x = .lst t ds ∧ N (.lst true (cutD ds lo hi)) true ρ3) : ZE z (tSl (rSlL K) te tl th) ρ N := fun m F H σ Q S k => by
  refine h m F H σ _ S fun x fx ρ1 F1 H1 vx n1 s1 S1 r1 => ?_
  obtain ⟨F2, s2, S2, rx⟩ := rzF_frz S1 r1
  refine n1 m F2 H1 σ _ S2 fun lo ρ2 F3 H3 n2 s3 S3 => n2 m F3 H3 σ _ S3 fun hi ρ3 F4 H4 n3 s4 S4 => ?_
  obtain ⟨t, ds, rfl, n⟩ := n3
  have rx := rz_mono (s3.trans s4) _ _ rx
  simp only [Rz] at rx
  obtain ⟨a, xs, rfl, e, _, r⟩ := rx
  exact ⟨a, xs, rfl, SqL.of (S4.le.exact e rfl), fun p hp => k _ _ _ _ _ _ n ((s1.trans s2).trans (s3.trans s4)) (S4.newO hp) (rzF_new S4 hp (.lst (cut_rzl r lo hi)))⟩
/-! joins -/
theorem ze_cat (h : ZE z ta ρ fun x _ ρ1 => ZE z tb ρ1 fun y _ ρ2 => ∃ t u ds es, x = .lst t ds ∧ y = .lst u es ∧ ds.length + es.length ≤ 100000 ∧ N (.lst true (ds ++ es)) true ρ2) : ZE z (tOp rCat ta tb) ρ N :=
  ze_op2w (W := fun x y N ρ2 => ∃ t u ds es, x = .lst t ds ∧ y = .lst u es ∧ ds.length + es.length ≤ 100000 ∧ N (.lst true (ds ++ es)) true ρ2) (fun x y ρ2 N n2 m F H σ Q vx vy S r1 r2 k => by
    obtain ⟨t, u, ds, es, rfl, rfl, hl, n⟩ := n2
    simp only [Rz] at r1 r2
    obtain ⟨a, xs, rfl, h1, _, r1⟩ := r1
    obtain ⟨b, ys, rfl, h2, _, r2⟩ := r2
    exact ⟨a, b, xs, ys, rfl, rfl, S.le.exact h1 rfl, S.le.exact h2 rfl, by rw [r1.len, r2.len, sizeLine_eq]; omega, fun p hp => k _ _ _ _ _ _ n (Same.refl F) (S.newO hp) (rzF_new S hp (.lst (r1.app r2)))⟩) h
/-! truth -/
inductive TruD : Dt → Bool → Prop
  | lst (t : Bool) (ds : List Dt) : TruD (.lst t ds) (!ds.isEmpty)
  | tup (ds : List Dt) : TruD (.tup ds) (!ds.isEmpty)
  | bl (b : Bool) : TruD (.bl b) b
  | int (i : Int) : TruD (.int i) (i != 0)
  | non : TruD .non false
theorem isEmpty_len {α β : Type} : ∀ {xs : List α} {ys : List β}, xs.length = ys.length → xs.isEmpty = ys.isEmpty
  | [], [], _ => rfl
  | _ :: _, _ :: _, _ => rfl
  | [], _ :: _, h => by cases h
  | _ :: _, [], h => by cases h
abbrev tTru (K : PySem.W.Frag) (ta : TE) : TT := fun σ H Q => ta σ H fun x H' => ∃ k, TruV K x H' k ∧ Q k H'
theorem zt_truv {s0 : Sl} {t : Bool} {ds : List Dt} {M : Bool → List Sl → Prop} (h0 : ρ[i]? = some s0) (p0 : Pk s0 (.lst t ds)) (q : M (!ds.isEmpty) ρ) : ZT z (tTru z.K (tVar i)) ρ M := fun m F H σ Q S k => by
  obtain ⟨a, xs, e, h1, r⟩ := S.peekL h0 p0
  refine ⟨_, e, _, .inl ⟨xs, SqL.of h1, rfl⟩, ?_⟩
  rw [isEmpty_len r.len]
  exact k _ _ _ _ q (Same.refl F) S
theorem zt_tru {M : Bool → List Sl → Prop} (h : ZE z ta ρ fun x _ ρ1 => ∃ b, TruD x b ∧ M b ρ1) : ZT z (tTru z.K ta) ρ M := fun m F H σ Q S k => by
  refine h m F H σ _ S fun x fx ρ1 F1 H1 vx n1 s1 S1 r1 => ?_
  obtain ⟨F2, s2, S2, rx⟩ := rzF_frz S1 r1
  obtain ⟨b, hb, n⟩ := n1
  have q := k _ _ _ _ n (s1.trans s2) S2
  cases hb with
  | lst t ds =>
    simp only [Rz] at rx
    obtain ⟨a, xs, rfl, e, _, r⟩ := rx
    exact ⟨_, .inl ⟨xs, SqL.of (S2.le.exact e rfl), rfl⟩, by rw [isEmpty_len r.len]; exact q⟩
  | tup ds =>
    simp only [Rz] at rx
    obtain ⟨a, xs, rfl, e, r⟩ := rx
    exact ⟨_, .inr (.inl ⟨xs, SqT.of (S2.le.exact e rfl), rfl⟩), by rw [isEmpty_len r.len]; exact q⟩
  | bl b => exact ⟨b, by rw [rz_b rx]; exact rfl, q⟩
  | int i => exact ⟨_, by rw [rz_i rx]; exact rfl, q⟩
  | non => exact ⟨_, by rw [rz_n rx]; exact rfl, q⟩
/-! methods of an owned list -/
theorem ze_append {K : PySem.W.Frag} {t0 : Bool} {ds0 : List Dt} (h0 : ρ[i]? = some (.o (.lst t0 ds0))) (h : ZE z te ρ fun x _ ρ1 => ∃ ds, ρ1[i]? = some (.o (.lst true ds)) ∧ ds.length < 100000 ∧ N .non false (ρ1.set i (.o (.lst true (ds ++ [x]))))) :
    ZE z (tBM K "list" rAppend (tVar i) (tCons te tNil)) ρ N := fun m F H σ Q S k => by
  obtain ⟨l, e, h1, h2, h3, ho, h4, h5⟩ := S.geto h0
  cases h5 with
  | @lst xs _ r =>
    refine ⟨.ref l, e, .inl ⟨rfl, xs, SqL.of h4⟩, h m F H σ _ S fun x fx ρ1 F1 H1 vx n1 s1 S1 r1 => ?_⟩
    obtain ⟨F2, s2, S2, rx⟩ := rzF_frz S1 r1
    obtain ⟨ds, hs, hl, n⟩ := n1
    obtain ⟨l', e', q1, q2, q3, ho, q4, q5⟩ := S2.geto hs
    rw [e] at e'
    cases e'
    cases q5 with
    | @lst xs _ r =>
      exact ⟨l, xs, vx, rfl, rfl, q4, by rw [r.len, sizeLine_eq]; omega, k _ _ _ _ _ _ n (s1.trans s2) (S2.put hs e (.lst (r.app (.cons rx .nil)))) (rzF_f rzn)⟩
theorem ze_pop {K : PySem.W.Frag} {t0 : Bool} {ds : List Dt} {d : Dt} (h0 : ρ[i]? = some (.o (.lst t0 (ds ++ [d])))) (n : N d false (ρ.set i (.o (.lst true ds)))) : ZE z (tBM0 K "list" rPop (tVar i)) ρ N := fun m F H σ Q S k => by
  obtain ⟨l, e, h1, h2, h3, ho, h4, h5⟩ := S.geto h0
  cases h5 with
  | @lst xs _ r =>
    refine ⟨.ref l, e, .inl ⟨rfl, xs, SqL.of h4⟩, ?_⟩
    have hl := r.len
    rw [List.length_append, List.length_singleton] at hl
    obtain ⟨y, hy, ry⟩ := r.at_ (i := ds.length) (d := d) (by simp)
    refine ⟨l, xs, y, rfl, rfl, h4, by rw [hl]; exact hy, k _ _ _ _ _ _ n (Same.refl F) (S.put h0 e (.lst ?_)) (rzF_f ry)⟩
    have := r.take ds.length
    rw [List.take_left] at this
    rw [List.dropLast_eq_take, hl]
    exact this
theorem ze_extend {K : PySem.W.Frag} {t0 : Bool} {ds0 : List Dt} (h0 : ρ[i]? = some (.o (.lst t0 ds0))) (h : ZE z te ρ fun x _ ρ1 => ∃ ds t es, ρ1[i]? = some (.o (.lst true ds)) ∧ x = .lst t es ∧ ds.length + es.length ≤ 100000 ∧ N .non false (ρ1.set i (.o (.lst true (ds ++ es))))) :
    ZE z (tBM K "list" rExtend (tVar i) (tCons te tNil)) ρ N := fun m F H σ Q S k => by
  obtain ⟨l, e, h1, h2, h3, ho, h4, h5⟩ := S.geto h0
  cases h5 with
  | @lst xs _ r =>
    refine ⟨.ref l, e, .inl ⟨rfl, xs, SqL.of h4⟩, h m F H σ _ S fun x fx ρ1 F1 H1 vx n1 s1 S1 r1 => ?_⟩
    obtain ⟨F2, s2, S2, rx⟩ := rzF_frz S1 r1
    obtain ⟨ds, t, es, hs, rfl, hl, n⟩ := n1
    obtain ⟨l', e', q1, q2, q3, ho, q4, q5⟩ := S2.geto hs
    rw [e] at e'
    cases e'
    simp only [Rz] at rx
    obtain ⟨b, ys, rfl, hb, _, ry⟩ := rx
    cases q5 with
    | @lst xs _ r =>
      exact ⟨l, b, xs, ys, rfl, rfl, q4, S2.le.exact hb rfl, by rw [r.len, ry.len, sizeLine_eq]; omega, k _ _ _ _ _ _ n (s1.trans s2) (S2.put hs e (.lst (r.app ry))) (rzF_f rzn)⟩
/-! in a written tuple of texts -/
theorem ze_inStrs {a : Addr} {xs : List Str} (hk : tupStrs z.K a xs = true) (hl : xs.length ≤ 1000) (h : ZE z ta ρ fun x _ ρ1 => ∃ y, x = .str y ∧ N (.bl (inV (.str y) (xs.map V.str))) false ρ1) : ZE z (tOp (rIn z.K false) ta (tC (.ref a))) ρ N := fun m F H σ Q S k => by
  refine h m F H σ _ S fun x fx ρ1 F1 H1 vx n1 s1 S1 r1 => ?_
  obtain ⟨F2, s2, S2, rx⟩ := rzF_frz S1 r1
  obtain ⟨y, rfl, n⟩ := n1
  obtain rfl := rz_s rx
  refine ⟨a, xs.map V.str, rfl, .inr (tupStrs_ok hk hl), rfl, ?_, k _ _ _ _ _ _ n (s1.trans s2) S2 (rzF_f rzb)⟩
  exact List.all_eq_true.mpr fun v hv => by
    obtain ⟨y, _, rfl⟩ := List.mem_map.mp hv
    rfl
def flatD : Dt → Option V
  | .non => some .non | .bl b => some (.bl b) | .int i => some (.int i) | .str x => some (.str x)
  | _ => none
theorem flat_rz {K : PySem.W.Frag} {B F : Hp} {d : Dt} {v u : V} (h : flatD d = some u) (r : Rz K B F d v) : v = u ∧ flatV u = true := by
  unfold flatD at h
  split at h <;> cases h <;> (simp only [Rz] at r; exact ⟨r, rfl⟩)
theorem flat_rzl {K : PySem.W.Frag} {B F : Hp} : ∀ {ds : List Dt} {vs us : List V}, ds.mapM flatD = some us → Rzl K B F ds vs → vs = us ∧ us.all flatV = true
  | [], _, us, h, r => by
    rw [List.mapM_nil] at h
    cases h
    exact ⟨r.inv0, rfl⟩
  | d :: ds, _, us, h, r => by
    obtain ⟨v, r', rfl, r1, r2⟩ := r.inv
    rw [List.mapM_cons] at h
    cases e : flatD d with
    | none => rw [e] at h; cases h
    | some u =>
      rw [e] at h
      cases e2 : ds.mapM flatD with
      | none => rw [e2] at h; cases h
      | some us' =>
        rw [e2] at h
        cases h
        obtain ⟨h1, h2⟩ := flat_rz e r1
        obtain ⟨h3, h4⟩ := flat_rzl e2 r2
        exact ⟨by rw [h1, h3], by rw [List.all_cons, h2, h4]; rfl⟩
/-- in a list or a tuple of scalars -/
theorem ze_inF {neg : Bool} (h : ZE z ta ρ fun x _ ρ1 => ZE z tb ρ1 fun y _ ρ2 => ∃ u us ds, flatD x = some u ∧ ((∃ t, y = .lst t ds) ∨ y = .tup ds) ∧ ds.mapM flatD = some us ∧ N (.bl (if neg then !inV u us else inV u us)) false ρ2) : ZE z (tOp (rIn z.K neg) ta tb) ρ N :=
  ze_op2w (W := fun x y N ρ2 => ∃ u us ds, flatD x = some u ∧ ((∃ t, y = .lst t ds) ∨ y = .tup ds) ∧ ds.mapM flatD = some us ∧ N (.bl (if neg then !inV u us else inV u us)) false ρ2) (fun x y ρ2 N n2 m F H σ Q vx vy S r1 r2 k => by
    obtain ⟨u, us, ds, hu, hy, hm, n⟩ := n2
    obtain ⟨rfl, fu⟩ := flat_rz hu r1
    rcases hy with ⟨t, rfl⟩ | rfl
    · simp only [Rz] at r2
      obtain ⟨a, xs, rfl, e, _, r⟩ := r2
      obtain ⟨rfl, fs⟩ := flat_rzl hm r
      exact ⟨a, xs, rfl, .inl (SqL.of (S.le.exact e rfl)), fu, fs, k _ _ _ _ _ _ n (Same.refl F) S (rzF_f rzb)⟩
    · simp only [Rz] at r2
      obtain ⟨a, xs, rfl, e, r⟩ := r2
      obtain ⟨rfl, fs⟩ := flat_rzl hm r
      exact ⟨a, xs, rfl, .inr (SqT.of (S.le.exact e rfl)), fu, fs, k _ _ _ _ _ _ n (Same.refl F) S (rzF_f rzb)⟩) h
/-- in a table of the module with text keys -/
theorem ze_inTab {X : Cx} {a : Addr} (h : ZE z ta ρ fun x _ ρ1 => ∃ y b, x = .str y ∧ inTab X.K a y b = true ∧ N (.bl b) false ρ1) :
    ZE z (tOp (fun x y H Q => ∃ (z : Str) (r : Option Value), x = .str z ∧ y = .ref a ∧ PySem.W.nsIn X.K a z = some r ∧ Q (.bl r.isSome) H) ta (tC (.ref a))) ρ N := fun m F H σ Q S k => by
  refine h m F H σ _ S fun x fx ρ1 F1 H1 vx n1 s1 S1 r1 => ?_
  obtain ⟨F2, s2, S2, rx⟩ := rzF_frz S1 r1
  obtain ⟨y, b, rfl, hb, n⟩ := n1
  obtain ⟨r, e, hr⟩ := inTab_ok hb
  exact ⟨y, r, rz_s rx, rfl, e, by rw [hr]; exact k _ _ _ _ _ _ n (s1.trans s2) S2 (rzF_f rzb)⟩
/-! isinstance -/
inductive TyD (K : PySem.W.Frag) : Dt → Value → Prop
  | non : TyD K .non (.type "NoneType")
  | bl (b : Bool) : TyD K (.bl b) (.type "bool")
  | int (i : Int) : TyD K (.int i) (.type "int")
  | str (x : Str) : TyD K (.str x) (.type "str")
  | lst (t : Bool) (ds : List Dt) : TyD K (.lst t ds) (.type "list")
  | tup (ds : List Dt) : TyD K (.tup ds) (.type "tuple")
  | dic (t : Bool) (ks : List Key) (ds : List Dt) : TyD K (.dic t ks ds) (.type "dict")
  | rat (n d : Int) : isiCB K (He.ga K "Ratio") = true → Cls K (He.ga K "Ratio") → TyD K (.rat n d) (.ref (He.ga K "Ratio"))
  | ins (C : Addr) (fs : List Str) (ds : List Dt) : isiCB K C = true → Cls K C → TyD K (.ins C fs ds) (.ref C)
theorem tyD_ok {K : PySem.W.Frag} {B F H : Hp} {d : Dt} {t : Value} {v : V} (h : TyD K d t) (r : Rz K B F d v) (le : Le F H) : TyX K H v t := by
  cases h with
  | non => rw [rz_n r]; exact .base .non
  | bl b => rw [rz_b r]; exact .base (.bl b)
  | int i => rw [rz_i r]; exact .base (.int i)
  | str x => rw [rz_s r]; exact .base (.str x)
  | lst t ds =>
    simp only [Rz] at r
    obtain ⟨a, xs, rfl, e, _⟩ := r
    exact .base (.lst (le.exact e rfl))
  | tup ds =>
    simp only [Rz] at r
    obtain ⟨a, xs, rfl, e, _⟩ := r
    exact .base (.tup (le.exact e rfl))
  | dic t ks ds =>
    simp only [Rz] at r
    obtain ⟨a, xs, rfl, e, _⟩ := r
    rcases le a _ e with q | ⟨_, ob, q⟩
    · exact .base (.dK q)
    · exact .fDict q
  | rat n d h1 h2 =>
    simp only [Rz] at r
    obtain ⟨a, dx, rfl, e⟩ := r
    exact isi_ins h1 h2 (le.exact e rfl)
  | ins C fs ds h1 h2 =>
    simp only [Rz] at r
    obtain ⟨a, dx, kvs, rfl, e, _⟩ := r
    exact isi_ins h1 h2 (le.exact e rfl)
theorem ze_isi {c : V} {u : Value} (hc : ClsV c u) (h : ZE z te ρ fun x _ ρ1 => ∃ t b, TyD z.K x t ∧ PySem.W.kitOne z.K t u = some b ∧ N (.bl b) false ρ1) : ZE z (tCB (rIsi z.K) (tCons te (tCons (tC c) tNil))) ρ N := fun m F H σ Q S k => by
  refine h m F H σ _ S fun x fx ρ1 F1 H1 vx n1 s1 S1 r1 => ?_
  obtain ⟨F2, s2, S2, rx⟩ := rzF_frz S1 r1
  obtain ⟨t, b, ht, hk, n⟩ := n1
  exact ⟨vx, c, t, u, b, rfl, hc, tyD_ok ht rx S2.le, hk, k _ _ _ _ _ _ n (s1.trans s2) S2 (rzF_f rzb)⟩
/-! operators of an own class -/
def isIn (K : PySem.W.Frag) (C : Addr) : Dt → Prop
  | .rat _ _ => C = He.ga K "Ratio"
  | .ins D _ _ => C = D
  | _ => False
theorem rz_ins {K : PySem.W.Frag} {B F H : Hp} {C : Addr} {d : Dt} {v : V} (h : isIn K C d) (r : Rz K B F d v) (le : Le F H) : ∃ a dx fs, v = .ref a ∧ H a = some (.ins C dx fs) := by
  cases d <;> first | exact h.elim | skip
  · obtain rfl := h
    simp only [Rz] at r
    obtain ⟨a, dx, rfl, e⟩ := r
    exact ⟨a, dx, _, rfl, le.exact e rfl⟩
  · obtain rfl := h
    simp only [Rz] at r
    obtain ⟨a, dx, kvs, rfl, e, _⟩ := r
    exact ⟨a, dx, kvs, rfl, le.exact e rfl⟩
theorem ze_bin {C : Addr} {w : Wz} {E : XK} (h : ZE z ta ρ fun x _ ρ1 => ZE z tb ρ1 fun y _ ρ2 => isIn z.K C x ∧ isIn z.K C y ∧ w [x.old, y.old] (fun d fr => N d fr ρ2) fun _ _ => False) : ZE z (tOp (rBin C (spZ z.K w) E) ta tb) ρ N :=
  ze_op2w (W := fun x y N ρ2 => isIn z.K C x ∧ isIn z.K C y ∧ w [x.old, y.old] (fun d fr => N d fr ρ2) fun _ _ => False) (fun x y ρ2 N n2 m F H σ Q vx vy S r1 r2 k => by
    obtain ⟨hx, hy, n⟩ := n2
    obtain ⟨a, dx, fs, rfl, ha⟩ := rz_ins hx r1 S.le
    obtain ⟨b, dy, gs, rfl, hb⟩ := rz_ins hy r2 S.le
    refine ⟨a, b, dx, dy, fs, gs, rfl, rfl, ha, hb, F, _, _, _, S.le, .cons (rz_old _ _ r1) (.cons (rz_old _ _ r2) .nil), n, fun d fr F' H' v nd g => ?_, fun C fs dd H' f => f.elim⟩
    obtain ⟨S2, r⟩ := S.got g
    exact k _ _ _ _ _ _ nd g.1 S2 r) h
theorem ze_neO {C : Addr} {w : Wz} {E : XK} (h : ZE z ta ρ fun x _ ρ1 => ZE z tb ρ1 fun y _ ρ2 => isIn z.K C x ∧ isIn z.K C y ∧ w [x.old, y.old] (fun d fr => ∃ b, d = .bl b ∧ fr = false ∧ N (.bl (!b)) false ρ2) fun _ _ => False) : ZE z (tOp (rNeO C (spZ z.K w) E) ta tb) ρ N :=
  ze_op2w (W := fun x y N ρ2 => isIn z.K C x ∧ isIn z.K C y ∧ w [x.old, y.old] (fun d fr => ∃ b, d = .bl b ∧ fr = false ∧ N (.bl (!b)) false ρ2) fun _ _ => False) (fun x y ρ2 N n2 m F H σ Q vx vy S r1 r2 k => by
    obtain ⟨hx, hy, n⟩ := n2
    obtain ⟨a, dx, fs, rfl, ha⟩ := rz_ins hx r1 S.le
    obtain ⟨b, dy, gs, rfl, hb⟩ := rz_ins hy r2 S.le
    refine ⟨a, b, dx, dy, fs, gs, rfl, rfl, ha, hb, F, _, _, _, S.le, .cons (rz_old _ _ r1) (.cons (rz_old _ _ r2) .nil), n, fun d fr F' H' v nd g => ?_, fun C fs dd H' f => f.elim⟩
    obtain ⟨t, rfl, rfl, nd⟩ := nd
    obtain ⟨S2, r⟩ := S.got g
    exact ⟨t, rz_b (show Rz z.K m.B F' (.bl t) v from r), k _ _ _ _ _ _ nd g.1 S2 (rzF_f rzb)⟩) h
theorem ze_unO {C : Addr} {w : Wz} {E : XK} (h : ZE z ta ρ fun x _ ρ1 => isIn z.K C x ∧ w [x.old] (fun d fr => N d fr ρ1) fun _ _ => False) : ZE z (tUn (rUnO C (spZ z.K w) E) ta) ρ N :=
  ze_un1 fun m F H σ Q S k => h m F H σ Q S fun x fx ρ1 F1 H1 vx n1 s1 S1 r1 => k x fx ρ1 F1 H1 vx (by
    obtain ⟨hx, n⟩ := n1
    intro m F H σ Q vx S r1 k
    obtain ⟨a, dx, fs, rfl, ha⟩ := rz_ins hx r1 S.le
    refine ⟨a, dx, fs, rfl, ha, F, _, _, _, S.le, .cons (rz_old _ _ r1) .nil, n, fun d fr F' H' v nd g => ?_, fun C fs dd H' f => f.elim⟩
    obtain ⟨S2, r⟩ := S.got g
    exact k _ _ _ _ _ _ nd g.1 S2 r) s1 S1 r1
end
/-! ### lcm of math -/
def rLcm : List V → Hp → VK → Prop := fun vs H Q => ∃ a b : Int, vs = [.int a, .int b] ∧ Bits 4000 a ∧ Bits 4000 b ∧ Q (.int ((Nat.lcm a.natAbs b.natAbs : Nat) : Int)) H
theorem log_big {n b : Nat} (h : n < 2 ^ b) (hb : 0 < b) : n.log2 < b := by
  by_cases c : n = 0
  · subst c
    rw [Nat.log2_zero]
    exact hb
  · exact (Nat.log2_lt c).mpr h
theorem cr_lcm {X : Cx} : CallR X (.builtin "math.lcm") rLcm := by
  intro pins s σ H vs us Q I r h
  obtain ⟨a, b, rfl, ha, hb, q⟩ := h
  obtain ⟨t, u, rfl⟩ := Vals.int2 r
  have e : (Nat.lcm 1 a.natAbs).lcm b.natAbs = Nat.lcm a.natAbs b.natAbs := by rw [Nat.lcm_one_left]
  have h1 : (max 1 a.natAbs).log2 < 4000 := log_big (Nat.max_lt.mpr ⟨Nat.one_lt_two_pow (by decide), ha⟩) (by decide)
  have h2 : (max a.natAbs b.natAbs).log2 < 4000 := log_big (Nat.max_lt.mpr ⟨ha, hb⟩) (by decide)
  have h3 : Nat.lcm a.natAbs b.natAbs < 2 ^ 8001 := by
    by_cases c : a.natAbs = 0 ∨ b.natAbs = 0
    · have : Nat.lcm a.natAbs b.natAbs = 0 := by rcases c with c | c <;> rw [c] <;> simp
      rw [this]
      exact Nat.two_pow_pos _
    · have hm : Nat.lcm a.natAbs b.natAbs ≤ a.natAbs * b.natAbs := Nat.le_of_dvd (Nat.mul_pos (by omega) (by omega)) (Nat.lcm_dvd (Nat.dvd_mul_right _ _) (Nat.dvd_mul_left _ _))
      have hm2 : a.natAbs * b.natAbs < 2 ^ 4000 * 2 ^ 4000 := Nat.mul_lt_mul'' ha hb
      rw [← Nat.pow_add] at hm2
      exact Nat.lt_of_le_of_lt hm (Nat.lt_of_lt_of_le hm2 (Nat.pow_le_pow_right (by decide) (by decide)))
  have hsz : ((((Nat.lcm 1 a.natAbs).lcm b.natAbs : Nat) : Int)).natAbs.log2 < bitsLine := by
    rw [e, Int.natAbs_natCast]
    exact Nat.lt_trans (log_big h3 (by decide)) (by decide)
  refine call_function_meets PySem.W.MGF.kind_lcm PySem.W.MGF.plain_lcm PySem.W.MGF.entry_lcm (PySem.W.MGF.args_lcm _ _) (PySem.W.mg_run_lcm a t b u (by omega) (by omega) hsz).meets ?_
  rw [e]
  exact ⟨.int _, H, I.tok _, ⟨_, rfl⟩, q⟩
/-! ### determinants of whole numbers, and elimination that divides without rest (Bareiss) -/
namespace Dg
abbrev Vc := Nat → Int
def comb (a : Int) (x : Vc) (b : Int) (y : Vc) : Vc := fun j => a * x j + b * y j
/-- along the first column: the row w taken out of pre, w, post -/
def go (D : List Vc → Int) (c : Nat) : List Vc → List Vc → Int
  | _, [] => 0
  | pre, w :: post => w c * D (pre ++ post) - go D c (pre ++ [w]) post
def det : List Nat → List Vc → Int
  | [], [] => 1
  | [], _ :: _ => 0
  | c :: cs, ws => go (det cs) c [] ws
/-! linear in each row -/
def LinD (D : List Vc → Int) : Prop := ∀ (X Y : List Vc) (a b : Int) (x y : Vc), D (X ++ comb a x b y :: Y) = a * D (X ++ x :: Y) + b * D (X ++ y :: Y)
theorem go_linR {D : List Vc → Int} (h : LinD D) (c : Nat) (a b : Int) (x y : Vc) : ∀ (post pre pre2 : List Vc), go D c (pre ++ comb a x b y :: pre2) post = a * go D c (pre ++ x :: pre2) post + b * go D c (pre ++ y :: pre2) post
  | [], pre, pre2 => by simp only [go]; omega
  | w :: post, pre, pre2 => by
    simp only [go, List.append_assoc, List.cons_append]
    rw [h pre (pre2 ++ post) a b x y, go_linR h c a b x y post pre (pre2 ++ [w])]
    simp only [Int.mul_add, Int.mul_sub, ← Int.mul_assoc]
    rw [Int.mul_comm (w c) a, Int.mul_comm (w c) b]
    omega
theorem go_linL {D : List Vc → Int} (h : LinD D) (c : Nat) (a b : Int) (x y : Vc) (B : List Vc) : ∀ (A pre : List Vc), go D c pre (A ++ comb a x b y :: B) = a * go D c pre (A ++ x :: B) + b * go D c pre (A ++ y :: B)
  | [], pre => by
    simp only [List.nil_append, go]
    rw [show (comb a x b y) c = a * x c + b * y c from rfl]
    have e := go_linR h c a b x y B pre []
    rw [e]
    simp only [Int.add_mul, Int.mul_sub, Int.mul_assoc]
    omega
  | w :: A, pre => by
    simp only [List.cons_append, go]
    rw [← List.append_assoc pre A, h (pre ++ A) B a b x y, go_linL h c a b x y B A (pre ++ [w])]
    simp only [List.append_assoc, Int.mul_add, Int.mul_sub, ← Int.mul_assoc]
    rw [Int.mul_comm (w c) a, Int.mul_comm (w c) b]
    omega
theorem det_lin : ∀ cs : List Nat, LinD (det cs)
  | [] => fun X Y a b x y => by cases X <;> simp [det]
  | c :: cs => fun X Y a b x y => go_linL (det_lin cs) c a b x y Y X []
/-! two rows alike, side by side -/
def AltD (D : List Vc → Int) : Prop := ∀ (X Y : List Vc) (x : Vc), D (X ++ x :: x :: Y) = 0
theorem go_altR {D : List Vc → Int} (h : AltD D) (c : Nat) (x : Vc) : ∀ (post pre pre2 : List Vc), go D c (pre ++ x :: x :: pre2) post = 0
  | [], _, _ => rfl
  | w :: post, pre, pre2 => by
    simp only [go, List.append_assoc, List.cons_append]
    rw [h pre (pre2 ++ post) x, go_altR h c x post pre (pre2 ++ [w])]
    simp
theorem go_altL {D : List Vc → Int} (h : AltD D) (c : Nat) (x : Vc) (B : List Vc) : ∀ (A pre : List Vc), go D c pre (A ++ x :: x :: B) = 0
  | [], pre => by
    simp only [List.nil_append, go, List.append_assoc, List.cons_append]
    have e := go_altR h c x B pre []
    rw [e]
    omega
  | w :: A, pre => by
    simp only [List.cons_append, go]
    rw [← List.append_assoc pre A, h (pre ++ A) B x, go_altL h c x B A (pre ++ [w])]
    simp
theorem det_alt : ∀ cs : List Nat, AltD (det cs)
  | [] => fun X Y x => by cases X <;> rfl
  | c :: cs => fun X Y x => go_altL (det_alt cs) c x Y X []
theorem det_swap (cs : List Nat) (X Y : List Vc) (a b : Vc) : det cs (X ++ a :: b :: Y) = - det cs (X ++ b :: a :: Y) := by
  have h := det_alt cs X Y (comb 1 a 1 b)
  rw [det_lin cs X (comb 1 a 1 b :: Y) 1 1 a b] at h
  have e1 := det_lin cs (X ++ [a]) Y 1 1 a b
  have e2 := det_lin cs (X ++ [b]) Y 1 1 a b
  simp only [List.append_assoc, List.cons_append, List.nil_append] at e1 e2
  rw [e1, e2, det_alt cs X Y a, det_alt cs X Y b] at h
  omega
theorem det_two (cs : List Nat) (w : Vc) (B : List Vc) : ∀ A X : List Vc, det cs (X ++ w :: (A ++ w :: B)) = 0
  | [], X => det_alt cs X B w
  | a :: A, X => by
    rw [List.cons_append, det_swap, show X ++ a :: w :: (A ++ w :: B) = (X ++ [a]) ++ w :: (A ++ w :: B) by simp, det_two cs w B A (X ++ [a])]
    rfl
/-- a multiple of the first row put to another -/
theorem det_op (cs : List Nat) (w : Vc) (A B : List Vc) (a b : Int) (u : Vc) : det cs (w :: (A ++ comb a u b w :: B)) = a * det cs (w :: (A ++ u :: B)) := by
  have h := det_lin cs (w :: A) B a b u w
  simp only [List.cons_append] at h
  rw [h, show w :: (A ++ w :: B) = [] ++ w :: (A ++ w :: B) from rfl, det_two cs w B A []]
  simp
/-- .. to all others -/
def cut (p : Int) (c : Nat) (w : Vc) (u : Vc) : Vc := comb p u (-u c) w
theorem det_ops (cs : List Nat) (p : Int) (c : Nat) (w : Vc) : ∀ (us A : List Vc), det cs (w :: (A ++ us.map (cut p c w))) = p ^ us.length * det cs (w :: (A ++ us))
  | [], A => by simp
  | u :: us, A => by
    have h := det_ops cs p c w us (A ++ [u])
    have g := det_op cs w A (us.map (cut p c w)) p (-u c) u
    simp only [List.append_assoc, List.cons_append, List.nil_append] at h
    rw [List.map_cons, show cut p c w u = comb p u (-u c) w from rfl, g, h, List.length_cons, Int.pow_succ, ← Int.mul_assoc, Int.mul_comm p]
theorem go_none {D : List Vc → Int} {c : Nat} : ∀ {post pre : List Vc}, (∀ u ∈ post, u c = 0) → go D c pre post = 0
  | [], _, _ => rfl
  | w :: post, pre, h => by
    rw [go, h w List.mem_cons_self, go_none fun u hu => h u (List.mem_cons_of_mem _ hu)]
    simp
/-- Chio: the first column cleared by the first row -/
theorem chio (c : Nat) (cs : List Nat) (w : Vc) (us : List Vc) : w c ^ us.length * det (c :: cs) (w :: us) = w c * det cs (us.map (cut (w c) c w)) := by
  have h := det_ops (c :: cs) (w c) c w us []
  simp only [List.nil_append] at h
  rw [← h]
  show go (det cs) c [] (w :: us.map (cut (w c) c w)) = _
  rw [go, go_none]
  · simp
  · intro u hu
    obtain ⟨v, _, rfl⟩ := List.mem_map.mp hu
    show w c * v c + -v c * w c = 0
    rw [Int.neg_mul, Int.mul_comm (v c)]
    omega
theorem det_scale (cs : List Nat) (q : Int) (f g : Vc → Vc) : ∀ (us A : List Vc), (∀ u ∈ us, f u = fun j => q * g u j) → det cs (A ++ us.map f) = q ^ us.length * det cs (A ++ us.map g)
  | [], A, _ => by simp
  | u :: us, A, h => by
    have e : f u = comb q (g u) 0 (g u) := by
      rw [h u List.mem_cons_self]
      funext j
      show _ = q * g u j + 0 * g u j
      simp
    have l := det_lin cs A (us.map f) q 0 (g u) (g u)
    have i := det_scale cs q f g us (A ++ [g u]) fun v hv => h v (List.mem_cons_of_mem _ hv)
    simp only [List.append_assoc, List.cons_append, List.nil_append] at i
    rw [List.map_cons, e, l, i, List.map_cons, List.length_cons, Int.pow_succ, Int.zero_mul, Int.add_zero, ← Int.mul_assoc, Int.mul_comm q]
end Dg
/-! ### rows reduced without rest -/
namespace Dg
/-- the last pivot -/
def dv : List (Vc × Nat) → Int
  | [] => 1
  | [x] => x.1 x.2
  | _ :: y :: r => dv (y :: r)
def stepR (d : Int) (x : Vc × Nat) (v : Vc) : Vc := fun j => (x.1 x.2 * v j - v x.2 * x.1 j).fdiv d
/-- v reduced by the rows bs, one behind the other -/
def redF : Int → List (Vc × Nat) → Vc → Vc
  | _, [], v => v
  | d, x :: r, v => redF (x.1 x.2) r (stepR d x v)
def red (bs : List (Vc × Nat)) (v : Vc) : Vc := redF 1 bs v
theorem dv_snoc (x : Vc × Nat) : ∀ bs : List (Vc × Nat), dv (bs ++ [x]) = x.1 x.2
  | [] => rfl
  | [_] => rfl
  | _ :: y :: r => dv_snoc x (y :: r)
theorem redF_snoc (x : Vc × Nat) : ∀ (bs : List (Vc × Nat)) (d : Int) (v : Vc), redF d (bs ++ [x]) v = stepR (if bs = [] then d else dv bs) x (redF d bs v)
  | [], d, v => rfl
  | [y], d, v => rfl
  | y :: z :: r, d, v => by
    have h := redF_snoc x (z :: r) (y.1 y.2) (stepR d y v)
    rw [if_neg (by simp)] at h
    rw [if_neg (by simp)]
    exact h
theorem red_snoc (x : Vc × Nat) (v : Vc) (bs : List (Vc × Nat)) : red (bs ++ [x]) v = stepR (dv bs) x (red bs v) := by
  unfold red
  rw [redF_snoc]
  cases bs with
  | nil => rfl
  | cons y r => rw [if_neg (by simp)]
/-- minors of reduced rows are divided by the last pivot -/
structure Good (bs : List (Vc × Nat)) : Prop where
  ne : dv bs ≠ 0
  min : ∀ (cs : List Nat) (u : Vc) (us : List Vc), dv bs ^ us.length ∣ det cs ((u :: us).map (red bs))
theorem good_nil : Good [] := ⟨by decide, fun cs u us => by
  show (1 : Int) ^ us.length ∣ _
  rw [Int.one_pow]
  exact Int.one_dvd _⟩
theorem two_minor (l j : Nat) (B v : Vc) : det [l, j] [B, v] = B l * v j - v l * B j := by
  simp [det, go]
theorem Good.exact {bs : List (Vc × Nat)} (h : Good bs) (R v : Vc) (l j : Nat) : dv bs ∣ red bs R l * red bs v j - red bs v l * red bs R j := by
  have q := h.min [l, j] R [v]
  rw [List.map_cons, List.map_cons, List.map_nil, two_minor, List.length_singleton, Int.pow_one] at q
  exact q
theorem Good.step {bs : List (Vc × Nat)} (h : Good bs) {R : Vc} {l : Nat} (hp : red bs R l ≠ 0) (v : Vc) (j : Nat) : dv bs * red (bs ++ [(red bs R, l)]) v j = red bs R l * red bs v j - red bs v l * red bs R j := by
  rw [red_snoc]
  exact Int.mul_fdiv_cancel' (h.exact R v l j)
theorem Good.snoc {bs : List (Vc × Nat)} (h : Good bs) {R : Vc} {l : Nat} (hp : red bs R l ≠ 0) : Good (bs ++ [(red bs R, l)]) := by
  refine ⟨by rw [dv_snoc]; exact hp, fun cs u us => ?_⟩
  rw [dv_snoc]
  have c := chio l cs (red bs R) ((u :: us).map (red bs))
  have e : ((u :: us).map (red bs)).map (cut (red bs R l) l (red bs R)) = (u :: us).map (fun v => cut (red bs R l) l (red bs R) (red bs v)) := by rw [List.map_map]; rfl
  have s := det_scale cs (dv bs) (fun v => cut (red bs R l) l (red bs R) (red bs v)) (red (bs ++ [(red bs R, l)])) (u :: us) [] fun v _ => by
    funext j
    rw [h.step hp v j]
    show red bs R l * red bs v j + -red bs v l * red bs R j = _
    rw [Int.neg_mul]
    omega
  simp only [List.nil_append] at s
  rw [e, s, List.length_map, List.length_cons] at c
  obtain ⟨t, ht⟩ := h.min (l :: cs) R (u :: us)
  rw [List.map_cons, List.length_cons] at ht
  rw [ht] at c
  show red bs R l ^ us.length ∣ _
  have hq : dv bs ^ (us.length + 1) ≠ 0 := Int.pow_ne_zero h.ne
  refine ⟨t, ?_⟩
  have c2 : (red bs R l * dv bs ^ (us.length + 1)) * (red bs R l ^ us.length * t) = (red bs R l * dv bs ^ (us.length + 1)) * det cs ((u :: us).map (red (bs ++ [(red bs R, l)]))) := by
    rw [Int.mul_assoc (red bs R l) (dv bs ^ (us.length + 1)) (det _ _), ← c, Int.pow_succ (red bs R l) us.length]
    simp only [Int.mul_assoc, Int.mul_left_comm]
  exact (Int.eq_of_mul_eq_mul_left (Int.mul_ne_zero hp hq) c2).symm
end Dg
/-! ### elimination by fractions and by whole numbers -/
namespace Dg
abbrev Vq := Nat → Rat
def stepQ (x : Vq × Nat) (q : Vq) : Vq := fun j => q j - (q x.2 / x.1 x.2) * x.1 j
def redQ (lb : List (Vq × Nat)) (q : Vq) : Vq := lb.foldl (fun q x => stepQ x q) q
theorem redQ_snoc (lb : List (Vq × Nat)) (x : Vq × Nat) (q : Vq) : redQ (lb ++ [x]) q = stepQ x (redQ lb q) := by
  unfold redQ
  rw [List.foldl_append]
  rfl
/-- the rows of both, built side by side: R is q times s where J holds -/
inductive Lk2 (J : Nat → Prop) : List (Vc × Nat) → List (Vq × Nat) → Prop
  | nil : Lk2 J [] []
  | snoc {bs : List (Vc × Nat)} {lb : List (Vq × Nat)} {R : Vc} {q : Vq} {s : Rat} {l : Nat} : Lk2 J bs lb → J l → s ≠ 0 → (∀ j, J j → (R j : Rat) = s * q j) → red bs R l ≠ 0 → Lk2 J (bs ++ [(red bs R, l)]) (lb ++ [(redQ lb q, l)])
theorem link {J : Nat → Prop} {bs : List (Vc × Nat)} {lb : List (Vq × Nat)} (h : Lk2 J bs lb) : Good bs ∧ ∀ (R : Vc) (q : Vq) (s : Rat), (∀ j, J j → (R j : Rat) = s * q j) → ∀ j, J j → (red bs R j : Rat) = s * (dv bs : Rat) * redQ lb q j := by
  induction h with
  | nil =>
    refine ⟨good_nil, fun R q s hR j hj => ?_⟩
    show (R j : Rat) = s * ((1 : Int) : Rat) * q j
    rw [hR j hj]
    grind
  | @snoc bs lb R0 q0 s0 l h hl hs0 hR0 hp ih =>
    obtain ⟨g, ih⟩ := ih
    refine ⟨g.snoc hp, fun R q s hR j hj => ?_⟩
    have e0 := g.step hp R j
    have e1 : ((dv bs * red (bs ++ [(red bs R0, l)]) R j : Int) : Rat) = ((red bs R0 l * red bs R j - red bs R l * red bs R0 j : Int) : Rat) := by rw [e0]
    have a1 := ih R q s hR j hj
    have a2 := ih R q s hR l hl
    have b1 := ih R0 q0 s0 hR0 j hj
    have b2 := ih R0 q0 s0 hR0 l hl
    have hd : (dv bs : Rat) ≠ 0 := by
      intro z
      exact g.ne (Rat.intCast_inj.mp (by rw [z]; rfl))
    have hB : (red bs R0 l : Rat) ≠ 0 := by
      intro z
      exact hp (Rat.intCast_inj.mp (by rw [z]; rfl))
    have hE : redQ lb q0 l ≠ 0 := by
      intro z
      rw [z] at b2
      apply hB
      rw [b2]
      grind
    rw [dv_snoc, redQ_snoc]
    show _ = s * ((red bs R0 l : Int) : Rat) * (redQ lb q j - (redQ lb q l / redQ lb q0 l) * redQ lb q0 j)
    simp only [Rat.intCast_mul, Rat.intCast_sub] at e1
    rw [a1, a2, b1, b2] at e1
    rw [b2]
    generalize (red (bs ++ [(red bs R0, l)]) R j : Rat) = x at *
    generalize (dv bs : Rat) = d at *
    generalize redQ lb q j = y1 at *
    generalize redQ lb q l = y2 at *
    generalize redQ lb q0 j = z1 at *
    generalize redQ lb q0 l = z2 at *
    clear a1 a2 b1 b2 e0 hB
    have e2 : x = (s0 * d * z2 * (s * d * y1) - s * d * y2 * (s0 * d * z1)) / d := by grind
    rw [e2]
    grind
end Dg
namespace Dg
/-! ### what reduced rows are -/
section
variable {J : Nat → Prop} {bs : List (Vc × Nat)} {lb : List (Vq × Nat)}
/-- nothing is left at the leads -/
theorem red_lead (h : Lk2 J bs lb) : ∀ x ∈ bs, ∀ v : Vc, red bs v x.2 = 0 := by
  induction h with
  | nil => intro x hx; cases hx
  | @snoc bs lb R q s l h hl hs hR hp ih =>
    intro x hx v
    have g := (link h).1
    have e := g.step hp v x.2
    rcases List.mem_append.mp hx with hx | hx
    · rw [ih x hx v, ih x hx R] at e
      simp only [Int.mul_zero, Int.sub_zero] at e
      exact (Int.mul_eq_zero.mp e).resolve_left g.ne
    · rw [List.mem_singleton.mp hx] at e ⊢
      have z : red bs R l * red bs v l - red bs v l * red bs R l = 0 := by rw [Int.mul_comm]; omega
      have e2 := e.trans z
      exact (Int.mul_eq_zero.mp e2).resolve_left g.ne
theorem red_lin (h : Lk2 J bs lb) : ∀ (a b : Int) (u w : Vc) (j : Nat), red bs (comb a u b w) j = a * red bs u j + b * red bs w j := by
  induction h with
  | nil => intro a b u w j; rfl
  | @snoc bs lb R q s l h hl hs hR hp ih =>
    intro a b u w j
    have g := (link h).1
    have e1 := g.step hp u j
    have e2 := g.step hp w j
    have e3 := g.step hp (comb a u b w) j
    rw [ih, ih] at e3
    refine Int.eq_of_mul_eq_mul_left g.ne ?_
    rw [e3]
    grind
/-- what has nothing at the leads is multiplied by the last pivot -/
theorem red_fix (h : Lk2 J bs lb) : ∀ u : Vc, (∀ x ∈ bs, u x.2 = 0) → ∀ j, red bs u j = dv bs * u j := by
  induction h with
  | nil => intro u _ j; show u j = 1 * u j; omega
  | @snoc bs lb R q s l h hl hs hR hp ih =>
    intro u hu j
    have g := (link h).1
    have e1 := g.step hp u j
    have i1 := ih u (fun x hx => hu x (List.mem_append_left _ hx))
    have i2 := hu (red bs R, l) (by simp)
    rw [i1 j, i1 l, show u l = 0 from i2] at e1
    rw [dv_snoc]
    refine Int.eq_of_mul_eq_mul_left g.ne ?_
    rw [e1]
    show _ = dv bs * (red bs R l * u j)
    grind
theorem red_self (h : Lk2 J bs lb) : ∀ x ∈ bs, ∀ j, red bs x.1 j = 0 := by
  induction h with
  | nil => intro x hx; cases hx
  | @snoc bs lb R q s l h hl hs hR hp ih =>
    intro x hx j
    have g := (link h).1
    have e := g.step hp x.1 j
    rcases List.mem_append.mp hx with hx | hx
    · rw [ih x hx j, ih x hx l] at e
      simp only [Int.mul_zero, Int.zero_mul, Int.sub_zero] at e
      exact (Int.mul_eq_zero.mp e).resolve_left g.ne
    · rw [List.mem_singleton.mp hx] at e ⊢
      have f := red_fix h (red bs R) (fun y hy => red_lead h y hy R)
      rw [f j, f l] at e
      have z : red bs R l * (dv bs * red bs R j) - dv bs * red bs R l * red bs R j = 0 := by grind
      exact (Int.mul_eq_zero.mp (e.trans z)).resolve_left g.ne
/-- a linear form that is nothing on the basis -/
def LinF (f : Vc → Rat) : Prop := ∀ (a b : Int) (u w : Vc), f (comb a u b w) = a * f u + b * f w
theorem form_red {f : Vc → Rat} (hf : LinF f) (h : Lk2 J bs lb) : (∀ x ∈ bs, f x.1 = 0) → ∀ v, f (red bs v) = dv bs * f v := by
  induction h with
  | nil => intro _ v; show f v = ((1 : Int) : Rat) * f v; grind
  | @snoc bs lb R q s l h hl hs hR hp ih =>
    intro hz v
    have g := (link h).1
    have ihv := ih (fun x hx => hz x (List.mem_append_left _ hx)) v
    have hB : f (red bs R) = 0 := hz (red bs R, l) (by simp)
    have e : comb (dv bs) (red (bs ++ [(red bs R, l)]) v) 0 v = comb (red bs R l) (red bs v) (-red bs v l) (red bs R) := by
      funext j
      have := g.step hp v j
      show dv bs * red (bs ++ [(red bs R, l)]) v j + 0 * v j = red bs R l * red bs v j + -red bs v l * red bs R j
      rw [this]
      grind
    have e2 := congrArg f e
    rw [hf, hf, hB, ihv] at e2
    have hd : (dv bs : Rat) ≠ 0 := by
      intro z
      exact g.ne (Rat.intCast_inj.mp (by rw [z]; rfl))
    rw [dv_snoc]
    show _ = ((red bs R l : Int) : Rat) * f v
    generalize f (red (bs ++ [(red bs R, l)]) v) = y at *
    generalize (dv bs : Rat) = d at *
    clear hz ih hB ihv e
    have e3 : d * y = d * ((red bs R l : Int) * f v) := by grind
    grind
end
end Dg
namespace Dg
/-! ### the solution -/
section
variable {J : Nat → Prop} {bs : List (Vc × Nat)} {lb : List (Vq × Nat)}
def unit (i : Nat) : Vc := fun j => if j = i then 1 else 0
/-- times the last pivot: what stands at column i -/
def sol (bs : List (Vc × Nat)) (c i : Nat) : Int := - red bs (unit i) c
def sumF (n : Nat) (f : Nat → Int) : Int := ((List.range n).map f).sum
theorem sumF_succ (n : Nat) (f : Nat → Int) : sumF (n + 1) f = sumF n f + f n := by
  unfold sumF
  rw [List.range_succ, List.map_append, List.sum_append]
  simp
def cutv (n : Nat) (u : Vc) : Vc := fun j => if j < n then u j else 0
theorem red_sum (h : Lk2 J bs lb) (u : Vc) (j : Nat) : ∀ n, red bs (cutv n u) j = sumF n fun i => u i * red bs (unit i) j
  | 0 => by
    have e : cutv 0 u = comb 0 u 0 u := by
      funext k
      show (if k < 0 then u k else 0) = 0 * u k + 0 * u k
      simp
    rw [e, red_lin h]
    simp [sumF]
  | n + 1 => by
    have e : cutv (n + 1) u = comb 1 (cutv n u) (u n) (unit n) := by
      funext k
      show (if k < n + 1 then u k else 0) = 1 * (if k < n then u k else 0) + u n * (if k = n then 1 else 0)
      by_cases a : k < n
      · rw [if_pos (by omega), if_pos a, if_neg (by omega)]
        omega
      · by_cases b : k = n
        · subst b
          simp
        · rw [if_neg (by omega), if_neg a, if_neg b]
          omega
    rw [e, red_lin h, red_sum h u j n, sumF_succ]
    omega
/-- at column c alone nothing is reduced, where no lead is c -/
theorem red_unit (h : Lk2 J bs lb) {c : Nat} (hc : ∀ x ∈ bs, x.2 ≠ c) (j : Nat) : red bs (unit c) j = dv bs * unit c j := red_fix h _ (fun x hx => if_neg (hc x hx)) j
/-- each basis row is kept by the solution -/
theorem sol_row (h : Lk2 J bs lb) {c : Nat} (hc : ∀ x ∈ bs, x.2 ≠ c) {u : Vc} (hu : red bs (cutv (c + 1) u) c = 0) : sumF c (fun i => u i * sol bs c i) = dv bs * u c := by
  rw [red_sum h, sumF_succ, red_unit h hc] at hu
  have e : unit c c = 1 := if_pos rfl
  rw [e] at hu
  have z : sumF c (fun i => u i * sol bs c i) = - sumF c fun i => u i * red bs (unit i) c := by
    clear hu
    generalize c = k
    have : ∀ n, sumF n (fun i => u i * - red bs (unit i) k) = - sumF n fun i => u i * red bs (unit i) k := by
      intro n
      induction n with
      | zero => rfl
      | succ n ih => rw [sumF_succ, sumF_succ, ih]; grind
    exact this k
  rw [z]
  grind
end
end Dg
/-! ### the law's own helpers: the stream -/
def spStream (K : PySem.W.Frag) : Sp := fun vs H Q _ => ∃ (a : Addr) (ns : List Int), vs = [.ref a] ∧ SqL K H a (ns.map V.int) ∧ ns.length ≤ 63 ∧ ∀ s H', Same H H' → Strm H' s → Q (.ref s) H'
def spDraw : Sp := fun vs H Q _ => ∃ (s : Addr) (n : Int), vs = [.ref s, .int n] ∧ Strm H s ∧ 0 < n ∧ n < 18446744073709551616 ∧ ∀ v, 0 ≤ v → v < n → Q (.int v) H
section
variable {P : Program} {w : World} {K : PySem.W.Frag} {mg : Str → Option Value} {base : Heap}
theorem small31 {i : Int} (h0 : 0 ≤ i) (h : i < 2147483648) : i.natAbs < 2 ^ 31 := by omega
theorem mulW31 {i j : Int} (h0 : 0 ≤ i) (h : i < 2147483648) (h2 : 0 ≤ j) (h3 : j < 2147483648) : CMulW i j := wide_mul (a := 31) (b := 31) (by omega) (by omega) (by decide) (by decide) (by decide)
theorem item_int {ns : List Int} {i : Nat} {x : V} (h : (ns.map V.int)[i]? = some x) : ∃ z, ns[i]? = some z ∧ x = .int z := by
  rw [List.getElem?_map] at h
  cases e : ns[i]? with
  | none => rw [e] at h; cases h
  | some z => rw [e] at h; exact ⟨z, rfl, (Option.some.inj h).symm⟩
theorem atI_ints {ns : List Int} {j : Int} (h0 : 0 ≤ j) (h : j < ((ns.map V.int).length : Int)) : ∃ z, atI (ns.map V.int) j = some (.int z) := by
  rw [List.length_map] at h
  have hk : j.toNat < ns.length := by omega
  have e : j = ((j.toNat : Nat) : Int) := by omega
  refine ⟨ns[j.toNat], ?_⟩
  have q : atI (ns.map V.int) ((j.toNat : Nat) : Int) = some (.int ns[j.toNat]) := atI_nat (by rw [List.getElem?_map, List.getElem?_eq_getElem hk] <;> rfl)
  rw [← e] at q
  exact q
theorem ok__law_draw (T : Top w K mg) : FnOk P w K mg base CX0 1 (He.ga K ("_law_draw" : Str)) (fdOf K d__law_draw) ["stream", "many"] spDraw := by
  refine (T.f__law_draw).ok sc__law_draw (fun vs H Q E h => ?_) (fun cdv A outer s H vs Q E hr h => ?_)
  · obtain ⟨a, n, rfl, _⟩ := h
    rfl
  · obtain ⟨s0, n, rfl, ⟨l, ns, hs, hl, h63⟩, h0, h1, k⟩ := h
    refine ⟨_, PSs.nox (pss_open s0 l (C8.pss_cut (ps_if (PW.pt (pw_and (pt_cmpR op_eq (pe_ix (ix_listK (K := K) rfl) (pv 0) pe_int (fun _ _ => rfl)) pe_int (nomark _)) (pw_and1 (pt_cmpR op_lt (pe_ix (ix_listK (K := K) rfl) (pv 0) pe_int (fun _ _ => rfl)) (pe_callB (call_lenK (K := K) rfl) (by rfl) T.n_len PySem.boot_len (pa_cons (pe_ix (ix_listK (K := K) rfl) (pv 0) pe_int (fun _ _ => rfl)) pa_nil)) (nomark _)))))
    (pss_cons (ps_asg (pe_callB call_abs (by rfl) T.n_abs (by decide +kernel) (pa_cons (pe_callTy call_int1 (by rfl) T.n_int (by decide +kernel) (pa_cons (pe_ix (ix_listK (K := K) rfl) (pe_ix (ix_listK (K := K) rfl) (pv 0) pe_int (fun _ _ => rfl)) (pe_ix (ix_listK (K := K) rfl) (pv 0) pe_int (fun _ _ => rfl)) (fun _ _ => rfl)) pa_nil)) pa_nil)) (pg_sub (pv 0) pe_int set_list))
    (pss_one (ps_asg (pe_op op_add (pe_ix (ix_listK (K := K) rfl) (pv 0) pe_int (fun _ _ => rfl)) pe_int) (pg_sub (pv 0) pe_int set_list))))
    pss_nil)
    (pss_cons (ps_if (pt_cmpR op_eq (pe_ix (ix_listK (K := K) rfl) (pv 0) pe_int (fun _ _ => rfl)) pe_int (nomark _))
    (pss_cons (ps_asg (pe_op op_mod (pe_callTy call_int1 (by rfl) T.n_int (by decide +kernel) (pa_cons (pe_op op_add (pe_op op_mulW (pe_ix (ix_listK (K := K) rfl) (pv 0) pe_int (fun _ _ => rfl)) pe_int) pe_int) pa_nil)) pe_int) (pg_sub (pv 0) pe_int set_list))
    (pss_one (ps_ret (pe_op op_mod (pe_callTy call_int1 (by rfl) T.n_int (by decide +kernel) (pa_cons (pe_op op_fdivG (pe_ix (ix_listK (K := K) rfl) (pv 0) pe_int (fun _ _ => rfl)) pe_int) pa_nil)) (pv 1)))))
    pss_nil)
    (pss_cons (ps_set (i := 2) sc__law_draw.nd rfl (Or.inl rfl) (pe_op op_mod (pe_callTy call_int1 (by rfl) T.n_int (by decide +kernel) (pa_cons (pe_ix (ix_listK (K := K) rfl) (pv 0) pe_int (fun _ _ => rfl)) pa_nil)) (pv 1)))
    (pss_cons (ps_asg (pe_op op_fdivG (pe_ix (ix_listK (K := K) rfl) (pv 0) pe_int (fun _ _ => rfl)) (pv 1)) (pg_sub (pv 0) pe_int set_list))
    (pss_one (ps_ret (pv 2)))))))), ?_⟩
    refine r_open hs (fun i j m hj => ?_)
    have hls : l ≠ s0 := ne_of hl hs (by intro z; cases z)
    refine r_cut (fun σ H' => σ = [some (.ref s0), some (.int n), none] ∧ ∃ i j, okS j m ∧ H' = upd H s0 (.lst (cellsV l i j m))) ?_ ?_
    · have hl' : ∀ o, SqL K (upd H s0 o) l (ns.map V.int) := fun o => SqL.of (by rw [upd_ne hls]; exact hl)
      walk_at "go"
      refine ite_d (fun c1 => ?_) (fun c1 => ?_)
      · walk_at "go"
        refine ⟨_, _, rfl, .inl (hl' _), ?_⟩
        walk_at "go"
        refine ite_d (fun c2 => ?_) (fun c2 => ?_)
        · obtain ⟨z, hz⟩ := atI_ints hj.1 c2
          walk_at "go"
          refine r_ixL (hl' _) hz ?_
          walk_at "go"
          exact ⟨rfl, _, j + 1, ⟨by have := hj.1; omega, hj.2⟩, by rw [upd_upd, upd_upd] <;> rfl⟩
        · walk_at "go"
          exact ⟨rfl, i, j, hj, rfl⟩
      · walk_at "go"
        exact ⟨rfl, i, j, hj, rfl⟩
    · rintro σ H' ⟨rfl, i, j, hj, rfl⟩
      walk_at "go"
      refine ite_d (fun c1 => ?_) (fun c1 => ?_)
      · walk_at "go"
        refine ⟨mulW31 hj.2.1 hj.2.2 (by decide) (by decide), ?_⟩
        walk_at "go"
        refine ⟨cdivG (b := 64) (by omega) (by omega) (by decide) (by decide), ?_⟩
        walk_at "go"
        refine ⟨i, j, (m * 48271 + 11) % 2147483647, upd_same, ⟨hj.1, by omega, by omega⟩, ?_⟩
        rw [upd_back2 hs]
        exact k _ (Int.emod_nonneg _ (by omega)) (Int.emod_lt_of_pos _ h0)
      · walk_at "go"
        refine ⟨cdivG (b := 64) (by omega) (by omega) (by decide) (by decide), ?_⟩
        walk_at "go"
        refine ⟨i.fdiv n, j, m, upd_same, hj, ?_⟩
        rw [upd_back2 hs]
        exact k _ (Int.emod_nonneg _ (by omega)) (Int.emod_lt_of_pos _ h0)
/-- a draw: any number below -/
theorem draw_at {s : Addr} {n : Int} {H : Hp} {Q : VK} {E : XK} (hS : Strm H s) (h0 : 0 < n) (h1 : n < 18446744073709551616) (k : ∀ v, 0 ≤ v → v < n → Q (.int v) H) : spDraw [.ref s, .int n] H Q E := ⟨s, n, rfl, hS, h0, h1, k⟩
theorem ok__law_stream (T : Top w K mg) : FnOk P w K mg base CX0 1 (He.ga K ("_law_stream" : Str)) (fdOf K d__law_stream) ["script"] (spStream K) := by
  refine (T.f__law_stream).ok sc__law_stream (fun vs H Q E h => ?_) (fun cdv A outer s H vs Q E hr h => ?_)
  · obtain ⟨a, n, rfl, _⟩ := h
    rfl
  · obtain ⟨a, ns, rfl, hS, h63, k⟩ := h
    refine ⟨_, PSs.nox (pss_shut (pss_cons (ps_set (i := 1) sc__law_stream.nd rfl (Or.inl rfl) pe_int)
    (pss_cons (ps_for PassesOwn.never rfl (pi_listK (K := K) rfl (pv 0)) (pg_name (i := 2) sc__law_stream.nd rfl (Or.inl rfl))
    (pss_one (ps_set (i := 1) sc__law_stream.nd rfl (Or.inl rfl) (pe_op op_mod (pe_callTy call_int1 (by rfl) T.n_int (by decide +kernel) (pa_cons (pe_op op_add (pe_op op_add (pe_op op_mulW (pv 1) pe_int) (pe_op op_mod (pe_callTy call_int1 (by rfl) T.n_int (by decide +kernel) (pa_cons (pv 2) pa_nil)) pe_int)) pe_int) pa_nil)) pe_int))))
    (pss_one (ps_ret (pe_lst (pa_cons (pe_callTy (call_listK (K := K) rfl) (by rfl) T.n_list (by decide +kernel) (pa_cons (pv 0) pa_nil)) (pa_cons pe_int (pa_cons pe_int (pa_cons (pv 1) pa_nil)))))))))), ?_⟩
    refine r_shut ?_
    walk_at "go"
    refine ⟨⟨_, hS⟩, for_lst (xs := ns.map V.int) (fun i σ H' => H' = H ∧ ∃ (m : Int) (v : Option V), σ = [some (.ref a), some (.int m), v] ∧ 0 ≤ m ∧ m < 2147483648) ⟨rfl, 17, none, rfl, by omega, by omega⟩ (fun i σ H' _ h => by rw [h.1]; exact hS) ?_ ?_⟩
    · rintro i x σ H' hx ⟨rfl, m, v, rfl, h0, h1⟩
      obtain ⟨z, hz, rfl⟩ := item_int hx
      walk_at "go"
      refine ⟨mulW31 h0 h1 (by decide) (by decide), ?_⟩
      walk_at "go"
      exact ⟨rfl, _, _, rfl, Int.emod_nonneg _ (by omega), by show _ % (2147483647 : Int) < _; omega⟩
    · rintro σ H' ⟨rfl, m, v, rfl, h0, h1⟩
      walk_at "go"
      refine ⟨_, _, rfl, .inl hS, fun l hl => ?_⟩
      walk_at "go"
      refine ⟨by show 4 ≤ sizeLine; decide, fun p hp => ?_⟩
      have hlp : l ≠ p := ne_of_none upd_same hp
      have s1 : Same H' (upd H' l (.lst (ns.map V.int))) := same_new hl
      have hp0 : H' p = none := s1.free hp
      refine ⟨p, l, 0, 0, m, rfl, upd_same, ⟨by omega, h0, h1⟩, k p _ (fun b o e => ?_) ⟨l, ns, upd_same, by rw [upd_ne hlp, upd_ne hlp, upd_same], h63⟩⟩
      rw [upd_ne (ne_of_none e hp0), upd_ne (ne_of_none e hp0)]
      exact s1 b o e
end
/-! ### the law's pair in lowest terms -/
def gcdI (n d : Int) : Int := ((Nat.gcd n.natAbs d.natAbs : Nat) : Int)
def sgc (n d : Int) : Int := if d < 0 then -gcdI n d else gcdI n d
def pn (n d : Int) : Int := n.fdiv (sgc n d)
def pd (n d : Int) : Int := d.fdiv (sgc n d)
theorem gcdI_pos {n d : Int} (h : d ≠ 0) : 0 < gcdI n d := by
  have : 0 < Nat.gcd n.natAbs d.natAbs := Nat.gcd_pos_of_pos_right _ (Int.natAbs_pos.mpr h)
  unfold gcdI
  omega
theorem sgc_ne {n d : Int} (h : d ≠ 0) : sgc n d ≠ 0 := by
  have := gcdI_pos (n := n) h
  unfold sgc
  split <;> omega
theorem sgc_abs {n d : Int} (h : d ≠ 0) : (sgc n d).natAbs ≤ d.natAbs := by
  have h1 : Nat.gcd n.natAbs d.natAbs ≤ d.natAbs := Nat.gcd_le_right _ (Int.natAbs_pos.mpr h)
  unfold sgc gcdI
  split <;> omega
/-! ### lowest terms -/
structure Low (n d : Int) : Prop where
  pos : 0 < d
  cop : Nat.gcd n.natAbs d.natAbs = 1
theorem sgc_nat (n d : Int) : (sgc n d).natAbs = Nat.gcd n.natAbs d.natAbs := by
  unfold sgc gcdI
  split
  · rw [Int.natAbs_neg, Int.natAbs_natCast]
  · rw [Int.natAbs_natCast]
theorem sgc_dvd_n (n d : Int) : sgc n d ∣ n := Int.natAbs_dvd_natAbs.mp (by rw [sgc_nat]; exact Nat.gcd_dvd_left _ _)
theorem sgc_dvd_d (n d : Int) : sgc n d ∣ d := Int.natAbs_dvd_natAbs.mp (by rw [sgc_nat]; exact Nat.gcd_dvd_right _ _)
theorem pn_mul (n d : Int) : pn n d * sgc n d = n := Int.fdiv_mul_cancel (sgc_dvd_n n d)
theorem pd_mul (n d : Int) : pd n d * sgc n d = d := Int.fdiv_mul_cancel (sgc_dvd_d n d)
theorem low_of {n d : Int} (h : d ≠ 0) : Low (pn n d) (pd n d) := by
  have hs := sgc_ne (n := n) h
  have e1 := pn_mul n d
  have e2 := pd_mul n d
  have g0 : 0 < (sgc n d).natAbs := Int.natAbs_pos.mpr hs
  refine ⟨?_, ?_⟩
  · rcases Int.lt_trichotomy d 0 with c | c | c
    · have s0 : sgc n d < 0 := by
        have := gcdI_pos (n := n) h
        unfold sgc
        rw [if_pos c]
        omega
      rcases Int.lt_or_le 0 (pd n d) with p | p
      · exact p
      · have := Int.mul_nonneg_of_nonpos_of_nonpos p (Int.le_of_lt s0)
        rw [e2] at this
        omega
    · exact absurd c h
    · have s0 : 0 < sgc n d := by
        have := gcdI_pos (n := n) h
        unfold sgc
        rw [if_neg (by omega)]
        exact this
      rcases Int.lt_or_le 0 (pd n d) with p | p
      · exact p
      · have := Int.mul_nonpos_of_nonpos_of_nonneg p (Int.le_of_lt s0)
        rw [e2] at this
        omega
  · have a1 : n.natAbs = (pn n d).natAbs * (sgc n d).natAbs := by rw [← Int.natAbs_mul, e1]
    have a2 : d.natAbs = (pd n d).natAbs * (sgc n d).natAbs := by rw [← Int.natAbs_mul, e2]
    have a3 := sgc_nat n d
    have a4 : Nat.gcd ((pn n d).natAbs * (sgc n d).natAbs) ((pd n d).natAbs * (sgc n d).natAbs) = (sgc n d).natAbs := by
      rw [← a1, ← a2, a3]
    rw [Nat.gcd_mul_right] at a4
    exact Nat.eq_of_mul_eq_mul_right g0 (by rw [a4, Nat.one_mul])
theorem sgc_low {n d : Int} (h : Low n d) : sgc n d = 1 := by
  have hp := h.pos
  unfold sgc gcdI
  rw [if_neg (by omega), h.cop] <;> rfl
theorem pn_low {n d : Int} (h : Low n d) : pn n d = n := by unfold pn; rw [sgc_low h, Int.fdiv_one]
theorem pd_low {n d : Int} (h : Low n d) : pd n d = d := by unfold pd; rw [sgc_low h, Int.fdiv_one]
theorem pn_le {n d : Int} (h : d ≠ 0) : (pn n d).natAbs ≤ n.natAbs := by
  have a1 : n.natAbs = (pn n d).natAbs * (sgc n d).natAbs := by rw [← Int.natAbs_mul, pn_mul]
  have g0 : 0 < (sgc n d).natAbs := Int.natAbs_pos.mpr (sgc_ne h)
  rw [a1]
  exact Nat.le_mul_of_pos_right _ g0
theorem pd_le {n d : Int} (h : d ≠ 0) : (pd n d).natAbs ≤ d.natAbs := by
  have a1 : d.natAbs = (pd n d).natAbs * (sgc n d).natAbs := by rw [← Int.natAbs_mul, pd_mul]
  have g0 : 0 < (sgc n d).natAbs := Int.natAbs_pos.mpr (sgc_ne h)
  rw [a1]
  exact Nat.le_mul_of_pos_right _ g0
theorem Low.neg {n d : Int} (h : Low n d) : Low (-n) d := ⟨h.pos, by rw [Int.natAbs_neg]; exact h.cop⟩
section
variable {P : Program} {w : World} {K : PySem.W.Frag} {mg : Str → Option Value} {base : Heap}
/-! ### Ratios -/
def rfl2 (n d : Int) : List (Str × V) := [("top", .int n), ("bottom", .int d)]
theorem r2_top (n d : Int) : (rfl2 n d).lookup ("top" : Str) = some (.int n) := rfl
theorem r2_bot (n d : Int) : (rfl2 n d).lookup ("bottom" : Str) = some (.int d) := by
  show (match (("bottom" : Str) == "top") with | true => some (V.int n) | false => List.lookup ("bottom" : Str) [("bottom", V.int d)]) = some (.int d)
  rw [show ((("bottom" : Str) == "top") = false) from by decide +kernel]
  rfl
theorem r2_put (n d : Int) : putF "bottom" (.int d) (putF "top" (.int n) []) = rfl2 n d := by
  show (if ("top" : Str) = "bottom" then [(("top" : Str), V.int d)] else (("top" : Str), V.int n) :: putF "bottom" (V.int d) []) = rfl2 n d
  rw [if_neg (show ¬ (("top" : Str) = "bottom") from by decide +kernel)]
  rfl
def RatAt (K : PySem.W.Frag) (H : Hp) (x : Addr) (n d : Int) : Prop := ∃ dx, H x = some (.ins (He.ga K "Ratio") dx (rfl2 n d))
theorem RatAt.mono {H H' : Hp} {x : Addr} {n d : Int} (h : RatAt K H x n d) (e : Same H H') : RatAt K H' x n d := by
  obtain ⟨dx, h⟩ := h
  exact ⟨dx, e _ _ h⟩
def spInit (K : PySem.W.Frag) : Sp := fun vs H Q E => ∃ (x dx : Addr) (n d : Int), vs = [.ref x, .int n, .int d] ∧ H x = some (.ins (He.ga K "Ratio") dx []) ∧ (d ≠ 0 → Bits 8000 (sgc n d)) ∧ (d = 0 → E (.ref (He.ga K "ByZero")) none H) ∧
  (d ≠ 0 → Q .non (upd H x (.ins (He.ga K "Ratio") dx (rfl2 (pn n d) (pd n d)))))
theorem ok_Ratio___init__ (T : Top w K mg) : FnOk P w K mg base (L2.CX P w) 1 (He.ma K (He.ga K ("Ratio" : Str)) ("__init__" : Str)) (fdOf K d_Ratio___init__) ["self", "numerator", "denominator"] (spInit K) := by
  refine (T.f_Ratio___init__).ok sc_Ratio___init__ (fun vs H Q E h => ?_) (fun cdv A outer s H vs Q E hr h => ?_)
  · obtain ⟨x, dx, n, d, rfl, _⟩ := h
    rfl
  · obtain ⟨x, dx, n, d, rfl, hx, hb, k0, k1⟩ := h
    refine ⟨_, (pss_cons (ps_if (pt_cmpR op_eq (pv 2) pe_int (nomark _))
    (pss_one (ps_raise rfl (takes_of rfl rfl rfl rfl) (pmk_own PySem.F.excBase_ValueError T.exc_ByZero.1 T.g_ByZero T.exc_ByZero.2.1 (raises_own T.exc_ByZero.2.2.1 T.exc_ByZero.2.2.2) rfl)))
    pss_nil)
    (pss_cons (ps_set (i := 3) sc_Ratio___init__.nd rfl (Or.inl rfl) (pe_callBfun cr_gcd rfl T.gcdM (pa_cons (pv 1) (pa_cons (pv 2) pa_nil))))
    (C8.pss_cut (ps_if (pt_cmpR op_lt (pv 2) pe_int (nomark _))
    (pss_one (ps_set (i := 3) sc_Ratio___init__.nd rfl (Or.inl rfl) (pe_un un_neg (pv 3))))
    pss_nil)
    (pss_cons (ps_fldK (K := K) rfl (pv 0) (pe_op op_fdivG (pv 1) (pv 3)) rfl)
    (pss_one (ps_fldK (K := K) rfl (pv 0) (pe_op op_fdivG (pv 2) (pv 3)) rfl)))))), ?_⟩
    walk_at "go"
    refine ite_d (fun c => ?_) (fun c => ?_)
    · exact k0 (vint_inj c)
    · walk_at "go"
      have hd : d ≠ 0 := vint_ne c
      refine r_cut (fun σ H' => σ = [some (.ref x), some (.int n), some (.int d), some (.int (sgc n d))] ∧ H' = H) ?_ ?_
      · walk_at "go"
        refine ite_d (fun c => ?_) (fun c => ?_)
        · walk_at "go"
          refine ⟨?_, rfl⟩
          have e : sgc n d = -(((n.natAbs.gcd d.natAbs : Nat)) : Int) := by rw [sgc, if_pos c] <;> rfl
          rw [e] <;> rfl
        · walk_at "go"
          refine ⟨?_, rfl⟩
          have e : sgc n d = (((n.natAbs.gcd d.natAbs : Nat)) : Int) := by rw [sgc, if_neg c] <;> rfl
          rw [e] <;> rfl
      · rintro σ H' ⟨rfl, rfl⟩
        have cd : ∀ i, CDivG i (sgc n d) := fun i => Bits.divG (sgc_ne hd) (hb hd) (by decide)
        walk_at "go"
        refine ⟨cd _, ?_⟩
        walk_at "go"
        refine ⟨_, _, _, _, rfl, hx, T.cls_Ratio, T.na_Ratio_top, (by show 0 < 1000; decide), ?_⟩
        walk_at "go"
        refine ⟨cd _, ?_⟩
        walk_at "go"
        refine ⟨_, _, _, _, rfl, upd_same, T.cls_Ratio, T.na_Ratio_bottom, (by show 1 < 1000; decide), ?_⟩
        have z := k1 hd
        rw [upd_upd]
        have e := r2_put (pn n d) (pd n d)
        show Q .non (upd H' x (.ins _ dx (putF "bottom" (.int (pd n d)) (putF "top" (.int (pn n d)) []))))
        rw [e]
        exact z
end
/-! ### plain data; sorted -/
mutual
def toP : Dt → Option PyData
  | .non => some .none
  | .bl b => some (.bool b)
  | .int i => some (.int i)
  | .str x => some (.str x)
  | .tup ds => match toPs ds with
    | some ps => some (.tuple ps)
    | none => none
  | .lst _ _ | .ty _ | .adr _ | .strm | .rat _ _ | .dic _ _ _ | .dit _ _ _ | .ins _ _ _ => none
def toPs : List Dt → Option (List PyData)
  | [] => some []
  | d :: ds => match toP d, toPs ds with
    | some p, some ps => some (p :: ps)
    | _, _ => none
end
mutual
theorem toP_dat {K : PySem.W.Frag} {B F H : Hp} (le : Le F H) : ∀ (d : Dt) (p : PyData) (v : V), toP d = some p → Rz K B F d v → DatV K H v p
  | .non, _, _, h, r => by simp only [toP] at h; cases h; rw [rz_n r]; exact .non
  | .bl b, _, _, h, r => by simp only [toP] at h; cases h; rw [rz_b r]; exact .bl b
  | .int i, _, _, h, r => by simp only [toP] at h; cases h; rw [rz_i r]; exact .int i
  | .str x, _, _, h, r => by simp only [toP] at h; cases h; rw [rz_s r]; exact .str x
  | .tup ds, _, _, h, r => by
    simp only [toP] at h
    split at h <;> first | cases h | skip
    rename_i ps e
    simp only [Rz] at r
    obtain ⟨a, xs, rfl, e1, r⟩ := r
    exact .tup (SqT.of (le.exact e1 rfl)) (toPs_dat le ds ps xs e r)
  | .lst _ _, _, _, h, _ => by simp only [toP] at h; cases h
  | .ty _, _, _, h, _ => by simp only [toP] at h; cases h
  | .adr _, _, _, h, _ => by simp only [toP] at h; cases h
  | .strm, _, _, h, _ => by simp only [toP] at h; cases h
  | .rat _ _, _, _, h, _ => by simp only [toP] at h; cases h
  | .dic _ _ _, _, _, h, _ => by simp only [toP] at h; cases h
  | .dit _ _ _, _, _, h, _ => by simp only [toP] at h; cases h
  | .ins _ _ _, _, _, h, _ => by simp only [toP] at h; cases h
theorem toPs_dat {K : PySem.W.Frag} {B F H : Hp} (le : Le F H) : ∀ (ds : List Dt) (ps : List PyData) (vs : List V), toPs ds = some ps → Rzl K B F ds vs → DatsV K H vs ps
  | [], _, _, h, r => by
    simp only [toPs] at h
    cases h
    rw [r.inv0]
    exact .nil
  | d :: ds, _, _, h, r => by
    simp only [toPs] at h
    split at h <;> first | cases h | skip
    rename_i p ps e1 e2
    obtain ⟨v, r', rfl, r1, r2⟩ := r.inv
    exact .cons (toP_dat le d p v e1 r1) (toPs_dat le ds ps r' e2 r2)
end
/-- data with the key it is sorted by -/
abbrev KD : Type := Dt × PyData
def sortZ (ps : List KD) : List KD := ps.mergeSort (PySem.W.dataLe false fun p : KD => p.2)
theorem sortZ_perm (ps : List KD) : (sortZ ps).Perm ps := List.mergeSort_perm _ _
abbrev KT3 : Type := V × Dt × PyData
theorem rzl_triples {K : PySem.W.Frag} {B F : Hp} : ∀ {ps : List KD} {xs : List V}, Rzl K B F (ps.map (·.1)) xs → ∃ ts : List KT3, ts.map (·.1) = xs ∧ ts.map (·.2) = ps ∧ ∀ t ∈ ts, Rz K B F t.2.1 t.1
  | [], _, h => ⟨[], h.inv0.symm, rfl, fun _ q => nomatch q⟩
  | p :: ps, _, h => by
    obtain ⟨v, r, rfl, h1, h2⟩ := h.inv
    obtain ⟨ts, e1, e2, h3⟩ := rzl_triples h2
    exact ⟨(v, p) :: ts, by rw [List.map_cons, e1], by rw [List.map_cons, e2], fun t q => by
      rcases List.mem_cons.mp q with rfl | q
      · exact h1
      · exact h3 t q⟩
theorem rzl_of_all {K : PySem.W.Frag} {B F : Hp} : ∀ {ts : List KT3}, (∀ t ∈ ts, Rz K B F t.2.1 t.1) → Rzl K B F ((ts.map (·.2)).map (·.1)) (ts.map (·.1))
  | [], _ => .nil
  | t :: ts, h => .cons (h t List.mem_cons_self) (rzl_of_all fun u q => h u (List.mem_cons_of_mem _ q))
/-- the sorted values read as the sorted data -/
theorem sorted_rzl {K : PySem.W.Frag} {B F : Hp} {ts : List KT3} (h : ∀ t ∈ ts, Rz K B F t.2.1 t.1) :
    Rzl K B F ((sortZ (ts.map (·.2))).map (·.1)) ((sortD (ts.map fun t => ((t.1, t.2.2) : VD))).map (·.1)) := by
  have e1 : sortZ (ts.map (·.2)) = (ts.mergeSort (PySem.W.dataLe false fun t : KT3 => t.2.2)).map (·.2) :=
    (List.map_mergeSort (f := fun t : KT3 => t.2) (r := PySem.W.dataLe false fun t : KT3 => t.2.2) (s := PySem.W.dataLe false fun p : KD => p.2) (l := ts) fun _ _ _ _ => rfl).symm
  have e2 : sortD (ts.map fun t => ((t.1, t.2.2) : VD)) = (ts.mergeSort (PySem.W.dataLe false fun t : KT3 => t.2.2)).map fun t => ((t.1, t.2.2) : VD) :=
    (List.map_mergeSort (f := fun t : KT3 => ((t.1, t.2.2) : VD)) (r := PySem.W.dataLe false fun t : KT3 => t.2.2) (s := PySem.W.dataLe false fun p : VD => p.2) (l := ts) fun _ _ _ _ => rfl).symm
  rw [e1, e2, List.map_map (g := fun (x : VD) => x.1)]
  exact rzl_of_all fun t q => h t (List.mem_mergeSort.mp q)
section
variable {z : Cz} {ρ : List Sl} {N : Dt → Bool → List Sl → Prop} {ta tb te : TE} {t : TA} {i : Nat}
theorem ze_sorted (h : ZE z ta ρ fun x _ ρ1 => ∃ t ps, x = .lst t (ps.map (·.1)) ∧ (∀ p ∈ ps, toP p.1 = some p.2 ∧ p.2.depth ≤ 8) ∧ PySem.W.AllAlike (ps.map (·.2)) ∧ PySem.W.Sortable (ps.map (·.2)) ∧ N (.lst true ((sortZ ps).map (·.1))) true ρ1) :
    ZE z (tCB (rSortedD z.K) (tCons ta tNil)) ρ N :=
  ze_CB1 (W := fun x N ρ1 => ∃ t ps, x = .lst t (ps.map (·.1)) ∧ (∀ p ∈ ps, toP p.1 = some p.2 ∧ p.2.depth ≤ 8) ∧ PySem.W.AllAlike (ps.map (·.2)) ∧ PySem.W.Sortable (ps.map (·.2)) ∧ N (.lst true ((sortZ ps).map (·.1))) true ρ1) (fun x ρ2 N n1 m F H σ Q vx S r k => by
    obtain ⟨t, ps, rfl, hp, hal, hs, n⟩ := n1
    simp only [Rz] at r
    obtain ⟨a, xs, rfl, e, _, r⟩ := r
    obtain ⟨ts, e1, e2, h3⟩ := rzl_triples r
    have e3 : (ts.map fun t => ((t.1, t.2.2) : VD)).map (·.2) = ps.map (·.2) := by rw [← e2, List.map_map, List.map_map]; rfl
    refine ⟨a, ts.map fun t => ((t.1, t.2.2) : VD), rfl, ?_, fun b hb => ?_, by rw [e3]; exact hal, by rw [e3]; exact hs, fun p hp' => ?_⟩
    · rw [List.map_map]
      refine SqL.of ?_
      rw [S.le.exact e rfl, ← e1]
      rfl
    · obtain ⟨t, ht, rfl⟩ := List.mem_map.mp hb
      obtain ⟨q1, q2⟩ := hp t.2 (by rw [← e2]; exact List.mem_map_of_mem ht)
      exact ⟨toP_dat S.le _ _ _ q1 (h3 t ht), q2⟩
    · have q := sorted_rzl h3
      rw [e2] at q
      exact k _ _ _ _ _ _ n (Same.refl F) (S.newO hp') (rzF_new S hp' (.lst q))) h
/-- sorted(xs, key=f) -/
theorem ze_sortK {K' : PySem.W.Frag} {f : Addr} {w : Wz} (hK : K' = z.K) (h : ZE z ta ρ fun x _ ρ1 => ∃ t ps, x = .lst t (ps.map (·.1)) ∧ (∀ p ∈ ps, p.2.depth ≤ 8 ∧ ∃ d, toP d = some p.2 ∧ ∀ Nv Ne, Nv d false → w [p.1.old] Nv Ne) ∧
    PySem.W.AllAlike (ps.map (·.2)) ∧ PySem.W.Sortable (ps.map (·.2)) ∧ N (.lst true ((sortZ ps).map (·.1))) true ρ1) :
    ZE z (tCKw (rSortK K' f (spZ z.K w)) (tCons ta tNil) (tCons (tC (.ref f)) tNil)) ρ N := fun m F H σ Q S k => by
  subst hK
  refine h m F H σ _ S fun x fx ρ1 F1 H1 vx n1 s1 S1 r1 => ?_
  obtain ⟨F2, s2, S2, rx⟩ := rzF_frz S1 r1
  obtain ⟨t, ps, rfl, hp, hal, hs, n⟩ := n1
  simp only [Rz] at rx
  obtain ⟨a, xs, rfl, e, _, r⟩ := rx
  obtain ⟨ts, e1, e2, h3⟩ := rzl_triples r
  have e3 : (ts.map fun t => ((t.1, t.2.2) : VD)).map (·.2) = ps.map (·.2) := by rw [← e2, List.map_map, List.map_map]; rfl
  have elen : (ts.map fun t => ((t.1, t.2.2) : VD)).length = ps.length := by rw [← e2]; simp
  refine ⟨a, ts.map fun t => ((t.1, t.2.2) : VD), rfl, rfl, ?_, fun b hb => ?_, by rw [e3]; exact hal, by rw [e3]; exact hs,
    fun i ys H' => ∃ F' ks, Same F2 F' ∧ Sm z m F' H' σ ρ1 ∧ Rzl z.K m.B F' ks ys ∧ toPs ks = some ((ps.map (·.2)).take i), ?_, ?_, ?_⟩
  · rw [List.map_map]
    refine SqL.of ?_
    rw [S2.le.exact e rfl, ← e1]
    rfl
  · obtain ⟨t, ht, rfl⟩ := List.mem_map.mp hb
    exact (hp t.2 (by rw [← e2]; exact List.mem_map_of_mem ht)).1
  · exact ⟨F2, [], Same.refl F2, S2, .nil, by simp [toPs]⟩
  · rintro i b ys H' hb ⟨F', ks, s', S', rk, ek⟩
    rw [List.getElem?_map] at hb
    cases q : ts[i]? with
    | none => rw [q] at hb; cases hb
    | some tr =>
      rw [q] at hb
      cases hb
      have hm : tr ∈ ts := List.mem_of_getElem? q
      have hps : ps[i]? = some tr.2 := by rw [← e2, List.getElem?_map, q]; rfl
      obtain ⟨_, d, hd, hw⟩ := hp tr.2 (List.mem_of_getElem? hps)
      refine ⟨F', [tr.2.1.old], fun d' fr => d' = d ∧ fr = false, fun _ _ => False, S'.le, .cons (rz_old _ _ (rz_mono s' _ _ (h3 tr hm))) .nil, hw _ _ ⟨rfl, rfl⟩, ?_, fun _ _ _ _ f => f.elim⟩
      rintro d' fr F'' H'' v ⟨rfl, rfl⟩ g
      obtain ⟨S3, r3⟩ := S'.got g
      refine ⟨F'', ks ++ [d'], s'.trans g.1, S3, (rzl_mono g.1 _ _ rk).app (.cons r3 .nil), ?_⟩
      have ap : ∀ {as : List Dt} {bs : List PyData}, toPs as = some bs → toPs (as ++ [d']) = some (bs ++ [tr.2.2]) := fun {as} => by
        induction as with
        | nil =>
          intro bs q
          simp only [toPs] at q
          cases q
          simp only [List.nil_append, toPs, hd]
        | cons x as ih =>
          intro bs q
          simp only [toPs] at q
          split at q <;> first | cases q | skip
          rename_i p ps' h1 h2
          simp only [List.cons_append, toPs, h1, ih h2]
      rw [ap ek, take_succ_get2 (x := tr.2.2) (by rw [List.getElem?_map, hps]; rfl)]
  · rintro ys H' ⟨F', ks, s', S', rk, ek⟩
    rw [elen, List.take_of_length_le (by rw [List.length_map]; exact Nat.le_refl _)] at ek
    refine ⟨by rw [e3]; exact toPs_dat S'.le _ _ _ ek rk, fun p hp' => ?_⟩
    have q := sorted_rzl fun t ht => rz_mono s' _ _ (h3 t ht)
    rw [e2] at q
    exact k _ _ _ _ _ _ n ((s1.trans s2).trans s') (S'.newO hp') (rzF_new S' hp' (.lst q))
/-- name = [..] -/
theorem zs_setlc {wi : TI} {g : TG} {tt : TT} {vs : List Nat} {D : Zn} (h : ZE z (tLockLE (tLc wi g tt te vs)) ρ fun d fr ρ1 => ZG z (gName i) d fr ρ1 D.nx) : ZS z (tLockL (tAsg (tLc wi g tt te vs) (gName i))) ρ D := fun m F H σ E S kn kr kb kc =>
  h m F H σ (fun x H1 => E.nx (σ.set i (some x)) H1) S fun d fr ρ1 F1 H1 v n1 s1 S1 r1 => n1 m F1 H1 σ v (fun σ2 H2 => E.nx σ2 H2) S1 r1 fun ρ2 F2 H2 σ2 n2 s2 => kn ρ2 F2 H2 σ2 n2 (s1.trans s2)
/-- a plain comparison of two lists or tuples -/
theorem toP_dp {K : PySem.W.Frag} {B F H : Hp} (le : Le F H) {d : Dt} {p : PyData} {v : V} (h : toP d = some p) (r : Rz K B F d v) : DatV K H v p := toP_dat le d p v h r
end
/-! ### Ratios -/
section
variable {z : Cz} {ρ : List Sl} {N : Dt → Bool → List Sl → Prop} {t : TA} {E : XK}
theorem sm_ins {m : Fm} {F H : Hp} {σ : L2.St} {C : Addr} {fs : List (Str × V)} {x dx : Addr} (S : Sm z m F H σ ρ) (hx : H x = none) (hd : H dx = none) (ne : dx ≠ x) :
    Same F (upd F x (.ins C dx fs)) ∧ Sm z m (upd F x (.ins C dx fs)) (upd (upd H dx (.own x)) x (.ins C dx fs)) σ ρ := by
  have S1 := S.newO (o := .own x) hd
  exact S1.new (o := .ins C dx fs) (by rw [upd_ne (Ne.symm ne)]; exact hx)
theorem ze_ratio {dvs : List V} (h : ZA z t ρ fun ds ρ1 => ∃ n d, ((ds = [.int n, .int d] ∧ dvs = []) ∨ (ds = [.int n] ∧ dvs = [.int d])) ∧ d ≠ 0 ∧ Bits 8000 (sgc n d) ∧ N (.rat (pn n d) (pd n d)) false ρ1) : ZE z (tMake (He.ga z.K "Ratio") (spInit z.K) dvs E t) ρ N := fun m F H σ Q S k => by
  refine h m F H σ _ S fun ds ρ1 F1 H1 vs n1 s1 S1 r1 x dx hx hd ne => ?_
  obtain ⟨n, d, hds, h0, hb, n1⟩ := n1
  have ev : vs ++ dvs = [.int n, .int d] := by
    rcases hds with ⟨rfl, rfl⟩ | ⟨rfl, rfl⟩
    · obtain ⟨v, r, rfl, q1, q2⟩ := r1.inv
      obtain ⟨v2, r, rfl, q3, q4⟩ := q2.inv
      rw [rz_i q1, rz_i q3, q4.inv0]
      rfl
    · obtain ⟨v, r, rfl, q1, q2⟩ := r1.inv
      rw [rz_i q1, q2.inv0]
      rfl
  rw [ev]
  refine ⟨x, dx, n, d, rfl, upd_same, fun _ => hb, fun z => absurd z h0, fun _ => ⟨rfl, ?_⟩⟩
  rw [upd_upd]
  obtain ⟨s2, S2⟩ := sm_ins (C := He.ga z.K "Ratio") (fs := rfl2 (pn n d) (pd n d)) S1 hx hd ne
  exact k _ _ _ _ _ _ n1 (s1.trans s2) S2 (rzF_f (show Rz z.K m.B _ (.rat _ _) _ by simp only [Rz]; exact ⟨x, dx, rfl, upd_same⟩))
theorem pn_one (n : Int) : pn n 1 = n ∧ pd n 1 = 1 := ⟨pn_low ⟨by decide, by simp⟩, pd_low ⟨by decide, by simp⟩⟩
theorem sgc_one (n : Int) : Bits 8000 (sgc n 1) := by
  have := sgc_abs (n := n) (d := 1) (by decide)
  exact Bits.small (by omega) (by decide)
/-- a draw -/
theorem ze_draw (h : ZA z t ρ fun ds ρ1 => ∃ n, ds = [.strm, .int n] ∧ 0 < n ∧ n < 18446744073709551616 ∧ ∀ v, 0 ≤ v → v < n → N (.int v) false ρ1) : ZE z (tCall spDraw [] E t) ρ N := fun m F H σ Q S k => by
  refine h m F H σ _ S fun ds ρ1 F1 H1 vs n1 s1 S1 r1 => ?_
  obtain ⟨n, rfl, h0, h1, n1⟩ := n1
  obtain ⟨v, r, rfl, q1, q2⟩ := r1.inv
  obtain ⟨v2, r, rfl, q3, q4⟩ := q2.inv
  obtain rfl := rz_i q3
  obtain rfl := q4.inv0
  simp only [Rz] at q1
  obtain ⟨s0, rfl, l, ns, e1, e2, e3⟩ := q1
  rw [List.append_nil]
  exact ⟨s0, n, rfl, ⟨l, ns, S1.le.exact e1 rfl, S1.le.exact e2 rfl, e3⟩, h0, h1, fun v a b => k _ _ _ _ _ _ (n1 v a b) s1 S1 (rzF_f rzi)⟩
end
/-! ### plain data with lists; == and in -/
mutual
def toQ : Dt → Option PyData
  | .non => some .none
  | .bl b => some (.bool b)
  | .int i => some (.int i)
  | .str x => some (.str x)
  | .tup ds => match toQs ds with
    | some ps => some (.tuple ps)
    | none => none
  | .lst _ ds => match toQs ds with
    | some ps => some (.list ps)
    | none => none
  | .ty _ | .adr _ | .strm | .rat _ _ | .dic _ _ _ | .dit _ _ _ | .ins _ _ _ => none
def toQs : List Dt → Option (List PyData)
  | [] => some []
  | d :: ds => match toQ d, toQs ds with
    | some p, some ps => some (p :: ps)
    | _, _ => none
end
mutual
theorem toQ_dp {K : PySem.W.Frag} {B F H : Hp} (le : Le F H) : ∀ (d : Dt) (p : PyData) (v : V), toQ d = some p → Rz K B F d v → Dp K H v p
  | .non, _, _, h, r => by simp only [toQ] at h; cases h; rw [rz_n r]; exact .non
  | .bl b, _, _, h, r => by simp only [toQ] at h; cases h; rw [rz_b r]; exact .bl b
  | .int i, _, _, h, r => by simp only [toQ] at h; cases h; rw [rz_i r]; exact .int i
  | .str x, _, _, h, r => by simp only [toQ] at h; cases h; rw [rz_s r]; exact .str x
  | .tup ds, _, _, h, r => by
    simp only [toQ] at h
    split at h <;> first | cases h | skip
    rename_i ps e
    simp only [Rz] at r
    obtain ⟨a, xs, rfl, e1, r⟩ := r
    exact .tup (SqT.of (le.exact e1 rfl)) (toQs_dp le ds ps xs e r)
  | .lst _ ds, _, _, h, r => by
    simp only [toQ] at h
    split at h <;> first | cases h | skip
    rename_i ps e
    simp only [Rz] at r
    obtain ⟨a, xs, rfl, e1, _, r⟩ := r
    exact .lst (SqL.of (le.exact e1 rfl)) (toQs_dp le ds ps xs e r)
  | .ty _, _, _, h, _ => by simp only [toQ] at h; cases h
  | .adr _, _, _, h, _ => by simp only [toQ] at h; cases h
  | .strm, _, _, h, _ => by simp only [toQ] at h; cases h
  | .rat _ _, _, _, h, _ => by simp only [toQ] at h; cases h
  | .dic _ _ _, _, _, h, _ => by simp only [toQ] at h; cases h
  | .dit _ _ _, _, _, h, _ => by simp only [toQ] at h; cases h
  | .ins _ _ _, _, _, h, _ => by simp only [toQ] at h; cases h
theorem toQs_dp {K : PySem.W.Frag} {B F H : Hp} (le : Le F H) : ∀ (ds : List Dt) (ps : List PyData) (vs : List V), toQs ds = some ps → Rzl K B F ds vs → DpAll K H vs ps
  | [], _, _, h, r => by
    simp only [toQs] at h
    cases h
    rw [r.inv0]
    exact .nil
  | d :: ds, _, _, h, r => by
    simp only [toQs] at h
    split at h <;> first | cases h | skip
    rename_i p ps e1 e2
    obtain ⟨v, r', rfl, r1, r2⟩ := r.inv
    exact .cons (toQ_dp le d p v e1 r1) (toQs_dp le ds ps r' e2 r2)
end
section
variable {z : Cz} {ρ : List Sl} {N : Dt → Bool → List Sl → Prop} {ta tb : TE}
theorem ze_eqD (h : ZE z ta ρ fun x _ ρ1 => ZE z tb ρ1 fun y _ ρ2 => ∃ p q, toQ x = some p ∧ toQ y = some q ∧ SeqAt.shaped p = true ∧ SeqAt.shaped q = true ∧ N (.bl (PyData.eqv p q)) false ρ2) : ZE z (tOp (rEqD z.K) ta tb) ρ N :=
  ze_op2w (W := fun x y N ρ2 => ∃ p q, toQ x = some p ∧ toQ y = some q ∧ SeqAt.shaped p = true ∧ SeqAt.shaped q = true ∧ N (.bl (PyData.eqv p q)) false ρ2) (fun x y ρ2 N n2 m F H σ Q vx vy S r1 r2 k => by
    obtain ⟨p, q, h1, h2, h3, h4, n⟩ := n2
    exact ⟨p, q, toQ_dp S.le x p vx h1 r1, toQ_dp S.le y q vy h2 r2, h3, h4, k _ _ _ _ _ _ n (Same.refl F) S (rzF_f rzb)⟩) h
theorem ze_neD (h : ZE z ta ρ fun x _ ρ1 => ZE z tb ρ1 fun y _ ρ2 => ∃ p q, toQ x = some p ∧ toQ y = some q ∧ SeqAt.shaped p = true ∧ SeqAt.shaped q = true ∧ N (.bl (!PyData.eqv p q)) false ρ2) : ZE z (tOp (rNeD z.K) ta tb) ρ N :=
  ze_op2w (W := fun x y N ρ2 => ∃ p q, toQ x = some p ∧ toQ y = some q ∧ SeqAt.shaped p = true ∧ SeqAt.shaped q = true ∧ N (.bl (!PyData.eqv p q)) false ρ2) (fun x y ρ2 N n2 m F H σ Q vx vy S r1 r2 k => by
    obtain ⟨p, q, h1, h2, h3, h4, n⟩ := n2
    exact ⟨p, q, toQ_dp S.le x p vx h1 r1, toQ_dp S.le y q vy h2 r2, h3, h4, k _ _ _ _ _ _ n (Same.refl F) S (rzF_f rzb)⟩) h
theorem ze_inD (h : ZE z ta ρ fun x _ ρ1 => ZE z tb ρ1 fun y _ ρ2 => ∃ p t ds ps, toQ x = some p ∧ y = .lst t ds ∧ toQs ds = some ps ∧ SeqAt.shaped p = true ∧ SeqAt.shaped (.list ps) = true ∧ N (.bl (ps.any fun z => PyData.eqv z p)) false ρ2) : ZE z (tOp (rInD z.K) ta tb) ρ N :=
  ze_op2w (W := fun x y N ρ2 => ∃ p t ds ps, toQ x = some p ∧ y = .lst t ds ∧ toQs ds = some ps ∧ SeqAt.shaped p = true ∧ SeqAt.shaped (.list ps) = true ∧ N (.bl (ps.any fun z => PyData.eqv z p)) false ρ2) (fun x y ρ2 N n2 m F H σ Q vx vy S r1 r2 k => by
    obtain ⟨p, t, ds, ps, h1, rfl, h2, h3, h4, n⟩ := n2
    exact ⟨p, ps, toQ_dp S.le x p vx h1 r1, toQ_dp S.le _ (.list ps) vy (by simp only [toQ, h2]) r2, h3, h4, k _ _ _ _ _ _ n (Same.refl F) S (rzF_f rzb)⟩) h
theorem ze_notInD (h : ZE z ta ρ fun x _ ρ1 => ZE z tb ρ1 fun y _ ρ2 => ∃ p t ds ps, toQ x = some p ∧ y = .lst t ds ∧ toQs ds = some ps ∧ SeqAt.shaped p = true ∧ SeqAt.shaped (.list ps) = true ∧ N (.bl (!ps.any fun z => PyData.eqv z p)) false ρ2) : ZE z (tOp (rNotInD z.K) ta tb) ρ N :=
  ze_op2w (W := fun x y N ρ2 => ∃ p t ds ps, toQ x = some p ∧ y = .lst t ds ∧ toQs ds = some ps ∧ SeqAt.shaped p = true ∧ SeqAt.shaped (.list ps) = true ∧ N (.bl (!ps.any fun z => PyData.eqv z p)) false ρ2) (fun x y ρ2 N n2 m F H σ Q vx vy S r1 r2 k => by
    obtain ⟨p, t, ds, ps, h1, rfl, h2, h3, h4, n⟩ := n2
    exact ⟨p, ps, toQ_dp S.le x p vx h1 r1, toQ_dp S.le _ (.list ps) vy (by simp only [toQ, h2]) r2, h3, h4, k _ _ _ _ _ _ n (Same.refl F) S (rzF_f rzb)⟩) h
end
/-! ### small -/
theorem zT {c A B : Prop} [Decidable c] (h : c) (a : A) : if c then A else B := by rw [if_pos h]; exact a
theorem zF {c A B : Prop} [Decidable c] (h : ¬ c) (b : B) : if c then A else B := by rw [if_neg h]; exact b
theorem atI_k {α : Type} {xs : List α} {k : Nat} {x : α} (h : xs[k]? = some x) : atI xs (k : Int) = some x := by
  unfold atI
  rw [Evl.ixN_nat (List.getElem?_eq_some_iff.mp h).1]
  exact h
theorem cut1 {x : Dt} {xs : List Dt} : cutD (x :: xs) (some 1) none = xs := by
  unfold cutD HT.sIx
  simp
theorem cutN {x : Dt} {xs : List Dt} : ¬ (HT.sIx (x :: xs).length 0 (some 1) = 0 ∧ HT.sIx (x :: xs).length (x :: xs).length none = (x :: xs).length) := by
  unfold HT.sIx
  simp
theorem zD {c A B : Prop} [Decidable c] (a : c → A) (b : ¬ c → B) : if decide c = true then A else B := by
  by_cases h : c
  · rw [if_pos (by simpa using h)]; exact a h
  · rw [if_neg (by simpa using h)]; exact b h
theorem zB {x : Bool} {A B : Prop} (a : x = true → A) (b : x = false → B) : if x = true then A else B := by
  cases x
  · rw [if_neg (by decide)]; exact b rfl
  · rw [if_pos rfl]; exact a rfl
/-! ### stars, tuples, sums -/
section
variable {z : Cz} {ρ : List Sl} {N : Dt → Bool → List Sl → Prop} {L : List Dt → List Sl → Prop} {ta tb te : TE} {t : TA} {i j : Nat}
inductive SeqD : Dt → List Dt → Prop
  | lst (t : Bool) (ds : List Dt) : SeqD (.lst t ds) ds
  | tup (ds : List Dt) : SeqD (.tup ds) ds
theorem SeqD.rz {K : PySem.W.Frag} {B F H : Hp} {d : Dt} {ds : List Dt} {v : V} (h : SeqD d ds) (r : Rz K B F d v) (le : Le F H) (K' : PySem.W.Frag) : ∃ p xs, v = .ref p ∧ (SqT K' H p xs ∨ SqL K' H p xs) ∧ Rzl K B F ds xs := by
  cases h with
  | lst t ds =>
    simp only [Rz] at r
    obtain ⟨a, xs, rfl, e, _, r⟩ := r
    exact ⟨a, xs, rfl, .inr (SqL.of (le.exact e rfl)), r⟩
  | tup ds =>
    simp only [Rz] at r
    obtain ⟨a, xs, rfl, e, r⟩ := r
    exact ⟨a, xs, rfl, .inl (SqT.of (le.exact e rfl)), r⟩
theorem za_star {K' : PySem.W.Frag} (h : ZE z te ρ fun x _ ρ1 => ∃ ds, SeqD x ds ∧ ZA z t ρ1 fun es ρ2 => L (ds ++ es) ρ2) : ZA z (StX.tStar K' te t) ρ L := fun m F H σ Q S k => by
  refine h m F H σ _ S fun x fx ρ1 F1 H1 vx n1 s1 S1 r1 => ?_
  obtain ⟨F2, s2, S2, rx⟩ := rzF_frz S1 r1
  obtain ⟨ds, sq, n1⟩ := n1
  obtain ⟨p, xs, rfl, hs, r⟩ := sq.rz rx S2.le K'
  exact ⟨p, xs, rfl, hs, n1 m F2 H1 σ _ S2 fun es ρ' F' H' vs n s S' re => k _ _ _ _ _ n ((s1.trans s2).trans s) S' ((rzl_mono s _ _ r).app re)⟩
/-- tuple(x) -/
def rTupOf (K : PySem.W.Frag) : List V → Hp → VK → Prop := fun xs H Q => ∃ p ys, xs = [.ref p] ∧ ((SqL K H p ys ∧ ∀ l, H l = none → Q (.ref l) (upd H l (.tup ys))) ∨ (SqT K H p ys ∧ Q (.ref p) H))
theorem ze_tupOf {K' : PySem.W.Frag} (h : ZE z ta ρ fun x _ ρ1 => ∃ ds, SeqD x ds ∧ N (.tup ds) false ρ1) : ZE z (tCB (fun xs H Q => ∃ p ys, xs = [.ref p] ∧ ((SqL K' H p ys ∧ ∀ l, H l = none → Q (.ref l) (upd H l (.tup ys))) ∨ (SqT K' H p ys ∧ Q (.ref p) H))) (tCons ta tNil)) ρ N :=
  ze_CB1 (W := fun x N ρ1 => ∃ ds, SeqD x ds ∧ N (.tup ds) false ρ1) (fun x ρ2 N n1 m F H σ Q vx S r k => by
    obtain ⟨ds, hl, q⟩ := n1
    cases hl with
    | lst t ds =>
      simp only [Rz] at r
      obtain ⟨a, xs, rfl, e, _, r⟩ := r
      refine ⟨a, xs, rfl, .inl ⟨SqL.of (S.le.exact e rfl), fun p hp => ?_⟩⟩
      obtain ⟨s2, S2⟩ := S.new (o := .tup xs) hp
      exact k _ _ _ _ _ _ q s2 S2 (show Rz z.K m.B _ (.tup ds) _ by simp only [Rz]; exact ⟨p, xs, rfl, upd_same, rzl_mono s2 _ _ r⟩)
    | tup ds =>
      have r' := r
      simp only [Rz] at r
      obtain ⟨a, xs, rfl, e, r⟩ := r
      exact ⟨a, xs, rfl, .inr ⟨SqT.of (S.le.exact e rfl), k _ _ _ _ _ _ q (Same.refl F) S (rzF_f r')⟩⟩) h
theorem rzl_ints {K : PySem.W.Frag} {B F : Hp} : ∀ {is : List Int} {xs : List V}, Rzl K B F (is.map Dt.int) xs → xs = is.map V.int
  | [], _, r => r.inv0
  | i :: is, _, r => by
    obtain ⟨v, r', rfl, r1, r2⟩ := r.inv
    rw [rz_i r1, rzl_ints r2]
    rfl
theorem ze_sum {K' : PySem.W.Frag} (h : ZE z ta ρ fun x _ ρ1 => ∃ (t : Bool) (is : List Int), x = .lst t (is.map Dt.int) ∧ N (.int is.sum) false ρ1) : ZE z (tCB (rSum K') (tCons ta tNil)) ρ N :=
  ze_CB1 (W := fun x N ρ1 => ∃ (t : Bool) (is : List Int), x = .lst t (is.map Dt.int) ∧ N (.int is.sum) false ρ1) (fun x ρ2 N n1 m F H σ Q vx S r k => by
    obtain ⟨t, is, rfl, q⟩ := n1
    simp only [Rz] at r
    obtain ⟨a, xs, rfl, e, _, r⟩ := r
    refine ⟨a, is, rfl, ?_, k _ _ _ _ _ _ q (Same.refl F) S (rzF_f rzi)⟩
    rw [← rzl_ints r]
    exact SqL.of (S.le.exact e rfl)) h
/-- t + u of tuples, the first not empty -/
theorem ze_catT {K' : PySem.W.Frag} (h : ZE z ta ρ fun x _ ρ1 => ZE z tb ρ1 fun y _ ρ2 => ∃ ds es, x = .tup ds ∧ y = .tup es ∧ ds ≠ [] ∧ ds.length + es.length ≤ 100000 ∧ N (.tup (ds ++ es)) false ρ2) : ZE z (tOp (rCatT K') ta tb) ρ N :=
  ze_op2w (W := fun x y N ρ2 => ∃ ds es, x = .tup ds ∧ y = .tup es ∧ ds ≠ [] ∧ ds.length + es.length ≤ 100000 ∧ N (.tup (ds ++ es)) false ρ2) (fun x y ρ2 N n2 m F H σ Q vx vy S r1 r2 k => by
    obtain ⟨ds, es, rfl, rfl, hne, hl, n⟩ := n2
    have r1' := r1
    simp only [Rz] at r1 r2
    obtain ⟨a, xs, rfl, h1, r1⟩ := r1
    obtain ⟨b, ys, rfl, h2, r2⟩ := r2
    refine ⟨a, b, xs, ys, rfl, rfl, SqT.of (S.le.exact h1 rfl), SqT.of (S.le.exact h2 rfl), fun q => ?_, by rw [r1.len, r2.len, sizeLine_eq]; omega, fun q => ?_, fun q p hp => ?_⟩
    · have := r1.len
      rw [q] at this
      exact hne (List.eq_nil_of_length_eq_zero this.symm)
    · have := r2.len
      rw [q] at this
      have e0 := List.eq_nil_of_length_eq_zero this.symm
      rw [e0, List.append_nil] at n
      exact k _ _ _ _ _ _ n (Same.refl F) S (rzF_f r1')
    · obtain ⟨s2, S2⟩ := S.new (o := .tup (xs ++ ys)) hp
      exact k _ _ _ _ _ _ n s2 S2 (show Rz z.K m.B _ (.tup (ds ++ es)) _ by simp only [Rz]; exact ⟨p, xs ++ ys, rfl, upd_same, rzl_mono s2 _ _ (r1.app r2)⟩)) h
/-- int(b) -/
theorem ze_intOf {r : List V → Hp → VK → Prop} (hr : r = fun xs H Q => (∃ i, xs = [.int i] ∧ Q (.int i) H) ∨ ∃ k, xs = [.bl k] ∧ Q (.int (if k then 1 else 0)) H)
    (h : ZE z ta ρ fun x _ ρ1 => (∃ i, x = .int i ∧ N (.int i) false ρ1) ∨ ∃ k, x = .bl k ∧ N (.int (if k = true then 1 else 0)) false ρ1) : ZE z (tCB r (tCons ta tNil)) ρ N :=
  ze_CB1 (W := fun x N ρ1 => (∃ i, x = .int i ∧ N (.int i) false ρ1) ∨ ∃ k, x = .bl k ∧ N (.int (if k = true then 1 else 0)) false ρ1) (fun x ρ2 N n1 m F H σ Q vx S r k => by
    subst hr
    rcases n1 with ⟨i, rfl, q⟩ | ⟨b, rfl, q⟩
    · exact .inl ⟨i, by rw [rz_i r], k _ _ _ _ _ _ q (Same.refl F) S (rzF_f rzi)⟩
    · exact .inr ⟨b, by rw [rz_b r], k _ _ _ _ _ _ q (Same.refl F) S (rzF_f rzi)⟩) h
/-! ### an owned variable, compared -/
theorem Sm.own_dp {m : Fm} {F H : Hp} {σ : L2.St} (S : Sm z m F H σ ρ) {t : Bool} {ds : List Dt} {p : PyData} {a : Addr} (h : ρ[i]? = some (.o (.lst t ds))) (hv : σ[i]? = some (some (.ref a))) (hp : toQ (.lst t ds) = some p) : Dp z.K H (.ref a) p := by
  obtain ⟨l, e, _, _, _, ho, h4, h5⟩ := S.geto h
  rw [hv] at e
  cases e
  cases h5 with
  | lst r =>
    simp only [toQ] at hp
    split at hp <;> first | cases hp | skip
    rename_i ps e2
    exact .lst (SqL.of h4) (toQs_dp S.le ds ps _ e2 r)
theorem ze_neDv {K' : PySem.W.Frag} (hK : K' = z.K) {c0 : Dt} (h0 : ρ[i]? = some (.o c0)) (h : ZE z tb ρ fun y _ ρ2 => ∃ t ds p q, ρ2[i]? = some (.o (.lst t ds)) ∧ toQ (.lst t ds) = some p ∧ toQ y = some q ∧ SeqAt.shaped p = true ∧ SeqAt.shaped q = true ∧ N (.bl (!PyData.eqv p q)) false ρ2) : ZE z (tOp (rNeD K') (tVar i) tb) ρ N := fun m F H σ Q S k => by
  subst hK
  obtain ⟨l, e, _⟩ := S.geto h0
  refine ⟨_, e, h m F H σ _ S fun y fy ρ2 F2 H2 vy n2 s2 S2 r2 => ?_⟩
  obtain ⟨F3, s3, S3, ry⟩ := rzF_frz S2 r2
  obtain ⟨t, ds, p, q, hi, h1, h2, h3, h4, n⟩ := n2
  exact ⟨p, q, S3.own_dp hi e h1, toQ_dp S3.le y q vy h2 ry, h3, h4, k _ _ _ _ _ _ n (s2.trans s3) S3 (rzF_f rzb)⟩
/-- isinstance of an owned variable -/
theorem ze_isiv {c : V} {u : Value} (hc : ClsV c u) {d0 : Dt} (h0 : ρ[i]? = some (.o d0)) {t : Value} {b : Bool} (ht : TyD z.K d0 t) (hb : PySem.W.kitOne z.K t u = some b) (n : N (.bl b) false ρ) : ZE z (tCB (rIsi z.K) (tCons (tVar i) (tCons (tC c) tNil))) ρ N := fun m F H σ Q S k => by
  obtain ⟨l, e, h1, h2, h3, ho, h4, h5⟩ := S.geto h0
  refine ⟨_, e, _, c, _, u, b, rfl, hc, ?_, hb, k _ _ _ _ _ _ n (Same.refl F) S (rzF_f rzb)⟩
  have r := h5.rz h2 h1
  refine tyD_ok ht r (H := H) fun a o q => ?_
  by_cases c : a = l
  · subst c
    rw [upd_same] at q
    cases q
    exact .inl h4
  · rw [upd_ne c] at q
    exact S.le a o q
end
section
variable {z : Cz} {ρ : List Sl} {wi : TI} {g : TG} {tt : TT} {te : TE} {vs : List Nat} {N : Dt → Bool → List Sl → Prop}
/-- [te for g in .. if tt]: what the turns may give -/
theorem ze_lcW (h : ZI z wi ρ fun ds ρ1 bp bm => bp ρ1 ∧ okW ρ1 vs = true ∧ ds.length ≤ 100000 ∧ ∃ W : Nat → List Dt → Prop, W 0 [] ∧
    (∀ i d ad, ds[i]? = some d → W i ad → ZGw z g vs d (wipeZ ρ1 vs) fun ρ2 => ZT z tt ρ2 fun b ρ3 => if b = true then ZE z te ρ3 fun y _ ρ4 => wipeZ ρ4 vs = wipeZ ρ1 vs ∧ W (i + 1) (ad ++ [y]) else wipeZ ρ3 vs = wipeZ ρ1 vs ∧ W (i + 1) ad) ∧
    ∀ ad, W ds.length ad → N (.lst true ad) true (bm ρ1)) : ZE z (tLockLE (tLc wi g tt te vs)) ρ N := fun m F H σ Q S k => by
  refine h m F H σ _ S fun ds ρ1 bp bm m' un F1 H1 Jt n1 s1 B S1 it => ?_
  obtain ⟨hbp, hw, hz, W, w0, hf, n⟩ := n1
  obtain ⟨n', G, Y, wk, rfl, gk, yk⟩ := it
  intro D hD
  have hB := S1.dom D hD
  have hJ := S1.j_none hD
  have hh : ¬ m'.hd D := fun q => by
    obtain ⟨_, o, q2, _⟩ := S1.hid D q
    rw [hJ] at q2
    cases q2
  have hs : ∀ (i : Nat) (d : Dt), (wipeZ ρ1 vs)[i]? ≠ some (.l D d) := fun i d e => by
    obtain ⟨ov, _, _, q1, _⟩ := (S1.wipe vs).get e
    exact hh q1
  refine lc_it wk (fun i H2 => ∃ F2 acc ad, W i ad ∧ ad.length ≤ i ∧ Same F1 F2 ∧ Sm z (m'.pin D (.lst acc)) F2 H2 (L2.wipe σ vs) (wipeZ ρ1 vs) ∧ Rzl z.K m'.B F2 ad acc) ?_ ?_ ?_ ?_
  · exact ⟨F1, [], [], w0, Nat.le_refl _, Same.refl F1, (S1.wipe vs).pinNew hD rfl rfl, .nil⟩
  · rintro i H2 hi ⟨F2, acc, ad, wa, la, s2, S2, r2⟩
    have b2 : Same m'.J H2 := fun a u q => S2.base a u (by
      show upd m'.J D _ a = _
      rw [upd_ne (fun c => by rw [c, hJ] at q; cases q)]
      exact q)
    exact gk F2 H2 s2 S2.le b2
  · rintro i x H2 H3 hi ⟨F2, acc, ad, wa, la, s2, S2, r2⟩ y
    obtain ⟨F3, s3, S3, rx⟩ := yk (m'.pin D (.lst acc)) i ds[i] F2 H2 H3 x _ _ rfl (List.getElem?_eq_getElem hi) s2 S2 y
    have hd : ds[i]? = some ds[i] := List.getElem?_eq_getElem hi
    refine hf i ds[i] ad hd wa (m'.pin D (.lst acc)) F3 H3 _ x _ S3 rx fun ρ2 F4 H4 σ2 n2 s4 S4 w4 => ?_
    rw [wipe_wipe] at w4
    refine ⟨w4, n2 _ F4 H4 σ2 _ S4 fun b ρ3 F5 H5 n3 s5 S5 => ?_⟩
    have ss := s2.trans (s3.trans (s4.trans s5))
    cases b with
    | false =>
      obtain ⟨e1, e2⟩ := n3
      refine ⟨F5, acc, ad, e2, by omega, ss, ?_, rzl_mono (s3.trans (s4.trans s5)) _ _ r2⟩
      have := S5.wipe vs
      rw [e1, w4] at this
      exact this
    | true =>
      refine n3 _ F5 H5 σ2 _ S5 fun yd fy ρ4 F6 H6 vy n4 s6 S6 r6 => ?_
      obtain ⟨F7, s7, S7, ry⟩ := rzF_frz S6 r6
      obtain ⟨e1, e2⟩ := n4
      have hD6 : H6 D = some (.lst acc) := S7.base D _ upd_same
      have S8 := S7.wipe vs
      rw [e1, w4] at S8
      have sf := s3.trans (s4.trans (s5.trans (s6.trans s7)))
      refine ⟨acc, hD6, ?_, F7, acc ++ [vy], ad ++ [yd], e2, by rw [List.length_append, List.length_singleton]; omega, s2.trans sf, S8.repin hB hJ hh rfl rfl rfl hs, ?_⟩
      · rw [r2.len, sizeLine_eq]
        omega
      · exact (rzl_mono sf _ _ r2).app (.cons ry .nil)
  · rintro H2 ⟨F2, acc, ad, wa, la, s2, S2, r2⟩
    obtain ⟨S3, hD2, hF2⟩ := S2.unpinNew hB hJ hh rfl hs
    have S4 := S1.unwipe S3 s2 hw
    have S5 := B.sm F2 H2 σ ρ1 s2 S4 hbp
    have S0 := B.sm F1 H1 σ ρ1 (Same.refl F1) S1 hbp
    have uD : ∀ {Hx : Hp} {Fx : Hp}, Sc z m' Fx Hx → undo un Hx D = Hx D := fun {Hx Fx} C => by
      cases un with
      | none => rfl
      | some p =>
        obtain ⟨d, u⟩ := p
        obtain ⟨od, e⟩ := B.fz Fx Hx C d u rfl
        show upd Hx d u D = Hx D
        have j := C.fj d od u e
        rw [upd_ne (fun c => by rw [← c, hJ] at j; cases j)]
    have fresh : RzF z m F2 (undo un H2) σ (bm ρ1) true (.lst true ad) (.ref D) := by
      refine ⟨D, rfl, ⟨hF2, by rw [← B.bb]; exact hB, ?_, .lst acc, by rw [uD S3.toSc]; exact hD2, .lst (by rw [← B.bb]; exact r2)⟩, fun j e a b => ?_⟩
      · exact S0.base.free (by rw [uD S1.toSc]; exact hD)
      · obtain ⟨l, hl, _, _, _, ho, h4, _⟩ := S0.geto a
        rw [b] at hl
        cases hl
        rw [uD S1.toSc, hD] at h4
        cases h4
    have fin := k _ _ _ _ _ _ (n ad wa) (s1.trans s2) S5 fresh
    cases un with
    | none => exact .inl fin
    | some p =>
      obtain ⟨d, u⟩ := p
      obtain ⟨od, e⟩ := B.fz F2 H2 S3.toSc d u rfl
      exact .inr ⟨d, od, u, B.leg d u rfl, e, fin⟩
/-- [te for g in .. if tt], over what stands for as -/
theorem ze_lcM {α : Type} (as : List α) (gd : α → Dt) (f : α → Option Dt) (h : ZI z wi ρ fun ds ρ1 bp bm => ds = as.map gd ∧ bp ρ1 ∧ okW ρ1 vs = true ∧ as.length ≤ 100000 ∧
    (∀ a ∈ as, ZGw z g vs (gd a) (wipeZ ρ1 vs) fun ρ2 => ZT z tt ρ2 fun b ρ3 => if b = true then ZE z te ρ3 fun y _ ρ4 => wipeZ ρ4 vs = wipeZ ρ1 vs ∧ f a = some y else wipeZ ρ3 vs = wipeZ ρ1 vs ∧ f a = none) ∧
    N (.lst true (as.filterMap f)) true (bm ρ1)) : ZE z (tLockLE (tLc wi g tt te vs)) ρ N :=
  ze_lcW fun m F H σ R S k => h m F H σ R S fun ds ρ1 bp bm m' un F1 H1 Jt n1 => k ds ρ1 bp bm m' un F1 H1 Jt <| by
    obtain ⟨rfl, h1, h2, h3, h4, h5⟩ := n1
    refine ⟨h1, h2, by rw [List.length_map]; exact h3, fun i ad => ad = (as.take i).filterMap f, rfl, fun i d ad hd ha => ?_, fun ad ha => ?_⟩
    · rw [List.getElem?_map] at hd
      cases q : as[i]? with
      | none => rw [q] at hd; cases hd
      | some a =>
        rw [q] at hd
        cases hd
        have hf := h4 a (List.mem_of_getElem? q)
        refine fun m F H σ v Q S r k => hf m F H σ v Q S r fun ρ2 F2 H2 σ2 n2 => k ρ2 F2 H2 σ2 fun m F H σ Q S k => n2 m F H σ Q S fun b ρ3 F3 H3 n3 => k b ρ3 F3 H3 ?_
        cases b with
        | false =>
          rw [if_neg (by decide)] at n3 ⊢
          refine ⟨n3.1, ?_⟩
          show ad = (as.take (i + 1)).filterMap f
          rw [filterMap_take f q, n3.2, ha]
          simp
        | true =>
          rw [if_pos rfl] at n3 ⊢
          refine fun m F H σ Q S k => n3 m F H σ Q S fun y fy ρ4 F4 H4 v n4 => k y fy ρ4 F4 H4 v ⟨n4.1, ?_⟩
          show ad ++ [y] = (as.take (i + 1)).filterMap f
          rw [filterMap_take f q, n4.2, ha]
          rfl
    · rw [List.length_map, List.take_length] at ha
      rw [ha]
      exact h5
end
/-! ### dicts: displays, copies -/
theorem zmerge_nodup : ∀ (more acc : List (Key × V)), (more.map (·.1)).Nodup → (∀ k ∈ more.map (·.1), valV acc k = none) → mergeK acc more = acc ++ more
  | [], acc, _, _ => (List.append_nil acc).symm
  | (k, v) :: r, acc, nd, hn => by
    rw [List.map_cons, List.nodup_cons] at nd
    show mergeK (putK acc k v) r = _
    have h0 : valV acc k = none := hn k List.mem_cons_self
    rw [putK_new v h0, zmerge_nodup r _ nd.2 fun j hj => ?_, List.append_assoc]
    · rfl
    · rw [valV_snoc k j v acc h0, if_neg fun z => nd.1 (by rw [← z]; exact hj)]
      exact hn j (List.mem_cons_of_mem _ hj)
def noL (ρ : List Sl) : Bool := ρ.all fun s => match s with
  | .l _ _ => false
  | _ => true
theorem noL_not {ρ : List Sl} (h : noL ρ = true) (a : Addr) (i : Nat) (d : Dt) : ρ[i]? ≠ some (.l a d) := fun e => by
  have := List.all_eq_true.mp h _ (List.mem_of_getElem? e)
  cases this
def ZP (z : Cz) : List (TE × TE) → List Sl → (List Key → List Dt → List Sl → Prop) → Prop
  | [], ρ, N => N [] [] ρ
  | (tk, tv) :: r, ρ, N => ZE z tk ρ fun x _ ρ1 => ∃ k, x = keyD k ∧ ZE z tv ρ1 fun y _ ρ2 => ZP z r ρ2 fun ks ds ρ3 => N (k :: ks) (y :: ds) ρ3
section
variable {z : Cz} {ρ : List Sl} {N : Dt → Bool → List Sl → Prop} {ta tb te : TE}
theorem zp_run : ∀ (trs : List (TE × TE)) (ρ : List Sl) (N : List Key → List Dt → List Sl → Prop), ZP z trs ρ N → ∀ (m : Fm) (F H : Hp) (σ : L2.St) (Q : List (V × V) → Hp → Prop), Sm z m F H σ ρ →
    (∀ ks ds ρ' F' H' (kvs : List (Key × V)), N ks ds ρ' → Same F F' → Sm z m F' H' σ ρ' → kvs.map Prod.fst = ks → Rzl z.K m.B F' ds (kvs.map Prod.snd) → Q (kvs.map fun kv => (kV kv.1, kv.2)) H') → tPairs trs σ H Q
  | [], ρ, N, h, m, F, H, σ, Q, S, k => k [] [] ρ F H [] h (Same.refl F) S rfl .nil
  | (tk, tv) :: r, ρ, N, h, m, F, H, σ, Q, S, k => by
    refine h m F H σ _ S fun x fx ρ1 F1 H1 vx n1 s1 S1 r1 => ?_
    obtain ⟨F2, s2, S2, rx⟩ := rzF_frz S1 r1
    obtain ⟨kk, rfl, n1⟩ := n1
    obtain rfl := rz_key rx
    refine n1 m F2 H1 σ _ S2 fun y fy ρ2 F3 H3 vy n2 s3 S3 r3 => ?_
    obtain ⟨F4, s4, S4, ry⟩ := rzF_frz S3 r3
    refine zp_run r ρ2 _ n2 m F4 H3 σ _ S4 fun ks ds ρ' F' H' kvs n s S' e rr => ?_
    exact k (kk :: ks) (y :: ds) ρ' F' H' ((kk, vy) :: kvs) n (((s1.trans s2).trans (s3.trans s4)).trans s) S' (by rw [List.map_cons, e]) (.cons (rz_mono s _ _ ry) rr)
theorem ze_disp {trs : List (TE × TE)} (h : ZP z trs ρ fun ks ds ρ1 => noL ρ1 = true ∧ ks.Nodup ∧ ks.length ≤ 15 ∧ N (.dic true ks ds) true ρ1) : ZE z (tDisp trs) ρ N := fun m F H σ Q S k => by
  intro D hD
  have hB := S.dom D hD
  have hJ := S.j_none hD
  have hh : ¬ m.hd D := fun q => by
    obtain ⟨_, o, q2, _⟩ := S.hid D q
    rw [hJ] at q2
    cases q2
  refine zp_run trs ρ _ h (m.pin D (.dK [])) F (upd H D (.dK [])) σ _ (S.pinNew hD rfl rfl) fun ks ds ρ' F' H' kvs n s S' e rr => ?_
  obtain ⟨nl, nd, hl, n⟩ := n
  have hs : ∀ (i : Nat) (d : Dt), ρ'[i]? ≠ some (.l D d) := noL_not nl D
  have S2 := S'.repin (o' := .dK kvs) hB hJ hh rfl rfl rfl hs
  obtain ⟨S3, hD2, hF2⟩ := S2.unpinNew hB hJ hh rfl hs
  have em : mergeK [] kvs = kvs := by
    have := zmerge_nodup kvs [] (by rw [show kvs.map (·.1) = ks from e]; exact nd) fun _ _ => rfl
    rw [this]
    rfl
  have hD6 : H' D = some (.dK []) := S'.base D _ upd_same
  refine ⟨hD6, kvs, rfl, by rw [← List.length_map (f := Prod.fst), e]; exact hl, ?_⟩
  rw [em]
  refine k _ _ _ _ _ _ n s S3 ⟨D, rfl, ⟨hF2, hB, hJ, .dK kvs, hD2, ?_⟩, fun j e' a b => ?_⟩
  · rw [← e]
    exact .dK rr
  · obtain ⟨l, hl, _, _, q3, _⟩ := S'.geto a
    rw [b] at hl
    cases hl
    have q3 : upd m.J D _ D = none := q3
    rw [upd_same] at q3
    cases q3
/-- dict(d) -/
theorem ze_dictOf (h : ZE z ta ρ fun x _ ρ1 => ∃ t ks ds, x = .dic t ks ds ∧ N (.dic true ks ds) true ρ1) : ZE z (tCB (fun xs H Q => ∃ (a : Addr) (kvs : List (Key × V)), xs = [.ref a] ∧ L2.Rd H a (.dK kvs) ∧ ∀ p, H p = none → Q (.ref p) (upd H p (.dK kvs))) (tCons ta tNil)) ρ N :=
  ze_CB1 (W := fun x N ρ1 => ∃ t ks ds, x = .dic t ks ds ∧ N (.dic true ks ds) true ρ1) (fun x ρ2 N n1 m F H σ Q vx S r k => by
    obtain ⟨t, ks, ds, rfl, q⟩ := n1
    simp only [Rz] at r
    obtain ⟨a, kvs, rfl, e, _, e2, r⟩ := r
    refine ⟨a, kvs, rfl, S.le.rd e, fun p hp => ?_⟩
    refine k _ _ _ _ _ _ q (Same.refl F) (S.newO hp) (rzF_new S hp ?_)
    rw [← e2]
    exact .dK r) h
end
theorem zp_nil {z : Cz} {ρ : List Sl} {N : List Key → List Dt → List Sl → Prop} (h : N [] [] ρ) : ZP z [] ρ N := h
theorem zp_cons {z : Cz} {ρ : List Sl} {tk tv : TE} {r : List (TE × TE)} {N : List Key → List Dt → List Sl → Prop} (h : ZE z tk ρ fun x _ ρ1 => ∃ k, x = keyD k ∧ ZE z tv ρ1 fun y _ ρ2 => ZP z r ρ2 fun ks ds ρ3 => N (k :: ks) (y :: ds) ρ3) : ZP z ((tk, tv) :: r) ρ N := h
/-! ### owned variables frozen on purpose; truth of an owned list; a draw as index -/
namespace Tr
section
variable {z : Cz} {ρ : List Sl} {D : Zn} {t : TS} {i : Nat} {d : Dt}
theorem frzVarM {m : Fm} {F H : Hp} {σ : L2.St} (S : Sm z m F H σ ρ) (h : ρ[i]? = some (.o d)) : ∃ F', Same F F' ∧ Sm z m F' H σ (ρ.set i (.v d)) := by
  have := ze_varo (z := z) (N := fun _ _ ρ' => ρ' = ρ.set i (.v d)) h rfl m F H σ (fun _ H' => ∃ F', Same F F' ∧ Sm z m F' H' σ (ρ.set i (.v d))) S fun d' fr ρ' F' H' v n s S' r => by subst n; exact ⟨F', s, S'⟩
  obtain ⟨v, e', q⟩ := this
  exact q
theorem zt_truM {K' : PySem.W.Frag} (hK : K' = z.K) {s0 : Sl} {t : Bool} {ds : List Dt} {M : Bool → List Sl → Prop} (h0 : ρ[i]? = some s0) (p0 : Pk s0 (.lst t ds)) (q : M (!ds.isEmpty) ρ) : ZT z (tTru K' (tVar i)) ρ M := by
  subst hK
  exact zt_truv h0 p0 q
theorem atI_M {α : Type} {f : α → Dt} {xs : List α} {j : Int} (h0 : 0 ≤ j) (h1 : j < (xs.length : Int)) : ∃ x ∈ xs, atI (xs.map f) j = some (f x) := by
  have hk : j.toNat < xs.length := by omega
  have e : j = ((j.toNat : Nat) : Int) := by omega
  refine ⟨xs[j.toNat], List.getElem_mem hk, ?_⟩
  have q : atI (xs.map f) ((j.toNat : Nat) : Int) = some (f xs[j.toNat]) := atI_k (by rw [List.getElem?_map, List.getElem?_eq_getElem hk]; rfl)
  rw [← e] at q
  exact q
theorem ze_frzM {N : Dt → Bool → List Sl → Prop} {te : TE} (h : ρ[i]? = some (.o d)) (n : ZE z te (ρ.set i (.v d)) N) : ZE z te ρ N := fun m F H σ Q S k => by
  obtain ⟨F', s, S'⟩ := frzVarM S h
  exact n m F' H σ Q S' fun d2 fr ρ' F2 H2 v n2 s2 => k d2 fr ρ' F2 H2 v n2 (s.trans s2)
theorem zs_frzM (h : ρ[i]? = some (.o d)) (n : ZS z t (ρ.set i (.v d)) D) : ZS z t ρ D := fun m F H σ E S kn kr kb kc => by
  obtain ⟨F', s, S'⟩ := frzVarM S h
  exact n m F' H σ E S' (fun ρ' F2 H2 σ2 n2 s2 => kn ρ' F2 H2 σ2 n2 (s.trans s2)) (fun d fr F2 H2 v n2 s2 => kr d fr F2 H2 v n2 (s.trans s2)) (fun ρ' F2 H2 σ2 n2 s2 => kb ρ' F2 H2 σ2 n2 (s.trans s2)) fun ρ' F2 H2 σ2 n2 s2 => kc ρ' F2 H2 σ2 n2 (s.trans s2)
end
end Tr
/-! ### range of two; in an owned list; the last item -/
section
variable {z : Cz} {ρ : List Sl} {N : Dt → Bool → List Sl → Prop} {ta tb te : TE} {t : TA} {i : Nat} {I : List Dt → List Sl → (List Sl → Prop) → (List Sl → List Sl) → Prop}
theorem zi_range2 (h : ZA z t ρ fun ds ρ1 => ∃ i j : Int, ds = [.int i, .int j] ∧ -1000000 ≤ i ∧ i ≤ 1000000 ∧ -1000000 ≤ j ∧ j ≤ 1000000 ∧ I ((List.range (j - i).toNat).map fun (k : Nat) => Dt.int (i + (k : Int))) ρ1 bT bI) : ZI z (iRng2 t) ρ I := fun m F H σ R S k => by
  refine h m F H σ _ S fun ds ρ1 F1 H1 vs n1 s1 S1 r1 => ?_
  obtain ⟨a, b, rfl, h1, h2, h3, h4, nn⟩ := n1
  obtain ⟨v, r, rfl, rv, rr⟩ := r1.inv
  obtain ⟨v2, r, rfl, rv2, rr⟩ := rr.inv
  obtain rfl := rr.inv0
  obtain rfl := rz_i rv
  obtain rfl := rz_i rv2
  refine ⟨a, b, rfl, ⟨by omega, by omega, by omega, by omega⟩, k _ _ _ _ _ _ _ _ _ nn s1 .id S1 ⟨(b - a).toNat, _, _, walk_range, by simp, fun _ _ _ _ _ => trivial, fun m2 i d F' H' H'' x σ ρ eb e f S y => ?_⟩⟩
  obtain ⟨rfl, rfl⟩ := y
  rw [List.getElem?_map] at e
  cases q : (List.range (b - a).toNat)[i]? with
  | none => rw [q] at e; cases e
  | some u =>
    rw [q] at e
    cases e
    have := (List.getElem?_eq_some_iff.mp q).2
    rw [List.getElem_range] at this
    subst this
    exact ⟨F', Same.refl F', S, by simp only [Rz]⟩
theorem ze_inFv {neg : Bool} {K' : PySem.W.Frag} {c0 : Dt} (hK : K' = z.K) (h0 : ρ[i]? = some (.o c0)) (h : ZE z ta ρ fun x _ ρ1 => ∃ (u : V) (us : List V) (t : Bool) (ds : List Dt), ρ1[i]? = some (.o (.lst t ds)) ∧ flatD x = some u ∧ ds.mapM flatD = some us ∧ N (.bl (if neg then !inV u us else inV u us)) false ρ1) : ZE z (tOp (rIn K' neg) ta (tVar i)) ρ N := fun m F H σ Q S k => by
  subst hK
  refine h m F H σ _ S fun x fx ρ1 F1 H1 vx n1 s1 S1 r1 => ?_
  obtain ⟨F2, s2, S2, rx⟩ := rzF_frz S1 r1
  obtain ⟨u, us, t, ds, hs, hu, hm, n⟩ := n1
  obtain ⟨l, e, q1, q2, q3, ho, q4, q5⟩ := S2.geto hs
  obtain ⟨rfl, fu⟩ := flat_rz hu rx
  cases q5 with
  | @lst xs _ r =>
    obtain ⟨rfl, fs⟩ := flat_rzl hm r
    exact ⟨.ref l, e, l, xs, rfl, .inl (SqL.of q4), fu, fs, k _ _ _ _ _ _ n (s1.trans s2) S2 (rzF_f rzb)⟩
end
section
variable {z : Cz} {ρ : List Sl} {N : Dt → Bool → List Sl → Prop} {D : Zn} {t : TA}
theorem ze_max2 (h : ZA z t ρ fun ds ρ1 => ∃ i j, ds = [.int i, .int j] ∧ N (.int (if j > i then j else i)) false ρ1) : ZE z (tCB (fun xs H Q => ∃ i j : Int, xs = [V.int i, .int j] ∧ Q (.int (if j > i then j else i)) H) t) ρ N := fun m F H σ Q S k => by
  refine h m F H σ _ S fun ds ρ1 F1 H1 vs n1 s1 S1 r1 => ?_
  obtain ⟨i, j, rfl, n⟩ := n1
  obtain ⟨v, r, rfl, h1, t1⟩ := r1.inv
  obtain ⟨v2, r2, rfl, h2, t2⟩ := t1.inv
  obtain rfl := t2.inv0
  exact ⟨i, j, by rw [rz_i h1, rz_i h2], k _ _ _ _ _ _ n s1 S1 (rzF_f rzi)⟩
theorem ze_abs (h : ZA z t ρ fun ds ρ1 => ∃ i, ds = [.int i] ∧ N (.int (if i < 0 then -i else i)) false ρ1) : ZE z (tCB (fun xs H Q => ∃ i : Int, xs = [V.int i] ∧ Q (.int (if i < 0 then -i else i)) H) t) ρ N := fun m F H σ Q S k => by
  refine h m F H σ _ S fun ds ρ1 F1 H1 vs n1 s1 S1 r1 => ?_
  obtain ⟨i, rfl, n⟩ := n1
  obtain ⟨v, r, rfl, h1, t1⟩ := r1.inv
  obtain rfl := t1.inv0
  exact ⟨i, by rw [rz_i h1], k _ _ _ _ _ _ n s1 S1 (rzF_f rzi)⟩
theorem zs_par {i j : Nat} (h : ZA z t ρ fun ds ρ1 => ∃ x y, ds = [x, y] ∧ D.nx ((ρ1.set i (.v x)).set j (.v y))) : ZS z (tPar i j t) ρ D := fun m F H σ E S kn kr kb kc => by
  refine h m F H σ _ S fun ds ρ1 F1 H1 vs n1 s1 S1 r1 => ?_
  obtain ⟨x, y, rfl, n⟩ := n1
  obtain ⟨v, r, rfl, h1, t1⟩ := r1.inv
  obtain ⟨v2, r2, rfl, h2, t2⟩ := t1.inv
  obtain rfl := t2.inv0
  exact ⟨v, v2, rfl, kn _ _ _ _ n s1 ((S1.setv h1).setv h2)⟩
end
/-! ### fractions as numbers -/
namespace Lq
theorem rat_eq (q : Rat) : (q.num : Rat) / ((q.den : Int) : Rat) = q := by
  rw [← Rat.divInt_eq_div]
  exact Rat.num_divInt_den q
theorem den_ne (q : Rat) : ((q.den : Int) : Rat) ≠ 0 := by
  intro z
  have := q.den_nz
  have e : (q.den : Int) = 0 := Rat.intCast_inj.mp (by rw [z]; rfl)
  omega
theorem int_ne {b : Int} (h : b ≠ 0) : (b : Rat) ≠ 0 := fun z => h (Rat.intCast_inj.mp (by rw [z]; rfl))
theorem num_den {n d : Int} (h : 0 < d) (c : Nat.gcd n.natAbs d.natAbs = 1) : ((n : Rat) / (d : Rat)).num = n ∧ ((((n : Rat) / (d : Rat)).den : Nat) : Int) = d := by
  obtain ⟨k, rfl⟩ : ∃ k : Nat, d = (k : Int) := ⟨d.toNat, by omega⟩
  have hk : k ≠ 0 := by omega
  have e : (⟨n, k, hk, by simpa using c⟩ : Rat) = (n : Rat) / ((k : Int) : Rat) := by
    rw [Rat.mk_eq_divInt, Rat.divInt_eq_div]
  rw [← e]
  exact ⟨rfl, rfl⟩
theorem low_rat {t b : Int} (hb : b ≠ 0) : ((t : Rat) / (b : Rat)).num = pn t b ∧ ((((t : Rat) / (b : Rat)).den : Nat) : Int) = pd t b := by
  have l := low_of (n := t) hb
  have hs := sgc_ne (n := t) hb
  have e1 := pn_mul t b
  have e2 := pd_mul t b
  have hd : (pd t b : Rat) ≠ 0 := int_ne (Int.ne_of_gt l.pos)
  have hs2 : (sgc t b : Rat) ≠ 0 := int_ne hs
  have e3 : (t : Rat) = (pn t b : Rat) * (sgc t b : Rat) := by rw [← Rat.intCast_mul, e1]
  have e4 : (b : Rat) = (pd t b : Rat) * (sgc t b : Rat) := by rw [← Rat.intCast_mul, e2]
  have e : (t : Rat) / (b : Rat) = (pn t b : Rat) / (pd t b : Rat) := by
    rw [e3, e4]
    generalize (pn t b : Rat) = x at *
    generalize (pd t b : Rat) = y at *
    generalize (sgc t b : Rat) = z at *
    clear e1 e2 e3 e4 l hs
    grind
  rw [e]
  exact num_den l.pos l.cop
theorem sum_rat (x y : Rat) : ((x.num * (y.den : Int) + y.num * (x.den : Int) : Int) : Rat) / (((x.den : Int) * (y.den : Int) : Int) : Rat) = x + y := by
  have h1 := rat_eq x
  have h2 := rat_eq y
  have d1 := den_ne x
  have d2 := den_ne y
  simp only [Rat.intCast_mul, Rat.intCast_add]
  generalize (x.num : Rat) = a at *
  generalize ((x.den : Int) : Rat) = b at *
  generalize (y.num : Rat) = c at *
  generalize ((y.den : Int) : Rat) = d at *
  rw [← h1, ← h2]
  grind
theorem mul_rat (x y : Rat) : ((x.num * y.num : Int) : Rat) / (((x.den : Int) * (y.den : Int) : Int) : Rat) = x * y := by
  have h1 := rat_eq x
  have h2 := rat_eq y
  have d1 := den_ne x
  have d2 := den_ne y
  simp only [Rat.intCast_mul]
  generalize (x.num : Rat) = a at *
  generalize ((x.den : Int) : Rat) = b at *
  generalize (y.num : Rat) = c at *
  generalize ((y.den : Int) : Rat) = d at *
  rw [← h1, ← h2]
  grind
theorem div_rat (x y : Rat) (h : y ≠ 0) : ((x.num * (y.den : Int) : Int) : Rat) / (((x.den : Int) * y.num : Int) : Rat) = x / y := by
  have h1 := rat_eq x
  have h2 := rat_eq y
  have d1 := den_ne x
  have d2 := den_ne y
  simp only [Rat.intCast_mul]
  generalize (x.num : Rat) = a at *
  generalize ((x.den : Int) : Rat) = b at *
  generalize (y.num : Rat) = c at *
  generalize ((y.den : Int) : Rat) = d at *
  have hc : c ≠ 0 := by
    intro z
    apply h
    rw [← h2, z]
    grind
  rw [← h1, ← h2]
  grind
theorem num_ne {y : Rat} (h : y ≠ 0) : y.num ≠ 0 := fun z => h (by rw [← rat_eq y, z]; grind)
theorem num_zero {y : Rat} : y.num = 0 ↔ y = 0 := ⟨fun z => Classical.byContradiction fun h => num_ne h z, fun z => by rw [z]; rfl⟩
end Lq
local macro_rules | `(tactic| walk_at "z1") => `(tactic| first
  | (with_reducible apply zs_seq) | (with_reducible apply zs_asg) | (with_reducible apply zs_setlc) | (with_reducible apply zs_if) | (with_reducible apply zs_reto; exact rfl) | (with_reducible apply zs_ret) | (with_reducible apply zs_next) | (with_reducible apply zs_drop) | (with_reducible apply zs_brk) | (with_reducible apply zs_cont) | (with_reducible apply zs_retN) | (with_reducible apply zs_dput)
  | (with_reducible apply zg_nameT) | (with_reducible apply zg_nameF) | (with_reducible apply zg_tup) | (with_reducible apply zgs_nil) | (with_reducible apply zgs_cons)
  | ((with_reducible apply ze_var); exact rfl) | ((with_reducible apply ze_varo); exact rfl) | (with_reducible apply ze_int) | (with_reducible apply ze_str) | (with_reducible apply ze_bl) | (with_reducible apply ze_non) | (with_reducible apply ze_adr) | (with_reducible apply ze_ty)
  | (with_reducible apply ze_I0) | (with_reducible apply ze_IB) | (with_reducible apply ze_I) | (with_reducible apply ze_neg) | (with_reducible apply ze_eq) | (with_reducible apply ze_ne)
  | (with_reducible apply zt_val) | (with_reducible apply zt_B) | (with_reducible apply zt_and) | (with_reducible apply zt_or) | (with_reducible apply zt_not) | (with_reducible apply zt_yes) | (with_reducible apply ze_andV) | (with_reducible apply ze_orV) | (with_reducible apply ze_notV) | (with_reducible apply ze_ifE) | (with_reducible apply ze_chain)
  | (with_reducible apply za_nil) | (with_reducible apply za_cons) | (with_reducible apply ze_tup) | (with_reducible apply ze_lst) | (with_reducible apply ze_dnewT) | (with_reducible apply ze_dnewK) | (with_reducible apply ze_fld) | (with_reducible apply ze_call) | (with_reducible apply ze_draw) | (with_reducible apply ze_ratio))
local macro_rules | `(tactic| walk_at "z1") => `(tactic| first
  | ((with_reducible apply ze_dgetv); exact rfl; walk_at "pk") | (with_reducible apply ze_dget) | ((with_reducible apply ze_dinv); exact rfl) | ((with_reducible apply ze_dnotinv); exact rfl) | (with_reducible apply ze_din) | ((with_reducible apply ze_dget2v); exact rfl; walk_at "pk"; exact rfl)
  | ((with_reducible apply ze_lenv); exact rfl; walk_at "pk"; walk_at "ln") | (with_reducible apply ze_len) | ((with_reducible apply ze_listv); exact rfl; walk_at "pk"; walk_at "li") | (with_reducible apply ze_list)
  | (with_reducible apply ze_ixT) | ((with_reducible apply ze_ixLv); exact rfl; walk_at "pk") | (with_reducible apply ze_ixL) | (with_reducible apply ze_slT) | (with_reducible apply ze_slL) | (with_reducible apply zo_no) | (with_reducible apply zo_some) | (with_reducible apply ze_cat)
  | ((with_reducible apply zt_truv); exact rfl; walk_at "pk") | (with_reducible apply zt_tru) | ((with_reducible apply ze_append); exact rfl) | ((with_reducible apply ze_pop); exact rfl) | ((with_reducible apply ze_extend); exact rfl)
  | (with_reducible apply ze_inF) | (with_reducible apply ze_inTab) | (with_reducible apply ze_isi) | (with_reducible apply ze_bin) | (with_reducible apply ze_neO) | (with_reducible apply ze_unO) | (with_reducible apply ze_sorted) | (with_reducible apply za_star) | (with_reducible apply ze_tupOf) | (with_reducible apply ze_disp) | (with_reducible apply zp_cons) | (with_reducible apply zp_nil) | (with_reducible apply ze_dictOf) | (with_reducible apply ze_sum) | (with_reducible apply ze_catT) | ((with_reducible apply ze_sortK); exact rfl) | (with_reducible apply ze_eqD) | (with_reducible apply ze_neD) | (with_reducible apply ze_inD) | (with_reducible apply ze_notInD))
local macro_rules | `(tactic| walk_at "pk") => `(tactic| first | exact Or.inl rfl | exact Or.inr (Or.inl rfl) | exact Or.inr (Or.inr ⟨_, rfl⟩))
local macro_rules | `(tactic| walk_at "ln") => `(tactic| first | exact .lst _ _ | exact .tup _ | exact .dic _ _ _ | exact .dit _ _ _)
local macro_rules | `(tactic| walk_at "li") => `(tactic| first | exact .lst _ _ | exact .tup _ | exact .dic _ _ _ | exact .dit _ _ _)
local macro_rules | `(tactic| walk_at "z2") => `(tactic| first
  | (refine ⟨_, rfl, cutN, ?_⟩) | (refine ⟨_, _, rfl, rfl, ?_⟩) | (refine ⟨_, rfl, ?_⟩) | (refine ⟨_, .ii _ _, ?_⟩) | (refine ⟨_, .ss _ _, ?_⟩) | (refine ⟨_, .bb _ _, ?_⟩) | (refine ⟨_, _, _, rfl, rfl, rfl, ?_⟩) | (refine ⟨_, .lst _ _, ?_⟩) | (refine ⟨_, .tup _, ?_⟩) | (refine ⟨Nat.le_of_ble_eq_true rfl, ?_⟩) | (refine ⟨by decide, ?_⟩)
  | (refine ⟨Sum.inr _, rfl, ?_⟩) | (rw [cut1]) | (refine zT (by decide) ?_) | (refine zF (by decide) ?_)
  | (refine ⟨_, _, rfl, Or.inr (Or.inl rfl), ?_⟩) | (refine ⟨_, _, rfl, Or.inl rfl, ?_⟩)
  | (refine ⟨_, _, _, rfl, rfl, atI_k (k := 0) rfl, ?_⟩) | (refine ⟨_, _, _, rfl, rfl, atI_k (k := 1) rfl, ?_⟩) | (refine ⟨_, _, _, rfl, rfl, atI_k (k := 2) rfl, ?_⟩) | (refine ⟨_, _, _, rfl, rfl, atI_k (k := 3) rfl, ?_⟩))
local macro_rules | `(tactic| walk_at "zz") => `(tactic| repeat first | walk_at "z1" | walk_at "z2")
local macro_rules | `(tactic| walk_at "z1") => `(tactic| ((with_reducible apply zs_reto); exact rfl))
local macro_rules | `(tactic| walk_at "z1") => `(tactic| first | (with_reducible apply ze_max2) | (with_reducible apply ze_abs) | (with_reducible apply zs_par) | ((with_reducible apply ze_intOf); exact rfl))
namespace Lq
def pq (q : Rat) : Dt := .tup [.int q.num, .int (q.den : Int)]
def BQ (p : Nat) (q : Rat) : Prop := Bits p q.num ∧ Bits p (q.den : Int)
theorem pq_old (q : Rat) : (pq q).old = pq q := rfl
theorem BQ.mono {p r : Nat} {q : Rat} (h : BQ p q) (l : p ≤ r) : BQ r q := ⟨h.1.mono l, h.2.mono l⟩
/-- a long numerator -/
def BW (p : Nat) (q : Rat) : Prop := Bits 100000 q.num ∧ Bits p (q.den : Int)
theorem BQ.w {p : Nat} {q : Rat} (h : BQ p q) (l : p ≤ 100000) : BW p q := ⟨h.1.mono l, h.2⟩
theorem BQ.of {p : Nat} {t b : Int} (hb : b ≠ 0) (h1 : Bits p t) (h2 : Bits p b) : BQ p ((t : Rat) / (b : Rat)) := by
  obtain ⟨l1, l2⟩ := low_rat (t := t) hb
  unfold BQ
  rw [l1, l2]
  exact ⟨Nat.lt_of_le_of_lt (pn_le hb) h1, Nat.lt_of_le_of_lt (pd_le hb) h2⟩
theorem den_neJ (q : Rat) : (q.den : Int) ≠ 0 := by have := q.den_nz; omega
theorem BQ.mul {p r : Nat} {x y : Rat} (h : BQ p x) (g : BQ r y) : BQ (p + r) (x * y) := by
  rw [← mul_rat]
  exact BQ.of (Int.mul_ne_zero (den_neJ x) (den_neJ y)) (h.1.mul g.1) (h.2.mul g.2)
theorem BQ.div {p r : Nat} {x y : Rat} (hy : y ≠ 0) (h : BQ p x) (g : BQ r y) : BQ (p + r) (x / y) := by
  rw [← div_rat x y hy]
  exact BQ.of (Int.mul_ne_zero (den_neJ x) (num_ne hy)) (h.1.mul g.2) (h.2.mul g.1)
theorem den_neI (q : Rat) : (q.den : Int) ≠ 0 := by have := q.den_nz; omega
theorem fmod_lt {x y : Int} (h : y ≠ 0) : (x.fmod y).natAbs < y.natAbs := by
  rcases Int.lt_or_lt_of_ne h with c | c
  · have e : (-x).fmod (-y) = -(x.fmod y) := Int.neg_fmod_neg ..
    have h1 := Int.fmod_nonneg_of_pos (-x) (show 0 < -y by omega)
    have h2 := Int.fmod_lt_of_pos (-x) (show 0 < -y by omega)
    omega
  · have h1 := Int.fmod_nonneg_of_pos x c
    have h2 := Int.fmod_lt_of_pos x c
    omega
theorem gcdI_step (x y : Int) : gcdI y (x.fmod y) = gcdI x y := by
  have e := Int.gcd_sub_mul_right_left y x (x.fdiv y)
  have f : x - x.fdiv y * y = x.fmod y := by rw [Int.fmod_def, Int.mul_comm]
  rw [f] at e
  unfold gcdI
  have e2 : Nat.gcd (x.fmod y).natAbs y.natAbs = Nat.gcd x.natAbs y.natAbs := e
  rw [Nat.gcd_comm, e2]
section
variable {P : Program} {w : World} {K : PySem.W.Frag} {mg : Str → Option Value} {base : Heap}
def wPart : Wz := fun ds Nv _ => ∃ a b, ds = [.int a, .int b] ∧ b ≠ 0 ∧ Nv (.int (gcdI a b)) false
theorem ok__law_part (T : Top w K mg) : FnOk P w K mg base CX0 1 (He.ga K ("_law_part" : Str)) (fdOf K d__law_part) ["a", "b"] (spZ K wPart) := by
  refine (T.f__law_part).ok sc__law_part (fun vs H Q E h => spz_len h (n := 2) fun ds Nv Ne hw => ?_) (fun cdv A outer s H vs Q E hr h => ?_)
  · obtain ⟨_, _, rfl, _⟩ := hw
    rfl
  · refine z_fn h (PSs.nox (pss_cons (ps_while PassesOwn.never (pt_cmpR op_ne (pv 1) pe_int (nomark _))
    (pss_one (ps_par (i := 0) (j := 1) (by rfl) sc__law_part.nd rfl rfl (by decide) rfl rfl (pa_cons (pv 1) (pa_cons (pe_op op_modN (pe_callTy call_int1 (by rfl) T.n_int (by decide +kernel) (pa_cons (pv 0) pa_nil)) (pv 1)) pa_nil)) (by rfl))))
    (pss_one (ps_ret (pe_callB (call_max2 rfl) (by rfl) T.n_max (by decide +kernel) (pa_cons pe_int (pa_cons (pe_callB call_abs (by rfl) T.n_abs (by decide +kernel) (pa_cons (pv 0) pa_nil)) pa_nil))))))) fun ds Nv Ne hw => ?_
    obtain ⟨a, b, rfl, hb, k⟩ := hw
    walk_at "zz"
    refine zs_while (fun n ρ => ∃ x y : Int, ρ = [.v (.int x), .v (.int y)] ∧ gcdI x y = gcdI a b ∧ n = y.natAbs) ⟨_, a, b, rfl, rfl, rfl⟩ ?_
    rintro n ρ ⟨x, y, rfl, hg, rfl⟩
    walk_at "zz"
    have gp := gcdI_pos (n := a) hb
    by_cases c : y = 0
    · refine zF (by simp [c]) ?_
      walk_at "zz"
      have e : gcdI x y = (x.natAbs : Int) := by
        subst c
        unfold gcdI
        simp
      refine ⟨_, _, rfl, ?_⟩
      have e2 : (if (if x < 0 then -x else x) > 1 then (if x < 0 then -x else x) else 1) = gcdI a b := by
        rw [hg] at e
        split <;> split at * <;> omega
      rw [e2]
      exact k
    · refine zT (by simp [c]) ?_
      walk_at "zz"
      refine .inl ⟨_, rfl, ?_⟩
      walk_at "zz"
      refine ⟨c, ?_⟩
      walk_at "zz"
      exact ⟨_, _, rfl, _, fmod_lt c, _, _, rfl, by rw [gcdI_step]; exact hg, rfl⟩
def wLow : Wz := fun ds Nv _ => ∃ (t b : Int) (p : Nat), ds = [.int t, .int b] ∧ b ≠ 0 ∧ Bits p b ∧ p ≤ 8000 ∧ Nv (pq ((t : Rat) / (b : Rat))) false
theorem ok__law_lowest (T : Top w K mg) : FnOk P w K mg base CX0 2 (He.ga K ("_law_lowest" : Str)) (fdOf K d__law_lowest) ["top", "bottom"] (spZ K wLow) := by
  refine (T.f__law_lowest).ok sc__law_lowest (fun vs H Q E h => spz_len h (n := 2) fun ds Nv Ne hw => ?_) (fun cdv A outer s H vs Q E hr h => ?_)
  · obtain ⟨_, _, _, rfl, _⟩ := hw
    rfl
  · refine z_fn h (PSs.nox (pss_cons (ps_set (i := 2) sc__law_lowest.nd rfl (Or.inl rfl) (pe_call (ok__law_part (K := K) T) (hr.mono (by decide)) rfl T.g__law_part T.f__law_part.kp T.b__law_part .nil pass0 (pa_cons (pv 0) (pa_cons (pv 1) pa_nil))))
    (pss_cons (ps_if (pt_cmpR op_lt (pv 1) pe_int (nomark _))
    (pss_one (ps_set (i := 2) sc__law_lowest.nd rfl (Or.inl rfl) (pe_un un_neg (pv 2))))
    pss_nil)
    (pss_one (ps_ret (pe_tup (pa_cons (pe_op op_fdivG (pv 0) (pv 2)) (pa_cons (pe_op op_fdivG (pv 1) (pv 2)) pa_nil)))))))) fun ds Nv Ne hw => ?_
    obtain ⟨t, b, p, rfl, hb, bb, hp, k⟩ := hw
    have sb : Bits p (sgc t b) := Nat.lt_of_le_of_lt (sgc_abs hb) bb
    have gd : CDivG t (sgc t b) := Bits.divG (sgc_ne hb) sb (by omega)
    obtain ⟨l1, l2⟩ := Lq.low_rat (t := t) hb
    unfold pq at k
    rw [l1, l2] at k
    walk_at "zz"
    refine ⟨t, b, rfl, hb, ?_⟩
    walk_at "zz"
    by_cases c : b < 0
    · have e : sgc t b = -gcdI t b := if_pos c
      refine zT (decide_eq_true c) ?_
      walk_at "zz"
      rw [← e]
      refine ⟨gd, ?_⟩
      walk_at "zz"
      refine ⟨gd, ?_⟩
      walk_at "zz"
      exact k
    · have e : sgc t b = gcdI t b := if_neg c
      refine zF (by simp; omega) ?_
      walk_at "zz"
      rw [← e]
      refine ⟨gd, ?_⟩
      walk_at "zz"
      refine ⟨gd, ?_⟩
      walk_at "zz"
      exact k
def wSum : Wz := fun ds Nv _ => ∃ (x y : Rat) (p q : Nat), ds = [pq x, pq y] ∧ BW p x ∧ BW q y ∧ p + q ≤ 8000 ∧ Nv (pq (x + y)) false
theorem ok__law_sum (T : Top w K mg) : FnOk P w K mg base CX0 3 (He.ga K ("_law_sum" : Str)) (fdOf K d__law_sum) ["one", "two"] (spZ K wSum) := by
  refine (T.f__law_sum).ok sc__law_sum (fun vs H Q E h => spz_len h (n := 2) fun ds Nv Ne hw => ?_) (fun cdv A outer s H vs Q E hr h => ?_)
  · obtain ⟨_, _, _, _, rfl, _⟩ := hw
    rfl
  · refine z_fn h (PSs.nox (pss_one (ps_ret (pe_call (ok__law_lowest (K := K) T) (hr.mono (by decide)) rfl T.g__law_lowest T.f__law_lowest.kp T.b__law_lowest .nil pass0 (pa_cons (pe_op op_add (pe_op op_mulW (pe_ix (ix_tupK (K := K) rfl) (pv 0) pe_int (fun _ _ => rfl)) (pe_ix (ix_tupK (K := K) rfl) (pv 1) pe_int (fun _ _ => rfl))) (pe_op op_mulW (pe_ix (ix_tupK (K := K) rfl) (pv 1) pe_int (fun _ _ => rfl)) (pe_ix (ix_tupK (K := K) rfl) (pv 0) pe_int (fun _ _ => rfl)))) (pa_cons (pe_op op_mulW (pe_ix (ix_tupK (K := K) rfl) (pv 0) pe_int (fun _ _ => rfl)) (pe_ix (ix_tupK (K := K) rfl) (pv 1) pe_int (fun _ _ => rfl))) pa_nil)))))) fun ds Nv Ne hw => ?_
    obtain ⟨x, y, p, q, rfl, bx, by_, hp, k⟩ := hw
    rw [← Lq.sum_rat] at k
    unfold pq
    walk_at "zz"
    refine ⟨Bits.mulW bx.1 by_.2 (by omega), ?_⟩
    walk_at "zz"
    refine ⟨Bits.mulW by_.1 bx.2 (by omega), ?_⟩
    walk_at "zz"
    refine ⟨Bits.mulW bx.2 by_.2 (by omega), ?_⟩
    walk_at "zz"
    exact ⟨_, _, p + q, rfl, Int.mul_ne_zero (den_neI x) (den_neI y), bx.2.mul by_.2, by omega, k⟩
def wTimes : Wz := fun ds Nv _ => ∃ (x y : Rat) (p q : Nat), ds = [pq x, pq y] ∧ BQ p x ∧ BQ q y ∧ p + q ≤ 8000 ∧ Nv (pq (x * y)) false
theorem ok__law_times (T : Top w K mg) : FnOk P w K mg base CX0 3 (He.ga K ("_law_times" : Str)) (fdOf K d__law_times) ["one", "two"] (spZ K wTimes) := by
  refine (T.f__law_times).ok sc__law_times (fun vs H Q E h => spz_len h (n := 2) fun ds Nv Ne hw => ?_) (fun cdv A outer s H vs Q E hr h => ?_)
  · obtain ⟨_, _, _, _, rfl, _⟩ := hw
    rfl
  · refine z_fn h (PSs.nox (pss_one (ps_ret (pe_call (ok__law_lowest (K := K) T) (hr.mono (by decide)) rfl T.g__law_lowest T.f__law_lowest.kp T.b__law_lowest .nil pass0 (pa_cons (pe_op op_mulW (pe_ix (ix_tupK (K := K) rfl) (pv 0) pe_int (fun _ _ => rfl)) (pe_ix (ix_tupK (K := K) rfl) (pv 1) pe_int (fun _ _ => rfl))) (pa_cons (pe_op op_mulW (pe_ix (ix_tupK (K := K) rfl) (pv 0) pe_int (fun _ _ => rfl)) (pe_ix (ix_tupK (K := K) rfl) (pv 1) pe_int (fun _ _ => rfl))) pa_nil)))))) fun ds Nv Ne hw => ?_
    obtain ⟨x, y, p, q, rfl, bx, by_, hp, k⟩ := hw
    rw [← Lq.mul_rat] at k
    unfold pq
    walk_at "zz"
    refine ⟨Bits.mulW bx.1 by_.1 (by omega), ?_⟩
    walk_at "zz"
    refine ⟨Bits.mulW bx.2 by_.2 (by omega), ?_⟩
    walk_at "zz"
    exact ⟨_, _, p + q, rfl, Int.mul_ne_zero (den_neI x) (den_neI y), bx.2.mul by_.2, by omega, k⟩
def wOver : Wz := fun ds Nv _ => ∃ (x y : Rat) (p q : Nat), ds = [pq x, pq y] ∧ y ≠ 0 ∧ BQ p x ∧ BQ q y ∧ p + q ≤ 8000 ∧ Nv (pq (x / y)) false
theorem ok__law_over (T : Top w K mg) : FnOk P w K mg base CX0 3 (He.ga K ("_law_over" : Str)) (fdOf K d__law_over) ["one", "two"] (spZ K wOver) := by
  refine (T.f__law_over).ok sc__law_over (fun vs H Q E h => spz_len h (n := 2) fun ds Nv Ne hw => ?_) (fun cdv A outer s H vs Q E hr h => ?_)
  · obtain ⟨_, _, _, _, rfl, _⟩ := hw
    rfl
  · refine z_fn h (PSs.nox (pss_one (ps_ret (pe_call (ok__law_lowest (K := K) T) (hr.mono (by decide)) rfl T.g__law_lowest T.f__law_lowest.kp T.b__law_lowest .nil pass0 (pa_cons (pe_op op_mulW (pe_ix (ix_tupK (K := K) rfl) (pv 0) pe_int (fun _ _ => rfl)) (pe_ix (ix_tupK (K := K) rfl) (pv 1) pe_int (fun _ _ => rfl))) (pa_cons (pe_op op_mulW (pe_ix (ix_tupK (K := K) rfl) (pv 0) pe_int (fun _ _ => rfl)) (pe_ix (ix_tupK (K := K) rfl) (pv 1) pe_int (fun _ _ => rfl))) pa_nil)))))) fun ds Nv Ne hw => ?_
    obtain ⟨x, y, p, q, rfl, hy, bx, by_, hp, k⟩ := hw
    rw [← Lq.div_rat x y hy] at k
    unfold pq
    walk_at "zz"
    refine ⟨Bits.mulW bx.1 by_.2 (by omega), ?_⟩
    walk_at "zz"
    refine ⟨Bits.mulW bx.2 by_.1 (by omega), ?_⟩
    walk_at "zz"
    exact ⟨_, _, p + q, rfl, Int.mul_ne_zero (den_neI x) (Lq.num_ne hy), bx.2.mul by_.1, by omega, k⟩
end
end Lq
local macro_rules | `(tactic| walk_at "z1") => `(tactic| first | (with_reducible apply ze_isiT))
namespace Lq
/-- n parts of M, n of at most B -/
def SmQ (M B : Nat) (q : Rat) : Prop := ∃ n : Int, q = (n : Rat) / ((M : Int) : Rat) ∧ n.natAbs ≤ B
theorem SmQ.bits {M B p : Nat} {q : Rat} (h : SmQ M B q) (hM : M ≠ 0) (h1 : M < 2 ^ p) (h2 : B < 2 ^ p) : BQ p q := by
  obtain ⟨n, rfl, hn⟩ := h
  have hm : (M : Int) ≠ 0 := by omega
  obtain ⟨l1, l2⟩ := low_rat (t := n) hm
  have b1 := pn_le (n := n) hm
  have b2 := pd_le (n := n) hm
  constructor
  · unfold Bits
    rw [l1]
    omega
  · unfold Bits
    rw [l2]
    omega
theorem SmQ.up {M B B' : Nat} {q : Rat} (h : SmQ M B q) (k : Nat) (hM : M ≠ 0) (hk : k ≠ 0) (hB : k * B ≤ B') : SmQ (k * M) B' q := by
  obtain ⟨n, rfl, hn⟩ := h
  refine ⟨k * n, ?_, ?_⟩
  · have h1 : ((M : Int) : Rat) ≠ 0 := int_ne (by omega)
    have h2 : ((k : Int) : Rat) ≠ 0 := int_ne (by omega)
    have e : (((k * M : Nat) : Int) : Rat) = ((k : Int) : Rat) * ((M : Int) : Rat) := by rw [← Rat.intCast_mul]; rfl
    rw [e, Rat.intCast_mul]
    generalize ((M : Int) : Rat) = a at *
    generalize ((k : Int) : Rat) = b at *
    grind
  · rw [Int.natAbs_mul, Int.natAbs_natCast]
    exact Nat.le_trans (Nat.mul_le_mul_left k hn) hB
theorem SmQ.mix {M B : Nat} {x y : Rat} (hM : M ≠ 0) (hx : SmQ M B x) (hy : SmQ M B y) : SmQ (3 * M) (7 * B) (2 * x + (-1 / 3) * y) := by
  obtain ⟨n, rfl, hn⟩ := hx
  obtain ⟨k, rfl, hk⟩ := hy
  refine ⟨6 * n - k, ?_, by omega⟩
  have h1 : ((M : Int) : Rat) ≠ 0 := int_ne (by omega)
  have e : (((3 * M : Nat) : Int) : Rat) = 3 * ((M : Int) : Rat) := by
    show ((((3 : Nat) : Int) * (M : Int) : Int) : Rat) = _
    rw [Rat.intCast_mul]
    rfl
  have e2 : ((6 * n - k : Int) : Rat) = 6 * (n : Rat) - (k : Rat) := by rw [Rat.intCast_sub, Rat.intCast_mul]; rfl
  rw [e, e2]
  generalize ((M : Int) : Rat) = a at *
  grind
def rowD (t : Bool) (r : List Rat) : Dt := .lst t (r.map pq)
def matD (t t' : Bool) (m : List (List Rat)) : Dt := .lst t (m.map (rowD t'))
def ML (k : Nat) : Nat := 6 * 3 ^ k
def BL (k : Nat) : Nat := 18 * 7 ^ k
theorem ML_s (k : Nat) : ML (k + 1) = 3 * ML k := by unfold ML; rw [Nat.pow_succ]; omega
theorem BL_s (k : Nat) : BL (k + 1) = 7 * BL k := by unfold BL; rw [Nat.pow_succ]; omega
theorem ML_ne (k : Nat) : ML k ≠ 0 := by unfold ML; have := Nat.pow_pos (n := k) (show 0 < 3 by decide); omega
def LvQ (k : Nat) (q : Rat) : Prop := SmQ (ML k) (BL k) q
theorem LvQ.succ {k : Nat} {q : Rat} (h : LvQ k q) : LvQ (k + 1) q := by
  unfold LvQ
  rw [ML_s, BL_s]
  exact SmQ.up h 3 (ML_ne k) (by decide) (by omega)
theorem LvQ.mono {k j : Nat} {q : Rat} (h : LvQ k q) (l : k ≤ j) : LvQ j q := by
  induction l with
  | refl => exact h
  | step _ ih => exact ih.succ
theorem LvQ.bits {k : Nat} {q : Rat} (h : LvQ k q) (hk : k ≤ 6) : BQ 30 q := by
  have h6 := h.mono hk
  exact SmQ.bits h6 (ML_ne 6) (by decide) (by decide)
theorem LvQ.mix {k : Nat} {x y : Rat} (hx : LvQ k x) (hy : LvQ k y) : LvQ (k + 1) (2 * x + -1 / 3 * y) := by
  unfold LvQ
  rw [ML_s, BL_s]
  exact SmQ.mix (ML_ne k) hx hy
theorem LvQ.two {k : Nat} {q : Rat} (h : LvQ k q) (hk : k ≤ 6) : BQ 40 (2 * q) := by
  obtain ⟨n, rfl, hn⟩ := h.mono hk
  refine SmQ.bits (M := ML 6) (B := 2 * BL 6) ⟨2 * n, ?_, by omega⟩ (ML_ne 6) (by decide) (by decide)
  have h1 : ((ML 6 : Int) : Rat) ≠ 0 := int_ne (by decide)
  rw [Rat.intCast_mul]
  generalize ((ML 6 : Int) : Rat) = a at *
  show _ = (2 : Rat) * (n : Rat) / a
  grind
theorem LvQ.third {k : Nat} {q : Rat} (h : LvQ k q) (hk : k ≤ 6) : BQ 40 (-1 / 3 * q) := by
  obtain ⟨n, rfl, hn⟩ := h.mono hk
  refine SmQ.bits (M := 3 * ML 6) (B := BL 6) ⟨-n, ?_, by omega⟩ (by decide) (by decide) (by decide)
  have h1 : ((ML 6 : Int) : Rat) ≠ 0 := int_ne (by decide)
  have e : (((3 * ML 6 : Nat) : Int) : Rat) = 3 * ((ML 6 : Int) : Rat) := by
    show ((((3 : Nat) : Int) * (ML 6 : Int) : Int) : Rat) = _
    rw [Rat.intCast_mul]
    rfl
  rw [e, Rat.intCast_neg]
  generalize ((ML 6 : Int) : Rat) = a at *
  grind
theorem two_pq : pq 2 = .tup [.int 2, .int 1] := rfl
theorem third_num : ((-1 / 3 : Rat).num = -1) ∧ ((-1 / 3 : Rat).den = 3) := by decide +kernel
theorem third_pq : pq (-1 / 3) = .tup [.int (-1), .int 3] := by
  unfold pq
  rw [third_num.1, third_num.2]
  rfl
theorem two_bits : BQ 40 2 := ⟨by unfold Bits; decide +kernel, by unfold Bits; decide +kernel⟩
theorem third_bits : BQ 40 (-1 / 3) := ⟨by rw [third_num.1]; unfold Bits; decide +kernel, by rw [third_num.2]; unfold Bits; decide +kernel⟩
theorem base_lv {t b : Int} (h1 : t.natAbs ≤ 3) (h2 : 1 ≤ b) (h3 : b ≤ 3) : LvQ 0 ((t : Rat) / (b : Rat)) := by
  have hc : b = 1 ∨ b = 2 ∨ b = 3 := by omega
  have e6 : ((ML 0 : Nat) : Int) = 6 := rfl
  show ∃ n : Int, _ = (n : Rat) / (((ML 0 : Nat) : Int) : Rat) ∧ n.natAbs ≤ 18
  rw [e6]
  rcases hc with rfl | rfl | rfl
  · refine ⟨6 * t, ?_, by omega⟩
    rw [Rat.intCast_mul]
    show (t : Rat) / (1 : Rat) = (6 : Rat) * t / (6 : Rat)
    grind
  · refine ⟨3 * t, ?_, by omega⟩
    rw [Rat.intCast_mul]
    show (t : Rat) / (2 : Rat) = (3 : Rat) * t / (6 : Rat)
    grind
  · refine ⟨2 * t, ?_, by omega⟩
    rw [Rat.intCast_mul]
    show (t : Rat) / (3 : Rat) = (2 : Rat) * t / (6 : Rat)
    grind
theorem bits4 {i : Int} (h : i.natAbs < 16) : Bits 4 i := h
theorem bits2 {i : Int} (h : i.natAbs < 4) : Bits 2 i := h
def RowOk (wide k : Nat) (r : List Rat) : Prop := r.length = wide ∧ ∀ e ∈ r, LvQ k e
def jOk (s : Sl) : Prop := s = .un ∨ ∃ i, s = .v (.int i)
theorem rng_at {n i : Nat} {d : Dt} (h : (List.map (fun (i : Nat) => Dt.int (i : Int)) (List.range ((n : Int)).toNat))[i]? = some d) : i < n ∧ d = .int (i : Int) := by
  rw [Int.toNat_natCast, List.getElem?_map] at h
  cases q : (List.range n)[i]? with
  | none => rw [q] at h; cases h
  | some x =>
    rw [q] at h
    cases h
    obtain ⟨h1, h2⟩ := List.getElem?_eq_some_iff.mp q
    rw [List.length_range] at h1
    rw [List.getElem_range] at h2
    exact ⟨h1, by rw [h2]⟩
theorem rng_len (n : Nat) : (List.map (fun (i : Nat) => Dt.int (i : Int)) (List.range ((n : Int)).toNat)).length = n := by rw [List.length_map, List.length_range, Int.toNat_natCast]
section
variable {P : Program} {w : World} {K : PySem.W.Frag} {mg : Str → Option Value} {base : Heap}
def wMatrix : Wz := fun ds Nv _ => ∃ many wide : Nat, ds = [.strm, .int (many : Int), .int (wide : Int)] ∧ many ≤ 6 ∧ wide ≤ 6 ∧ ∀ m : List (List Rat), m.length = many → (∀ r ∈ m, RowOk wide 6 r) → Nv (matD true true m) true
set_option maxHeartbeats 4000000 in
theorem ok__law_matrix (T : Top w K mg) : FnOk P w K mg base CX0 4 (He.ga K ("_law_matrix" : Str)) (fdOf K d__law_matrix) ["stream", "many", "wide"] (spZ K wMatrix) := by
  refine (T.f__law_matrix).ok sc__law_matrix (fun vs H Q E h => spz_len h (n := 3) fun ds Nv Ne hw => ?_) (fun cdv A outer s H vs Q E hr h => ?_)
  · obtain ⟨_, _, rfl, _⟩ := hw
    rfl
  · refine z_fn h (PSs.nox (pss_cons (ps_set (i := 3) sc__law_matrix.nd rfl (Or.inl rfl) (pe_lst pa_nil))
    (pss_cons (ps_lockL (ps_for PassesOwn.never rfl (pi_range1 rfl T.n_range (pa_cons (pv 1) pa_nil)) (pg_name (i := 4) sc__law_matrix.nd rfl (Or.inl rfl))
    (pss_cons (ps_set (i := 5) sc__law_matrix.nd rfl (Or.inl rfl) (pe_lst pa_nil))
    (pss_cons (ps_lockL (ps_for PassesOwn.never rfl (pi_range1 rfl T.n_range (pa_cons (pv 2) pa_nil)) (pg_name (i := 6) sc__law_matrix.nd rfl (Or.inl rfl))
    (pss_cons (ps_set (i := 7) sc__law_matrix.nd rfl (Or.inl rfl) (pe_op op_sub (pe_call (ok__law_draw (K := K) T) (hr.mono (by decide)) rfl T.g__law_draw T.f__law_draw.kp T.b__law_draw .nil pass0 (pa_cons (pv 0) (pa_cons pe_int pa_nil))) pe_int))
    (pss_cons (ps_if (pt_cmpR op_eq (pe_call (ok__law_draw (K := K) T) (hr.mono (by decide)) rfl T.g__law_draw T.f__law_draw.kp T.b__law_draw .nil pass0 (pa_cons (pv 0) (pa_cons pe_int pa_nil))) pe_int (nomark _))
    (pss_one (ps_set (i := 7) sc__law_matrix.nd rfl (Or.inl rfl) pe_int))
    pss_nil)
    (pss_one (ps_expr (pe_bm PySem.F.plainAttrs_list PySem.F.slot_list_append PySem.F.type_list_append mt_append (pv 5) (pa_cons (pe_call (ok__law_lowest (K := K) T) (hr.mono (by decide)) rfl T.g__law_lowest T.f__law_lowest.kp T.b__law_lowest .nil pass0 (pa_cons (pv 7) (pa_cons (pe_op op_add pe_int (pe_op op_mulW (pe_call (ok__law_draw (K := K) T) (hr.mono (by decide)) rfl T.g__law_draw T.f__law_draw.kp T.b__law_draw .nil pass0 (pa_cons (pv 0) (pa_cons pe_int pa_nil))) (pe_callTy call_int1 (by rfl) T.n_int (by decide +kernel) (pa_cons (pe_cmpR op_eq (pe_call (ok__law_draw (K := K) T) (hr.mono (by decide)) rfl T.g__law_draw T.f__law_draw.kp T.b__law_draw .nil pass0 (pa_cons (pv 0) (pa_cons pe_int pa_nil))) pe_int (nomark _)) pa_nil)))) pa_nil))) pa_nil))))))))
    (pss_cons (ps_if (PW.pt (pw_and (pt_truth (pv 3) (by intro _; rfl)) (pw_and1 (pt_cmpR op_eq (pe_call (ok__law_draw (K := K) T) (hr.mono (by decide)) rfl T.g__law_draw T.f__law_draw.kp T.b__law_draw .nil pass0 (pa_cons (pv 0) (pa_cons pe_int pa_nil))) pe_int (nomark _)))))
    (pss_cons (ps_set (i := 8) sc__law_matrix.nd rfl (Or.inr rfl) (pe_ix (ix_listK (K := K) rfl) (pv 3) (pe_call (ok__law_draw (K := K) T) (hr.mono (by decide)) rfl T.g__law_draw T.f__law_draw.kp T.b__law_draw .nil pass0 (pa_cons (pv 0) (pa_cons (pe_callB (call_lenZ (K := K) rfl) (by rfl) T.n_len PySem.boot_len (pa_cons (pv 3) pa_nil)) pa_nil))) (fun _ _ => rfl)))
    (pss_cons (ps_set (i := 9) sc__law_matrix.nd rfl (Or.inr rfl) (pe_ix (ix_listK (K := K) rfl) (pv 3) (pe_call (ok__law_draw (K := K) T) (hr.mono (by decide)) rfl T.g__law_draw T.f__law_draw.kp T.b__law_draw .nil pass0 (pa_cons (pv 0) (pa_cons (pe_callB (call_lenZ (K := K) rfl) (by rfl) T.n_len PySem.boot_len (pa_cons (pv 3) pa_nil)) pa_nil))) (fun _ _ => rfl)))
    (pss_one (ps_lockL (ps_setLc (i := 5) (own := [(("j" : Str), 6)]) (g := (gName 6)) (tt := tYes) rfl sc__law_matrix.nd rfl rfl (by rfl) (pi_range1 rfl T.n_range (pa_cons (pv 2) pa_nil)) (blkOk_by (N := ["stream", "many", "wide", "rows", "k", "row", "j", "value", "one", "two"]) (sc := defScope s__law_matrix) (by decide +kernel)) (fun _ _ _ _ _ => (pg_name (i := 6) sc__law_matrix.nd rfl (Or.inl rfl))) (fun _ _ _ _ _ => pts_nil) (fun _ _ _ _ _ => (pe_call (ok__law_sum (K := K) T) (hr.mono (by decide)) rfl T.g__law_sum T.f__law_sum.kp T.b__law_sum .nil pass0 (pa_cons (pe_call (ok__law_times (K := K) T) (hr.mono (by decide)) rfl T.g__law_times T.f__law_times.kp T.b__law_times .nil pass0 (pa_cons (pe_tup (pa_cons pe_int (pa_cons pe_int pa_nil))) (pa_cons (pe_ix (ix_listK (K := K) rfl) (pv 8) (pv 6) (fun _ _ => rfl)) pa_nil))) (pa_cons (pe_call (ok__law_times (K := K) T) (hr.mono (by decide)) rfl T.g__law_times T.f__law_times.kp T.b__law_times .nil pass0 (pa_cons (pe_tup (pa_cons (pe_un un_neg pe_int) (pa_cons pe_int pa_nil))) (pa_cons (pe_ix (ix_listK (K := K) rfl) (pv 9) (pv 6) (fun _ _ => rfl)) pa_nil))) pa_nil)))))))))
    pss_nil)
    (pss_one (ps_expr (pe_bm PySem.F.plainAttrs_list PySem.F.slot_list_append PySem.F.type_list_append mt_append (pv 3) (pa_cons (pv 5) pa_nil)))))))))
    (pss_one (ps_ret (pv 3)))))) fun ds Nv Ne hw => ?_
    obtain ⟨many, wide, rfl, h1, h2, k⟩ := hw
    walk_at "zz"
    refine zs_forL (zi_range1 ?_)
    walk_at "zz"
    refine ⟨by omega, by omega, fun i ρ => ∃ (m : List (List Rat)) (p4 p5 p6 p7 p8 p9 : Sl), ρ = [.v .strm, .v (.int (many : Int)), .v (.int (wide : Int)), .o (matD true true m), p4, p5, p6, p7, p8, p9] ∧ jOk p6 ∧ m.length = i ∧ ∀ r ∈ m, RowOk wide i r,
      ⟨[], .un, .un, .un, .un, .un, .un, rfl, .inl rfl, rfl, fun r hr => nomatch hr⟩, ?_, ?_⟩
    · rintro ρ ⟨m, p4, p5, p6, p7, p8, p9, rfl, _, hm, hr⟩
      rw [rng_len] at hm hr
      refine ⟨trivial, ?_⟩
      dsimp only [bI]
      walk_at "zz"
      exact k m hm fun r h => ⟨(hr r h).1, fun e he => ((hr r h).2 e he).mono h1⟩
    · rintro i d ρ hd ⟨m, p4, p5, p6, p7, p8, p9, rfl, hp6, hm, hr⟩
      obtain ⟨hi, rfl⟩ := rng_at hd
      walk_at "zz"
      refine zs_forL (zi_range1 ?_)
      walk_at "zz"
      refine ⟨by omega, by omega, fun j ρ => ∃ (r : List Rat) (p6 p7 : Sl), ρ = [.v .strm, .v (.int (many : Int)), .v (.int (wide : Int)), .o (matD true true m), .v (.int (i : Int)), .o (rowD true r), p6, p7, p8, p9] ∧ jOk p6 ∧ r.length = j ∧ ∀ e ∈ r, LvQ 0 e,
        ⟨[], p6, p7, rfl, hp6, rfl, fun e he => nomatch he⟩, ?_, ?_⟩
      · rintro ρ ⟨r, p6, p7, rfl, hp6, hrl, hre⟩
        rw [rng_len] at hrl
        refine ⟨trivial, ?_⟩
        dsimp only [bI]
        walk_at "zz"
        refine Tr.zt_truM rfl rfl (.inr (.inl rfl)) ?_
        have fin : ∀ (r : List Rat) (p6 p7 p8 p9 : Sl), jOk p6 → RowOk wide (i + 1) r → ∃ (m' : List (List Rat)) (p4 p5 p6' p7' p8' p9' : Sl), [Sl.v .strm, .v (.int (many : Int)), .v (.int (wide : Int)), .o (.lst true (m.map (rowD true) ++ [rowD true r])), .v (.int (i : Int)), .v (rowD true r), p6, p7, p8, p9] = [Sl.v .strm, .v (.int (many : Int)), .v (.int (wide : Int)), .o (matD true true m'), p4, p5, p6', p7', p8', p9'] ∧ jOk p6' ∧ m'.length = i + 1 ∧ ∀ r ∈ m', RowOk wide (i + 1) r := fun r p6 p7 p8 p9 h6 hr1 => by
          refine ⟨m ++ [r], _, _, _, _, _, _, by unfold matD; rw [List.map_append]; rfl, h6, by rw [List.length_append, hm]; rfl, fun x hx => ?_⟩
          rcases List.mem_append.mp hx with hx | hx
          · exact ⟨(hr x hx).1, fun e he => ((hr x hx).2 e he).succ⟩
          · rw [List.mem_singleton.mp hx]
            exact hr1
        have r0 : RowOk wide (i + 1) r := ⟨hrl, fun e he => (hre e he).mono (Nat.zero_le _)⟩
        by_cases c : (!(List.map (rowD true) m).isEmpty) = true
        · refine zT c ?_
          have m0 : 0 < m.length := by
            cases m with
            | nil => simp at c
            | cons _ _ => simp
          walk_at "zz"
          intro v1 a0 a1
          walk_at "zz"
          by_cases d0 : v1 = 0
          · refine zT (by simp [d0]) ?_
            walk_at "zz"
            refine ⟨by rw [List.length_map]; omega, by rw [List.length_map]; omega, fun u e0 e1 => ?_⟩
            rw [List.length_map] at e1
            obtain ⟨o1, ho1, at1⟩ := Tr.atI_M (f := rowD true) e0 e1
            refine ⟨_, _, _, _, _, rfl, .inr (.inl rfl), rfl, at1, ?_⟩
            walk_at "zz"
            refine ⟨by rw [List.length_map]; omega, by rw [List.length_map]; omega, fun u e0 e1 => ?_⟩
            rw [List.length_map] at e1
            obtain ⟨o2, ho2, at2⟩ := Tr.atI_M (f := rowD true) e0 e1
            refine ⟨_, _, _, _, _, rfl, .inr (.inl rfl), rfl, at2, ?_⟩
            walk_at "zz"
            refine ze_lcW (zi_range1 ?_)
            walk_at "zz"
            have okw : okW (([Sl.v Dt.strm, Sl.v (Dt.int (many : Int)), Sl.v (Dt.int (wide : Int)), Sl.o (matD true true m), Sl.v (Dt.int (i : Int)), Sl.o (rowD true r), p6, p7, p8, p9].set 8 (Sl.v (rowD true o1))).set 9 (Sl.v (rowD true o2))) [6] = true := by rcases hp6 with rfl | ⟨_, rfl⟩ <;> rfl
            refine ⟨by omega, by omega, trivial, okw, by rw [rng_len]; omega, fun j ad => ∃ r' : List Rat, ad = r'.map pq ∧ r'.length = j ∧ ∀ e ∈ r', LvQ (i + 1) e, ⟨[], rfl, rfl, fun e he => nomatch he⟩, ?_, ?_⟩
            · rintro j d ad hd ⟨r', rfl, hl', he'⟩
              obtain ⟨hj, rfl⟩ := rng_at hd
              refine zgw_name (by decide) ?_
              walk_at "zz"
              obtain ⟨ho1l, ho1e⟩ := hr o1 ho1
              obtain ⟨ho2l, ho2e⟩ := hr o2 ho2
              obtain ⟨e1, he1, ae1⟩ := Tr.atI_M (f := pq) (xs := o1) (j := (j : Int)) (by omega) (by omega)
              obtain ⟨e2, he2, ae2⟩ := Tr.atI_M (f := pq) (xs := o2) (j := (j : Int)) (by omega) (by omega)
              have k1 := ho1e e1 he1
              have k2 := ho2e e2 he2
              have i6 : i ≤ 6 := by omega
              refine ⟨_, _, _, _, _, rfl, .inl rfl, rfl, ae1, ?_⟩
              walk_at "zz"
              refine ⟨2, e1, 40, 40, by rw [← two_pq]; rfl, two_bits, (k1.bits i6).mono (by decide), by decide, ?_⟩
              walk_at "zz"
              refine ⟨_, _, _, _, _, rfl, .inl rfl, rfl, ae2, ?_⟩
              walk_at "zz"
              refine ⟨-1 / 3, e2, 40, 40, by rw [← third_pq]; rfl, third_bits, (k2.bits i6).mono (by decide), by decide, ?_⟩
              walk_at "zz"
              refine ⟨2 * e1, -1 / 3 * e2, 40, 40, rfl, (k1.two i6).w (by decide), (k2.third i6).w (by decide), by decide, ?_⟩
              refine ⟨by rcases hp6 with rfl | ⟨_, rfl⟩ <;> rfl, r' ++ [2 * e1 + -1 / 3 * e2], by rw [List.map_append]; rfl, by rw [List.length_append, hl']; rfl, fun e he => ?_⟩
              rcases List.mem_append.mp he with he | he
              · exact he' e he
              · rw [List.mem_singleton.mp he]
                exact LvQ.mix k1 k2
            · rintro ad ⟨r', rfl, hl', he'⟩
              rw [rng_len] at hl'
              walk_at "zz"
              exact ⟨by rw [List.length_map]; omega, fin r' p6 p7 (.v (rowD true o1)) (.v (rowD true o2)) hp6 ⟨hl', he'⟩⟩
          · refine zF (by simp [d0]) ?_
            walk_at "zz"
            exact ⟨by rw [List.length_map]; omega, fin r p6 p7 p8 p9 hp6 r0⟩
        · refine zF c ?_
          walk_at "zz"
          exact ⟨by rw [List.length_map]; omega, fin r p6 p7 p8 p9 hp6 r0⟩
      · rintro j d ρ hd ⟨r, p6, p7, rfl, hp6, hrl, hre⟩
        obtain ⟨hj, rfl⟩ := rng_at hd
        walk_at "zz"
        intro v1 a0 a1
        walk_at "zz"
        intro v2 b0 b1
        walk_at "zz"
        by_cases d0 : v2 = 0
        · refine zT (by simp [d0]) ?_
          walk_at "zz"
          intro v3 c0 c1
          walk_at "zz"
          intro v4 g0 g1
          walk_at "zz"
          refine .inr ⟨_, rfl, ?_⟩
          have hz : (if decide (v4 = 0) = true then (1 : Int) else 0) = 0 ∨ (if decide (v4 = 0) = true then (1 : Int) else 0) = 1 := by split <;> simp
          generalize (if decide (v4 = 0) = true then (1 : Int) else 0) = q at hz
          have hq : 0 ≤ v3 * q ∧ v3 * q ≤ 2 := by rcases hz with rfl | rfl <;> simp <;> omega
          walk_at "zz"
          refine ⟨Bits.mulW (a := 2) (b := 2) (bits2 (by omega)) (bits2 (by omega)) (by decide), ?_⟩
          walk_at "zz"
          refine ⟨_, 1 + v3 * q, 4, rfl, by omega, bits4 (by omega), by decide, ?_⟩
          walk_at "zz"
          refine ⟨by rw [List.length_map]; omega, r ++ [_], _, _, by unfold rowD; rw [List.map_append]; rfl, .inr ⟨_, rfl⟩, by rw [List.length_append, hrl]; rfl, fun e he => ?_⟩
          rcases List.mem_append.mp he with he | he
          · exact hre e he
          · rw [List.mem_singleton.mp he]
            exact base_lv (by omega) (by omega) (by omega)
        · refine zF (by simp [d0]) ?_
          walk_at "zz"
          intro v3 c0 c1
          walk_at "zz"
          intro v4 g0 g1
          walk_at "zz"
          refine .inr ⟨_, rfl, ?_⟩
          have hz : (if decide (v4 = 0) = true then (1 : Int) else 0) = 0 ∨ (if decide (v4 = 0) = true then (1 : Int) else 0) = 1 := by split <;> simp
          generalize (if decide (v4 = 0) = true then (1 : Int) else 0) = q at hz
          have hq : 0 ≤ v3 * q ∧ v3 * q ≤ 2 := by rcases hz with rfl | rfl <;> simp <;> omega
          walk_at "zz"
          refine ⟨Bits.mulW (a := 2) (b := 2) (bits2 (by omega)) (bits2 (by omega)) (by decide), ?_⟩
          walk_at "zz"
          refine ⟨_, 1 + v3 * q, 4, rfl, by omega, bits4 (by omega), by decide, ?_⟩
          walk_at "zz"
          refine ⟨by rw [List.length_map]; omega, r ++ [_], _, _, by unfold rowD; rw [List.map_append]; rfl, .inr ⟨_, rfl⟩, by rw [List.length_append, hrl]; rfl, fun e he => ?_⟩
          rcases List.mem_append.mp he with he | he
          · exact hre e he
          · rw [List.mem_singleton.mp he]
            exact base_lv (by omega) (by omega) (by omega)
end
end Lq
local macro_rules | `(tactic| walk_at "z1") => `(tactic| first | ((with_reducible apply ze_inFv); exact rfl; exact rfl))
namespace Lq
def ratE (q : Rat) : Dt := .rat q.num (q.den : Int)
def ratL (t : Bool) (r : List Rat) : Dt := .lst t (r.map ratE)
def ratsD (t t' : Bool) (m : List (List Rat)) : Dt := .lst t (m.map (ratL t'))
theorem map_some {α β : Type} (f : α → β) (xs : List α) : xs.filterMap (fun x => some (f x)) = xs.map f := by
  induction xs with
  | nil => rfl
  | cons x xs ih =>
    rw [List.map_cons, ← ih]
    rfl
theorem map_if {α : Type} (f : α → Dt) (p : α → Bool) (xs : List α) : xs.filterMap (fun x => if p x then some (f x) else none) = (xs.filter p).map f := by
  induction xs with
  | nil => rfl
  | cons x xs ih =>
    by_cases h : p x = true
    · rw [List.filter_cons_of_pos h, List.map_cons, ← ih, List.filterMap_cons]
      simp [h]
    · rw [List.filter_cons_of_neg h, ← ih, List.filterMap_cons]
      simp [h]
theorem rat_low (q : Rat) : Low q.num (q.den : Int) := ⟨by have := q.den_pos; omega, by simpa using q.reduced⟩
section
variable {P : Program} {w : World} {K : PySem.W.Frag} {mg : Str → Option Value} {base : Heap}
def wRatios : Wz := fun ds Nv _ => ∃ m : List (List Rat), ds = [matD false false m] ∧ m.length ≤ 7 ∧ (∀ r ∈ m, r.length ≤ 7 ∧ ∀ e ∈ r, BQ 4000 e) ∧ Nv (ratsD true true m) true
set_option maxHeartbeats 4000000 in
theorem ok__law_ratios (T : Top w K mg) : FnOk P w K mg base CX0 4 (He.ga K ("_law_ratios" : Str)) (fdOf K d__law_ratios) ["rows"] (spZ K wRatios) := by
  obtain ⟨ds1, B1⟩ := T.b1_Ratio___init__
  refine (T.f__law_ratios).ok sc__law_ratios (fun vs H Q E h => spz_len h (n := 1) fun ds Nv Ne hw => ?_) (fun cdv A outer s H vs Q E hr h => ?_)
  · obtain ⟨_, rfl, _⟩ := hw
    rfl
  · refine z_fn h (PSs.nox (pss_one (ps_ret (pe_lockL (pe_lc (own := [(("row" : Str), 2)]) (g := (gName 2)) (tt := tYes) rfl sc__law_ratios.nd (pi_listK (K := K) rfl (pv 0)) (blkOk_by (N := ["rows", "one", "row"]) (sc := defScope s__law_ratios) (by decide +kernel)) (fun _ _ _ _ _ => (pg_name (i := 2) sc__law_ratios.nd rfl (Or.inl rfl))) (fun _ _ _ _ _ => pts_nil) (fun _ _ _ _ _ => (pe_lockL (pe_lc (own := [(("one" : Str), 1)]) (g := (gName 1)) (tt := tYes) rfl sc__law_ratios.nd (pi_listK (K := K) rfl (pv 2)) (blkOk_by (N := ["rows", "one", "row"]) (by first | decide +kernel | kernel_rfl)) (fun _ _ _ _ _ => (pg_name (i := 1) sc__law_ratios.nd rfl (Or.inl rfl))) (fun _ _ _ _ _ => pts_nil) (fun _ _ _ _ _ => (pe_make (C := He.ga K ("Ratio" : Str)) T.mk_Ratio (ok_Ratio___init__ (K := K) T) (hr.mono (by decide)) rfl T.g_Ratio (B1.2) (B1.1) passL (pa_cons (pe_ix (ix_tupK (K := K) rfl) (pv 1) pe_int (fun _ _ => rfl)) (pa_cons (pe_ix (ix_tupK (K := K) rfl) (pv 1) pe_int (fun _ _ => rfl)) pa_nil)))))))))))) fun ds Nv Ne hw => ?_
    obtain ⟨m, rfl, hm, hr, k⟩ := hw
    walk_at "zz"
    refine ze_lcM m (rowD false) (fun r => some (ratL true r)) (zi_list ?_)
    walk_at "zz"
    refine ⟨trivial, rfl, by omega, fun r hrm => ?_, ?_⟩
    · refine zgw_name (by decide) ?_
      walk_at "zz"
      obtain ⟨hl, he⟩ := hr r hrm
      refine ze_lcM r pq (fun e => some (ratE e)) (zi_list ?_)
      walk_at "zz"
      refine ⟨trivial, rfl, by omega, fun e hem => ?_, ?_⟩
      · have ek := he e hem
        have lw := rat_low e
        refine zgw_name (by decide) ?_
        walk_at "zz"
        refine ⟨e.num, (e.den : Int), .inl ⟨rfl, rfl⟩, den_neI e, Nat.lt_of_le_of_lt (sgc_abs (den_neI e)) (ek.2.mono (by decide)), rfl, ?_⟩
        rw [pn_low lw, pd_low lw]
        rfl
      · refine ⟨rfl, ?_⟩
        rw [map_some]
        rfl
    · rw [map_some]
      walk_at "zz"
      exact k
def wPairsQ : Wz := fun ds Nv _ => ∃ r : List Rat, ds = [ratL false r] ∧ r.length ≤ 7 ∧ Nv (rowD true r) true
set_option maxHeartbeats 4000000 in
theorem ok__law_pairs (T : Top w K mg) : FnOk P w K mg base CX0 4 (He.ga K ("_law_pairs" : Str)) (fdOf K d__law_pairs) ["row"] (spZ K wPairsQ) := by
  refine (T.f__law_pairs).ok sc__law_pairs (fun vs H Q E h => spz_len h (n := 1) fun ds Nv Ne hw => ?_) (fun cdv A outer s H vs Q E hr h => ?_)
  · obtain ⟨_, rfl, _⟩ := hw
    rfl
  · refine z_fn h (PSs.nox (pss_one (ps_ret (pe_lockL (pe_lc (own := [(("one" : Str), 1)]) (g := (gName 1)) (tt := tYes) rfl sc__law_pairs.nd (pi_listK (K := K) rfl (pv 0)) (blkOk_by (N := ["row", "one"]) (sc := defScope s__law_pairs) (by decide +kernel)) (fun _ _ _ _ _ => (pg_name (i := 1) sc__law_pairs.nd rfl (Or.inl rfl))) (fun _ _ _ _ _ => pts_nil) (fun _ _ _ _ _ => (pe_tup (pa_cons (pe_fldK (K := K) rfl (pv 1) rfl) (pa_cons (pe_fldK (K := K) rfl (pv 1) rfl) pa_nil))))))))) fun ds Nv Ne hw => ?_
    obtain ⟨r, rfl, hl, k⟩ := hw
    walk_at "zz"
    refine ze_lcM r ratE (fun e => some (pq e)) (zi_list ?_)
    walk_at "zz"
    refine ⟨trivial, rfl, by omega, fun e hem => ?_, ?_⟩
    · refine zgw_name (by decide) ?_
      walk_at "zz"
      refine ⟨_, _, .top _ _, T.cls_Ratio, T.na_Ratio_top, ?_⟩
      walk_at "zz"
      refine ⟨_, _, .bot _ _, T.cls_Ratio, T.na_Ratio_bottom, ?_⟩
      walk_at "zz"
      exact ⟨rfl, rfl⟩
    · rw [map_some]
      walk_at "zz"
      exact k
end
end Lq
/-! ### an owned list passed to a call, and still owned behind it: the result must hold no lists -/
mutual
def noLst2 : Dt → Bool
  | .non => true | .bl _ => true | .int _ => true | .str _ => true | .ty _ => true | .adr _ => true | .rat _ _ => true
  | .tup ds => noLst2s ds
  | .ins _ _ ds => noLst2s ds
  | .strm => false | .lst _ _ => false | .dic _ _ _ => false | .dit _ _ _ => false
def noLst2s : List Dt → Bool
  | [] => true
  | d :: ds => noLst2 d && noLst2s ds
end
def minus (F : Hp) (l : Addr) : Hp := fun a => if a = l then none else F a
theorem minus_at {F : Hp} {l a : Addr} {o : HO} {xs : List V} (hl : F l = some (.lst xs)) (h : F a = some o) (n : ∀ ys, o ≠ .lst ys) : minus F l a = some o := by
  unfold minus
  rw [if_neg (fun e => by rw [e, hl] at h; cases h; exact n xs rfl)]
  exact h
mutual
theorem rz_minus {K : PySem.W.Frag} {B F : Hp} {l : Addr} {xs : List V} (hl : F l = some (.lst xs)) : ∀ (d : Dt) (v : V), noLst2 d = true → Rz K B F d v → Rz K B (minus F l) d v
  | .non, _, _, h | .bl _, _, _, h | .int _, _, _, h | .str _, _, _, h | .ty _, _, _, h | .adr _, _, _, h => by simpa only [Rz] using h
  | .rat _ _, _, _, h => by
    simp only [Rz] at h ⊢
    obtain ⟨a, dx, r, h⟩ := h
    exact ⟨a, dx, r, minus_at hl h fun _ e => nomatch e⟩
  | .tup ds, _, n, h => by
    simp only [Rz] at h ⊢
    obtain ⟨a, ys, r, h1, h2⟩ := h
    exact ⟨a, ys, r, minus_at hl h1 fun _ e => (nomatch e), rzl_minus hl ds ys (by simpa only [noLst2] using n) h2⟩
  | .ins _ _ ds, _, n, h => by
    simp only [Rz] at h ⊢
    obtain ⟨a, dx, ys, r, h1, h4, h2⟩ := h
    exact ⟨a, dx, ys, r, minus_at hl h1 fun _ e => (nomatch e), h4, rzl_minus hl ds _ (by simpa only [noLst2] using n) h2⟩
  | .strm, _, n, _ | .lst _ _, _, n, _ | .dic _ _ _, _, n, _ | .dit _ _ _, _, n, _ => by simp only [noLst2] at n; cases n
theorem rzl_minus {K : PySem.W.Frag} {B F : Hp} {l : Addr} {xs : List V} (hl : F l = some (.lst xs)) : ∀ (ds : List Dt) (vs : List V), noLst2s ds = true → Rzl K B F ds vs → Rzl K B (minus F l) ds vs
  | [], _, _, h => by simpa only [Rzl] using h
  | d :: ds, _, n, h => by
    simp only [Rzl] at h ⊢
    obtain ⟨x, r, e0, h1, h2⟩ := h
    simp only [noLst2s, Bool.and_eq_true] at n
    exact ⟨x, r, e0, rz_minus hl d x n.1 h1, rzl_minus hl ds r n.2 h2⟩
end
/-- what may come back -/
def Back2 (y : Dt) (fr : Bool) : Prop := if fr = true then ∃ t ds, y = .lst t ds ∧ noLst2s ds = true else noLst2 y = true
section
variable {z : Cz} {ρ : List Sl} {N : Dt → Bool → List Sl → Prop} {ta : TE} {i : Nat} {w : Wz} {E : XK}
theorem got_minus {K : PySem.W.Frag} {F H F2 H2 : Hp} {l : Addr} {xs : List V} {fr : Bool} {y : Dt} {v : V} (f1 : F l = none) (b : Back2 y fr) (g : Got K (upd F l (.lst xs)) H F2 H2 fr y v) : Got K F H (minus F2 l) H2 fr y v := by
  obtain ⟨f, h, lk, nw, fz, r⟩ := g
  have hl : F2 l = some (.lst xs) := f _ _ upd_same
  have inv : ∀ {a : Addr} {o : HO}, minus F2 l a = some o → a ≠ l ∧ F2 a = some o := fun {a o} e => by
    unfold minus at e
    by_cases c : a = l
    · rw [if_pos c] at e; cases e
    · rw [if_neg c] at e; exact ⟨c, e⟩
  refine ⟨fun a o e => ?_, h, fun a o e => lk a o (inv e).2, fun a o e => ?_, fz, ?_⟩
  · have n : a ≠ l := fun c => by rw [c, f1] at e; cases e
    unfold minus
    rw [if_neg n]
    exact f _ _ (by rw [upd_ne n]; exact e)
  · obtain ⟨n, e2⟩ := inv e
    rcases nw a o e2 with q | q | q
    · rw [upd_ne n] at q
      exact .inl q
    · exact .inr (.inl q)
    · exact .inr (.inr q)
  · cases fr with
    | false => exact rz_minus hl y v b r
    | true =>
      rw [if_pos rfl] at r ⊢
      obtain ⟨l', rfl, q1, q2, ho, q3, q4⟩ := r
      obtain ⟨t, ds, rfl, nl⟩ : ∃ t ds, y = .lst t ds ∧ noLst2s ds = true := b
      refine ⟨l', rfl, ?_, q2, ho, q3, ?_⟩
      · unfold minus
        by_cases c : l' = l
        · rw [if_pos c]
        · rw [if_neg c]; exact q1
      · cases q4 with
        | lst q => exact .lst (rzl_minus hl _ _ nl q)
theorem ze_callKeep (h : ZE z ta ρ fun x _ ρ1 => ∃ (t : Bool) (ds : List Dt), ρ1[i]? = some (.o (.lst t ds)) ∧ w (Dt.olds [x, .lst t ds]) (fun y fr => Back2 y fr ∧ N y fr ρ1) fun _ _ => False) :
    ZE z (tCall (spZ z.K w) [] E (tCons ta (tCons (tVar i) tNil))) ρ N := fun m F H σ Q S k => by
  refine h m F H σ _ S fun x fx ρ1 F1 H1 vx n1 s1 S1 r1 => ?_
  obtain ⟨F2, s2, S2, rx⟩ := rzF_frz S1 r1
  obtain ⟨t, ds, hs, hw⟩ := n1
  obtain ⟨l, el, f1, b1, j1, ho, h4, h5⟩ := S2.geto hs
  cases h5 with
  | @lst xs _ r =>
    refine ⟨.ref l, el, ?_⟩
    have rl : Rz z.K m.B (upd F2 l (.lst xs)) (.lst true ds) (.ref l) := (HoR.lst r).rz b1 f1
    have rx2 : Rz z.K m.B (upd F2 l (.lst xs)) x vx := rz_mono (same_new f1) _ _ rx
    refine ⟨upd F2 l (.lst xs), Dt.olds [x, .lst true ds], _, _, S2.le.frz h4, rzl_old _ _ (.cons rx2 (.cons rl .nil)), hw, fun y fr F3 H3 v nd g => ?_, fun _ _ _ _ f => f.elim⟩
    have g2 := got_minus f1 nd.1 g
    obtain ⟨S3, r3⟩ := S2.got g2
    exact k _ _ _ _ _ _ nd.2 ((s1.trans s2).trans g2.1) S3 r3
end
/-! ### rows as lists: elimination as the law does it -/
namespace Lq
open Dg (Vc Vq stepQ redQ redQ_snoc Lk2 red dv Good link dv_snoc)
def vq (r : List Rat) : Vq := fun j => r.getD j 0
def stepL (x : List Rat × Nat) (r : List Rat) : List Rat := (List.range r.length).map fun j => r.getD j 0 - (r.getD x.2 0 / x.1.getD x.2 0) * x.1.getD j 0
def redL (lb : List (List Rat × Nat)) (r : List Rat) : List Rat := lb.foldl (fun r x => stepL x r) r
theorem redL_snoc (lb : List (List Rat × Nat)) (x : List Rat × Nat) (r : List Rat) : redL (lb ++ [x]) r = stepL x (redL lb r) := by
  unfold redL
  rw [List.foldl_append]
  rfl
theorem stepL_len (x : List Rat × Nat) (r : List Rat) : (stepL x r).length = r.length := by
  unfold stepL
  rw [List.length_map, List.length_range]
theorem stepL_at {x : List Rat × Nat} {r : List Rat} {j : Nat} (h : j < r.length) : (stepL x r).getD j 0 = r.getD j 0 - (r.getD x.2 0 / x.1.getD x.2 0) * x.1.getD j 0 := by
  unfold stepL
  rw [List.getD_eq_getElem?_getD, List.getElem?_map, List.getElem?_range h]
  rfl
theorem getD_out {α : Type} {r : List α} {j : Nat} {d : α} (h : r.length ≤ j) : r.getD j d = d := by
  rw [List.getD_eq_getElem?_getD, List.getElem?_eq_none h]
  rfl
theorem getD_in {α : Type} {r : List α} {j : Nat} {d : α} (h : j < r.length) : r[j]? = some (r.getD j d) := by
  rw [List.getD_eq_getElem?_getD, List.getElem?_eq_getElem h]
  rfl
theorem getD_mem {α : Type} {r : List α} {j : Nat} {d : α} (h : j < r.length) : r.getD j d ∈ r := List.mem_of_getElem? (getD_in h)
theorem vq_step {x : List Rat × Nat} {r : List Rat} (h : x.1.length = r.length) : vq (stepL x r) = stepQ (vq x.1, x.2) (vq r) := by
  funext j
  show (stepL x r).getD j 0 = r.getD j 0 - (r.getD x.2 0 / x.1.getD x.2 0) * x.1.getD j 0
  by_cases c : j < r.length
  · exact stepL_at c
  · rw [getD_out (by rw [stepL_len]; omega), getD_out (r := r) (j := j) (by omega), getD_out (r := x.1) (j := j) (by omega)]
    grind
theorem redL_len (lb : List (List Rat × Nat)) : ∀ r : List Rat, (redL lb r).length = r.length := by
  induction lb with
  | nil => intro r; rfl
  | cons x lb ih =>
    intro r
    show (redL lb (stepL x r)).length = _
    rw [ih, stepL_len]
def toV (lb : List (List Rat × Nat)) : List (Vq × Nat) := lb.map fun x => (vq x.1, x.2)
theorem vq_red {n : Nat} (lb : List (List Rat × Nat)) : ∀ r : List Rat, r.length = n → (∀ x ∈ lb, x.1.length = n) → vq (redL lb r) = redQ (toV lb) (vq r) := by
  induction lb with
  | nil => intro r _ _; rfl
  | cons x lb ih =>
    intro r hr hl
    show vq (redL lb (stepL x r)) = redQ (toV lb) (stepQ (vq x.1, x.2) (vq r))
    rw [ih (stepL x r) (by rw [stepL_len, hr]) (fun y hy => hl y (List.mem_cons_of_mem _ hy)), vq_step (by rw [hr]; exact hl x (by simp))]
/-- a step that finds nothing at the lead leaves the row -/
theorem stepL_zero {x : List Rat × Nat} {r : List Rat} (h : r.getD x.2 0 = 0) : stepL x r = r := by
  refine List.ext_getElem? fun j => ?_
  by_cases c : j < r.length
  · rw [getD_in (d := 0) c, getD_in (d := 0) (by rw [stepL_len]; exact c), stepL_at c, h]
    congr 1
    grind
  · rw [List.getElem?_eq_none (l := r) (by omega), List.getElem?_eq_none (by rw [stepL_len]; omega)]
/-! #### what is built row by row, with its bounds -/
inductive ChQ (n M : Nat) : List (List Rat × Nat) → Prop
  | nil : ChQ n M []
  | snoc {lb : List (List Rat × Nat)} {r : List Rat} {l : Nat} : ChQ n M lb → r.length = n → (∀ e ∈ r, SmQ M (2 ^ 80) e) → l < n → (redL lb r).getD l 0 ≠ 0 → ChQ n M (lb ++ [(redL lb r, l)])
def bb : Nat → Nat
  | 0 => 90
  | i + 1 => 2 * bb i + 1
def WB (bs : List (Vc × Nat)) : Prop := ∀ v : Vc, (∀ j, Bits 90 (v j)) → ∀ j, Bits (bb bs.length) (red bs v j)
theorem WB.snoc {bs : List (Vc × Nat)} (g : Good bs) (h : WB bs) {R : Vc} {l : Nat} (hp : red bs R l ≠ 0) (hR : ∀ j, Bits 90 (R j)) : WB (bs ++ [(red bs R, l)]) := fun v hv j => by
  have e := g.step hp v j
  have b1 := (h R hR l).mul (h v hv j)
  have b2 := (h v hv l).mul (h R hR j)
  rw [List.length_append]
  show Bits (2 * bb bs.length + 1) _
  have a1 : (dv bs * red (bs ++ [(red bs R, l)]) v j).natAbs < 2 ^ (2 * bb bs.length + 1) := by
    rw [e]
    have p : 2 ^ (2 * bb bs.length + 1) = 2 ^ (bb bs.length + bb bs.length) + 2 ^ (bb bs.length + bb bs.length) := by rw [Nat.pow_succ, show 2 * bb bs.length = bb bs.length + bb bs.length by omega]; omega
    unfold Bits at b1 b2
    omega
  rw [Int.natAbs_mul] at a1
  have d1 : 1 ≤ (dv bs).natAbs := by have := g.ne; omega
  unfold Bits
  exact Nat.lt_of_le_of_lt (Nat.le_trans (Nat.le_of_eq (Nat.one_mul _).symm) (Nat.mul_le_mul_right _ d1)) a1
def numsF (M : Nat) (r : List Rat) (R : Vc) : Prop := (∀ j, (R j : Rat) = ((M : Int) : Rat) * r.getD j 0) ∧ ∀ j, Bits 90 (R j)
theorem SmQ.zero {M B : Nat} : SmQ M B 0 := ⟨0, by show (0 : Rat) = (0 : Rat) / _; grind, by simp⟩
theorem nums_of {M : Nat} (hM : M ≠ 0) {r : List Rat} (h : ∀ e ∈ r, SmQ M (2 ^ 80) e) : ∃ R : Vc, numsF M r R := by
  have q : ∀ j, ∃ i : Int, (i : Rat) = ((M : Int) : Rat) * r.getD j 0 ∧ Bits 90 i := fun j => by
    have s : SmQ M (2 ^ 80) (r.getD j 0) := by
      by_cases c : j < r.length
      · exact h _ (getD_mem c)
      · rw [getD_out (by omega)]; exact SmQ.zero
    obtain ⟨n, e, b⟩ := s
    have h1 : ((M : Int) : Rat) ≠ 0 := int_ne (by omega)
    refine ⟨n, by rw [e]; generalize ((M : Int) : Rat) = a at *; grind, Nat.lt_of_le_of_lt b (by decide)⟩
  exact ⟨fun j => Classical.choose (q j), fun j => (Classical.choose_spec (q j)).1, fun j => (Classical.choose_spec (q j)).2⟩
theorem ChQ.len {n M : Nat} {lb : List (List Rat × Nat)} (h : ChQ n M lb) : ∀ x ∈ lb, x.1.length = n ∧ x.2 < n := by
  induction h with
  | nil => intro x hx; cases hx
  | snoc h hr he hl hp ih =>
    intro x hx
    rcases List.mem_append.mp hx with hx | hx
    · exact ih x hx
    · rw [List.mem_singleton.mp hx]
      exact ⟨by rw [redL_len, hr], hl⟩
theorem toV_snoc (lb : List (List Rat × Nat)) (x : List Rat × Nat) : toV (lb ++ [x]) = toV lb ++ [(vq x.1, x.2)] := by
  unfold toV
  rw [List.map_append]
  rfl
theorem red_ne {J : Nat → Prop} {bs : List (Vc × Nat)} {lb : List (Vq × Nat)} (h : Lk2 J bs lb) {R : Vc} {q : Vq} {s : Rat} (hs : s ≠ 0) (e : ∀ j, J j → (R j : Rat) = s * q j) {j : Nat} (hj : J j) : red bs R j = 0 ↔ redQ lb q j = 0 := by
  obtain ⟨g, l⟩ := link h
  have e2 := l R q s e j hj
  have d0 : (dv bs : Rat) ≠ 0 := int_ne g.ne
  constructor
  · intro z
    rw [z] at e2
    have z0 : ((0 : Int) : Rat) = 0 := rfl
    rw [z0] at e2
    generalize (dv bs : Rat) = a at *
    generalize redQ lb q j = b at *
    have : s * a ≠ 0 := by
      intro z
      rcases Rat.mul_eq_zero.mp z with z | z
      · exact hs z
      · exact d0 z
    rcases Rat.mul_eq_zero.mp e2.symm with z | z
    · exact absurd z this
    · exact z
  · intro z
    rw [z] at e2
    have : (red bs R j : Rat) = ((0 : Int) : Rat) := by rw [e2]; show _ = (0 : Rat); grind
    exact Rat.intCast_inj.mp this
theorem ChQ.part {n M : Nat} (hM : M ≠ 0) {lb : List (List Rat × Nat)} (h : ChQ n M lb) : ∃ bs, Lk2 (fun j => j < n) bs (toV lb) ∧ WB bs ∧ bs.length = lb.length ∧ Bits (bb (lb.length - 1)) (dv bs) := by
  induction h with
  | nil => exact ⟨[], .nil, fun v hv j => hv j, rfl, by show (1 : Int).natAbs < 2 ^ 90; decide⟩
  | @snoc lb r l h hr he hl hp ih =>
    obtain ⟨bs, k, wb, ln, _⟩ := ih
    obtain ⟨R, hR, bR⟩ := nums_of hM he
    have v := vq_red lb r hr fun x hx => (h.len x hx).1
    have ms : ((M : Int) : Rat) ≠ 0 := int_ne (by omega)
    have p : red bs R l ≠ 0 := fun z => hp (by
      have := (red_ne k ms (q := vq r) (fun j _ => hR j) hl).mp z
      rw [← v] at this
      exact this)
    refine ⟨bs ++ [(red bs R, l)], ?_, wb.snoc (link k).1 p bR, by rw [List.length_append, List.length_append, ln]; rfl, ?_⟩
    · rw [toV_snoc]
      show Lk2 _ _ (toV lb ++ [(vq (redL lb r), l)])
      rw [v]
      exact .snoc k hl ms (fun j _ => hR j) p
    · rw [dv_snoc, List.length_append]
      show Bits (bb (lb.length + 1 - 1)) _
      rw [Nat.add_sub_cancel, ← ln]
      exact wb R bR l
theorem bb_mono {i j : Nat} (h : i ≤ j) : bb i ≤ bb j := by
  induction h with
  | refl => exact Nat.le_refl _
  | step _ ih => exact Nat.le_trans ih (by show _ ≤ 2 * bb _ + 1; omega)
/-- what is left of a row has few signs -/
theorem ChQ.bits {n M : Nat} (hM : M ≠ 0) (hM2 : M < 2 ^ 40) {lb : List (List Rat × Nat)} (h : ChQ n M lb) (hl : lb.length ≤ 4) {r : List Rat} (hr : r.length = n) (he : ∀ e ∈ r, SmQ M (2 ^ 80) e) : ∀ e ∈ redL lb r, BQ 1500 e := fun e hm => by
  obtain ⟨bs, k, wb, ln, db⟩ := h.part hM
  obtain ⟨R, hR, bR⟩ := nums_of hM he
  have v := vq_red lb r hr fun x hx => (h.len x hx).1
  have ms : ((M : Int) : Rat) ≠ 0 := int_ne (by omega)
  obtain ⟨j, hj, rfl⟩ := List.mem_iff_getElem.mp hm
  have hj2 : j < n := by rw [redL_len, hr] at hj; exact hj
  obtain ⟨g, l⟩ := link k
  have e2 := l R (vq r) _ (fun j _ => hR j) j hj2
  rw [← v] at e2
  have e3 : vq (redL lb r) j = (redL lb r)[j] := by
    show (redL lb r).getD j 0 = _
    rw [List.getD_eq_getElem?_getD, List.getElem?_eq_getElem hj]
    rfl
  rw [e3] at e2
  have d0 : (dv bs : Rat) ≠ 0 := int_ne g.ne
  have e4 : (redL lb r)[j] = (red bs R j : Rat) / ((((M : Int) * dv bs : Int)) : Rat) := by
    rw [Rat.intCast_mul]
    generalize (redL lb r)[j] = y at *
    generalize (dv bs : Rat) = d at *
    generalize ((M : Int) : Rat) = m at *
    rw [e2]
    grind
  rw [e4]
  have b4 : bb bs.length ≤ bb 4 := bb_mono (by omega)
  have b5 : bb (lb.length - 1) ≤ bb 3 := bb_mono (by omega)
  have c4 : bb 4 = 1455 := rfl
  have c3 : bb 3 = 727 := rfl
  refine BQ.of (Int.mul_ne_zero (by omega) g.ne) ((wb R bR j).mono (by omega)) ?_
  exact ((show Bits 40 (M : Int) by unfold Bits; omega).mul db).mono (by omega)
theorem ChQ.take {n M : Nat} {lb : List (List Rat × Nat)} (h : ChQ n M lb) : ∀ i, ChQ n M (lb.take i) := by
  induction h with
  | nil => intro i; rw [List.take_nil]; exact .nil
  | @snoc lb r l h hr he hl hp ih =>
    intro i
    by_cases c : i ≤ lb.length
    · rw [List.take_append_of_le_length c]
      exact ih i
    · rw [List.take_of_length_le (by rw [List.length_append, List.length_singleton]; omega)]
      exact .snoc h hr he hl hp
theorem ChQ.rows {n M : Nat} (hM : M ≠ 0) (hM2 : M < 2 ^ 40) {lb : List (List Rat × Nat)} (h : ChQ n M lb) (hl : lb.length ≤ 5) : ∀ x ∈ lb, (∀ e ∈ x.1, BQ 1500 e) ∧ x.1.getD x.2 0 ≠ 0 := by
  induction h with
  | nil => intro x hx; cases hx
  | @snoc lb r l h hr he hl2 hp ih =>
    intro x hx
    rw [List.length_append, List.length_singleton] at hl
    rcases List.mem_append.mp hx with hx | hx
    · exact ih (by omega) x hx
    · rw [List.mem_singleton.mp hx]
      exact ⟨h.bits hM hM2 (by omega) hr he, hp⟩
/-! #### the rows that are no sums of those ahead -/
def fnz (n : Nat) (r : List Rat) : Option Nat := (List.range n).find? fun j => decide (r.getD j 0 ≠ 0)
def stepB (n : Nat) (lb : List (List Rat × Nat)) (r : List Rat) : List (List Rat × Nat) := match fnz n (redL lb r) with
  | some l => lb ++ [(redL lb r, l)]
  | none => lb
def lbOf (n : Nat) (m : List (List Rat)) : List (List Rat × Nat) := m.foldl (stepB n) []
theorem lbOf_snoc (n : Nat) (m : List (List Rat)) (r : List Rat) : lbOf n (m ++ [r]) = stepB n (lbOf n m) r := by
  unfold lbOf
  rw [List.foldl_append]
  rfl
theorem fnz_some {n l : Nat} {r : List Rat} (h : fnz n r = some l) : l < n ∧ r.getD l 0 ≠ 0 := by
  have h1 := List.find?_some h
  have h2 := List.mem_of_find?_eq_some h
  exact ⟨List.mem_range.mp h2, by simpa using h1⟩
theorem fnz_none {n : Nat} {r : List Rat} (h : fnz n r = none) : ∀ j < n, r.getD j 0 = 0 := fun j hj => by
  have := List.find?_eq_none.mp h j (List.mem_range.mpr hj)
  simpa using this
theorem chq_step {n M : Nat} {lb : List (List Rat × Nat)} {r : List Rat} (h : ChQ n M lb) (hr : r.length = n) (he : ∀ e ∈ r, SmQ M (2 ^ 80) e) : ChQ n M (stepB n lb r) := by
  unfold stepB
  cases c : fnz n (redL lb r) with
  | none => exact h
  | some l => exact .snoc h hr he (fnz_some c).1 (fnz_some c).2
theorem chq_of {n M : Nat} {m : List (List Rat)} (h : ∀ r ∈ m, r.length = n ∧ ∀ e ∈ r, SmQ M (2 ^ 80) e) : ∀ i, ChQ n M (lbOf n (m.take i)) := by
  intro i
  induction i with
  | zero => rw [List.take_zero]; exact .nil
  | succ i ih =>
    cases c : m[i]? with
    | none => rw [List.take_succ, c]; simpa using ih
    | some r =>
      rw [List.take_succ, c]
      show ChQ n M (lbOf n (m.take i ++ [r]))
      rw [lbOf_snoc]
      obtain ⟨h1, h2⟩ := h r (List.mem_of_getElem? c)
      exact chq_step ih h1 h2
theorem stepB_le (n : Nat) (lb : List (List Rat × Nat)) (r : List Rat) : (stepB n lb r).length ≤ lb.length + 1 := by
  unfold stepB
  split
  · rw [List.length_append]; exact Nat.le_refl _
  · omega
theorem lbOf_le (n : Nat) (m : List (List Rat)) : (lbOf n m).length ≤ m.length := by
  have : ∀ (m : List (List Rat)) (lb : List (List Rat × Nat)), (m.foldl (stepB n) lb).length ≤ lb.length + m.length := by
    intro m
    induction m with
    | nil => intro lb; exact Nat.le_refl _
    | cons r m ih =>
      intro lb
      have := stepB_le n lb r
      have := ih (stepB n lb r)
      rw [List.length_cons]
      show (m.foldl (stepB n) (stepB n lb r)).length ≤ _
      omega
  have h := this m []
  rw [List.length_nil, Nat.zero_add] at h
  exact h
end Lq
namespace Lq
def basD (t t' : Bool) (lb : List (List Rat × Nat)) : Dt := .lst t (lb.map fun x => .tup [.int (x.2 : Int), rowD t' x.1])
theorem BQ.one : BQ 1 (-1) := ⟨by show (-1 : Int).natAbs < 2 ^ 1; decide, by show (1 : Int).natAbs < 2 ^ 1; decide⟩
theorem neg_pq : pq (-1) = .tup [.int (-1), .int 1] := rfl
theorem map_at {α β : Type} {f : α → β} {xs : List α} {i : Nat} {d : β} (h : (xs.map f)[i]? = some d) : ∃ x, xs[i]? = some x ∧ d = f x := by
  rw [List.getElem?_map] at h
  cases c : xs[i]? with
  | none => rw [c] at h; cases h
  | some x => rw [c] at h; cases h; exact ⟨x, rfl, rfl⟩
theorem atI_D {α : Type} {f : α → Dt} {xs : List α} {j : Nat} {d : α} (h : j < xs.length) : atI (xs.map f) (j : Int) = some (f (xs.getD j d)) := atI_k (by rw [List.getElem?_map, getD_in h]; rfl)
theorem rng2 {j i : Nat} {d : Dt} (h : (List.map (fun (i : Nat) => Dt.int (i : Int)) (List.range ((j : Int)).toNat))[i]? = some d) : i < j ∧ d = .int (i : Int) := rng_at h
theorem take_snoc {α : Type} {xs : List α} {i : Nat} {x : α} (h : xs[i]? = some x) : xs.take (i + 1) = xs.take i ++ [x] := by
  rw [List.take_succ, h]
  rfl
theorem factor_eq (y x : Rat) : -1 * y / x = -(y / x) := by grind
section
variable {P : Program} {w : World} {K : PySem.W.Frag} {mg : Str → Option Value} {base : Heap}
def wLeft : Wz := fun ds Nv _ => ∃ (n M : Nat) (r : List Rat) (lb : List (List Rat × Nat)), ds = [rowD false r, basD false false lb] ∧ M ≠ 0 ∧ M < 2 ^ 40 ∧ n ≤ 7 ∧ ChQ n M lb ∧ lb.length ≤ 5 ∧ r.length = n ∧ (∀ e ∈ r, SmQ M (2 ^ 80) e) ∧ Nv (rowD true (redL lb r)) true
set_option maxHeartbeats 4000000 in
theorem ok__law_left (T : Top w K mg) : FnOk P w K mg base CX0 4 (He.ga K ("_law_left" : Str)) (fdOf K d__law_left) ["row", "basis"] (spZ K wLeft) := by
  refine (T.f__law_left).ok sc__law_left (fun vs H Q E h => spz_len h (n := 2) fun ds Nv Ne hw => ?_) (fun cdv A outer s H vs Q E hr h => ?_)
  · obtain ⟨_, _, _, _, rfl, _⟩ := hw
    rfl
  · refine z_fn h (PSs.nox (pss_cons (ps_set (i := 0) sc__law_left.nd rfl (Or.inr rfl) (pe_callTy (call_listZ (K := K) rfl rfl) (by rfl) T.n_list (by decide +kernel) (pa_cons (pv 0) pa_nil)))
    (pss_cons (ps_lockL (ps_for PassesOwn.never rfl (pi_listK (K := K) rfl (pv 1)) (pg_tup (by rfl) (pgs_cons (pg_name (i := 2) sc__law_left.nd rfl (Or.inl rfl)) (pgs_cons (pg_name (i := 3) sc__law_left.nd rfl (Or.inr rfl)) pgs_nil)))
    (pss_one (ps_if (pt_cmpR op_ne (pe_ix (ix_tupK (K := K) rfl) (pe_ix (ix_listK (K := K) rfl) (pv 0) (pv 2) (fun _ _ => rfl)) pe_int (fun _ _ => rfl)) pe_int (nomark _))
    (pss_cons (ps_set (i := 4) sc__law_left.nd rfl (Or.inr rfl) (pe_call (ok__law_over (K := K) T) (hr.mono (by decide)) rfl T.g__law_over T.f__law_over.kp T.b__law_over .nil pass0 (pa_cons (pe_call (ok__law_times (K := K) T) (hr.mono (by decide)) rfl T.g__law_times T.f__law_times.kp T.b__law_times .nil pass0 (pa_cons (pe_tup (pa_cons (pe_un un_neg pe_int) (pa_cons pe_int pa_nil))) (pa_cons (pe_ix (ix_listK (K := K) rfl) (pv 0) (pv 2) (fun _ _ => rfl)) pa_nil))) (pa_cons (pe_ix (ix_listK (K := K) rfl) (pv 3) (pv 2) (fun _ _ => rfl)) pa_nil))))
    (pss_one (ps_set (i := 0) sc__law_left.nd rfl (Or.inr rfl) (pe_lockL (pe_lc (own := [(("j" : Str), 5)]) (g := (gName 5)) (tt := tYes) rfl sc__law_left.nd (pi_range1 rfl T.n_range (pa_cons (pe_callB (call_lenZ (K := K) rfl) (by rfl) T.n_len PySem.boot_len (pa_cons (pv 0) pa_nil)) pa_nil)) (blkOk_by (N := ["row", "basis", "at", "other", "factor", "j"]) (sc := defScope s__law_left) (by decide +kernel)) (fun _ _ _ _ _ => (pg_name (i := 5) sc__law_left.nd rfl (Or.inl rfl))) (fun _ _ _ _ _ => pts_nil) (fun _ _ _ _ _ => (pe_call (ok__law_sum (K := K) T) (hr.mono (by decide)) rfl T.g__law_sum T.f__law_sum.kp T.b__law_sum .nil pass0 (pa_cons (pe_ix (ix_listK (K := K) rfl) (pv 0) (pv 5) (fun _ _ => rfl)) (pa_cons (pe_call (ok__law_times (K := K) T) (hr.mono (by decide)) rfl T.g__law_times T.f__law_times.kp T.b__law_times .nil pass0 (pa_cons (pv 4) (pa_cons (pe_ix (ix_listK (K := K) rfl) (pv 3) (pv 5) (fun _ _ => rfl)) pa_nil))) pa_nil)))))))))
    pss_nil))))
    (pss_one (ps_ret (pv 0)))))) fun ds Nv Ne hw => ?_
    obtain ⟨n, M, r, lb, rfl, hM, hM2, hn, hc, hl, hr, he, k⟩ := hw
    walk_at "zz"
    refine zs_forL (zi_list ?_)
    walk_at "zz"
    have bx := hc.rows hM hM2 hl
    have ln := hc.len
    refine ⟨_, _, rfl, fun i ρ => ∃ p2 p3 p4 p5, ρ = [.o (rowD true (redL (lb.take i) r)), .v (basD false false lb), p2, p3, p4, p5] ∧ jOk p5, ⟨_, _, _, _, rfl, .inl rfl⟩, ?_, ?_⟩
    · rintro ρ ⟨p2, p3, p4, p5, rfl, _⟩
      refine ⟨trivial, ?_⟩
      dsimp only [bI]
      rw [List.length_map, List.take_length]
      walk_at "zz"
      exact k
    · rintro i d ρ hd ⟨p2, p3, p4, p5, rfl, h5⟩
      obtain ⟨x, hx, rfl⟩ := map_at hd
      have hxm := List.mem_of_getElem? hx
      obtain ⟨l1, l2⟩ := ln x hxm
      obtain ⟨bx1, bx2⟩ := bx x hxm
      have hi : i < lb.length := (List.getElem?_eq_some_iff.mp hx).1
      have ht : lb.take (i + 1) = lb.take i ++ [x] := take_snoc hx
      have hln : (redL (lb.take i) r).length = n := by rw [redL_len, hr]
      have hb := (hc.take i).bits hM hM2 (by rw [List.length_take]; omega) hr he
      have e2 : redL (lb.take (i + 1)) r = stepL x (redL (lb.take i) r) := by rw [ht, redL_snoc]
      generalize redL (lb.take i) r = q at hb hln e2 ⊢
      have aq : atI (q.map pq) (x.2 : Int) = some (pq (q.getD x.2 0)) := atI_D (by omega)
      have ax : atI (x.1.map pq) (x.2 : Int) = some (pq (x.1.getD x.2 0)) := atI_D (by omega)
      have bq2 := hb _ (getD_mem (d := (0 : Rat)) (show x.2 < q.length by omega))
      have bx3 := bx1 _ (getD_mem (d := (0 : Rat)) (show x.2 < x.1.length by omega))
      refine zg_tup rfl ?_
      walk_at "zz"
      refine ⟨_, _, _, _, _, rfl,   .inr (.inl rfl), rfl, aq, ?_⟩
      walk_at "zz"
      have goal : ∀ p4 p5 : Sl, jOk p5 → ∃ p2 p3 p4' p5', [Sl.o (rowD true (stepL x q)), .v (basD false false lb), .v (.int (x.2 : Int)), .v (rowD false x.1), p4, p5] = [Sl.o (rowD true (redL (lb.take (i + 1)) r)), .v (basD false false lb), p2, p3, p4', p5'] ∧ jOk p5' := fun p4 p5 h => ⟨_, _, _, _, by rw [e2], h⟩
      by_cases c : (q.getD x.2 0).num = 0
      · refine zF (by have c2 := Lq.num_zero.mp c; simpa using c2) ?_
        walk_at "zz"
        have := goal p4 p5 h5
        rw [stepL_zero (Lq.num_zero.mp c)] at this
        exact this
      · refine zT (by have c2 := fun z => c (Lq.num_zero.mpr z); simpa using c2) ?_
        walk_at "zz"
        refine ⟨_, _, _, _, _, rfl,   .inr (.inl rfl), rfl, aq, ?_⟩
        walk_at "zz"
        refine ⟨-1, _, 1, 1500, by rw [← neg_pq]; rfl, BQ.one, bq2, by decide, ?_⟩
        walk_at "zz"
        refine ⟨_, _, _, _, _, rfl, .inl rfl, rfl, ax, ?_⟩
        walk_at "zz"
        have b2 : BQ 1501 (-1 * q.getD x.2 0) := BQ.one.mul bq2
        refine ⟨_, _, 1501, 1500, rfl, bx2, b2, bx3, by decide, ?_⟩
        walk_at "zz"
        have b3 := b2.div bx2 bx3
        refine ze_lcW (zi_range1 ?_)
        walk_at "zz"
        have okw : okW ([Sl.o (rowD true q), .v (basD false false lb), .v (.int (x.2 : Int)), .v (rowD false x.1), .v (pq (-1 * q.getD x.2 0 / x.1.getD x.2 0)), p5]) [5] = true := by rcases h5 with rfl | ⟨_, rfl⟩ <;> rfl
        refine ⟨by rw [List.length_map]; omega, by rw [List.length_map]; omega, trivial, okw, ?_, fun j ad => ad = ((stepL x q).take j).map pq, rfl, ?_, ?_⟩
        · rw [List.length_map, List.length_range, List.length_map]; omega
        · rintro j d ad hd rfl
          obtain ⟨hj, rfl⟩ := rng2 hd
          rw [List.length_map] at hj
          refine zgw_name (by decide) ?_
          walk_at "zz"
          have aj : atI (q.map pq) (j : Int) = some (pq (q.getD j 0)) := atI_D hj
          have bj : atI (x.1.map pq) (j : Int) = some (pq (x.1.getD j 0)) := atI_D (by omega)
          have bqj := hb _ (getD_mem (d := (0 : Rat)) hj)
          have bxj := bx1 _ (getD_mem (d := (0 : Rat)) (show j < x.1.length by omega))
          refine ⟨_, _, _, _, _, rfl, .inr (.inl rfl), rfl, aj, ?_⟩
          walk_at "zz"
          refine ⟨_, _, _, _, _, rfl, .inl rfl, rfl, bj, ?_⟩
          walk_at "zz"
          refine ⟨_, _, 3001, 1500, rfl, b3, bxj, by decide, ?_⟩
          walk_at "zz"
          refine ⟨_, _, 1500, 4501, rfl, bqj.w (by decide), (b3.mul bxj).w (by decide), by decide, ?_⟩
          refine ⟨by rcases h5 with rfl | ⟨_, rfl⟩ <;> rfl, ?_⟩
          show _ = ((stepL x q).take (j + 1)).map pq
          rw [take_snoc (getD_in (d := (0 : Rat)) (show j < (stepL x q).length by rw [stepL_len]; exact hj)), List.map_append, stepL_at hj]
          have : q.getD j 0 - q.getD x.2 0 / x.1.getD x.2 0 * x.1.getD j 0 = q.getD j 0 + -1 * q.getD x.2 0 / x.1.getD x.2 0 * x.1.getD j 0 := by
            generalize q.getD j 0 = a1
            generalize q.getD x.2 0 = a2
            generalize x.1.getD x.2 0 = a3
            generalize x.1.getD j 0 = a4
            grind
          rw [this]
          rfl
        · rintro ad rfl
          rw [List.length_map, List.length_range, Int.toNat_natCast, List.length_map, List.take_of_length_le (by rw [stepL_len]; exact Nat.le_refl _)]
          walk_at "zz"
          exact goal _ _ h5
end
end Lq
namespace Lq
section
local macro_rules | `(tactic| walk_at "z1") => `(tactic| first | (with_reducible apply ze_callKeep))
section
variable {P : Program} {w : World} {K : PySem.W.Frag} {mg : Str → Option Value} {base : Heap}
theorem rowD_old (t : Bool) (r : List Rat) : (rowD t r).old = rowD false r := by
  show Dt.lst false (Dt.olds _) = _
  rw [olds_map, List.map_map]
  rfl
theorem matD_old (t t' : Bool) (m : List (List Rat)) : (matD t t' m).old = matD false false m := by
  show Dt.lst false (Dt.olds _) = _
  rw [olds_map, List.map_map]
  unfold matD
  congr 1
  exact List.map_congr_left fun r _ => rowD_old t' r
theorem noLs_pq : ∀ r : List Rat, noLst2s (r.map pq) = true
  | [] => rfl
  | q :: r => by
    rw [List.map_cons]
    show (noLst2 (pq q) && noLst2s (r.map pq)) = true
    rw [noLs_pq r]
    rfl
theorem back2_lst {t : Bool} {ds : List Dt} (h : noLst2s ds = true) : Back2 (.lst t ds) true := by
  unfold Back2
  rw [if_pos rfl]
  exact ⟨t, ds, rfl, h⟩
theorem head_fnz (n : Nat) (r : List Rat) : ((List.range n).filter fun j => decide (r.getD j 0 ≠ 0)).head? = fnz n r := by
  rw [List.head?_filter]
  rfl
def RowsQ (n M : Nat) (m : List (List Rat)) : Prop := ∀ r ∈ m, r.length = n ∧ ∀ e ∈ r, SmQ M (2 ^ 80) e
/-- the places of the rows that are kept, of the first i -/
def bidx (n : Nat) (m : List (List Rat)) : Nat → List Nat
  | 0 => []
  | i + 1 => match fnz n (redL (lbOf n (m.take i)) (m.getD i [])) with
    | some _ => bidx n m i ++ [i]
    | none => bidx n m i
theorem bidx_len (n : Nat) (m : List (List Rat)) : ∀ i ≤ m.length, (bidx n m i).length = (lbOf n (m.take i)).length
  | 0, _ => rfl
  | i + 1, hi => by
    have ih := bidx_len n m i (by omega)
    rw [take_snoc (getD_in (d := ([] : List Rat)) (show i < m.length by omega)), lbOf_snoc]
    unfold bidx stepB
    cases fnz n (redL (lbOf n (m.take i)) (m.getD i [])) with
    | none => exact ih
    | some l => dsimp only; rw [List.length_append, List.length_append, ih]; rfl
theorem bidx_lt (n : Nat) (m : List (List Rat)) : ∀ i, ∀ k ∈ bidx n m i, k < i
  | 0, _, h => nomatch h
  | i + 1, k, h => by
    unfold bidx at h
    split at h
    · rcases List.mem_append.mp h with h | h
      · have := bidx_lt n m i k h; omega
      · rw [List.mem_singleton.mp h]; omega
    · have := bidx_lt n m i k h; omega
def idxD (t : Bool) (ns : List Nat) : Dt := .lst t (ns.map fun k : Nat => Dt.int (k : Int))
def wBasis : Wz := fun ds Nv _ => ∃ (n M : Nat) (m : List (List Rat)), ds = [matD false false m, .int (n : Int)] ∧ M ≠ 0 ∧ M < 2 ^ 40 ∧ n ≤ 7 ∧ m.length ≤ 6 ∧ RowsQ n M m ∧ Nv (idxD true (bidx n m m.length)) true
set_option maxHeartbeats 4000000 in
theorem ok__law_basis (T : Top w K mg) : FnOk P w K mg base CX0 5 (He.ga K ("_law_basis" : Str)) (fdOf K d__law_basis) ["rows", "wide"] (spZ K wBasis) := by
  refine (T.f__law_basis).ok sc__law_basis (fun vs H Q E h => spz_len h (n := 2) fun ds Nv Ne hw => ?_) (fun cdv A outer s H vs Q E hr h => ?_)
  · obtain ⟨_, _, _, rfl, _⟩ := hw
    rfl
  · refine z_fn h (PSs.nox (pss_cons (ps_set (i := 2) sc__law_basis.nd rfl (Or.inl rfl) (pe_lst pa_nil))
    (pss_cons (ps_set (i := 3) sc__law_basis.nd rfl (Or.inl rfl) (pe_lst pa_nil))
    (pss_cons (ps_lockL (ps_for PassesOwn.never rfl (pi_range1 rfl T.n_range (pa_cons (pe_callB (call_lenZ (K := K) rfl) (by rfl) T.n_len PySem.boot_len (pa_cons (pv 0) pa_nil)) pa_nil)) (pg_name (i := 4) sc__law_basis.nd rfl (Or.inl rfl))
    (pss_cons (ps_set (i := 5) sc__law_basis.nd rfl (Or.inr rfl) (pe_call (ok__law_left (K := K) T) (hr.mono (by decide)) rfl T.g__law_left T.f__law_left.kp T.b__law_left .nil pass0 (pa_cons (pe_ix (ix_listK (K := K) rfl) (pv 0) (pv 4) (fun _ _ => rfl)) (pa_cons (pv 2) pa_nil))))
    (pss_cons (ps_lockL (ps_setLc (i := 6) (own := [(("j" : Str), 7)]) (g := (gName 7)) rfl sc__law_basis.nd rfl rfl (by rfl) (pi_range1 rfl T.n_range (pa_cons (pv 1) pa_nil)) (blkOk_by (N := ["rows", "wide", "basis", "numbers", "k", "row", "ats", "j"]) (sc := defScope s__law_basis) (by decide +kernel)) (fun _ _ _ _ _ => (pg_name (i := 7) sc__law_basis.nd rfl (Or.inl rfl))) (fun _ _ _ _ _ => pts_one (pt_cmpR op_ne (pe_ix (ix_tupK (K := K) rfl) (pe_ix (ix_listK (K := K) rfl) (pv 5) (pv 7) (fun _ _ => rfl)) pe_int (fun _ _ => rfl)) pe_int (nomark _))) (fun _ _ _ _ _ => (pv 7))))
    (pss_one (ps_if (pt_truth (pv 6) (by intro _; rfl))
    (pss_cons (ps_expr (pe_bm PySem.F.plainAttrs_list PySem.F.slot_list_append PySem.F.type_list_append mt_append (pv 2) (pa_cons (pe_tup (pa_cons (pe_ix (ix_listK (K := K) rfl) (pv 6) pe_int (fun _ _ => rfl)) (pa_cons (pv 5) pa_nil))) pa_nil)))
    (pss_one (ps_expr (pe_bm PySem.F.plainAttrs_list PySem.F.slot_list_append PySem.F.type_list_append mt_append (pv 3) (pa_cons (pv 4) pa_nil)))))
    pss_nil))))))
    (pss_one (ps_ret (pv 3))))))) fun ds Nv Ne hw => ?_
    obtain ⟨n, M, m, rfl, hM, hM2, hn, hm, hq, k⟩ := hw
    walk_at "zz"
    refine zs_forL (zi_range1 ?_)
    walk_at "zz"
    refine ⟨by rw [List.length_map]; omega, by rw [List.length_map]; omega, fun i ρ => ∃ (p4 p5 p6 p7 : Sl), ρ = [.v (matD false false m), .v (.int (n : Int)), .o (basD true true (lbOf n (m.take i))), .o (idxD true (bidx n m i)), p4, p5, p6, p7] ∧ jOk p7, ⟨_, _, _, _, rfl, .inl rfl⟩, ?_, ?_⟩
    · rintro ρ ⟨p4, p5, p6, p7, rfl, _⟩
      refine ⟨trivial, ?_⟩
      dsimp only [bI]
      rw [List.length_map, List.length_range, List.length_map, Int.toNat_natCast]
      walk_at "zz"
      exact k
    · rintro i d ρ hd ⟨p4, p5, p6, p7, rfl, h7⟩
      obtain ⟨hi, rfl⟩ := rng2 hd
      rw [List.length_map] at hi
      have hr := getD_in (d := ([] : List Rat)) hi
      have hx : bidx n m (i + 1) = match fnz n (redL (lbOf n (m.take i)) (m.getD i [])) with
        | some _ => bidx n m i ++ [i]
        | none => bidx n m i := rfl
      have hns : (bidx n m i).length = (lbOf n (m.take i)).length := bidx_len n m i (by omega)
      generalize m.getD i [] = r at hr hx
      have hmm := List.mem_of_getElem? hr
      obtain ⟨hr1, hr2⟩ := hq r hmm
      have hc := chq_of hq i
      have hl := lbOf_le n (m.take i)
      rw [List.length_take] at hl
      have ht : lbOf n (m.take (i + 1)) = stepB n (lbOf n (m.take i)) r := by rw [take_snoc hr, lbOf_snoc]
      generalize lbOf n (m.take i) = lb at hc hl ht hns hx
      generalize hns0 : bidx n m i = ns at hns hx
      have ar : atI (m.map (rowD false)) (i : Int) = some (rowD false r) := atI_k (by rw [List.getElem?_map, hr]; rfl)
      walk_at "zz"
      refine ⟨_, _, _, _, _, rfl, .inl rfl, rfl, ar, ?_⟩
      have ob : (basD true true lb).old = basD false false lb := by
        show Dt.lst false (Dt.olds _) = _
        rw [olds_map, List.map_map]
        unfold basD
        congr 1
        refine List.map_congr_left fun x _ => ?_
        show Dt.tup (Dt.olds [.int (x.2 : Int), rowD true x.1]) = _
        show Dt.tup [.int (x.2 : Int), (rowD true x.1).old] = .tup [.int (x.2 : Int), rowD false x.1]
        rw [rowD_old]
      refine ⟨_, _, rfl, n, M, r, lb, ?_, hM, hM2, hn, hc, by omega, hr1, hr2, back2_lst (noLs_pq _), ?_⟩
      · show [(rowD false r).old, (basD true true lb).old] = _
        rw [ob, rowD_old]
      walk_at "zz"
      have hql : (redL lb r).length = n := by rw [redL_len, hr1]
      have hf := head_fnz n (redL lb r)
      have hstep : stepB n lb r = match fnz n (redL lb r) with | some l => lb ++ [(redL lb r, l)] | none => lb := rfl
      generalize redL lb r = q at hql hf hstep hx ⊢
      have okw : okW ([Sl.v (matD false false m), .v (.int (n : Int)), .o (basD true true lb), .o (idxD true ns), .v (.int (i : Int)), .o (rowD true q), p6, p7]) [7] = true := by rcases h7 with rfl | ⟨_, rfl⟩ <;> rfl
      refine ze_lcM (List.range n) (fun j => .int (j : Int)) (fun j => if decide (q.getD j 0 ≠ 0) then some (.int (j : Int)) else none) (zi_range1 ?_)
      walk_at "zz"
      refine ⟨by omega, by omega, rfl, trivial, okw, by rw [List.length_range]; omega, fun j hj => ?_, ?_⟩
      · have hj := List.mem_range.mp hj
        refine zgw_name (by decide) ?_
        walk_at "zz"
        have aj : atI (q.map pq) (j : Int) = some (pq (q.getD j 0)) := atI_D (by omega)
        refine ⟨_, _, _, _, _, rfl, .inr (.inl rfl), rfl, aj, ?_⟩
        walk_at "zz"
        by_cases c : (q.getD j 0).num = 0
        · have c2 := Lq.num_zero.mp c
          refine zF (by simpa using c2) ?_
          exact ⟨by rcases h7 with rfl | ⟨_, rfl⟩ <;> rfl, by rw [c2]; rfl⟩
        · have c2 := fun z => c (Lq.num_zero.mpr z)
          refine zT (by simpa using c2) ?_
          walk_at "zz"
          exact ⟨by rcases h7 with rfl | ⟨_, rfl⟩ <;> rfl, if_pos (decide_eq_true (show q.getD j 0 ≠ 0 from c2))⟩
      · rw [map_if (fun j : Nat => Dt.int (j : Int)) (fun j => decide (q.getD j 0 ≠ 0)) (List.range n)]
        dsimp only [bI]
        generalize (List.range n).filter (fun j => decide (q.getD j 0 ≠ 0)) = L at hf
        walk_at "zz"
        refine Tr.zt_truM rfl rfl (.inr (.inl rfl)) ?_
        cases L with
        | nil =>
          rw [← hf] at hstep hx
          refine zF (by simp) ?_
          walk_at "zz"
          exact ⟨_, _, _, _, by rw [ht, hstep, hx]; rfl, h7⟩
        | cons l L =>
          rw [← hf] at hstep hx
          have hx : bidx n m (i + 1) = ns ++ [i] := hx
          have hstep : stepB n lb r = lb ++ [(q, l)] := hstep
          have al : atI ((l :: L).map fun j : Nat => Dt.int (j : Int)) 0 = some (.int (l : Int)) := atI_k (k := 0) rfl
          refine zT rfl ?_
          walk_at "zz"
          refine ⟨_, _, _, _, _, rfl, .inr (.inl rfl), rfl, al, ?_⟩
          walk_at "zz"
          refine ⟨by rw [List.length_map]; omega, ?_⟩
          walk_at "zz"
          refine ⟨by rw [List.length_map, hns]; omega, ?_⟩
          refine ⟨.v (.int (i : Int)), .v (rowD true q), .o (.lst true ((l :: L).map fun j : Nat => Dt.int (j : Int))), p7, ?_, h7⟩
          rw [ht, hstep, hx]
          unfold basD idxD
          rw [List.map_append, List.map_append]
          rfl
def wRank : Wz := fun ds Nv _ => ∃ (n M : Nat) (m : List (List Rat)), ds = [matD false false m] ∧ M ≠ 0 ∧ M < 2 ^ 40 ∧ n ≤ 7 ∧ m.length ≤ 6 ∧ RowsQ n M m ∧ Nv (.int ((lbOf n m).length : Int)) false
set_option maxHeartbeats 4000000 in
theorem ok__law_rank (T : Top w K mg) : FnOk P w K mg base CX0 6 (He.ga K ("_law_rank" : Str)) (fdOf K d__law_rank) ["rows"] (spZ K wRank) := by
  refine (T.f__law_rank).ok sc__law_rank (fun vs H Q E h => spz_len h (n := 1) fun ds Nv Ne hw => ?_) (fun cdv A outer s H vs Q E hr h => ?_)
  · obtain ⟨_, _, _, rfl, _⟩ := hw
    rfl
  · refine z_fn h (PSs.nox (pss_cons (ps_if (pt_not (pt_truth (pv 0) (by intro _; rfl)))
    (pss_one (ps_ret pe_int))
    pss_nil)
    (pss_one (ps_ret (pe_callB (call_lenZ (K := K) rfl) (by rfl) T.n_len PySem.boot_len (pa_cons (pe_call (ok__law_basis (K := K) T) (hr.mono (by decide)) rfl T.g__law_basis T.f__law_basis.kp T.b__law_basis .nil pass0 (pa_cons (pv 0) (pa_cons (pe_callB (call_lenZ (K := K) rfl) (by rfl) T.n_len PySem.boot_len (pa_cons (pe_ix (ix_listK (K := K) rfl) (pv 0) pe_int (fun _ _ => rfl)) pa_nil)) pa_nil))) pa_nil)))))) fun ds Nv Ne hw => ?_
    obtain ⟨n, M, m, rfl, hM, hM2, hn, hm, hq, k⟩ := hw
    walk_at "zz"
    refine Tr.zt_truM rfl rfl (.inl rfl) ?_
    cases m with
    | nil =>
      refine zT rfl ?_
      walk_at "zz"
      exact k
    | cons r m =>
      refine zF (by simp) ?_
      have hr1 := (hq r (by simp)).1
      have ar : atI ((r :: m).map (rowD false)) 0 = some (rowD false r) := atI_k (k := 0) rfl
      walk_at "zz"
      refine ⟨_, _, _, _, _, rfl, .inl rfl, rfl, ar, ?_⟩
      walk_at "zz"
      refine ⟨n, M, r :: m, ?_, hM, hM2, hn, hm, hq, ?_⟩
      · show [(matD false false (r :: m)).old, _] = _
        rw [matD_old, List.length_map, hr1]
        rfl
      walk_at "zz"
      show Nv (.int ((List.map _ (bidx n (r :: m) (r :: m).length)).length : Int)) false
      rw [List.length_map, bidx_len n (r :: m) (r :: m).length (Nat.le_refl _), List.take_length]
      exact k
end
end
end Lq
namespace Lq
/-- c parts, each of few signs -/
def PtQ (c : Int) (B : Nat) (q : Rat) : Prop := ∃ N : Int, q = (N : Rat) / (c : Rat) ∧ Bits B N
def dotN (r v : List Rat) : Nat → Rat
  | 0 => 0
  | j + 1 => dotN r v j + r.getD j 0 * v.getD j 0
theorem PtQ.bits {c : Int} {B p : Nat} {q : Rat} (hc : c ≠ 0) (bc : Bits p c) (h : PtQ c B q) : Bits B q.num ∧ Bits p (q.den : Int) := by
  obtain ⟨N, rfl, b⟩ := h
  obtain ⟨l1, l2⟩ := low_rat (t := N) hc
  rw [l1, l2]
  exact ⟨Nat.lt_of_le_of_lt (pn_le hc) b, Nat.lt_of_le_of_lt (pd_le hc) bc⟩
theorem SmQ.pt {M : Nat} {q : Rat} (h : SmQ M (2 ^ 80) q) : PtQ (M : Int) 81 q := by
  obtain ⟨n, rfl, b⟩ := h
  exact ⟨n, rfl, Nat.lt_of_le_of_lt b (by decide)⟩
theorem PtQ.mul {c d : Int} {A B : Nat} {x y : Rat} (h : PtQ c A x) (g : PtQ d B y) : PtQ (c * d) (A + B) (x * y) := by
  obtain ⟨m, rfl, bm⟩ := h
  obtain ⟨n, rfl, bn⟩ := g
  refine ⟨m * n, ?_, bm.mul bn⟩
  rw [Rat.intCast_mul, Rat.intCast_mul]
  generalize (m : Rat) = a
  generalize (n : Rat) = b
  generalize (c : Rat) = e
  generalize (d : Rat) = f
  grind
theorem PtQ.add {c : Int} {A : Nat} {x y : Rat} (h : PtQ c A x) (g : PtQ c A y) : PtQ c (A + 1) (x + y) := by
  obtain ⟨m, rfl, bm⟩ := h
  obtain ⟨n, rfl, bn⟩ := g
  refine ⟨m + n, ?_, ?_⟩
  · rw [Rat.intCast_add]
    generalize (m : Rat) = a
    generalize (n : Rat) = b
    generalize (c : Rat) = e
    grind
  · unfold Bits at *
    rw [Nat.pow_succ]
    omega
theorem PtQ.mono {c : Int} {A B : Nat} {x : Rat} (h : PtQ c A x) (l : A ≤ B) : PtQ c B x := by
  obtain ⟨m, rfl, bm⟩ := h
  exact ⟨m, rfl, bm.mono l⟩
theorem PtQ.zero {c : Int} {A : Nat} : PtQ c A 0 := ⟨0, by show (0 : Rat) = (0 : Rat) / _; grind, Nat.two_pow_pos _⟩
theorem dot_pt {M : Nat} {c : Int} {B : Nat} {r v : List Rat} (h : ∀ e ∈ r, SmQ M (2 ^ 80) e) (g : ∀ e ∈ v, PtQ c B e) : ∀ j, PtQ ((M : Int) * c) (81 + B + j) (dotN r v j)
  | 0 => PtQ.zero
  | j + 1 => by
    have a := dot_pt h g j
    have b1 : PtQ (M : Int) 81 (r.getD j 0) := by
      by_cases q : j < r.length
      · exact (h _ (getD_mem q)).pt
      · rw [getD_out (by omega)]; exact PtQ.zero
    have b2 : PtQ c B (v.getD j 0) := by
      by_cases q : j < v.length
      · exact g _ (getD_mem q)
      · rw [getD_out (by omega)]; exact PtQ.zero
    exact a.add ((b1.mul b2).mono (by omega))
theorem zero_pq : pq 0 = .tup [.int 0, .int 1] := rfl
section
variable {P : Program} {w : World} {K : PySem.W.Frag} {mg : Str → Option Value} {base : Heap}
def wDot : Wz := fun ds Nv _ => ∃ (M : Nat) (c : Int) (r v : List Rat), ds = [rowD false r, rowD false v] ∧ r.length = v.length ∧ r.length ≤ 7 ∧ M ≠ 0 ∧ M < 2 ^ 40 ∧ c ≠ 0 ∧ Bits 3400 c ∧ (∀ e ∈ r, SmQ M (2 ^ 80) e) ∧ (∀ e ∈ v, PtQ c 7000 e) ∧ Nv (pq (dotN r v r.length)) false
set_option maxHeartbeats 4000000 in
theorem ok__law_dot (T : Top w K mg) : FnOk P w K mg base CX0 4 (He.ga K ("_law_dot" : Str)) (fdOf K d__law_dot) ["row", "values"] (spZ K wDot) := by
  refine (T.f__law_dot).ok sc__law_dot (fun vs H Q E h => spz_len h (n := 2) fun ds Nv Ne hw => ?_) (fun cdv A outer s H vs Q E hr h => ?_)
  · obtain ⟨_, _, _, _, rfl, _⟩ := hw
    rfl
  · refine z_fn h (PSs.nox (pss_cons (ps_set (i := 2) sc__law_dot.nd rfl (Or.inl rfl) (pe_tup (pa_cons pe_int (pa_cons pe_int pa_nil))))
    (pss_cons (ps_lockL (ps_for PassesOwn.never rfl (pi_range1 rfl T.n_range (pa_cons (pe_callB (call_lenZ (K := K) rfl) (by rfl) T.n_len PySem.boot_len (pa_cons (pv 0) pa_nil)) pa_nil)) (pg_name (i := 3) sc__law_dot.nd rfl (Or.inl rfl))
    (pss_one (ps_set (i := 2) sc__law_dot.nd rfl (Or.inl rfl) (pe_call (ok__law_sum (K := K) T) (hr.mono (by decide)) rfl T.g__law_sum T.f__law_sum.kp T.b__law_sum .nil pass0 (pa_cons (pv 2) (pa_cons (pe_call (ok__law_times (K := K) T) (hr.mono (by decide)) rfl T.g__law_times T.f__law_times.kp T.b__law_times .nil pass0 (pa_cons (pe_ix (ix_listK (K := K) rfl) (pv 0) (pv 3) (fun _ _ => rfl)) (pa_cons (pe_ix (ix_listK (K := K) rfl) (pv 1) (pv 3) (fun _ _ => rfl)) pa_nil))) pa_nil)))))))
    (pss_one (ps_ret (pv 2)))))) fun ds Nv Ne hw => ?_
    obtain ⟨M, c, r, v, rfl, hl, hn, hM, hM2, hc, bc, hr, hv, k⟩ := hw
    walk_at "zz"
    refine zs_forL (zi_range1 ?_)
    walk_at "zz"
    refine ⟨by rw [List.length_map]; omega, by rw [List.length_map]; omega, fun j ρ => ∃ p3, ρ = [.v (rowD false r), .v (rowD false v), .v (pq (dotN r v j)), p3], ⟨_, rfl⟩, ?_, ?_⟩
    · rintro ρ ⟨p3, rfl⟩
      refine ⟨trivial, ?_⟩
      dsimp only [bI]
      rw [List.length_map, List.length_range, List.length_map, Int.toNat_natCast]
      walk_at "zz"
      exact k
    · rintro j d ρ hd ⟨p3, rfl⟩
      obtain ⟨hj, rfl⟩ := rng2 hd
      rw [List.length_map] at hj
      have aj : atI (r.map pq) (j : Int) = some (pq (r.getD j 0)) := atI_D hj
      have bj : atI (v.map pq) (j : Int) = some (pq (v.getD j 0)) := atI_D (by omega)
      have cM : Bits 40 (M : Int) := by unfold Bits; omega
      have hM0 : (M : Int) ≠ 0 := by omega
      have h1 := (hr _ (getD_mem (d := (0 : Rat)) hj)).pt
      have h2 := hv _ (getD_mem (d := (0 : Rat)) (show j < v.length by omega))
      have g1 := h1.bits hM0 cM
      have g2 := h2.bits hc bc
      have g3 := (h1.mul h2).bits (Int.mul_ne_zero hM0 hc) (cM.mul bc)
      have g4 := (dot_pt hr hv j).bits (Int.mul_ne_zero hM0 hc) (cM.mul bc)
      walk_at "zz"
      refine ⟨_, _, _, _, _, rfl, .inl rfl, rfl, aj, ?_⟩
      walk_at "zz"
      refine ⟨_, _, _, _, _, rfl, .inl rfl, rfl, bj, ?_⟩
      walk_at "zz"
      refine ⟨_, _, 81, 7000, rfl, ⟨g1.1, g1.2.mono (by decide)⟩, ⟨g2.1, g2.2.mono (by decide)⟩, by decide, ?_⟩
      walk_at "zz"
      refine ⟨_, _, 3440, 3440, rfl, ⟨g4.1.mono (by omega), g4.2⟩, ⟨g3.1.mono (by decide), g3.2⟩, by decide, ?_⟩
      walk_at "zz"
      exact ⟨_, rfl⟩
end
end Lq
/-! ### list(zip(a, b)) -/
namespace LZ
open PySem PySem.Spec PyProof.Rows L2
/-- the zip whose pair T is still held by another -/
abbrev Zo (h : Heap) (z TI TO T : Addr) (f : Bool) : Prop := h.get? z = some ⟨.type "zip", none, .fields #[rawInt T, .bool f, .bool false, .ref TI, .ref TO], #[]⟩
section
variable {prog : Program} {w : World} {A : Around} {E : Value → Shared → Prop} {s : Shared}
variable {z TI TO i1 i2 l1 l2 T : Addr} {f : Bool} {k1 k2 : Nat} {x y : Value} {xs ys : Array Value} {oT : Obj}
theorem freeO (hz : Zo s.heap z TI TO T f) (hT : s.heap.get? T = some oT) {Q : Bool → Shared → Prop} (q : ∀ g, Zo g z TI TO T true → Heap.SameBut z s.heap g → Q false { s with heap := g }) : wpAny (model prog w) A (Builtin.SmallTypes.ownedTupleIsFree (.ref z)) Q E s := by
  unfold Builtin.SmallTypes.ownedTupleIsFree
  apply wpAny_bind
  apply wpAny_field hz rfl (x := rawInt T) rfl
  show wpAny _ _ (loadIfAlive ((T : Int).toNat) >>= _) _ _ _
  rw [Int.toNat_natCast]
  apply wpAny_bind
  refine PySem.W.kdx_alive hT ?_
  simp only [Option.isNone_some, Bool.false_eq_true, if_false]
  apply wpAny_bind
  apply wpAny_field hz rfl (x := .bool f) rfl
  cases f with
  | true =>
    rw [if_neg (show ¬ ((Value.bool true != Value.bool true) = true) from Bool.false_ne_true)]
    exact wpAny_pure (q _ hz (Heap.SameBut.refl _ _))
  | false =>
    rw [if_pos (show (Value.bool false != Value.bool true) = true from rfl)]
    refine wpAny_bind (wpAny_setField_rec hz (by simp) fun g n m => ?_)
    exact wpAny_pure (q g n m)
theorem itemO (D : ZipApart z TI TO i1 i2 l1 l2) (hz : Zo s.heap z TI TO T f) (hT : s.heap.get? T = some oT) (hTI : IsPair s.heap TI (.ref i1) (.ref i2)) (h1 : s.heap.IsListIter i1 l1 k1) (h2 : s.heap.IsListIter i2 l2 k2) (hl1 : s.heap.IsList l1 xs) (hl2 : s.heap.IsList l2 ys) (hx : xs[k1]? = some x) (hy : ys[k2]? = some y) {Q : Value → Shared → Prop}
    (q : ∀ g, Zo g z TI TO T true → g.IsListIter i1 l1 (k1 + 1) → g.IsListIter i2 l2 (k2 + 1) → IsPair g s.heap.objs.size x y → g.objs.size = s.heap.objs.size + 1 → (∀ c o, c ≠ z → c ≠ i1 → c ≠ i2 → s.heap.get? c = some o → g.get? c = some o) → Q (.ref s.heap.objs.size) { s with heap := g }) :
    wpAny (model prog w) A (Builtin.«zip.__next__» ⟨[.ref z], []⟩) (fun fin s' => ∃ v, fin = .done (.ret v) ∧ Q v s') E s := by
  show wpAny _ _ (field (.ref z) 2 >>= _) _ _ _
  apply wpAny_bind
  apply wpAny_field hz rfl (x := .bool false) rfl
  show wpAny _ _ (field (.ref z) 3 >>= _) _ _ _
  apply wpAny_bind
  apply wpAny_field hz rfl (x := .ref TI) rfl
  apply wpAny_bind
  apply wpAny_seqItems hTI rfl
  show wpAny _ _ (Builtin.SmallTypes.ownedTupleIsFree (.ref z) >>= _) _ _ _
  apply wpAny_bind
  refine freeO hz hT fun g1 n1 m1 => ?_
  simp only [Bool.false_eq_true, if_false]
  apply wpAny_bind
  simp only [List.forIn_toArray, List.forIn_cons, List.forIn_nil]
  apply wpAny_bind
  apply wpAny_bind
  apply wpAny_holding
  show wpAny _ _ (Builtin.SmallTypes.nextOf (.ref i1) >>= _) _ _ _
  apply wpAny_bind
  have e1 := fun c o (ne : c ≠ z) (e : s.heap.get? c = some o) => m1.extBut _ _ ne e
  refine wpAny_nextOf_list_item (h1.at fun o => e1 _ o D.i1z) (hl1.at fun o => e1 _ o D.l1z) hx fun g2 n2 m2 => wpAny_pure ?_
  have e2 := fun c o (ne : c ≠ z) (ne2 : c ≠ i1) (e : s.heap.get? c = some o) => m2.extBut _ _ ne2 (e1 c o ne e)
  apply wpAny_pure
  apply wpAny_bind
  apply wpAny_bind
  apply wpAny_holding
  show wpAny _ _ (Builtin.SmallTypes.nextOf (.ref i2) >>= _) _ _ _
  apply wpAny_bind
  refine wpAny_nextOf_list_item (h2.at fun o => e2 _ o D.i2z D.i12.symm) (hl2.at fun o => e2 _ o D.l2z D.l2i1) hy fun g3 n3 m3 => wpAny_pure ?_
  have e3 := fun c o (ne : c ≠ z) (ne2 : c ≠ i1) (ne3 : c ≠ i2) (e : s.heap.get? c = some o) => m3.extBut _ _ ne3 (e2 c o ne ne2 e)
  apply wpAny_pure
  apply wpAny_pure
  apply wpAny_bind
  refine wpAny_newTuple ?_ (by show 2 ≤ sizeLine; decide)
  have z3 : g3.objs.size = s.heap.objs.size := by
    have a1 := m3.1
    have a2 := m2.1
    have a3 := m1.1
    exact a1.trans (a2.trans a3)
  have up : ∀ c o, g3.get? c = some o → (g3.push { cls := .type "tuple", data := .seq #[x, y] }).get? c = some o := fun c o e => Heap.get?_push_of_some _ e
  refine wpAny_pure ⟨_, rfl, ?_⟩
  show Q (.ref g3.objs.size) { s with heap := g3.push { cls := .type "tuple", data := .seq #[x, y] } }
  rw [z3]
  refine q _ (up _ _ (m3.extBut _ _ D.i2z.symm (m2.extBut _ _ D.i1z.symm n1))) ((n2.at fun o e => m3.extBut _ _ D.i12 e).at fun o => up _ o) (n3.at fun o => up _ o) (by rw [← z3]; exact Heap.get?_push_size _ rfl) (by rw [Heap.size_push, z3]) fun c o c1 c2 c3 e => up _ _ (e3 c o c1 c2 c3 e)
theorem endO (hh : A.handled = none) (D : ZipApart z TI TO i1 i2 l1 l2) (hz : Zo s.heap z TI TO T f) (hT : s.heap.get? T = some oT) (hTI : IsPair s.heap TI (.ref i1) (.ref i2)) (h1 : s.heap.IsListIter i1 l1 k1) (h2 : s.heap.IsListIter i2 l2 k2) (hl1 : s.heap.IsList l1 xs) (hl2 : s.heap.IsList l2 ys) (hend : xs[k1]? = none ∨ ys[k2]? = none) {Q : Fin → Shared → Prop}
    (q : ∀ g e, (∀ c o, c ≠ z → c ≠ i1 → c ≠ i2 → s.heap.get? c = some o → g.get? c = some o) → (∃ o, g.get? e = some o ∧ o.cls = .type "StopIteration") → E (.ref e) { s with heap := g }) : wpAny (model prog w) A (Builtin.«zip.__next__» ⟨[.ref z], []⟩) Q E s := by
  show wpAny _ _ (field (.ref z) 2 >>= _) _ _ _
  apply wpAny_bind
  apply wpAny_field hz rfl (x := .bool false) rfl
  show wpAny _ _ (field (.ref z) 3 >>= _) _ _ _
  apply wpAny_bind
  apply wpAny_field hz rfl (x := .ref TI) rfl
  apply wpAny_bind
  apply wpAny_seqItems hTI rfl
  show wpAny _ _ (Builtin.SmallTypes.ownedTupleIsFree (.ref z) >>= _) _ _ _
  apply wpAny_bind
  refine freeO hz hT fun g1 n1 m1 => ?_
  simp only [Bool.false_eq_true, if_false]
  apply wpAny_bind
  simp only [List.forIn_toArray, List.forIn_cons, List.forIn_nil]
  apply wpAny_bind
  apply wpAny_bind
  apply wpAny_holding
  show wpAny _ _ (Builtin.SmallTypes.nextOf (.ref i1) >>= _) _ _ _
  apply wpAny_bind
  have e1 := fun c o (ne : c ≠ z) (e : s.heap.get? c = some o) => m1.extBut _ _ ne e
  cases hx : xs[k1]? with
  | none => exact wpAny_nextOf_list_end hh (h1.at fun o => e1 _ o D.i1z) (hl1.at fun o => e1 _ o D.l1z) hx fun g2 e m2 he => q g2 e (fun c o c1 c2 _ e => m2 _ _ c2 (e1 c o c1 e)) he
  | some x =>
    have hy : ys[k2]? = none := by
      rcases hend with h | h
      · rw [hx] at h; cases h
      · exact h
    refine wpAny_nextOf_list_item (h1.at fun o => e1 _ o D.i1z) (hl1.at fun o => e1 _ o D.l1z) hx fun g2 n2 m2 => wpAny_pure ?_
    have e2 := fun c o (ne : c ≠ z) (ne2 : c ≠ i1) (e : s.heap.get? c = some o) => m2.extBut _ _ ne2 (e1 c o ne e)
    apply wpAny_pure
    apply wpAny_bind
    apply wpAny_bind
    apply wpAny_holding
    show wpAny _ _ (Builtin.SmallTypes.nextOf (.ref i2) >>= _) _ _ _
    apply wpAny_bind
    exact wpAny_nextOf_list_end hh (h2.at fun o => e2 _ o D.i2z D.i12.symm) (hl2.at fun o => e2 _ o D.l2z D.l2i1) hy fun g3 e m3 he => q g3 e (fun c o c1 c2 c3 e => m3 _ _ c3 (e2 c o c1 c2 e)) he
theorem nextO (D : ZipApart z TI TO i1 i2 l1 l2) (hz : Zo s.heap z TI TO T f) (hT : s.heap.get? T = some oT) (hTI : IsPair s.heap TI (.ref i1) (.ref i2)) (h1 : s.heap.IsListIter i1 l1 k1) (h2 : s.heap.IsListIter i2 l2 k2) (hl1 : s.heap.IsList l1 xs) (hl2 : s.heap.IsList l2 ys) (hx : xs[k1]? = some x) (hy : ys[k2]? = some y) {Q : Option Value → Shared → Prop}
    (q : ∀ g, Zo g z TI TO T true → g.IsListIter i1 l1 (k1 + 1) → g.IsListIter i2 l2 (k2 + 1) → IsPair g s.heap.objs.size x y → g.objs.size = s.heap.objs.size + 1 → (∀ c o, c ≠ z → c ≠ i1 → c ≠ i2 → s.heap.get? c = some o → g.get? c = some o) → Q (some (.ref s.heap.objs.size)) { s with heap := g }) :
    wpAny (model prog w) A (pyNext (.ref z)) Q E s := by
  have ty : s.TypeIs (.ref z) "zip" := ⟨_, hz, rfl⟩
  unfold pyNext
  apply wpAny_bind
  apply wpAny_attempt
  refine wpAny_callSpecial?_slot (name := Str.ofString "__next__") ty F.slot_zip_next ?_
  exact wpAny_call_entry F.slot_zip_next ty F.entry_zip_next (itemO D hz hT hTI h1 h2 hl1 hl2 hx hy fun g c1 c2 c3 c4 c5 c6 => wpAny_pure (q g c1 c2 c3 c4 c5 c6)) (F.args_zip_next_1 _)
theorem stopO (hh : A.handled = none) (D : ZipApart z TI TO i1 i2 l1 l2) (hz : Zo s.heap z TI TO T f) (hT : s.heap.get? T = some oT) (hTI : IsPair s.heap TI (.ref i1) (.ref i2)) (h1 : s.heap.IsListIter i1 l1 k1) (h2 : s.heap.IsListIter i2 l2 k2) (hl1 : s.heap.IsList l1 xs) (hl2 : s.heap.IsList l2 ys) (hend : xs[k1]? = none ∨ ys[k2]? = none) {Q : Option Value → Shared → Prop}
    (q : ∀ g, (∀ c o, c ≠ z → c ≠ i1 → c ≠ i2 → s.heap.get? c = some o → g.get? c = some o) → Q none { s with heap := g }) : wpAny (model prog w) A (pyNext (.ref z)) Q E s := by
  have ty : s.TypeIs (.ref z) "zip" := ⟨_, hz, rfl⟩
  unfold pyNext
  apply wpAny_bind
  apply wpAny_attempt
  refine wpAny_callSpecial?_slot (name := Str.ofString "__next__") ty F.slot_zip_next ?_
  refine wpAny_call_entry F.slot_zip_next ty F.entry_zip_next (endO (A := A.in1) hh D hz hT hTI h1 h2 hl1 hl2 hend fun g e m he => ?_) (F.args_zip_next_1 _)
  obtain ⟨o, a1, a2⟩ := he
  apply wpAny_bind
  exact wpAny_isInstance (T := "StopIteration") (b := true) ⟨o, a1, a2⟩ isSubtype_stop (wpAny_pure (q g m))
end
/-- where the zip stands: at its beginning, or with its first pair given away -/
def St (h : Heap) (z TI TO i1 i2 l1 l2 : Addr) (xs ys : Array Value) (S : Addr) (i : Nat) : Prop :=
  IsPair h TI (.ref i1) (.ref i2) ∧ h.IsListIter i1 l1 i ∧ h.IsListIter i2 l2 i ∧ h.IsList l1 xs ∧ h.IsList l2 ys ∧
  ((∃ a b, IsZip h z TI TO .none ∧ IsPair h TO a b) ∨ ∃ T f oT, Zo h z TI TO T f ∧ h.get? T = some oT ∧ T ≠ z ∧ T ≠ i1 ∧ T ≠ i2 ∧ T ≠ S)
structure Gd (xs ys : Array Value) (lo : Addr) (h : Heap) (as : List Addr) : Prop where
  rise : as.Pairwise (· < ·)
  above : ∀ a ∈ as, lo < a
  pairs : ∀ (j : Nat) (a : Addr), as[j]? = some a → ∃ x y, xs[j]? = some x ∧ ys[j]? = some y ∧ IsPair h a x y
theorem Gd.there {xs ys : Array Value} {lo : Addr} {h : Heap} {as : List Addr} (g : Gd xs ys lo h as) {a : Addr} (ha : a ∈ as) : a < h.objs.size := by
  obtain ⟨j, hj⟩ := List.mem_iff_getElem?.mp ha
  obtain ⟨_, _, _, _, e⟩ := g.pairs j a hj
  exact Heap.lt_size e
section
variable {prog : Program} {w : World} {A : Around} {E : Value → Shared → Prop} {s : Shared}
variable {z TI TO i1 i2 l1 l2 S : Addr} {x y : Value} {xs ys : Array Value} {i : Nat}
/-- what else must stand apart -/
structure Ap (z TI TO i1 i2 l1 l2 S : Addr) : Prop where
  D : ZipApart z TI TO i1 i2 l1 l2
  Sz : S ≠ z
  STI : S ≠ TI
  STO : S ≠ TO
  S1 : S ≠ i1
  S2 : S ≠ i2
  Sl1 : S ≠ l1
  Sl2 : S ≠ l2
  l2TO : l2 ≠ TO
  l1TO : l1 ≠ TO
theorem St.keep {h g : Heap} (st : St h z TI TO i1 i2 l1 l2 xs ys S i) (k : ∀ c o, c ≠ S → h.get? c = some o → g.get? c = some o) (a : Ap z TI TO i1 i2 l1 l2 S) : St g z TI TO i1 i2 l1 l2 xs ys S i := by
  obtain ⟨h1, h2, h3, h4, h5, h6⟩ := st
  refine ⟨k _ _ a.STI.symm h1, h2.at fun o => k _ o a.S1.symm, h3.at fun o => k _ o a.S2.symm, h4.at fun o => k _ o a.Sl1.symm, h5.at fun o => k _ o a.Sl2.symm, ?_⟩
  rcases h6 with ⟨p, q, e1, e2⟩ | ⟨T, f, oT, e1, e2, t1, t2, t3, t4⟩
  · exact .inl ⟨p, q, k _ _ a.Sz.symm e1, k _ _ a.STO.symm e2⟩
  · exact .inr ⟨T, f, oT, k _ _ a.Sz.symm e1, k _ _ t4 e2, t1, t2, t3, t4⟩
theorem next_item (a : Ap z TI TO i1 i2 l1 l2 S) (hS : S < s.heap.objs.size) (st : St s.heap z TI TO i1 i2 l1 l2 xs ys S i) (hx : xs[i]? = some x) (hy : ys[i]? = some y) {Q : Option Value → Shared → Prop}
    (q : ∀ g, St g z TI TO i1 i2 l1 l2 xs ys S (i + 1) → IsPair g s.heap.objs.size x y → g.objs.size = s.heap.objs.size + 1 → (∀ c o, c ≠ z → c ≠ TO → c ≠ i1 → c ≠ i2 → s.heap.get? c = some o → g.get? c = some o) → Q (some (.ref s.heap.objs.size)) { s with heap := g }) : wpAny (model prog w) A (pyNext (.ref z)) Q E s := by
  obtain ⟨h1, h2, h3, h4, h5, h6⟩ := st
  have D := a.D
  rcases h6 with ⟨p, r, e1, e2⟩ | ⟨T, f, oT, e1, e2, t1, t2, t3, t4⟩
  · have zl : z < s.heap.objs.size := Heap.lt_size e1
    have il1 : i1 < s.heap.objs.size := let ⟨_, e, _⟩ := h2; Heap.lt_size e
    have il2 : i2 < s.heap.objs.size := let ⟨_, e, _⟩ := h3; Heap.lt_size e
    refine wpAny_pyNext_zip_item D e1 h1 e2 h2 h3 h4 h5 hx hy fun g z' _ c1 c2 p' sz k => q g ⟨k _ _ D.TIz D.TITO D.TIi1 D.TIi2 h1, c1, c2, h4.at fun o => k _ o D.l1z a.l1TO D.l1i1 D.l1i2, h5.at fun o => k _ o D.l2z a.l2TO D.l2i1 D.l2i2, .inr ⟨s.heap.objs.size, false, _, z', p', Nat.ne_of_gt zl, Nat.ne_of_gt il1, Nat.ne_of_gt il2, Nat.ne_of_gt hS⟩⟩ p' sz k
  · refine nextO D e1 e2 h1 h2 h3 h4 h5 hx hy fun g z' c1 c2 p' sz k => q g ⟨k _ _ D.TIz D.TIi1 D.TIi2 h1, c1, c2, h4.at fun o => k _ o D.l1z D.l1i1 D.l1i2, h5.at fun o => k _ o D.l2z D.l2i1 D.l2i2, .inr ⟨T, true, oT, z', k _ _ t1 t2 t3 e2, t1, t2, t3, t4⟩⟩ p' sz fun c o c1 _ c3 c4 e => k c o c1 c3 c4 e
theorem next_end (hh : A.handled = none) (a : Ap z TI TO i1 i2 l1 l2 S) (st : St s.heap z TI TO i1 i2 l1 l2 xs ys S i) (hend : xs[i]? = none ∨ ys[i]? = none) {Q : Option Value → Shared → Prop}
    (q : ∀ g, (∀ c o, c ≠ z → c ≠ TO → c ≠ i1 → c ≠ i2 → s.heap.get? c = some o → g.get? c = some o) → Q none { s with heap := g }) : wpAny (model prog w) A (pyNext (.ref z)) Q E s := by
  obtain ⟨h1, h2, h3, h4, h5, h6⟩ := st
  rcases h6 with ⟨p, r, e1, e2⟩ | ⟨T, f, oT, e1, e2, t1, t2, t3, t4⟩
  · exact wpAny_pyNext_zip_end hh a.D e1 h1 e2 h2 h3 h4 h5 hend fun g k => q g k
  · exact stopO hh a.D e1 e2 h1 h2 h3 h4 h5 hend fun g k => q g fun c o c1 _ c3 c4 e => k c o c1 c3 c4 e
/-- kept: all but the list, the zip and its iterators -/
def Kp (z TO i1 i2 S : Addr) (h g : Heap) : Prop := ∀ c o, c ≠ S → c ≠ z → c ≠ TO → c ≠ i1 → c ≠ i2 → h.get? c = some o → g.get? c = some o
theorem loopZ {R : Result → Shared → Prop} (hh : A.handled = none) (a : Ap z TI TO i1 i2 l1 l2 S) (hl : xs.size = ys.size) (hn : xs.size ≤ sizeLine) (res : Value) {h₁ : Heap} {lo : Addr} (lz : z ≤ lo) (lTO : TO ≤ lo) (li1 : i1 ≤ lo) (li2 : i2 ≤ lo) (lS : S ≤ lo)
    (hR : ∀ h' tk acc c as, Kp z TO i1 i2 S h₁ h' → h'.get? S = some { cls := .type "list", dict := none, data := .seq acc c, slots := #[] } → as.length = xs.size → Gd xs ys lo h' as → acc.toList = as.map Value.ref → R (.ok (.ret res)) { s with heap := h', toks := tk }) :
    ∀ (k i : Nat) (h : Heap) (tk c : Nat) (acc : Array Value) (as : List Addr), xs.size - i = k → i ≤ xs.size → St h z TI TO i1 i2 l1 l2 xs ys S i → Kp z TO i1 i2 S h₁ h → h.get? S = some { cls := .type "list", dict := none, data := .seq acc c, slots := #[] } → acc.toList = as.map Value.ref → as.length = i → Gd xs ys lo h as → lo < h.objs.size →
      codeAny (model prog w) A (.builtin "list.extend.loop" ⟨[.ref S, .ref z, res], []⟩) R { s with heap := h, toks := tk } := by
  intro k
  induction k with
  | zero =>
    intro i h tk c acc as hk hi hst hkeep hS hacc hal hG hlo
    refine codeAny_builtin PySem.F.entry_extend_loop ?_
    rw [Around.under_plainId PySem.F.plain_extend_loop _]
    show wpAny _ A.in1 (pyNext (.ref z) >>= _) _ _ _
    refine wpAny_bind (next_end (s := { s with heap := h, toks := tk }) (A := A.in1) hh a hst (.inl (Array.getElem?_eq_none (by omega))) fun g kg => ?_)
    refine wpAny_pure (hR g tk acc c as (fun b o c1 c2 c3 c4 c5 e => kg b o c2 c3 c4 c5 (hkeep b o c1 c2 c3 c4 c5 e)) (kg S _ a.Sz a.STO a.S1 a.S2 hS) (by omega) ⟨hG.rise, hG.above, fun j b hj => ?_⟩ hacc)
    obtain ⟨x, y, e1, e2, e3⟩ := hG.pairs j b hj
    have hb := hG.above b (List.mem_of_getElem? hj)
    exact ⟨x, y, e1, e2, kg b _ (Nat.ne_of_gt (Nat.lt_of_le_of_lt lz hb)) (Nat.ne_of_gt (Nat.lt_of_le_of_lt lTO hb)) (Nat.ne_of_gt (Nat.lt_of_le_of_lt li1 hb)) (Nat.ne_of_gt (Nat.lt_of_le_of_lt li2 hb)) e3⟩
  | succ k ih =>
    intro i h tk c acc as hk hi hst hkeep hS hacc hal hG hlo
    have hlt : i < xs.size := by omega
    have hx : xs[i]? = some xs[i] := Array.getElem?_eq_getElem hlt
    have hy : ys[i]? = some ys[i] := Array.getElem?_eq_getElem (by omega)
    generalize xs[i] = x at hx
    generalize ys[i] = y at hy
    have hsz : acc.size = i := by rw [← Array.length_toList, hacc, List.length_map, hal]
    refine codeAny_builtin PySem.F.entry_extend_loop ?_
    rw [Around.under_plainId PySem.F.plain_extend_loop _]
    show wpAny _ A.in1 (pyNext (.ref z) >>= _) _ _ _
    refine wpAny_bind (next_item (s := { s with heap := h, toks := tk }) a (Heap.lt_size hS) hst hx hy fun g hst' ht hz hkp => ?_)
    dsimp only at ht hz hkp ⊢
    have hS' := hkp S _ a.Sz a.STO a.S1 a.S2 hS
    have up : ∀ b o, b ≠ S → g.get? b = some o → (g.update S (Obj.mapSeq (·.push (Value.ref h.objs.size)))).get? b = some o := fun b o hb e => (Heap.get?_update_other _ _ (Ne.symm hb)).trans e
    have hSl : S < h.objs.size := Heap.lt_size hS
    show wpAny _ A.in1 (updateSeq S (·.push (Value.ref h.objs.size)) >>= _) _ _ _
    refine wpAny_bind ?_
    refine wpAny_updateSeq hS' rfl (wpAny_pure ⟨plainId_quiet PySem.F.plain_extend_loop _, ih (i + 1) _ tk _ (acc.push (Value.ref h.objs.size)) (as ++ [h.objs.size]) (by omega) hlt (hst'.keep up a)
      (fun b o c1 c2 c3 c4 c5 e => up b o c1 (hkp b o c2 c3 c4 c5 (hkeep b o c1 c2 c3 c4 c5 e))) (Heap.get?_update_self _ hS' rfl) (by rw [Array.toList_push, hacc, List.map_append]; rfl) (by rw [List.length_append, hal]; rfl) ⟨?_, ?_, ?_⟩ ?_⟩) (by rw [hsz]; omega) (by show (acc.push (Value.ref h.objs.size)).size ≤ sizeLine + 1; rw [Array.size_push, hsz]; omega)
    · refine List.pairwise_append.mpr ⟨hG.rise, List.pairwise_singleton _ _, fun b hb d hd => ?_⟩
      rw [List.mem_singleton.mp hd]
      exact hG.there hb
    · intro b hb
      rcases List.mem_append.mp hb with hb | hb
      · exact hG.above b hb
      · rw [List.mem_singleton.mp hb]; exact hlo
    · intro j b hj
      rcases Nat.lt_trichotomy j as.length with h1 | h1 | h1
      · rw [List.getElem?_append_left h1] at hj
        obtain ⟨x', y', e1, e2, e3⟩ := hG.pairs j b hj
        have hb := hG.above b (List.mem_of_getElem? hj)
        exact ⟨x', y', e1, e2, up b _ (Nat.ne_of_gt (Nat.lt_of_le_of_lt lS hb)) (hkp b _ (Nat.ne_of_gt (Nat.lt_of_le_of_lt lz hb)) (Nat.ne_of_gt (Nat.lt_of_le_of_lt lTO hb)) (Nat.ne_of_gt (Nat.lt_of_le_of_lt li1 hb)) (Nat.ne_of_gt (Nat.lt_of_le_of_lt li2 hb)) e3)⟩
      · subst h1
        have hb : h.objs.size = b := by simpa using hj
        subst hb
        exact ⟨x, y, by rw [hal]; exact hx, by rw [hal]; exact hy, up _ _ (Nat.ne_of_gt hSl) ht⟩
      · have hnone : (as ++ [h.objs.size])[j]? = none := List.getElem?_eq_none (by rw [List.length_append, List.length_singleton]; omega)
        rw [hnone] at hj; cases hj
    · have e : (g.update S (Obj.mapSeq (·.push (Value.ref h.objs.size)))).get? h.objs.size = _ := up _ _ (Nat.ne_of_gt hSl) ht
      exact Nat.lt_trans hlo (Heap.lt_size e)
end
section
theorem nolen_zip : typeLookup (.type "zip") "__len__" = pure none := by rw [typeLookup_type, builtinLookup_eq_fast]; kernel_rfl
theorem nohint_zip : typeLookup (.type "zip") "__length_hint__" = pure none := by rw [typeLookup_type, builtinLookup_eq_fast]; kernel_rfl
variable {prog : Program} {w : World} {A : Around} {E : Value → Shared → Prop} {s : Shared}
variable {z TI TO i1 i2 l1 l2 S : Addr} {xs ys : Array Value}
theorem extendZ {R : Result → Shared → Prop} (hh : A.handled = none) (a : Ap z TI TO i1 i2 l1 l2 S) (hz : IsZip s.heap z TI TO .none) (st : St s.heap z TI TO i1 i2 l1 l2 xs ys S 0) (hl : xs.size = ys.size) (hn : xs.size ≤ sizeLine) (res : Value) (c₀ : Nat) (hS : s.heap.get? S = some { cls := .type "list", data := .seq #[] c₀ }) {lo : Addr} (lz : z ≤ lo) (lTO : TO ≤ lo) (li1 : i1 ≤ lo) (li2 : i2 ≤ lo) (lS : S ≤ lo) (hlo : lo < s.heap.objs.size)
    (hR : ∀ h' tk acc c as, Kp z TO i1 i2 S s.heap h' → h'.get? S = some { cls := .type "list", dict := none, data := .seq acc c, slots := #[] } → as.length = xs.size → Gd xs ys lo h' as → acc.toList = as.map Value.ref → R (.ok (.ret res)) { s with heap := h', toks := tk }) :
    wpAny (model prog w) A.in1 (Builtin.List.listExtendWith (.ref S) (.ref z) res)
      (fun fin s' => match fin with | .done f => R (.ok f) s' | .again c' => c'.quiet = true ∧ codeAny (model prog w) A c' R s') (fun e s' => R (.error e) s') s := by
  have ty : s.TypeIs (.ref z) "zip" := ⟨_, hz, rfl⟩
  unfold Builtin.List.listExtendWith
  refine wpAny_bind (wpAny_typeOf ty ?_)
  have h1 : Builtin.List.listSameRef (.ref S) (.ref z) = false := by simp [Builtin.List.listSameRef, a.Sz]
  have h2 : (Value.type "zip" == Value.type "list") = false := by decide
  have h3 : (Value.type "zip" == Value.type "tuple") = false := by decide
  simp only [h1, h2, h3, Bool.or_false, Bool.false_eq_true, if_false]
  refine wpAny_bind (wpAny_pyIter_zip hz ?_)
  refine wpAny_bind (wpAny_holding ?_)
  unfold Builtin.List.listLengthHint
  refine wpAny_bind (wpAny_specialOf ty nolen_zip ?_)
  show wpAny _ A.in1 (specialOf (Value.ref z) (Str.ofString "__length_hint__") >>= _) _ _ _
  refine wpAny_bind (wpAny_specialOf ty nohint_zip ?_)
  refine wpAny_pure ?_
  show wpAny _ A.in1 (rule "list.extend.makes-room" >>= fun _ => Builtin.List.listTouch (.ref S) >>= fun _ => again (.builtin "list.extend.loop" ⟨[.ref S, .ref z, res], []⟩)) _ _ _
  refine wpAny_bind (wpAny_rule ?_)
  refine wpAny_bind ?_
  show wpAny _ _ (updateSeq S (·.push .none) >>= fun _ => updateSeq S (·.pop)) _ _ _
  refine wpAny_bind (wpAny_updateSeq hS rfl ?_)
  have hS₂ := Heap.get?_update_self (Obj.mapSeq (·.push Value.none)) hS rfl
  refine wpAny_updateSeq (hz := by seq_fits) hS₂ rfl ?_
  have hS₃ := Heap.get?_update_self (Obj.mapSeq (·.pop)) hS₂ rfl
  have oth : ∀ b o, b ≠ S → s.heap.get? b = some o → ((s.heap.update S (Obj.mapSeq (·.push Value.none))).update S (Obj.mapSeq (·.pop))).get? b = some o := fun b o hb e => (Heap.get?_update_other _ _ (Ne.symm hb)).trans ((Heap.get?_update_other _ _ (Ne.symm hb)).trans e)
  have zl := oth _ _ a.Sz.symm hz
  refine wpAny_pure ⟨plainId_quiet PySem.F.plain_extend_loop _, loopZ (s := s) (h₁ := s.heap) hh a hl hn res lz lTO li1 li2 lS hR xs.size 0 _ _ _ #[] [] (Nat.sub_zero _) (Nat.zero_le _) (st.keep oth a) (fun b o c1 _ _ _ _ e => oth b o c1 e) hS₃ rfl rfl ⟨List.Pairwise.nil, (fun _ h => nomatch h), fun j b hj => by simp at hj⟩ ?_⟩
  show lo < ((s.heap.update S (Obj.mapSeq (·.push Value.none))).update S (Obj.mapSeq (·.pop))).objs.size
  rw [Heap.size_update, Heap.size_update]
  exact hlo
theorem initZ {R : Result → Shared → Prop} (hh : A.handled = none) (a : Ap z TI TO i1 i2 l1 l2 S) (hz : IsZip s.heap z TI TO .none) (st : St s.heap z TI TO i1 i2 l1 l2 xs ys S 0) (hl : xs.size = ys.size) (hn : xs.size ≤ sizeLine) (hS : s.heap.get? S = some { cls := .type "list", data := .seq #[] }) {lo : Addr} (lz : z ≤ lo) (lTO : TO ≤ lo) (li1 : i1 ≤ lo) (li2 : i2 ≤ lo) (lS : S ≤ lo) (hlo : lo < s.heap.objs.size)
    (hR : ∀ h' tk acc c as, Kp z TO i1 i2 S s.heap h' → h'.get? S = some { cls := .type "list", dict := none, data := .seq acc c, slots := #[] } → as.length = xs.size → Gd xs ys lo h' as → acc.toList = as.map Value.ref → R (.ok (.ret .none)) { s with heap := h', toks := tk }) :
    wpAny (model prog w) A.in1 (Builtin.«list.__init__» ⟨[.ref S, .ref z], []⟩)
      (fun fin s' => match fin with | .done f => R (.ok f) s' | .again c' => c'.quiet = true ∧ codeAny (model prog w) A c' R s') (fun e s' => R (.error e) s') s := by
  show wpAny _ _ (do let old ← Builtin.List.listItems (.ref S); Builtin.List.listUpdate (.ref S) (fun _ => #[]); letGo old.toList.reverse; Builtin.List.listExtendWith (.ref S) (.ref z) .none) _ _ s
  refine wpAny_bind ?_
  unfold Builtin.List.listItems
  refine wpAny_bind (wpAny_seqItems hS rfl (wpAny_pure ?_))
  show wpAny _ _ (updateSeq S (fun _ => #[]) >>= fun _ => letGo (#[] : Array Value).toList.reverse >>= fun _ => Builtin.List.listExtendWith (.ref S) (.ref z) .none) _ _ s
  refine wpAny_bind (wpAny_updateSeq hS rfl ?_)
  have hS₂ := Heap.get?_update_self (Obj.mapSeq (fun _ => (#[] : Array Value))) hS rfl
  have oth : ∀ b o, b ≠ S → s.heap.get? b = some o → (s.heap.update S (Obj.mapSeq (fun _ => (#[] : Array Value)))).get? b = some o :=
    fun b o hb e => (Heap.get?_update_other _ _ (Ne.symm hb)).trans e
  refine wpAny_bind (wpAny_letGo ?_)
  refine extendZ hh a (oth _ _ a.Sz.symm hz) (st.keep oth a) hl hn .none _ hS₂ lz lTO li1 li2 lS (by show lo < (s.heap.update S _).objs.size; rw [Heap.size_update]; exact hlo) fun h' tk acc c as hk hS' hl' hG hacc => ?_
  exact hR h' tk acc c as (fun b o c1 c2 c3 c4 c5 e => hk b o c1 c2 c3 c4 c5 (oth b o c1 e)) hS' hl' hG hacc
/-- list of the zip that was just made -/
theorem call_list_zip {g : Heap} {Q : Value → Shared → Prop} (hh : A.handled = none) (hl1 : s.heap.IsList l1 xs) (hl2 : s.heap.IsList l2 ys) (hl : xs.size = ys.size) (hn : xs.size ≤ sizeLine)
    (hz : IsZip g (s.heap.objs.size + 4) (s.heap.objs.size + 2) (s.heap.objs.size + 3) .none) (hTI : IsPair g (s.heap.objs.size + 2) (.ref s.heap.objs.size) (.ref (s.heap.objs.size + 1))) (hTO : IsPair g (s.heap.objs.size + 3) .none .none) (h1 : g.IsListIter s.heap.objs.size l1 0) (h2 : g.IsListIter (s.heap.objs.size + 1) l2 0) (hsz : g.objs.size = s.heap.objs.size + 5) (hk : ∀ c o, s.heap.get? c = some o → g.get? c = some o)
    (q : ∀ h' tk acc c as S, s.heap.objs.size ≤ S → (∀ b o, s.heap.get? b = some o → h'.get? b = some o) → h'.get? S = some { cls := .type "list", dict := none, data := .seq acc c, slots := #[] } → as.length = xs.size → Gd xs ys S h' as → acc.toList = as.map Value.ref → Q (.ref S) { s with heap := h', toks := tk }) :
    wpAny (model prog w) A (call (.type "list") [.ref (s.heap.objs.size + 4)]) Q E { s with heap := g } := by
  refine callType_codes (Q₁ := fun obj s₁ => obj = .ref g.objs.size ∧ s₁ = { s with heap := g.push { cls := .type "list", data := .seq #[] } }) PySem.F.called_list (PySem.F.typeCall_list_1 _) PySem.F.entry_list_init
    (code_list_new _ ⟨rfl, rfl⟩) fun obj s₁ h₁ => ?_
  obtain ⟨rfl, rfl⟩ := h₁
  have a1 : l1 < s.heap.objs.size := let ⟨_, e, _⟩ := hl1; Heap.lt_size e
  have a2 : l2 < s.heap.objs.size := let ⟨_, e, _⟩ := hl2; Heap.lt_size e
  have hS : (g.push { cls := .type "list", data := .seq #[] }).get? g.objs.size = some { cls := .type "list", data := .seq #[] } := Heap.get?_push_size _ rfl
  have up : ∀ b o, g.get? b = some o → (g.push { cls := .type "list", data := .seq #[] }).get? b = some o := fun b o e => Heap.get?_push_of_some _ e
  have n5 : ∀ {b : Addr}, b < s.heap.objs.size + 5 → g.objs.size ≠ b := fun {b} hb => by rw [hsz]; exact Nat.ne_of_gt hb
  have AP : Ap (s.heap.objs.size + 4) (s.heap.objs.size + 2) (s.heap.objs.size + 3) s.heap.objs.size (s.heap.objs.size + 1) l1 l2 g.objs.size := ⟨PySem.W.ktu_apart s.heap.objs.size l1 l2 a1 a2, n5 (Nat.add_lt_add_left (show 4 < 5 by decide) _), n5 (Nat.add_lt_add_left (show 2 < 5 by decide) _), n5 (Nat.add_lt_add_left (show 3 < 5 by decide) _), n5 (Nat.lt_add_of_pos_right (show 0 < 5 by decide)), n5 (Nat.add_lt_add_left (show 1 < 5 by decide) _), n5 (Nat.lt_of_lt_of_le a1 (Nat.le_add_right _ _)), n5 (Nat.lt_of_lt_of_le a2 (Nat.le_add_right _ _)), Nat.ne_of_lt (Nat.lt_of_lt_of_le a2 (Nat.le_add_right _ _)), Nat.ne_of_lt (Nat.lt_of_lt_of_le a1 (Nat.le_add_right _ _))⟩
  have le5 : ∀ {b : Addr}, b ≤ s.heap.objs.size + 5 → b ≤ g.objs.size := fun {b} hb => by rw [hsz]; exact hb
  refine ⟨⟨_, hS, rfl⟩, PySem.F.args_list_init_2 _ _, initZ (lo := g.objs.size) (A := A.in1) hh AP (up _ _ hz) ⟨up _ _ hTI, h1.at fun o => up _ o, h2.at fun o => up _ o, hl1.at fun o e => up _ o (hk _ o e), hl2.at fun o e => up _ o (hk _ o e), .inl ⟨_, _, up _ _ hz, up _ _ hTO⟩⟩ hl hn hS (le5 (Nat.add_le_add_left (show 4 ≤ 5 by decide) _)) (le5 (Nat.add_le_add_left (show 3 ≤ 5 by decide) _)) (le5 (Nat.le_add_right _ _)) (le5 (Nat.add_le_add_left (show 1 ≤ 5 by decide) _)) (Nat.le_refl _) (by rw [Heap.size_push]; exact Nat.lt_succ_self _) (fun h' tk acc c as kp hS' hl' hG hacc => ?_)⟩
  refine ⟨rfl, q h' tk acc c as g.objs.size (le5 (Nat.le_add_right _ _)) (fun b o e => ?_) hS' hl' hG hacc⟩
  have hb := Heap.lt_size e
  exact kp b o (Nat.ne_of_lt (Nat.lt_of_lt_of_le hb (le5 (Nat.le_add_right _ _)))) (Nat.ne_of_lt (Nat.lt_of_lt_of_le hb (Nat.le_add_right _ _))) (Nat.ne_of_lt (Nat.lt_of_lt_of_le hb (Nat.le_add_right _ _))) (Nat.ne_of_lt hb) (Nat.ne_of_lt (Nat.lt_of_lt_of_le hb (Nat.le_add_right _ _))) (up _ _ (hk _ _ e))
end
/-- the pairs, each at its address -/
def putP : Hp → List Addr → List (V × V) → Hp
  | H, a :: as, p :: ps => putP (upd H a (.tup [p.1, p.2])) as ps
  | H, _, _ => H
theorem putP_off {b : Addr} : ∀ (as : List Addr) (ps : List (V × V)) (H : Hp), b ∉ as → putP H as ps b = H b
  | [], _, _, _ => rfl
  | _ :: _, [], _, _ => rfl
  | a :: as, p :: ps, H, h => by
    show putP (upd H a (.tup [p.1, p.2])) as ps b = H b
    rw [putP_off as ps _ (fun z => h (List.mem_cons_of_mem _ z)), upd_ne (fun z => h (by rw [z]; exact List.mem_cons_self))]
theorem putP_at : ∀ (as : List Addr) (ps : List (V × V)) (H : Hp), as.length = ps.length → as.Nodup → ∀ (j : Nat) (a : Addr) (p : V × V), as[j]? = some a → ps[j]? = some p → putP H as ps a = some (.tup [p.1, p.2])
  | [], _, _, _, _, j, a, p, h, _ => by simp at h
  | _ :: _, [], _, h, _, _, _, _, _, _ => by cases h
  | a :: as, p :: ps, H, hl, hn, 0, b, r, h1, h2 => by
    have hn' := List.nodup_cons.mp hn
    simp at h1 h2
    subst h1
    subst h2
    show putP (upd H a (.tup [p.1, p.2])) as ps a = _
    rw [putP_off as ps _ hn'.1, upd_same]
  | a :: as, p :: ps, H, hl, hn, j + 1, b, r, h1, h2 => putP_at as ps _ (Nat.succ.inj hl) (List.nodup_cons.mp hn).2 j b r (by simpa using h1) (by simpa using h2)
theorem vals_refsP : ∀ as : List Addr, Vals (as.map V.ref) (as.map Value.ref)
  | [] => .nil
  | _ :: as => .cons rfl (vals_refsP as)
def tListZip (K : PySem.W.Frag) (t : TA) : TE := fun σ H Q => t σ H fun vs H1 => ∃ a b xs ys, vs = [.ref a, .ref b] ∧ SqL K H1 a xs ∧ SqL K H1 b ys ∧ xs.length = ys.length ∧
  ∀ (p : Addr) (ts : List Addr), H1 p = none → (∀ t ∈ ts, H1 t = none) → p ∉ ts → ts.Nodup → ts.length = xs.length → Q (.ref p) (upd (putP H1 ts (xs.zip ys)) p (.lst (ts.map V.ref)))
section
variable {X : Cx} {p p2 pos pos2 : Pos} {e e2 : Expr} {t : TA}
theorem zip_laid {pins : List (Addr × Obj)} {σ : L2.St} {H : Hp} {s : Shared} {h' : Heap} {tk : Nat} {xs ys : List V} {us vs : List Value} {acc : Array Value} {c : Nat} {as : List Addr} {S : Addr} (I : Inv X pins σ H s) (hz : xs.length ≤ sizeLine) (hl : xs.length = ys.length) (ra : Vals xs us) (rb : Vals ys vs) (hSz : s.heap.objs.size ≤ S)
    (hk : ∀ b o, s.heap.get? b = some o → h'.get? b = some o) (hS : h'.get? S = some { cls := .type "list", dict := none, data := .seq acc c, slots := #[] }) (hal : as.length = xs.length) (hG : Gd us.toArray vs.toArray S h' as) (hacc : acc.toList = as.map Value.ref) :
    H S = none ∧ (∀ t ∈ as, H t = none) ∧ S ∉ as ∧ as.Nodup ∧ Inv X pins σ (upd (putP H as (xs.zip ys)) S (.lst (as.map V.ref))) { s with heap := h', toks := tk } := by
  have lz : (xs.zip ys).length = as.length := by rw [List.length_zip]; omega
  have hSn : S ∉ as := fun z => Nat.lt_irrefl _ (hG.above _ z)
  have nd : as.Nodup := List.Pairwise.imp (fun {a b} (h : a < b) => Nat.ne_of_lt h) hG.rise
  have hi : ∀ t ∈ as, s.heap.objs.size ≤ t := fun t ht => Nat.le_trans hSz (Nat.le_of_lt (hG.above t ht))
  have new : ∀ t ∈ as, H t = none := fun t ht => I.hok.fresh (hi t ht)
  have newS : H S = none := I.hok.fresh hSz
  have off : ∀ b, b ∉ as → b ≠ S → upd (putP H as (xs.zip ys)) S (.lst (as.map V.ref)) b = H b := fun b h1 h2 => by rw [upd_ne h2, putP_off as _ _ h1]
  have low : ∀ b o, s.heap.get? b = some o → b ∉ as ∧ b ≠ S := fun b o e => ⟨fun z => absurd (Heap.lt_size e) (Nat.not_lt.mpr (hi b z)), Nat.ne_of_lt (Nat.lt_of_lt_of_le (Heap.lt_size e) hSz)⟩
  have kp : ∀ b u, H b = some u → upd (putP H as (xs.zip ys)) S (.lst (as.map V.ref)) b = some u := fun b u e => by
    rw [off b (fun z => by rw [new b z] at e; cases e) (fun z => by rw [z, newS] at e; cases e)]
    exact e
  refine ⟨newS, new, hSn, nd, ?_⟩
  refine I.call' (ch := []) rfl ⟨fun b o q _ _ _ => hk b o q, fun b o q _ _ _ => ⟨o.slots, hk b o q⟩, fun b o q n _ => ?_, fun b o q _ => ⟨o, hk b o q⟩, fun b xs q => kp b _ q, fun b o u q => kp b _ q, fun b ps q => ⟨#[], by rw [kp b _ q]; simp⟩⟩ (fun b u q => ?_) I.bare fun b z => by simp at z
  · obtain ⟨z1, z2⟩ := low b o q
    rw [off b z1 z2]
    exact n
  · by_cases hb : b ∈ as
    · obtain ⟨j, hj⟩ := List.mem_iff_getElem?.mp hb
      have jl : j < as.length := (List.getElem?_eq_some_iff.mp hj).1
      have hp : (xs.zip ys)[j]? = some ((xs.zip ys)[j]'(by omega)) := List.getElem?_eq_getElem _
      rw [upd_ne (fun z => hSn (by rw [← z]; exact hb)), putP_at as _ H lz.symm nd j b _ hj hp] at q
      cases q
      obtain ⟨x, y, f1, f2, f3⟩ := hG.pairs j b hj
      rw [List.getElem_zip] 
      have hx : xs[j]? = some (xs[j]'(by omega)) := List.getElem?_eq_getElem _
      have hy : ys[j]? = some (ys[j]'(by omega)) := List.getElem?_eq_getElem _
      obtain ⟨u, hu, ru⟩ := ra.get hx
      obtain ⟨v, hv, rv⟩ := rb.get hy
      have e1 : u = x := by
        rw [List.getElem?_toArray, hu] at f1
        exact Option.some.inj f1
      have e2 : v = y := by
        rw [List.getElem?_toArray, hv] at f2
        exact Option.some.inj f2
      subst e1
      subst e2
      exact ⟨by show 2 ≤ sizeLine; decide, [u, v], .cons ru (.cons rv .nil), ⟨_, f3, rfl, _, rfl⟩⟩
    · by_cases hb2 : b = S
      · rw [hb2] at q ⊢
        rw [upd_same] at q
        cases q
        refine ⟨by rw [List.length_map]; omega, acc.toList, c, by rw [hacc]; exact vals_refsP as, ?_⟩
        rw [Array.toArray_toList]
        exact hS
      · rw [off b hb hb2] at q
        exact (I.hok b u q).stay (fun d v _ y => hk d v y) (fun d y => kp d _ y) fun d xs y => kp d _ y
theorem pe_listZip {K : PySem.W.Frag} (eK : X.K = K) (hc : X.calm = true) (hg : Gl X "list") (hm : X.mg "list" = none) (hv : bootBuiltins "list" = some (.type "list")) (hg2 : Gl X "zip") (hm2 : X.mg "zip" = none) (ha : PA X [e, e2] t)
    (hs : starEach [.Call (.Name "zip" p2) [e, e2] [] pos2] X.env = (false, eval (.Call (.Name "zip" p2) [e, e2] [] pos2) X.env) :: starEach [] X.env := by rfl) (hs2 : starEach [e, e2] X.env = (false, eval e X.env) :: starEach [e2] X.env := by rfl) (hpl : (backTo pos2 (starEach [e2] X.env)).any (·.1) = false := by rfl) :
    PE X (.Call (.Name "list" p) [.Call (.Name "zip" p2) [e, e2] [] pos2] [] pos) (tListZip K t) := by
  subst eK
  refine ⟨fun pins s σ H Q I h => ?_⟩
  refine Call_ (ld_blt I hg hm hv ?_)
  refine PyProof.Rows.callWith_type1 (PyProof.Rows.args_cons ?_ hs) hs rfl
  refine Call_ (ld_blt I hg2 hm2 PyProof.Rows.boot_zip ?_)
  refine PyProof.Rows.callWith_type1 (thn (ha.run _ pins s σ H _ I h) fun us s1 got => ?_) hs2 hpl
  obtain ⟨vs, H1, I1, r1, a, b, xs, ys, rfl, qa, qb, hl, q⟩ := got
  obtain ⟨u1, u2, rfl, ra, rb⟩ := vals2 r1
  cases ra
  cases rb
  obtain ⟨la, va, pa, hz⟩ := I1.list qa
  obtain ⟨lb, vb, pb, _⟩ := I1.list qb
  have e1 := va.length
  have e2 := vb.length
  refine call_zip_2 pa.isList pb.isList fun g hz' hTI hTO h1 h2 hsz hk => PyProof.Rows.args_nil ?_
  refine call_list_zip (I1.ok.hd hc) pa.isList pb.isList (by simp only [List.size_toArray]; omega) (by simp only [List.size_toArray]; omega) hz' hTI hTO h1 h2 hsz hk fun h' tk acc c as S hSz hk2 hS hal hG hacc => ?_
  have hal' : as.length = xs.length := by rw [hal, List.size_toArray]; omega
  obtain ⟨k1, k2, k3, k4, J⟩ := zip_laid (tk := tk) I1 (by omega) hl va vb hSz hk2 hS hal' hG hacc
  exact ⟨.ref _, _, J, rfl, q S as k1 k2 k3 k4 hal'⟩
end
end LZ
/-! ### sorted(pairs of whole numbers, reverse=True) -/
abbrev NP : Type := Nat × Nat
def encP (p : NP) : PyData := .tuple [.int p.1, .int p.2]
abbrev VP : Type := V × NP
def sortV (ts : List VP) : List VP := ts.mergeSort (PySem.W.dataLe true fun t : VP => encP t.2)
def rSortRev (K : PySem.W.Frag) : List V → List V → Hp → VK → Prop := fun vs zs H Q => ∃ (a : Addr) (ts : List VP), vs = [.ref a] ∧ zs = [.bl true] ∧ SqL K H a (ts.map (·.1)) ∧ (∀ t ∈ ts, DatV K H t.1 (encP t.2)) ∧
  ∀ p, H p = none → Q (.ref p) (upd H p (.lst ((sortV ts).map (·.1))))
theorem eachP : ∀ {bs : List VP} {us : List Value}, Vals (bs.map (·.1)) us → PySem.W.EachIs (fun u (b : VP) => RelV b.1 u) us bs
  | [], _, h => by cases h; exact .nil
  | _ :: _, _, h => by
    cases h with
    | cons r rs => exact .cons r (eachP rs)
theorem valsP : ∀ {bs : List VP} {us : List Value}, PySem.W.EachIs (fun u (b : VP) => RelV b.1 u) us bs → Vals (bs.map (·.1)) us
  | [], _, h => by cases h; exact .nil
  | _ :: _, _, h => by
    cases h with
    | cons r rs => exact .cons r (valsP rs)
theorem each_andP {R S : Value → VP → Prop} : ∀ {bs : List VP} {us : List Value}, PySem.W.EachIs R us bs → (∀ b ∈ bs, ∀ u, R u b → S u b) → PySem.W.EachIs S us bs
  | [], _, h, _ => by cases h; exact .nil
  | b :: _, _, h, f => by
    cases h with
    | cons r rs => exact .cons (f b List.mem_cons_self _ r) (each_andP rs fun b hb => f b (List.mem_cons_of_mem _ hb))
theorem cr_sortedRev {X : Cx} {K : PySem.W.Frag} (hK : X.K = K) (hu : X.A.units + 64 < cLine) : CallRK X (.builtin "sorted") [Str.ofString "reverse"] (rSortRev K) := by
  subst hK
  intro pins s σ H vs zs us ws Q I r rz h
  obtain ⟨a, ts, rfl, rfl, hs, hd, q⟩ := h
  obtain ⟨its, rv, hl, hz⟩ := I.list hs
  rw [Vals.ref1 r]
  obtain ⟨w1, rfl, e1⟩ := vals1 rz
  cases e1
  have e := eachP rv
  have hL : ts.length ≤ sizeLine := by rw [List.length_map] at hz; exact hz
  have dp : ∀ t : VP, (encP t.2).depth ≤ 8 := fun t => by simp [encP, PyData.depth, PyData.depthAll]
  refine PySem.W.sorted_rev_data (enc := fun b : VP => encP b.2) hl.isList e (each_andP e fun b hb u ru => DatV.reads I _ _ _ (hd b hb) ru) (PySem.W.AllAlike.of fun a b => by simp [encP, PySem.W.alike, PySem.W.alikeAll]) (PySem.W.Sortable.tuples fun b => ⟨_, _, rfl⟩) hL (fun b hb => by have := dp b; omega) fun out hlen ho => ?_
  obtain ⟨ep, he'⟩ := PyProof.Rows.sortedAll_at s.heap its out.toArray
  have lo : ((sortV ts).map (·.1)).length ≤ sizeLine := by
    rw [List.length_map, show (sortV ts).length = ts.length from (List.mergeSort_perm _ _).length_eq]
    exact hL
  exact ⟨.ref _, upd H (s.heap.objs.size + 1) (.lst ((sortV ts).map (·.1))), I.laid (t' := s.toks) (fun _ _ => PyProof.Rows.sortedAll_old) (Nat.le_succ _) ⟨lo, out, ep, valsP ho, he'⟩, rfl, q _ (I.hok.fresh (Nat.le_succ _))⟩
/-! ### methods of own classes, zip of two lists, list(zip(..)), lcm -/
section
variable {z : Cz} {m : Fm} {F H : Hp} {σ : L2.St} {ρ : List Sl}
def zip2 (xs ys : List Dt) : List Dt := List.zipWith (fun a b => .tup [a, b]) xs ys
theorem Sm.newP : ∀ (ts : List Addr) (ps : List (V × V)) {F H : Hp} (xs ys : List Dt) (vs us : List V), Sm z m F H σ ρ → (∀ t ∈ ts, H t = none) → ts.Nodup → Rzl z.K m.B F xs vs → Rzl z.K m.B F ys us → vs.zip us = ps → ts.length = ps.length → ∃ F', Same F F' ∧ Sm z m F' (LZ.putP H ts ps) σ ρ ∧ Rzl z.K m.B F' (zip2 xs ys) (ts.map V.ref)
  | [], ps, F, H, xs, ys, vs, us, S, _, _, h1, h2, e, l => by
    have hp : ps = [] := List.eq_nil_of_length_eq_zero l.symm
    subst hp
    refine ⟨F, Same.refl F, S, ?_⟩
    have z0 : zip2 xs ys = [] := by
      refine List.eq_nil_of_length_eq_zero ?_
      unfold zip2
      rw [List.length_zipWith, ← h1.len, ← h2.len, ← List.length_zip, e]
      rfl
    rw [z0]
    exact .nil
  | t :: ts, ps, F, H, xs, ys, vs, us, S, hn, nd, h1, h2, e, l => by
    cases xs with
    | nil =>
      obtain rfl := h1.inv0
      subst e
      cases l
    | cons x xs =>
      cases ys with
      | nil =>
        obtain rfl := h2.inv0
        rw [List.zip_nil_right] at e
        subst e
        cases l
      | cons y ys =>
        obtain ⟨v, vs', rfl, r1, h1⟩ := h1.inv
        obtain ⟨u, us', rfl, r2, h2⟩ := h2.inv
        rw [List.zip_cons_cons] at e
        subst e
        obtain ⟨f1, S1⟩ := S.new (o := .tup [v, u]) (hn t (by simp))
        have nd' := List.nodup_cons.mp nd
        obtain ⟨F', f2, S2, r⟩ := Sm.newP ts (vs'.zip us') xs ys vs' us' S1 (fun b hb => by rw [upd_ne (fun c => nd'.1 (by rw [← c]; exact hb))]; exact hn b (by simp [hb])) nd'.2 (rzl_mono f1 _ _ h1) (rzl_mono f1 _ _ h2) rfl (Nat.succ.inj l)
        refine ⟨F', f1.trans f2, S2, .cons ?_ r⟩
        simp only [Rz]
        exact ⟨t, _, rfl, f2 _ _ upd_same, .cons (rz_mono (f1.trans f2) _ _ r1) (.cons (rz_mono (f1.trans f2) _ _ r2) .nil)⟩
end
section
variable {z : Cz} {ρ : List Sl} {N : Dt → Bool → List Sl → Prop} {ta : TE} {t : TA} {w : Wz} {E : XK} {I : List Dt → List Sl → (List Sl → Prop) → (List Sl → List Sl) → Prop}
theorem look_no {f : Str} : ∀ {kvs : List (Str × V)}, f ∉ kvs.map Prod.fst → kvs.lookup f = none
  | [], _ => rfl
  | (k, v) :: r, h => by
    rw [List.map_cons, List.mem_cons, not_or] at h
    have c : (f == k) = false := by simpa using h.1
    rw [List.lookup, c]
    exact look_no h.2
theorem ze_meth {C : Addr} {mn : Str} (h : ZE z ta ρ fun x _ ρ1 => ∃ (fs : List Str) (es : List Dt), x = .ins C fs es ∧ mn ∉ fs ∧ ZA z t ρ1 fun ds ρ2 => w (Dt.olds (x :: ds)) (fun d fr => N d fr ρ2) fun _ _ => False) : ZE z (tMeth C mn (spZ z.K w) [] E ta t) ρ N := fun m F H σ Q S k => by
  refine h m F H σ _ S fun x fx ρ1 F1 H1 vx n1 s1 S1 r1 => ?_
  obtain ⟨F2, s2, S2, rx⟩ := rzF_frz S1 r1
  obtain ⟨fs, es, rfl, hm, n2⟩ := n1
  have rx0 := rx
  simp only [Rz] at rx
  obtain ⟨a, dx, kvs, rfl, e, hk, r⟩ := rx
  refine ⟨a, dx, kvs, rfl, S2.le.exact e rfl, look_no (by rw [hk]; exact hm), ?_⟩
  refine n2 m F2 H1 σ _ S2 fun ds ρ2 F3 H3 vs n3 s3 S3 r3 => ?_
  rw [List.append_nil]
  refine ⟨F3, Dt.olds (.ins C fs es :: ds), _, _, S3.le, rzl_old _ _ (.cons (rz_mono s3 _ _ rx0) r3), n3, fun d fr F' H' v nd g => ?_, fun C fs dd H' f => f.elim⟩
  obtain ⟨S4, r4⟩ := S3.got g
  exact k _ _ _ _ _ _ nd (s1.trans (s2.trans (s3.trans g.1))) S4 r4
theorem zi_zip {K' : PySem.W.Frag} (hK : K' = z.K) (h : ZA z t ρ fun ds ρ1 => ∃ (u1 u2 : Bool) (xs ys : List Dt), ds = [.lst u1 xs, .lst u2 ys] ∧ I (zip2 xs ys) ρ1 bT bI) : ZI z (iZip K' t) ρ I := fun m F H σ R S k => by
  subst hK
  refine h m F H σ _ S fun ds ρ1 F1 H1 vs n1 s1 S1 r1 => ?_
  obtain ⟨u1, u2, xs, ys, rfl, n⟩ := n1
  obtain ⟨v, r, rfl, rv, rr⟩ := r1.inv
  obtain ⟨v2, r, rfl, rv2, rr⟩ := rr.inv
  obtain rfl := rr.inv0
  simp only [Rz] at rv rv2
  obtain ⟨a, us, rfl, e, _, rx⟩ := rv
  obtain ⟨b, ws, rfl, e', _, ry⟩ := rv2
  refine ⟨a, b, us, ws, rfl, SqL.of (S1.le.exact e rfl), SqL.of (S1.le.exact e' rfl), k _ _ _ _ _ _ _ _ _ n s1 .id S1 ⟨min us.length ws.length, _, _, walk_zip rfl, by unfold zip2; rw [List.length_zipWith, rx.len, ry.len], fun F' H' f le _ => ⟨SqL.of (le.exact (f _ _ e) rfl), SqL.of (le.exact (f _ _ e') rfl)⟩, fun m2 i d F' H' H'' x σ ρ eb e f S y => ?_⟩⟩
  obtain ⟨T, vx, vy, rfl, hN, rfl, e2, e3⟩ := y
  dsimp only at e2 e3
  obtain ⟨dx, hd, rd⟩ := rx.back e2
  obtain ⟨dy, hd', rd'⟩ := ry.back e3
  unfold zip2 at e
  rw [List.getElem?_zipWith, hd, hd'] at e
  cases e
  obtain ⟨f2, S2⟩ := S.new (o := .tup [vx, vy]) hN
  refine ⟨_, f2, S2, ?_⟩
  rw [← eb] at *
  simp only [Rz]
  exact ⟨T, _, rfl, upd_same, .cons (rz_mono (f.trans f2) _ _ rd) (.cons (rz_mono (f.trans f2) _ _ rd') .nil)⟩
theorem ze_listZip {K' : PySem.W.Frag} (hK : K' = z.K) (h : ZA z t ρ fun ds ρ1 => ∃ (u1 u2 : Bool) (xs ys : List Dt), ds = [.lst u1 xs, .lst u2 ys] ∧ xs.length = ys.length ∧ N (.lst true (zip2 xs ys)) true ρ1) : ZE z (LZ.tListZip K' t) ρ N := fun m F H σ Q S k => by
  subst hK
  refine h m F H σ _ S fun ds ρ1 F1 H1 vs n1 s1 S1 r1 => ?_
  obtain ⟨u1, u2, xs, ys, rfl, hl, n⟩ := n1
  obtain ⟨v, r, rfl, rv, rr⟩ := r1.inv
  obtain ⟨v2, r, rfl, rv2, rr⟩ := rr.inv
  obtain rfl := rr.inv0
  simp only [Rz] at rv rv2
  obtain ⟨a, us, rfl, e, _, rx⟩ := rv
  obtain ⟨b, ws, rfl, e', _, ry⟩ := rv2
  refine ⟨a, b, us, ws, rfl, SqL.of (S1.le.exact e rfl), SqL.of (S1.le.exact e' rfl), by rw [rx.len, ry.len, hl], fun p ts hp hts hpt nd htl => ?_⟩
  have lz : (us.zip ws).length = us.length := by rw [List.length_zip, rx.len, ry.len, hl]; omega
  obtain ⟨F2, s2, S2, r2⟩ := Sm.newP ts (us.zip ws) xs ys us ws S1 hts nd rx ry rfl (by rw [htl, lz])
  have hp2 : LZ.putP H1 ts (us.zip ws) p = none := by rw [LZ.putP_off _ _ _ hpt]; exact hp
  have S3 := S2.newO (o := .lst (ts.map V.ref)) hp2
  exact k _ _ _ _ _ _ n (s1.trans s2) S3 (rzF_new S2 hp2 (.lst r2))
theorem ze_lcm (h : ZA z t ρ fun ds ρ1 => ∃ i j : Int, ds = [.int i, .int j] ∧ Bits 4000 i ∧ Bits 4000 j ∧ N (.int ((Nat.lcm i.natAbs j.natAbs : Nat) : Int)) false ρ1) : ZE z (tCB rLcm t) ρ N := fun m F H σ Q S k => by
  refine h m F H σ _ S fun ds ρ1 F1 H1 vs n1 s1 S1 r1 => ?_
  obtain ⟨i, j, rfl, b1, b2, n⟩ := n1
  obtain ⟨v, r, rfl, h1, t1⟩ := r1.inv
  obtain ⟨v2, r2, rfl, h2, t2⟩ := t1.inv
  obtain rfl := t2.inv0
  exact ⟨i, j, by rw [rz_i h1, rz_i h2], b1, b2, k _ _ _ _ _ _ n s1 S1 (rzF_f rzi)⟩
end
/-! ### sorted(pairs of whole numbers, reverse=True), as data -/
def pD2 (p : NP) : Dt := .tup [.int (p.1 : Int), .int (p.2 : Int)]
theorem encP_lt (p q : NP) : PySem.W.dataLt (encP p) (encP q) = (decide (p.1 < q.1) || (decide (p.1 = q.1) && decide (p.2 < q.2))) := by
  unfold encP
  rw [PySem.W.dataLt_pair (by simp [PySem.W.alike]) (by simp [PySem.W.alike]), PySem.W.dataLt_int, PySem.W.dataLt_int]
  simp only [PyData.eqv, beq_iff_eq]
  by_cases h : p.1 = q.1
  · rw [if_pos (by omega), h]
    simp
    omega
  · rw [if_neg (by omega)]
    simp [h]
theorem rzl_pairs {K : PySem.W.Frag} {B F : Hp} : ∀ {ps : List NP} {xs : List V}, Rzl K B F (ps.map pD2) xs → ∃ ts : List VP, ts.map (·.1) = xs ∧ ts.map (·.2) = ps ∧ ∀ t ∈ ts, Rz K B F (pD2 t.2) t.1
  | [], _, h => ⟨[], h.inv0.symm, rfl, fun _ q => nomatch q⟩
  | p :: ps, _, h => by
    obtain ⟨v, r, rfl, h1, h2⟩ := h.inv
    obtain ⟨ts, e1, e2, h3⟩ := rzl_pairs h2
    exact ⟨(v, p) :: ts, by rw [List.map_cons, e1], by rw [List.map_cons, e2], fun t q => by
      rcases List.mem_cons.mp q with rfl | q
      · exact h1
      · exact h3 t q⟩
theorem rzl_allP {K : PySem.W.Frag} {B F : Hp} : ∀ {ts : List VP}, (∀ t ∈ ts, Rz K B F (pD2 t.2) t.1) → Rzl K B F ((ts.map (·.2)).map pD2) (ts.map (·.1))
  | [], _ => .nil
  | t :: ts, h => .cons (h t List.mem_cons_self) (rzl_allP fun u q => h u (List.mem_cons_of_mem _ q))
section
variable {z : Cz} {ρ : List Sl} {N : Dt → Bool → List Sl → Prop} {ta : TE}
theorem zt_truX {K' : PySem.W.Frag} (hK : K' = z.K) {M : Bool → List Sl → Prop} (h : ZE z ta ρ fun x _ ρ1 => ∃ b, TruD x b ∧ M b ρ1) : ZT z (tTru K' ta) ρ M := by
  subst hK
  exact zt_tru h
theorem ze_sortRev {K' : PySem.W.Frag} (hK : K' = z.K) (h : ZE z ta ρ fun x _ ρ1 => ∃ (t : Bool) (ps : List NP), x = .lst t (ps.map pD2) ∧ (ps.map (·.1)).Nodup ∧ ∀ qs : List NP, qs.Perm ps → (qs.Pairwise fun a b => b.1 < a.1) → N (.lst true (qs.map pD2)) true ρ1) : ZE z (tCKw (rSortRev K') (tCons ta tNil) (tCons (tC (.bl true)) tNil)) ρ N := fun m F H σ Q S k => by
  subst hK
  refine h m F H σ _ S fun x fx ρ1 F1 H1 vx n1 s1 S1 r1 => ?_
  obtain ⟨F2, s2, S2, rx⟩ := rzF_frz S1 r1
  obtain ⟨t, ps, rfl, nd, n⟩ := n1
  simp only [Rz] at rx
  obtain ⟨a, xs, rfl, e, _, r⟩ := rx
  obtain ⟨ts, e1, e2, h3⟩ := rzl_pairs r
  refine ⟨a, ts, rfl, rfl, by rw [e1]; exact SqL.of (S2.le.exact e rfl), fun t ht => ?_, fun p hp => ?_⟩
  · exact toP_dat S2.le _ _ _ (by simp [pD2, encP, toP, toPs]) (h3 t ht)
  · have perm : (sortV ts).Perm ts := List.mergeSort_perm _ _
    have pw : (sortV ts).Pairwise fun a b => PySem.W.dataLe true (fun t : VP => encP t.2) a b = true := by
      refine List.pairwise_mergeSort (fun a b c h1 h2 => ?_) (fun a b => ?_) ts
      · simp only [PySem.W.dataLe_eq, cond_true, encP_lt, Bool.not_eq_true', Bool.or_eq_false_iff, Bool.and_eq_false_iff, decide_eq_false_iff_not] at *
        omega
      · simp only [PySem.W.dataLe_eq, cond_true, encP_lt]
        rcases Nat.lt_trichotomy a.2.1 b.2.1 with q | q | q
        · simp [show ¬ b.2.1 < a.2.1 by omega, show ¬ b.2.1 = a.2.1 by omega]
        · rcases Nat.lt_trichotomy a.2.2 b.2.2 with q' | q' | q' <;> simp [q] <;> omega
        · simp [show ¬ a.2.1 < b.2.1 by omega, show ¬ a.2.1 = b.2.1 by omega]
    have pm : ((sortV ts).map (·.2)).Perm ps := by rw [← e2]; exact perm.map _
    have nd2 : (((sortV ts).map (·.2)).map (·.1)).Nodup := (pm.map _).nodup_iff.mpr nd
    have pw2 : ((sortV ts).map (·.2)).Pairwise fun a b => b.1 < a.1 := by
      have q1 : ((sortV ts).map (·.2)).Pairwise fun a b : NP => a.1 ≠ b.1 := List.pairwise_map.mp nd2
      have q2 : ((sortV ts).map (·.2)).Pairwise fun a b : NP => PySem.W.dataLt (encP a) (encP b) = false := by
        refine List.pairwise_map.mpr (pw.imp fun {a b} h => ?_)
        simpa only [PySem.W.dataLe_eq, cond_true, Bool.not_eq_true'] using h
      refine (q1.and q2).imp fun {a b} h => ?_
      obtain ⟨h1, h2⟩ := h
      rw [encP_lt] at h2
      simp only [Bool.or_eq_false_iff, decide_eq_false_iff_not] at h2
      omega
    have rz : Rzl z.K m.B F2 (((sortV ts).map (·.2)).map pD2) ((sortV ts).map (·.1)) := rzl_allP fun t ht => h3 t (perm.mem_iff.mp ht)
    have S3 := S2.newO (o := .lst ((sortV ts).map (·.1))) hp
    exact k _ _ _ _ _ _ (n _ pm pw2) (s1.trans s2) S3 (rzF_new S2 hp (.lst rz))
end
section
variable {z : Cz} {ρ : List Sl} {ti : TE} {i : Nat}
/-- a place of a list that is one's own is written -/
theorem zg_setL {t0 : Bool} {ds0 : List Dt} {d : Dt} {L : List Sl → Prop} (h0 : ρ[i]? = some (.o (.lst t0 ds0))) (h : ZE z ti ρ fun y _ ρ1 => ∃ (j : Int) (k : Nat) (ds : List Dt), y = .int j ∧ ρ1[i]? = some (.o (.lst true ds)) ∧ ixN ds.length j = some k ∧ L (ρ1.set i (.o (.lst true (ds.set k d))))) : ZG z (gSub (tVar i) ti rSetL) d false ρ L := fun m F H σ v Q S r k => by
  have r : Rz z.K m.B F d v := r
  obtain ⟨l, e, _⟩ := S.geto h0
  refine ⟨.ref l, e, h m F H σ _ S fun y fy ρ1 F1 H1 vy n1 s1 S1 r1 => ?_⟩
  obtain ⟨F2, s2, S2, ry⟩ := rzF_frz S1 r1
  obtain ⟨j, p, ds, rfl, hs, hk, n⟩ := n1
  obtain ⟨l', e', q1, q2, q3, ho, q4, q5⟩ := S2.geto hs
  rw [e] at e'
  cases e'
  cases q5 with
  | @lst xs _ rd =>
    refine ⟨l, xs, j, p, rfl, rz_i ry, q4, by rw [rd.len]; exact hk, ?_⟩
    exact k _ _ _ _ n (s1.trans s2) (S2.put hs e (.lst (Rzl.set (rz_mono (s1.trans s2) _ _ r) p rd)))
end
section
variable {z : Cz} {ρ : List Sl} {te : TE} {i : Nat}
theorem zs_augI {D : Zn} {f : Int → Int → Int} {a : Int} (h0 : ρ[i]? = some (.v (.int a))) (h : ZE z te ρ fun y _ ρ1 => ∃ b, y = .int b ∧ D.nx (ρ1.set i (.v (.int (f a b))))) : ZS z (tAug i te (ipI f)) ρ D := fun m F H σ E S kn kr kb kc => by
  obtain ⟨v, e, r⟩ := S.getv h0
  obtain rfl := rz_i r
  refine ⟨_, e, h m F H σ _ S fun y fy ρ1 F1 H1 vy n1 s1 S1 r1 => ?_⟩
  obtain ⟨F2, s2, S2, ry⟩ := rzF_frz S1 r1
  obtain ⟨b, rfl, n⟩ := n1
  obtain rfl := rz_i ry
  exact ⟨a, b, rfl, rfl, kn _ _ _ _ n (s1.trans s2) (S2.setv rzi)⟩
end
local macro_rules | `(tactic| walk_at "z1") => `(tactic| first | (with_reducible apply ze_lcm) | ((with_reducible apply ze_meth)))
namespace Lq
def iL (t : Bool) (r : List Int) : Dt := .lst t (r.map Dt.int)
def nLst (t : Bool) (r : List Nat) : Dt := .lst t (r.map fun k : Nat => Dt.int (k : Int))
def elN : List Str := ["columns", "scale", "basis", "rows", "leads", "wrong"]
def wrD : Option Nat → Dt
  | none => .non
  | some k => .int (k : Int)
def elD (K : PySem.W.Frag) (t1 t2 t3 : Bool) (n : Nat) (sc : Nat) (basis : List Nat) (rows : List (List Int)) (leads : List Nat) (wrong : Option Nat) : Dt := .ins (He.ga K "Elimination") elN [.int (n : Int), .int (sc : Int), nLst t1 basis, .lst t2 (rows.map (iL false)), nLst t3 leads, wrD wrong]
theorem ratL_old (t : Bool) (r : List Rat) : (ratL t r).old = ratL false r := by
  show Dt.lst false (Dt.olds _) = _
  rw [olds_map, List.map_map]
  rfl
theorem iL_old (t : Bool) (r : List Int) : (iL t r).old = iL false r := by
  show Dt.lst false (Dt.olds _) = _
  rw [olds_map, List.map_map]
  rfl
theorem nLst_old (t : Bool) (r : List Nat) : (nLst t r).old = nLst false r := by
  show Dt.lst false (Dt.olds _) = _
  rw [olds_map, List.map_map]
  rfl
theorem rowsI_old (t : Bool) (rows : List (List Int)) : (Dt.lst t (rows.map (iL false))).old = .lst false (rows.map (iL false)) := by
  show Dt.lst false (Dt.olds _) = _
  rw [olds_map, List.map_map]
  congr 1
  exact List.map_congr_left fun r _ => iL_old false r
theorem wrD_old (w : Option Nat) : (wrD w).old = wrD w := by cases w <;> rfl
theorem elD_old (K : PySem.W.Frag) (t1 t2 t3 : Bool) (n sc : Nat) (basis : List Nat) (rows : List (List Int)) (leads : List Nat) (wrong : Option Nat) : (elD K t1 t2 t3 n sc basis rows leads wrong).old = elD K false false false n sc basis rows leads wrong := by
  show Dt.ins _ _ [.int (n : Int), .int (sc : Int), (nLst t1 basis).old, (Dt.lst t2 (rows.map (iL false))).old, (nLst t3 leads).old, (wrD wrong).old] = _
  rw [nLst_old, nLst_old, rowsI_old, wrD_old]
  rfl
def botN (r : List Rat) : Nat := r.foldl (fun a e => Nat.lcm a e.den) 1
theorem botN_snoc (r : List Rat) (e : Rat) : botN (r ++ [e]) = Nat.lcm (botN r) e.den := by
  unfold botN
  rw [List.foldl_append]
  rfl
theorem botN_dvd {D : Nat} {r : List Rat} (h : ∀ e ∈ r, e.den ∣ D) : ∀ i, botN (r.take i) ∣ D := by
  intro i
  induction i with
  | zero => rw [List.take_zero]; exact Nat.one_dvd _
  | succ i ih =>
    cases c : r[i]? with
    | none => rw [List.take_succ, c]; simpa using ih
    | some e =>
      rw [List.take_succ, c]
      show botN (r.take i ++ [e]) ∣ D
      rw [botN_snoc]
      exact Nat.lcm_dvd ih (h e (List.mem_of_getElem? c))
theorem botN_all {D : Nat} {r : List Rat} (h : ∀ e ∈ r, e.den ∣ D) : botN r ∣ D := by
  have := botN_dvd h r.length
  rw [List.take_length] at this
  exact this
theorem bits_dvd {D k : Nat} (hD : D ≠ 0) (h : k ∣ D) {p : Nat} (hp : D < 2 ^ p) : Bits p (k : Int) := by
  have := Nat.le_of_dvd (Nat.pos_of_ne_zero hD) h
  unfold Bits
  rw [Int.natAbs_natCast]
  omega
theorem den_mem {r : List Rat} {e : Rat} (h : e ∈ r) : e.den ∣ botN r := by
  have : ∀ (r : List Rat) (a : Nat), a ∣ r.foldl (fun a e => Nat.lcm a e.den) a ∧ ∀ e ∈ r, e.den ∣ r.foldl (fun a e => Nat.lcm a e.den) a := by
    intro r
    induction r with
    | nil => intro a; exact ⟨Nat.dvd_refl _, fun e h => nomatch h⟩
    | cons x r ih =>
      intro a
      obtain ⟨h1, h2⟩ := ih (Nat.lcm a x.den)
      refine ⟨Nat.dvd_trans (Nat.dvd_lcm_left _ _) h1, fun e he => ?_⟩
      rcases List.mem_cons.mp he with rfl | he
      · exact Nat.dvd_trans (Nat.dvd_lcm_right _ _) h1
      · exact h2 e he
  exact (this r 1).2 e h
/-- a fraction times b, where its denominator divides b -/
def scI (b : Nat) (e : Rat) : Int := e.num * ((b : Int).fdiv (e.den : Int))
theorem scI_eq {b : Nat} {e : Rat} (h : e.den ∣ b) : (scI b e : Rat) = ((b : Int) : Rat) * e := by
  obtain ⟨k, rfl⟩ := h
  have hd : (e.den : Int) ≠ 0 := den_neI e
  unfold scI
  have e1 : ((e.den * k : Nat) : Int) = (e.den : Int) * (k : Int) := Int.natCast_mul _ _
  rw [e1, Int.mul_fdiv_cancel_left _ hd, Rat.intCast_mul, Rat.intCast_mul]
  have e2 := rat_eq e
  have e3 := den_ne e
  generalize ((e.den : Int) : Rat) = d at *
  generalize (e.num : Rat) = n at *
  generalize ((k : Int) : Rat) = q at *
  rw [← e2]
  grind
def intR (S : Nat) (row : List Rat) (c : Rat) : List Int := row.map (scI (botN row)) ++ [scI S c * (botN row : Int)]
section
variable {P : Program} {w : World} {K : PySem.W.Frag} {mg : Str → Option Value} {base : Heap}
def wBottom : Wz := fun ds Nv _ => ∃ (D : Nat) (r : List Rat), ds = [ratL false r] ∧ D ≠ 0 ∧ D < 2 ^ 80 ∧ (∀ e ∈ r, e.den ∣ D) ∧ Nv (.int (botN r : Int)) false
set_option maxHeartbeats 4000000 in
theorem ok__common_bottom (T : Top w K mg) : FnOk P w K mg base CX0 1 (He.ga K ("_common_bottom" : Str)) (fdOf K d__common_bottom) ["numbers"] (spZ K wBottom) := by
  refine (T.f__common_bottom).ok sc__common_bottom (fun vs H Q E h => spz_len h (n := 1) fun ds Nv Ne hw => ?_) (fun cdv A outer s H vs Q E hr h => ?_)
  · obtain ⟨_, _, rfl, _⟩ := hw
    rfl
  · refine z_fn h (PSs.nox (pss_cons (ps_set (i := 1) sc__common_bottom.nd rfl (Or.inl rfl) pe_int)
    (pss_cons (ps_lockL (ps_for PassesOwn.never rfl (pi_listK (K := K) rfl (pv 0)) (pg_name (i := 2) sc__common_bottom.nd rfl (Or.inl rfl))
    (pss_one (ps_set (i := 1) sc__common_bottom.nd rfl (Or.inl rfl) (pe_callBfun cr_lcm rfl T.lcmM (pa_cons (pv 1) (pa_cons (pe_fldK (K := K) rfl (pv 2) rfl) pa_nil)))))))
    (pss_one (ps_ret (pv 1)))))) fun ds Nv Ne hw => ?_
    obtain ⟨D, r, rfl, hD, hD2, hd, k⟩ := hw
    walk_at "zz"
    refine zs_forL (zi_list ?_)
    walk_at "zz"
    refine ⟨_, _, rfl, fun i ρ => ∃ p2, ρ = [.v (ratL false r), .v (.int (botN (r.take i) : Int)), p2], ⟨_, rfl⟩, ?_, ?_⟩
    · rintro ρ ⟨p2, rfl⟩
      refine ⟨trivial, ?_⟩
      dsimp only [bI]
      rw [List.length_map, List.take_length]
      walk_at "zz"
      exact k
    · rintro i d ρ hx ⟨p2, rfl⟩
      obtain ⟨e, he, rfl⟩ := map_at hx
      have hm := List.mem_of_getElem? he
      have b1 := bits_dvd hD (botN_dvd hd i) hD2
      have b2 := bits_dvd hD (hd e hm) hD2
      walk_at "zz"
      refine ⟨_, _, .bot _ _, T.cls_Ratio, T.na_Ratio_bottom, ?_⟩
      walk_at "zz"
      refine ⟨_, _, rfl, b1.mono (by decide), b2.mono (by decide), ?_⟩
      walk_at "zz"
      refine ⟨.v (ratE e), ?_⟩
      rw [take_snoc he, botN_snoc, Int.natAbs_natCast, Int.natAbs_natCast]
      rfl
/-- the row in whole numbers; D for the row, S for the constants -/
def wInts (K : PySem.W.Frag) : Wz := fun ds Nv _ => ∃ (D n S : Nat) (basis : List Nat) (rows : List (List Int)) (leads : List Nat) (wrong : Option Nat) (r : List Rat) (c : Rat), ds = [elD K false false false n S basis rows leads wrong, ratL false r, ratE c] ∧ D ≠ 0 ∧ D < 2 ^ 80 ∧ (∀ e ∈ r, e.den ∣ D) ∧ r.length ≤ 7 ∧ (∀ e ∈ r, BQ 200 e) ∧ BQ 200 c ∧ Bits 200 (S : Int) ∧ Nv (iL true (intR S r c)) true
theorem fdiv_bits {p : Nat} {a b : Int} (hb : 0 < b) (ha : 0 ≤ a) (h : Bits p a) : Bits p (a.fdiv b) := by
  have h1 : 0 ≤ a.fdiv b := Int.fdiv_nonneg ha (Int.le_of_lt hb)
  have h2 : a.fdiv b ≤ a := by
    rw [Int.fdiv_eq_ediv_of_nonneg _ (Int.le_of_lt hb)]
    exact Int.ediv_le_self _ ha
  unfold Bits at *
  omega
set_option maxHeartbeats 4000000 in
theorem ok_Elimination__integers (T : Top w K mg) : FnOk P w K mg base CX0 2 (He.ma K (He.ga K ("Elimination" : Str)) ("_integers" : Str)) (fdOf K d_Elimination__integers) ["self", "row", "constant"] (spZ K (wInts K)) := by
  refine (T.f_Elimination__integers).ok sc_Elimination__integers (fun vs H Q E h => spz_len h (n := 3) fun ds Nv Ne hw => ?_) (fun cdv A outer s H vs Q E hr h => ?_)
  · obtain ⟨_, _, _, _, _, _, _, _, _, rfl, _⟩ := hw
    rfl
  · refine z_fn h (PSs.nox (pss_cons (ps_set (i := 3) sc_Elimination__integers.nd rfl (Or.inr rfl) (pe_call (ok__common_bottom (K := K) T) (hr.mono (by decide)) rfl T.g__common_bottom T.f__common_bottom.kp T.b__common_bottom .nil pass0 (pa_cons (pv 1) pa_nil)))
    (pss_cons (ps_lockL (ps_setLc (i := 4) (own := [(("number" : Str), 5)]) (g := (gName 5)) (tt := tYes) rfl sc_Elimination__integers.nd rfl rfl (by rfl) (pi_listK (K := K) rfl (pv 1)) (blkOk_by (N := ["self", "row", "constant", "bottom", "found", "number"]) (sc := defScope s_Elimination__integers) (by decide +kernel)) (fun _ _ _ _ _ => (pg_name (i := 5) sc_Elimination__integers.nd rfl (Or.inl rfl))) (fun _ _ _ _ _ => pts_nil) (fun _ _ _ _ _ => (pe_op op_mulW (pe_fldK (K := K) rfl (pv 5) rfl) (pe_op op_fdivG (pv 3) (pe_fldK (K := K) rfl (pv 5) rfl))))))
    (pss_cons (ps_expr (pe_bm PySem.F.plainAttrs_list PySem.F.slot_list_append PySem.F.type_list_append mt_append (pv 4) (pa_cons (pe_op op_mulW (pe_op op_mulW (pe_fldK (K := K) rfl (pv 2) rfl) (pe_op op_fdivG (pe_fldK (K := K) rfl (pv 0) rfl) (pe_fldK (K := K) rfl (pv 2) rfl))) (pv 3)) pa_nil)))
    (pss_one (ps_ret (pv 4))))))) fun ds Nv Ne hw => ?_
    obtain ⟨D, n, S, basis, rows, leads, wrong, r, c, rfl, hD, hD2, hd, hl, hr, bc, bS, k⟩ := hw
    have bB := bits_dvd hD (botN_all hd) hD2
    walk_at "zz"
    refine ⟨D, r, by show [(ratL false r).old] = _; rw [ratL_old], hD, hD2, hd, ?_⟩
    walk_at "zz"
    refine ze_lcM r ratE (fun e => some (.int (scI (botN r) e))) (zi_list ?_)
    walk_at "zz"
    refine ⟨trivial, rfl, by omega, fun e hem => ?_, ?_⟩
    · have be := hr e hem
      have dp := e.den_pos
      refine zgw_name (by decide) ?_
      walk_at "zz"
      refine ⟨_, _, .top _ _, T.cls_Ratio, T.na_Ratio_top, ?_⟩
      walk_at "zz"
      refine ⟨_, _, .bot _ _, T.cls_Ratio, T.na_Ratio_bottom, ?_⟩
      walk_at "zz"
      refine ⟨Bits.divG (den_neI e) be.2 (by decide), ?_⟩
      walk_at "zz"
      refine ⟨Bits.mulW be.1 (fdiv_bits (by omega) (by omega) bB) (by decide), ?_⟩
      exact ⟨rfl, rfl⟩
    · rw [map_some]
      dsimp only [bI]
      have dp := c.den_pos
      walk_at "zz"
      refine ⟨_, _, .top _ _, T.cls_Ratio, T.na_Ratio_top, ?_⟩
      walk_at "zz"
      refine ⟨_, _, .ins rfl, T.cls_Elimination, T.na_Elimination_scale, ?_⟩
      walk_at "zz"
      refine ⟨_, _, .bot _ _, T.cls_Ratio, T.na_Ratio_bottom, ?_⟩
      walk_at "zz"
      refine ⟨Bits.divG (den_neI c) bc.2 (by decide), ?_⟩
      walk_at "zz"
      have b5 : Bits 200 ((S : Int).fdiv (c.den : Int)) := fdiv_bits (by omega) (by omega) bS
      refine ⟨Bits.mulW bc.1 b5 (by decide), ?_⟩
      walk_at "zz"
      refine ⟨Bits.mulW (bc.1.mul b5) bB (by decide), ?_⟩
      walk_at "zz"
      refine ⟨by rw [List.length_map]; omega, ?_⟩
      walk_at "zz"
      have e : iL true (intR S r c) = .lst true ((r.map fun e => .int (scI (botN r) e)) ++ [.int (scI S c * (botN r : Int))]) := by
        unfold iL intR
        rw [List.map_append, List.map_map]
        rfl
      rw [e] at k
      exact k
end
end Lq
local macro_rules | `(tactic| walk_at "z1") => `(tactic| first | (with_reducible apply ze_meth))
namespace Lq
def stepI (d : Int) (x : List Int × Nat) (r : List Int) : List Int := (List.range r.length).map fun j => (x.1.getD x.2 0 * r.getD j 0 - r.getD x.2 0 * x.1.getD j 0).fdiv d
def stI (bs : List (List Int × Nat)) (r : List Int) : Int × List Int := bs.foldl (fun s x => (x.1.getD x.2 0, stepI s.1 x s.2)) (1, r)
theorem stI_snoc (bs : List (List Int × Nat)) (x : List Int × Nat) (r : List Int) : stI (bs ++ [x]) r = (x.1.getD x.2 0, stepI (stI bs r).1 x (stI bs r).2) := by
  unfold stI
  rw [List.foldl_append]
  rfl
theorem stepI_len (d : Int) (x : List Int × Nat) (r : List Int) : (stepI d x r).length = r.length := by
  unfold stepI
  rw [List.length_map, List.length_range]
theorem stepI_at {d : Int} {x : List Int × Nat} {r : List Int} {j : Nat} (h : j < r.length) : (stepI d x r).getD j 0 = (x.1.getD x.2 0 * r.getD j 0 - r.getD x.2 0 * x.1.getD j 0).fdiv d := by
  unfold stepI
  rw [List.getD_eq_getElem?_getD, List.getElem?_map, List.getElem?_range h]
  rfl
theorem stI_len (bs : List (List Int × Nat)) (r : List Int) : (stI bs r).2.length = r.length := by
  have : ∀ (bs : List (List Int × Nat)) (s : Int × List Int), (bs.foldl (fun s x => (x.1.getD x.2 0, stepI s.1 x s.2)) s).2.length = s.2.length := by
    intro bs
    induction bs with
    | nil => intro s; rfl
    | cons x bs ih =>
      intro s
      rw [List.foldl_cons, ih, stepI_len]
  exact this bs (1, r)
structure RowsI (L : Nat) (bs : List (List Int × Nat)) : Prop where
  len : ∀ x ∈ bs, x.1.length = L ∧ x.2 < L
  ne : ∀ x ∈ bs, x.1.getD x.2 0 ≠ 0
  bits : ∀ x ∈ bs, ∀ e ∈ x.1, Bits 4000 e
  few : bs.length ≤ 6
theorem RowsI.piv {L : Nat} {bs : List (List Int × Nat)} (h : RowsI L bs) (r : List Int) : ∀ i, (stI (bs.take i) r).1 ≠ 0 ∧ Bits 4000 (stI (bs.take i) r).1 := by
  intro i
  induction i with
  | zero => rw [List.take_zero]; exact ⟨by show (1 : Int) ≠ 0; decide, Nat.lt_of_lt_of_le (by decide : (1 : Int).natAbs < 2 ^ 1) (Nat.pow_le_pow_right (by decide) (by decide))⟩
  | succ i ih =>
    cases c : bs[i]? with
    | none => rw [List.take_succ, c]; simpa using ih
    | some x =>
      rw [List.take_succ, c]
      show (stI (bs.take i ++ [x]) r).1 ≠ 0 ∧ Bits 4000 (stI (bs.take i ++ [x]) r).1
      rw [stI_snoc]
      have hm := List.mem_of_getElem? c
      obtain ⟨l1, l2⟩ := h.len x hm
      exact ⟨h.ne x hm, h.bits x hm _ (getD_mem (by omega))⟩
theorem zip2_ints {a b : List Int} {L : Nat} (ha : a.length = L) (hb : b.length = L) : zip2 (a.map Dt.int) (b.map Dt.int) = (List.range L).map fun j : Nat => .tup [.int (a.getD j 0), .int (b.getD j 0)] := by
  refine List.ext_getElem? fun j => ?_
  unfold zip2
  rw [List.getElem?_zipWith, List.getElem?_map, List.getElem?_map, List.getElem?_map]
  by_cases c : j < L
  · rw [getD_in (d := (0 : Int)) (show j < a.length by omega), getD_in (d := (0 : Int)) (show j < b.length by omega), List.getElem?_range c]
    rfl
  · rw [List.getElem?_eq_none (l := a) (by omega), List.getElem?_eq_none (l := List.range L) (by rw [List.length_range]; omega)]
    rfl
theorem flat_nats (r : List Nat) : (r.map fun k : Nat => Dt.int (k : Int)).mapM flatD = some (r.map fun k : Nat => V.int (k : Int)) := by
  induction r with
  | nil => rfl
  | cons k r ih => rw [List.map_cons, List.mapM_cons, ih]; rfl
theorem inV_nats (j : Nat) (r : List Nat) : inV (.int (j : Int)) (r.map fun k : Nat => V.int (k : Int)) = decide (j ∈ r) := by
  induction r with
  | nil => rfl
  | cons k r ih =>
    unfold inV at ih ⊢
    rw [List.map_cons, List.any_cons, ih]
    by_cases c : k = j
    · subst c
      simp [eqV]
    · have : ¬ (j = k) := fun h => c h.symm
      have c2 : ¬ ((k : Int) = (j : Int)) := by omega
      simp [eqV, c, this, c2]
def bsD (x : List Int × Nat) : Dt := .tup [iL false x.1, .int (x.2 : Int)]
theorem zip2_bs : ∀ (rows : List (List Int)) (leads : List Nat), zip2 (rows.map (iL false)) (leads.map fun k : Nat => Dt.int (k : Int)) = (rows.zip leads).map bsD
  | [], _ => rfl
  | _ :: _, [] => rfl
  | r :: rows, l :: leads => by
    have ih := zip2_bs rows leads
    unfold zip2 at ih ⊢
    rw [List.map_cons, List.map_cons, List.zipWith_cons_cons, ih]
    rfl
section
variable {P : Program} {w : World} {K : PySem.W.Frag} {mg : Str → Option Value} {base : Heap}
def wReduced (K : PySem.W.Frag) : Wz := fun ds Nv _ => (∃ (L n S : Nat) (basis : List Nat) (rows : List (List Int)) (leads : List Nat) (wrong : Option Nat) (r : List Int), ds = [elD K false false false n S basis rows leads wrong, iL false r] ∧ r.length = L ∧ L ≤ 8 ∧ RowsI L (rows.zip leads) ∧ (∀ i ≤ (rows.zip leads).length, ∀ e ∈ (stI ((rows.zip leads).take i) r).2, Bits 4000 e) ∧
  rows.zip leads ≠ [] ∧ Nv (iL true (stI (rows.zip leads) r).2) true) ∨
  ∃ (n S : Nat) (basis : List Nat) (rows : List (List Int)) (leads : List Nat) (wrong : Option Nat) (a : Addr), ds = [elD K false false false n S basis rows leads wrong, .adr a] ∧ rows.zip leads = [] ∧ Nv (.adr a) false
set_option maxHeartbeats 4000000 in
theorem ok_Elimination__reduced (T : Top w K mg) : FnOk P w K mg base CX0 2 (He.ma K (He.ga K ("Elimination" : Str)) ("_reduced" : Str)) (fdOf K d_Elimination__reduced) ["self", "row"] (spZ K (wReduced K)) := by
  refine (T.f_Elimination__reduced).ok sc_Elimination__reduced (fun vs H Q E h => spz_len h (n := 2) fun ds Nv Ne hw => ?_) (fun cdv A outer s H vs Q E hr h => ?_)
  · rcases hw with ⟨_, _, _, _, _, _, _, _, rfl, _⟩ | ⟨_, _, _, _, _, _, _, rfl, _⟩ <;> rfl
  · refine z_fn h (PSs.nox (pss_cons (ps_set (i := 2) sc_Elimination__reduced.nd rfl (Or.inr rfl) pe_int)
    (pss_cons (ps_lockL (ps_for PassesOwn.never rfl (pi_zip rfl T.n_zip (pa_cons (pe_fldK (K := K) rfl (pv 0) rfl) (pa_cons (pe_fldK (K := K) rfl (pv 0) rfl) pa_nil))) (pg_tup (by rfl) (pgs_cons (pg_name (i := 3) sc_Elimination__reduced.nd rfl (Or.inl rfl)) (pgs_cons (pg_name (i := 4) sc_Elimination__reduced.nd rfl (Or.inl rfl)) pgs_nil)))
    (pss_cons (ps_set (i := 5) sc_Elimination__reduced.nd rfl (Or.inr rfl) (pe_ix (ix_listK (K := K) rfl) (pv 3) (pv 4) (fun _ _ => rfl)))
    (pss_cons (ps_set (i := 6) sc_Elimination__reduced.nd rfl (Or.inr rfl) (pe_ix (ix_listK (K := K) rfl) (pv 1) (pv 4) (fun _ _ => rfl)))
    (pss_cons (ps_lockL (ps_setLc (i := 1) (own := [(("number" : Str), 7), (("other" : Str), 8)]) (g := (gTup K 2 (gCons (gName 7) (gCons (gName 8) gNil)))) (tt := tYes) rfl sc_Elimination__reduced.nd rfl rfl (by rfl) (pi_zip rfl T.n_zip (pa_cons (pv 1) (pa_cons (pv 3) pa_nil))) (blkOk_by (N := ["self", "row", "divisor", "basis_row", "lead", "pivot", "factor", "number", "other"]) (sc := defScope s_Elimination__reduced) (by decide +kernel)) (fun _ _ _ _ _ => (pg_tup (by rfl) (pgs_cons (pg_name (i := 7) sc_Elimination__reduced.nd rfl (Or.inl rfl)) (pgs_cons (pg_name (i := 8) sc_Elimination__reduced.nd rfl (Or.inl rfl)) pgs_nil)))) (fun _ _ _ _ _ => pts_nil) (fun _ _ _ _ _ => (pe_op op_fdivG (pe_op op_sub (pe_op op_mulW (pv 5) (pv 7)) (pe_op op_mulW (pv 6) (pv 8))) (pv 2)))))
    (pss_one (ps_set (i := 2) sc_Elimination__reduced.nd rfl (Or.inr rfl) (pv 5))))))))
    (pss_one (ps_ret (pv 1)))))) fun ds Nv Ne hw => ?_
    rcases hw with ⟨L, n, S, basis, rows, leads, wrong, r, rfl, hr, hL, hR, hb, k1, k2⟩ | ⟨n, S, basis, rows, leads, wrong, a, rfl, h0, k2⟩
    rotate_left
    · walk_at "zz"
      refine zs_forL (zi_zip rfl ?_)
      walk_at "zz"
      refine ⟨_, _, .ins rfl, T.cls_Elimination, T.na_Elimination_rows, ?_⟩
      walk_at "zz"
      refine ⟨_, _, .ins rfl, T.cls_Elimination, T.na_Elimination_leads, ?_⟩
      walk_at "zz"
      have ez := zip2_bs rows leads
      rw [h0] at ez
      refine ⟨_, _, _, _, rfl, fun _ ρ => ρ = [.v (elD K false false false n S basis rows leads wrong), .v (.adr a), .v (.int 1), .un, .un, .un, .un, .un, .un], rfl, ?_, ?_⟩
      · rintro ρ rfl
        refine ⟨trivial, ?_⟩
        dsimp only [bI]
        walk_at "zz"
        exact k2
      · rw [ez]
        intro i d ρ hd
        cases hd
    walk_at "zz"
    refine zs_forL (zi_zip rfl ?_)
    walk_at "zz"
    refine ⟨_, _, .ins rfl, T.cls_Elimination, T.na_Elimination_rows, ?_⟩
    walk_at "zz"
    refine ⟨_, _, .ins rfl, T.cls_Elimination, T.na_Elimination_leads, ?_⟩
    walk_at "zz"
    have ez := zip2_bs rows leads
    generalize rows.zip leads = bs at *
    refine ⟨_, _, _, _, rfl, fun i ρ => ∃ (s1 : Sl) (p3 p4 p5 p6 p7 p8 : Sl), ρ = [.v (elD K false false false n S basis rows leads wrong), s1, .v (.int (stI (bs.take i) r).1), p3, p4, p5, p6, p7, p8] ∧ (s1 = .v (iL false r) ∧ i = 0 ∨ s1 = .o (iL true (stI (bs.take i) r).2) ∧ 0 < i) ∧ okW [p3, p4, p5, p6, p7, p8] [0, 1, 2, 3, 4, 5] = true, ⟨_, _, _, _, _, _, _, rfl, .inl ⟨rfl, rfl⟩, rfl⟩, ?_, ?_⟩
    · rw [ez]
      rintro ρ ⟨s1, p3, p4, p5, p6, p7, p8, rfl, h1, _⟩
      rw [List.length_map, List.take_length] at h1
      refine ⟨trivial, ?_⟩
      dsimp only [bI]
      rw [List.length_map, List.take_length]
      rcases h1 with ⟨rfl, h1⟩ | ⟨rfl, h1⟩
      · walk_at "zz"
        exact absurd (List.eq_nil_of_length_eq_zero h1) k1
      · walk_at "zz"
        exact k2
    · rw [ez]
      rintro i d ρ hd ⟨s1, p3, p4, p5, p6, p7, p8, rfl, h1, hw⟩
      obtain ⟨x, hx, rfl⟩ := map_at hd
      have hm := List.mem_of_getElem? hx
      have hi : i < bs.length := (List.getElem?_eq_some_iff.mp hx).1
      obtain ⟨l1, l2⟩ := hR.len x hm
      have e2 : stI (bs.take (i + 1)) r = (x.1.getD x.2 0, stepI (stI (bs.take i) r).1 x (stI (bs.take i) r).2) := by rw [take_snoc hx, stI_snoc]
      have hln := stI_len (bs.take i) r
      have b1 := hb i (by omega)
      obtain ⟨pv1, pv2⟩ := hR.piv r i
      have h0 : i = 0 → stI (bs.take i) r = (1, r) := fun c => by rw [c]; rfl
      have bx := hR.bits x hm
      generalize stI (bs.take i) r = s at e2 hln b1 pv1 pv2 h0 h1 ⊢
      have a1 : atI (x.1.map Dt.int) (x.2 : Int) = some (.int (x.1.getD x.2 0)) := atI_D (by omega)
      have a2 : atI (s.2.map Dt.int) (x.2 : Int) = some (.int (s.2.getD x.2 0)) := atI_D (by omega)
      have ok8 : ∀ q : Sl, okW ([Sl.v (elD K false false false n S basis rows leads wrong), q, .v (.int s.1), .v (iL false x.1), .v (.int (x.2 : Int)), .v (.int (x.1.getD x.2 0)), .v (.int (s.2.getD x.2 0)), p7, p8]) [7, 8] = true := fun q => by
        simp only [okW, List.all_cons, List.all_nil, Bool.and_true, Bool.and_eq_true] at hw ⊢
        exact ⟨hw.2.2.2.2.1, hw.2.2.2.2.2⟩
      have end_ : ∀ c : Bool, ∃ (s1 p3 p4 p5 p6 p7' p8' : Sl), [Sl.v (elD K false false false n S basis rows leads wrong), .o (iL true (stepI s.1 x s.2)), .v (.int (x.1.getD x.2 0)), .v (iL false x.1), .v (.int (x.2 : Int)), .v (.int (x.1.getD x.2 0)), .v (.int (s.2.getD x.2 0)), p7, p8] = [Sl.v (elD K false false false n S basis rows leads wrong), s1, .v (.int (stI (bs.take (i + 1)) r).1), p3, p4, p5, p6, p7', p8'] ∧ (s1 = .v (iL false r) ∧ i + 1 = 0 ∨ s1 = .o (iL true (stI (bs.take (i + 1)) r).2) ∧ 0 < i + 1) ∧ okW [p3, p4, p5, p6, p7', p8'] [0, 1, 2, 3, 4, 5] = true := fun _ => by
        rw [e2]
        refine ⟨_, _, _, _, _, _, _, rfl, .inr ⟨rfl, Nat.succ_pos _⟩, ?_⟩
        simp only [okW, List.all_cons, List.all_nil, Bool.and_true, Bool.and_eq_true] at hw ⊢
        exact ⟨rfl, rfl, rfl, rfl, hw.2.2.2.2.1, hw.2.2.2.2.2⟩
      have h1 : s1 = .v (iL false s.2) ∨ s1 = .o (iL true s.2) := by
        rcases h1 with ⟨h1, h2⟩ | ⟨h1, _⟩
        · left
          rw [h1, h0 h2]
        · exact .inr h1
      have lcs : zip2 (s.2.map Dt.int) (x.1.map Dt.int) = (List.range L).map fun j : Nat => .tup [.int (s.2.getD j 0), .int (x.1.getD j 0)] := zip2_ints (by omega) l1
      have fin : iL true (stepI s.1 x s.2) = .lst true ((List.range L).filterMap fun j : Nat => some (.int ((x.1.getD x.2 0 * s.2.getD j 0 - s.2.getD x.2 0 * x.1.getD j 0).fdiv s.1))) := by
        rw [map_some]
        unfold iL stepI
        rw [List.map_map, hln, hr]
        rfl
      rw [fin] at end_
      rcases h1 with rfl | rfl
      all_goals
        refine zg_tup rfl ?_
        walk_at "zz"
        refine ⟨_, _, _, _, _, rfl, .inl rfl, rfl, a1, ?_⟩
        walk_at "zz"
        refine ⟨_, _, _, _, _, rfl, by first | exact .inl rfl | exact .inr (.inl rfl), rfl, a2, ?_⟩
        walk_at "zz"
        refine ze_lcM (List.range L) (fun j : Nat => .tup [.int (s.2.getD j 0), .int (x.1.getD j 0)]) (fun j : Nat => some (.int ((x.1.getD x.2 0 * s.2.getD j 0 - s.2.getD x.2 0 * x.1.getD j 0).fdiv s.1))) (zi_zip rfl ?_)
        walk_at "zz"
        refine ⟨_, _, _, _, rfl, lcs, trivial, ok8 _, by rw [List.length_range]; omega, fun j hj => ?_, ?_⟩
        · have hj := List.mem_range.mp hj
          have c1 := bx _ (getD_mem (d := (0 : Int)) (show x.2 < x.1.length by omega))
          have c2 := b1 _ (getD_mem (d := (0 : Int)) (show j < s.2.length by omega))
          have c3 := b1 _ (getD_mem (d := (0 : Int)) (show x.2 < s.2.length by omega))
          have c4 := bx _ (getD_mem (d := (0 : Int)) (show j < x.1.length by omega))
          refine zgw_tup rfl (zgws_cons (zgw_name (by decide) (zgws_cons (zgw_name (by decide) (zgws_nil ?_)))))
          walk_at "zz"
          refine ⟨Bits.mulW c1 c2 (by decide), ?_⟩
          walk_at "zz"
          refine ⟨Bits.mulW c3 c4 (by decide), ?_⟩
          walk_at "zz"
          refine ⟨Bits.divG pv1 pv2 (by decide), ?_⟩
          exact ⟨rfl, rfl⟩
        · dsimp only [bI]
          walk_at "zz"
          exact end_ true
def wFree (K : PySem.W.Frag) : Wz := fun ds Nv _ => ∃ (n S : Nat) (basis : List Nat) (rows : List (List Int)) (leads : List Nat) (wrong : Option Nat), ds = [elD K false false false n S basis rows leads wrong] ∧ n ≤ 100 ∧ Nv (nLst true ((List.range n).filter fun c => decide (c ∉ leads))) true
set_option maxHeartbeats 4000000 in
theorem ok_Elimination_free_columns (T : Top w K mg) : FnOk P w K mg base CX0 2 (He.ma K (He.ga K ("Elimination" : Str)) ("free_columns" : Str)) (fdOf K d_Elimination_free_columns) ["self"] (spZ K (wFree K)) := by
  refine (T.f_Elimination_free_columns).ok sc_Elimination_free_columns (fun vs H Q E h => spz_len h (n := 1) fun ds Nv Ne hw => ?_) (fun cdv A outer s H vs Q E hr h => ?_)
  · obtain ⟨_, _, _, _, _, _, rfl, _⟩ := hw
    rfl
  · refine z_fn h (PSs.nox (pss_one (ps_ret (pe_lockL (pe_lc (own := [(("column" : Str), 1)]) (g := (gName 1)) rfl sc_Elimination_free_columns.nd (pi_range1 rfl T.n_range (pa_cons (pe_fldK (K := K) rfl (pv 0) rfl) pa_nil)) (blkOk_by (N := ["self", "column"]) (sc := defScope s_Elimination_free_columns) (by decide +kernel)) (fun _ _ _ _ _ => (pg_name (i := 1) sc_Elimination_free_columns.nd rfl (Or.inl rfl))) (fun _ _ _ _ _ => pts_one (pt_cmpR (op_notInK (K := K) rfl) (pv 1) (pe_fldK (K := K) rfl (pv 0) rfl) (by rfl))) (fun _ _ _ _ _ => (pv 1))))))) fun ds Nv Ne hw => ?_
    obtain ⟨n, S, basis, rows, leads, wrong, rfl, hn, k⟩ := hw
    walk_at "zz"
    refine ze_lcM (List.range n) (fun j => .int (j : Int)) (fun j => if decide (j ∉ leads) then some (.int (j : Int)) else none) (zi_range1 ?_)
    walk_at "zz"
    refine ⟨_, _, .ins rfl, T.cls_Elimination, T.na_Elimination_columns, ?_⟩
    walk_at "zz"
    refine ⟨by omega, by omega, rfl, trivial, rfl, by rw [List.length_range]; omega, fun j hj => ?_, ?_⟩
    · refine zgw_name (by decide) ?_
      walk_at "zz"
      refine ⟨_, _, .ins rfl, T.cls_Elimination, T.na_Elimination_leads, ?_⟩
      walk_at "zz"
      refine ⟨_, _, _, rfl, .inl ⟨_, rfl⟩, flat_nats leads, ?_⟩
      refine ⟨_, rfl, ?_⟩
      rw [if_pos rfl, inV_nats]
      by_cases c : j ∈ leads
      · refine zF (by simp [c]) ?_
        exact ⟨rfl, by simp [c]⟩
      · refine zT (by simp [c]) ?_
        walk_at "zz"
        exact ⟨rfl, by simp [c]⟩
    · rw [map_if (fun j : Nat => Dt.int (j : Int)) (fun j => decide (j ∉ leads)) (List.range n)]
      exact k
end
end Lq
local macro_rules | `(tactic| walk_at "z1") => `(tactic| first | (with_reducible apply ze_callR) | ((with_reducible apply zs_augI); exact rfl))
theorem ze_ifCut {z : Cz} {ρ : List Sl} {N : Dt → Bool → List Sl → Prop} {tt : TT} {ta tb : TE} (h : ∃ d0, ZT z tt ρ (fun b ρ1 => if b = true then ZE z ta ρ1 (fun d fr ρ' => d = d0 ∧ fr = false ∧ ρ' = ρ) else ZE z tb ρ1 fun d fr ρ' => d = d0 ∧ fr = false ∧ ρ' = ρ) ∧ N d0 false ρ) : ZE z (tIf tt ta tb) ρ N := fun m F H σ Q S k => by
  obtain ⟨d0, h1, h2⟩ := h
  refine ze_ifE h1 m F H σ Q S fun d fr ρ' F' H' v n => ?_
  obtain ⟨rfl, rfl, rfl⟩ := n
  exact k _ _ _ F' H' v h2
local macro_rules | `(tactic| walk_at "z1") => `(tactic| first | (with_reducible apply ze_ifCut))
namespace Lq
theorem last_at {α : Type} (f : α → Dt) {xs : List α} {d : α} (h : xs ≠ []) : atI (xs.map f) (-1) = some (f (xs.getD (xs.length - 1) d)) := by
  have hl : 0 < xs.length := List.length_pos_iff.mpr h
  have e : atI (xs.map f) (-1) = (xs.map f)[xs.length - 1]? := by
    have e1 : ixN (xs.map f).length (-1) = some (xs.length - 1) := by
      unfold ixN
      rw [List.length_map, if_neg (by decide), if_pos (by omega)]
      congr 1
      omega
    unfold atI
    rw [e1]
    rfl
  rw [e, List.getElem?_map, getD_in (d := d) (show xs.length - 1 < xs.length by omega)]
  rfl
def frK : Option Nat → List Key
  | none => []
  | some c => [.inl (c : Int)]
def frV : Option Nat → List Dt
  | none => []
  | some _ => [.int 1]
def freeD (t : Bool) (fr : Option Nat) : Dt := .dic t (frK fr) (frV fr)
def frI (fr : Option Nat) (c : Nat) : Int := if fr = some c then 1 else 0
def detI (rows : List (List Int)) (leads : List Nat) : Int := if rows = [] then 1 else (rows.getD (rows.length - 1) []).getD (leads.getD (leads.length - 1) 0) 0
theorem frI_get (fr : Option Nat) (c : Nat) : (look (frK fr) (frV fr) (.inl (c : Int))).getD (.int 0) = .int (frI fr c) := by
  cases fr with
  | none => rfl
  | some k =>
    unfold frK frV frI look
    by_cases h : k = c
    · subst h
      simp
    · have h2 : ¬ ((k : Int) = (c : Int)) := by omega
      simp [h, h2, look]
theorem frI_bits (fr : Option Nat) (c : Nat) : Bits 1 (frI fr c) := by
  unfold frI Bits
  split <;> decide
theorem zip_last {rows : List (List Int)} {leads : List Nat} (hl : rows.length = leads.length) (h : rows ≠ []) : (rows.getD (rows.length - 1) [], leads.getD (leads.length - 1) 0) ∈ rows.zip leads := by
  have h0 := List.length_pos_iff.mpr h
  refine List.mem_of_getElem? (i := rows.length - 1) ?_
  rw [List.getElem?_zip_eq_some]
  exact ⟨getD_in (by omega), by rw [← hl]; exact getD_in (by omega)⟩
theorem det_ok {L : Nat} {rows : List (List Int)} {leads : List Nat} (hl : rows.length = leads.length) (h : RowsI L (rows.zip leads)) : detI rows leads ≠ 0 ∧ Bits 4000 (detI rows leads) := by
  unfold detI
  by_cases c : rows = []
  · rw [if_pos c]
    exact ⟨by decide, Nat.lt_of_lt_of_le (by decide : (1 : Int).natAbs < 2 ^ 1) (Nat.pow_le_pow_right (by decide) (by decide))⟩
  · rw [if_neg c]
    have hm := zip_last hl c
    obtain ⟨l1, l2⟩ := h.len _ hm
    exact ⟨h.ne _ hm, h.bits _ hm _ (getD_mem (by omega))⟩
/-- what stands behind column l -/
def tailS (row Y : List Int) (l : Nat) : Nat → Int
  | 0 => 0
  | j + 1 => tailS row Y l j + row.getD (l + 1 + j) 0 * Y.getD (l + 1 + j) 0
section
variable {P : Program} {w : World} {K : PySem.W.Frag} {mg : Str → Option Value} {base : Heap}
def wSol (K : PySem.W.Frag) : Wz := fun ds Nv _ => ∃ (n S : Nat) (basis : List Nat) (rows : List (List Int)) (leads : List Nat) (wrong : Option Nat) (fr : Option Nat) (Y : List Int), ds = [elD K false false false n S basis rows leads wrong, freeD false fr] ∧ rows.length = leads.length ∧ n ≤ 7 ∧ RowsI (n + 1) (rows.zip leads) ∧ (∀ l ∈ leads, l < n) ∧ leads.Nodup ∧ Y.length = n ∧
  S ≠ 0 ∧ Bits 200 (S : Int) ∧ (∀ c < n, c ∉ leads → Y.getD c 0 = frI fr c * (S : Int) * detI rows leads) ∧ (∀ x ∈ rows.zip leads, x.1.getD x.2 0 * Y.getD x.2 0 = x.1.getD n 0 * detI rows leads - tailS x.1 Y x.2 (n - (x.2 + 1))) ∧ (∀ e ∈ Y, Bits 9000 e) ∧ Nv (ratL true (Y.map fun (y : Int) => (y : Rat) / ((detI rows leads * (S : Int) : Int) : Rat))) true
set_option maxHeartbeats 4000000 in
theorem ok_Elimination_solution (T : Top w K mg) : FnOk P w K mg base CX0 4 (He.ma K (He.ga K ("Elimination" : Str)) ("solution" : Str)) (fdOf K d_Elimination_solution) ["self", "free_numbers"] (spZ K (wSol K)) := by
  obtain ⟨ds1, B1⟩ := T.b1_Ratio___init__
  refine (T.f_Elimination_solution).ok sc_Elimination_solution (fun vs H Q E h => spz_len h (n := 2) fun ds Nv Ne hw => ?_) (fun cdv A outer s H vs Q E hr h => ?_)
  · obtain ⟨_, _, _, _, _, _, _, _, rfl, _⟩ := hw
    rfl
  · refine z_fn h (PSs.nox (pss_cons (ps_set (i := 2) sc_Elimination_solution.nd rfl (Or.inr rfl) (pe_ifExp (pt_truth (pe_fldK (K := K) rfl (pv 0) rfl) (by intro _; rfl)) (pe_ix (ix_listK (K := K) rfl) (pe_ix (ix_listK (K := K) rfl) (pe_fldK (K := K) rfl (pv 0) rfl) (pe_un un_neg pe_int) (fun _ _ => rfl)) (pe_ix (ix_listK (K := K) rfl) (pe_fldK (K := K) rfl (pv 0) rfl) (pe_un un_neg pe_int) (fun _ _ => rfl)) (fun _ _ => rfl)) pe_int))
    (pss_cons (ps_lockL (ps_setLc (i := 3) (own := [(("column" : Str), 4)]) (g := (gName 4)) (tt := tYes) rfl sc_Elimination_solution.nd rfl rfl (by rfl) (pi_range1 rfl T.n_range (pa_cons (pe_fldK (K := K) rfl (pv 0) rfl) pa_nil)) (blkOk_by (N := ["self", "free_numbers", "determinant", "found", "column", "lead", "at", "row", "total", "number"]) (sc := defScope s_Elimination_solution) (by decide +kernel)) (fun _ _ _ _ _ => (pg_name (i := 4) sc_Elimination_solution.nd rfl (Or.inl rfl))) (fun _ _ _ _ _ => pts_nil) (fun _ _ _ _ _ => (pe_op op_mulW (pe_op op_mulW (pe_dget2 (hu_of hr) (pv 1) (pv 4) pe_int ⟨rfl, rfl, rfl, rfl⟩) (pe_fldK (K := K) rfl (pv 0) rfl)) (pv 2)))))
    (pss_cons (ps_lockL (ps_for PassesOwn.never rfl (pi_listK (K := K) rfl (pe_callBK (cr_sortedRev (K := K) rfl hr.units) (by rfl) T.n_sorted (by decide +kernel) (pa_cons (pe_lockL (pe_lc (own := [(("at" : Str), 6)]) (g := (gName 6)) (tt := tYes) rfl sc_Elimination_solution.nd (pi_range1 rfl T.n_range (pa_cons (pe_callB (call_lenZ (K := K) rfl) (by rfl) T.n_len PySem.boot_len (pa_cons (pe_fldK (K := K) rfl (pv 0) rfl) pa_nil)) pa_nil)) (blkOk_by (N := ["self", "free_numbers", "determinant", "found", "column", "lead", "at", "row", "total", "number"]) (sc := defScope s_Elimination_solution) (by decide +kernel)) (fun _ _ _ _ _ => (pg_name (i := 6) sc_Elimination_solution.nd rfl (Or.inl rfl))) (fun _ _ _ _ _ => pts_nil) (fun _ _ _ _ _ => (pe_tup (pa_cons (pe_ix (ix_listK (K := K) rfl) (pe_fldK (K := K) rfl (pv 0) rfl) (pv 6) (fun _ _ => rfl)) (pa_cons (pv 6) pa_nil)))))) pa_nil) (pk_cons pe_bl pk_nil))) (pg_tup (by rfl) (pgs_cons (pg_name (i := 5) sc_Elimination_solution.nd rfl (Or.inl rfl)) (pgs_cons (pg_name (i := 6) sc_Elimination_solution.nd rfl (Or.inl rfl)) pgs_nil)))
    (pss_cons (ps_set (i := 7) sc_Elimination_solution.nd rfl (Or.inl rfl) (pe_ix (ix_listK (K := K) rfl) (pe_fldK (K := K) rfl (pv 0) rfl) (pv 6) (fun _ _ => rfl)))
    (pss_cons (ps_set (i := 8) sc_Elimination_solution.nd rfl (Or.inl rfl) (pe_op op_mulW (pe_ix (ix_listK (K := K) rfl) (pv 7) (pe_fldK (K := K) rfl (pv 0) rfl) (fun _ _ => rfl)) (pv 2)))
    (pss_cons (ps_lockL (ps_for PassesOwn.never rfl (pi_range2 rfl T.n_range (pa_cons (pe_op op_add (pv 5) pe_int) (pa_cons (pe_fldK (K := K) rfl (pv 0) rfl) pa_nil))) (pg_name (i := 4) sc_Elimination_solution.nd rfl (Or.inl rfl))
    (pss_one (ps_aug (i := 8) sc_Elimination_solution.nd rfl (Or.inl rfl) (pe_op op_mulW (pe_ix (ix_listK (K := K) rfl) (pv 7) (pv 4) (fun _ _ => rfl)) (pe_ix (ix_listK (K := K) rfl) (pv 3) (pv 4) (fun _ _ => rfl))) ip_sub))))
    (pss_one (ps_asg (pe_op op_fdivG (pv 8) (pe_ix (ix_listK (K := K) rfl) (pv 7) (pv 5) (fun _ _ => rfl))) (pg_sub (pv 3) (pv 5) set_list))))))))
    (pss_one (ps_ret (pe_lockL (pe_lc (own := [(("number" : Str), 9)]) (g := (gName 9)) (tt := tYes) rfl sc_Elimination_solution.nd (pi_listK (K := K) rfl (pv 3)) (blkOk_by (N := ["self", "free_numbers", "determinant", "found", "column", "lead", "at", "row", "total", "number"]) (sc := defScope s_Elimination_solution) (by decide +kernel)) (fun _ _ _ _ _ => (pg_name (i := 9) sc_Elimination_solution.nd rfl (Or.inl rfl))) (fun _ _ _ _ _ => pts_nil) (fun _ _ _ _ _ => (pe_make (C := He.ga K ("Ratio" : Str)) T.mk_Ratio (ok_Ratio___init__ (K := K) T) (hr.mono (by decide)) rfl T.g_Ratio (B1.2) (B1.1) passL (pa_cons (pv 9) (pa_cons (pe_op op_mulW (pv 2) (pe_fldK (K := K) rfl (pv 0) rfl)) pa_nil)))))))))))) fun ds Nv Ne hw => ?_
    obtain ⟨n, S, basis, rows, leads, wrong, fr, Y, rfl, hl, hn, hR, hlt, nd, hY, hS, bS, hf, hrow, bY, k⟩ := hw
    walk_at "zz"
    refine ⟨.int (detI rows leads), ?_, ?_⟩
    · refine zt_truX rfl ?_
      walk_at "zz"
      refine ⟨_, _, .ins rfl, T.cls_Elimination, T.na_Elimination_rows, ?_⟩
      refine ⟨_, .lst _ _, ?_⟩
      by_cases c : rows = []
      · subst c
        refine zF (by simp) ?_
        walk_at "zz"
        exact ⟨rfl, rfl, rfl⟩
      · have hrl : 0 < rows.length := List.length_pos_iff.mpr c
        have c2 : leads ≠ [] := fun h => by rw [h] at hl; rw [hl] at hrl; exact absurd hrl (by decide)
        refine zT (by simpa using c) ?_
        walk_at "zz"
        refine ⟨_, _, .ins rfl, T.cls_Elimination, T.na_Elimination_rows, ?_⟩
        walk_at "zz"
        refine ⟨_, _, _, _, rfl, rfl, last_at (d := ([] : List Int)) (iL false) c, ?_⟩
        walk_at "zz"
        refine ⟨_, _, .ins rfl, T.cls_Elimination, T.na_Elimination_leads, ?_⟩
        walk_at "zz"
        refine ⟨_, _, _, _, rfl, rfl, last_at (d := (0 : Nat)) (fun k : Nat => Dt.int (k : Int)) c2, ?_⟩
        obtain ⟨l1, l2⟩ := hR.len _ (zip_last hl c)
        have l1' : (rows.getD (rows.length - 1) []).length = n + 1 := l1
        have l2' : leads.getD (leads.length - 1) 0 < n + 1 := l2
        refine ⟨_, _, _, _, rfl, rfl, atI_D (f := Dt.int) (xs := rows.getD (rows.length - 1) []) (d := (0 : Int)) (by omega), ?_, rfl, rfl⟩
        unfold detI
        rw [if_neg c]
    · obtain ⟨d0, bd⟩ := det_ok hl hR
      generalize detI rows leads = det at *
      walk_at "zz"
      refine ze_lcM (List.range n) (fun j : Nat => .int (j : Int)) (fun j : Nat => some (.int (frI fr j * (S : Int) * det))) (zi_range1 ?_)
      walk_at "zz"
      refine ⟨_, _, .ins rfl, T.cls_Elimination, T.na_Elimination_columns, ?_⟩
      walk_at "zz"
      refine ⟨by omega, by omega, rfl, trivial, rfl, by rw [List.length_range]; omega, fun c hc => ?_, ?_⟩
      · refine zgw_name (by decide) ?_
        walk_at "zz"
        refine ⟨_, _, _, rfl, .inl rfl, GetD.int rfl, ?_⟩
        walk_at "zz"
        refine ⟨_, _, .ins rfl, T.cls_Elimination, T.na_Elimination_scale, ?_⟩
        have b1 := frI_bits fr c
        refine ⟨frI fr c, (S : Int), frI_get fr c, rfl, Bits.mulW b1 bS (by decide), ?_⟩
        walk_at "zz"
        refine ⟨Bits.mulW (b1.mul bS) bd (by decide), ?_⟩
        exact ⟨rfl, rfl⟩
      · rw [map_some]
        dsimp only [bI]
        walk_at "zz"
        refine zs_forL (zi_list (ze_sortRev rfl ?_))
        walk_at "zz"
        refine ze_lcM (List.range leads.length) (fun j : Nat => .int (j : Int)) (fun a : Nat => some (pD2 (leads.getD a 0, a))) (zi_range1 ?_)
        walk_at "zz"
        refine ⟨_, _, .ins rfl, T.cls_Elimination, T.na_Elimination_leads, ?_⟩
        walk_at "zz"
        have few : leads.length ≤ 6 := by
          have := hR.few
          rw [List.length_zip] at this
          omega
        refine ⟨by rw [List.length_map]; omega, by rw [List.length_map]; omega, by rw [List.length_map]; rfl, trivial, rfl, by rw [List.length_range]; omega, fun a ha => ?_, ?_⟩
        · have ha := List.mem_range.mp ha
          refine zgw_name (by decide) ?_
          walk_at "zz"
          refine ⟨_, _, .ins rfl, T.cls_Elimination, T.na_Elimination_leads, ?_⟩
          walk_at "zz"
          refine ⟨_, _, _, _, rfl, rfl, atI_D (f := fun k : Nat => Dt.int (k : Int)) (d := (0 : Nat)) ha, ?_⟩
          walk_at "zz"
          exact ⟨rfl, rfl⟩
        · rw [map_some]
          have ep : (List.range leads.length).map (fun a : Nat => pD2 (leads.getD a 0, a)) = ((List.range leads.length).map fun a : Nat => ((leads.getD a 0, a) : NP)).map pD2 := by rw [List.map_map]; rfl
          have ef : ((List.range leads.length).map fun a : Nat => ((leads.getD a 0, a) : NP)).map (·.1) = leads := by
            rw [List.map_map]
            refine List.ext_getElem? fun j => ?_
            rw [List.getElem?_map]
            by_cases c : j < leads.length
            · rw [List.getElem?_range c, getD_in (d := 0) c]
              rfl
            · rw [List.getElem?_eq_none (l := leads) (by omega), List.getElem?_eq_none (by rw [List.length_range]; omega)]
              rfl
          rw [ep]
          refine ⟨_, _, rfl, by rw [ef]; exact nd, fun qs pm pw => ?_⟩
          have hq1 : ∀ q ∈ qs, q.2 < leads.length ∧ q.1 = leads.getD q.2 0 := fun q hq => by
            obtain ⟨a, ha, e⟩ := List.mem_map.mp (pm.mem_iff.mp hq)
            have ha := List.mem_range.mp ha
            subst e
            exact ⟨ha, rfl⟩
          have hq2 : ∀ c ∈ leads, ∃ q ∈ qs, q.1 = c := fun c hc => by
            rw [← ef] at hc
            obtain ⟨q, hq, e⟩ := List.mem_map.mp hc
            exact ⟨q, pm.mem_iff.mpr hq, e⟩
          clear pm ep ef
          refine ⟨_, _, rfl, fun i ρ => ∃ (fs : List Int) (p4 p5 p6 p7 p8 : Sl), ρ = [.v (elD K false false false n S basis rows leads wrong), .v (freeD false fr), .v (.int det), .o (iL true fs), p4, p5, p6, p7, p8, .un] ∧ fs.length = n ∧ (∀ e ∈ fs, Bits 9000 e) ∧ ∀ c < n, (c ∉ leads ∨ c ∈ (qs.take i).map (·.1)) → fs.getD c 0 = Y.getD c 0, ?_, ?_, ?_⟩
          · refine ⟨(List.range n).map fun j : Nat => frI fr j * (S : Int) * det, .un, .un, .un, .un, .un, ?_, by rw [List.length_map, List.length_range], fun e he => ?_, fun c hc h => ?_⟩
            · unfold iL
              rw [List.map_map]
              rfl
            · obtain ⟨j, _, rfl⟩ := List.mem_map.mp he
              exact (((frI_bits fr j).mul bS).mul bd).mono (by decide)
            · have : c ∉ leads := by
                rcases h with h | h
                · exact h
                · rw [List.take_zero] at h; cases h
              rw [hf c hc this, List.getD_eq_getElem?_getD, List.getElem?_map, List.getElem?_range hc]
              rfl
          · rintro ρ ⟨fs, p4, p5, p6, p7, p8, rfl, fl, fb, fe⟩
            refine ⟨trivial, ?_⟩
            dsimp only [bI]
            have efs : fs = Y := by
              refine List.ext_getElem? fun j => ?_
              by_cases c : j < n
              · rw [getD_in (d := 0) (show j < fs.length by omega), getD_in (d := 0) (show j < Y.length by omega), fe j c ?_]
                by_cases h : j ∈ leads
                · right
                  rw [List.length_map, List.take_length]
                  obtain ⟨q, hq, e⟩ := hq2 j h
                  exact List.mem_map.mpr ⟨q, hq, e⟩
                · exact .inl h
              · rw [List.getElem?_eq_none (l := fs) (by omega), List.getElem?_eq_none (l := Y) (by omega)]
            subst efs
            walk_at "zz"
            have hS0 : (S : Int) ≠ 0 := by omega
            have ds0 : det * (S : Int) ≠ 0 := Int.mul_ne_zero d0 hS0
            refine ze_lcM fs Dt.int (fun y : Int => some (ratE ((y : Rat) / ((det * (S : Int) : Int) : Rat)))) (zi_list ?_)
            walk_at "zz"
            refine ⟨trivial, rfl, by omega, fun y hy => ?_, ?_⟩
            · refine zgw_name (by decide) ?_
              walk_at "zz"
              refine ⟨_, _, .ins rfl, T.cls_Elimination, T.na_Elimination_scale, ?_⟩
              walk_at "zz"
              refine ⟨Bits.mulW bd bS (by decide), ?_⟩
              walk_at "zz"
              refine ⟨y, det * (S : Int), .inl ⟨rfl, rfl⟩, ds0, Nat.lt_of_le_of_lt (sgc_abs ds0) ((bd.mul bS).mono (by decide)), rfl, ?_⟩
              obtain ⟨w1, w2⟩ := low_rat (t := y) ds0
              unfold ratE
              rw [w1, w2]
            · rw [map_some]
              have : ratL true (fs.map fun y : Int => (y : Rat) / ((det * (S : Int) : Int) : Rat)) = .lst true (fs.map fun y : Int => ratE ((y : Rat) / ((det * (S : Int) : Int) : Rat))) := by
                unfold ratL
                rw [List.map_map]
                rfl
              rw [this] at k
              exact k
          · rintro i d ρ hd ⟨fs, p4, p5, p6, p7, p8, rfl, fl, fb, fe⟩
            obtain ⟨q, hq, rfl⟩ := map_at hd
            have hm := List.mem_of_getElem? hq
            obtain ⟨q1, q2⟩ := hq1 q hm
            have hx := hrow (rows.getD q.2 [], leads.getD q.2 0) (List.mem_of_getElem? (i := q.2) (List.getElem?_zip_eq_some.mpr ⟨getD_in (by omega), getD_in q1⟩))
            have hR1 := hR.len (rows.getD q.2 [], leads.getD q.2 0) (List.mem_of_getElem? (i := q.2) (List.getElem?_zip_eq_some.mpr ⟨getD_in (by omega), getD_in q1⟩))
            have hR2 := hR.ne (rows.getD q.2 [], leads.getD q.2 0) (List.mem_of_getElem? (i := q.2) (List.getElem?_zip_eq_some.mpr ⟨getD_in (by omega), getD_in q1⟩))
            have hR3 := hR.bits (rows.getD q.2 [], leads.getD q.2 0) (List.mem_of_getElem? (i := q.2) (List.getElem?_zip_eq_some.mpr ⟨getD_in (by omega), getD_in q1⟩))
            have hln : q.1 < n := by rw [q2]; exact hlt _ (getD_mem q1)
            dsimp only at hx hR1 hR2 hR3
            rw [← q2] at hx hR1 hR2
            have arow : atI (rows.map (iL false)) (q.2 : Int) = some (iL false (rows.getD q.2 [])) := atI_D (by omega)
            generalize rows.getD q.2 [] = row at hx hR1 hR2 hR3 arow
            obtain ⟨r1, _⟩ := hR1
            have later : ∀ c < n, q.1 < c → fs.getD c 0 = Y.getD c 0 := fun c hc hlt => fe c hc <| by
              by_cases h : c ∈ leads
              · right
                obtain ⟨p, hp, rfl⟩ := hq2 c h
                obtain ⟨j, hj⟩ := List.mem_iff_getElem?.mp hp
                have hji : j < i := by
                  rcases Nat.lt_trichotomy j i with h | h | h
                  · exact h
                  · subst h
                    rw [hq] at hj
                    cases hj
                    omega
                  · obtain ⟨hjl, ej⟩ := List.getElem?_eq_some_iff.mp hj
                    obtain ⟨hil, ei⟩ := List.getElem?_eq_some_iff.mp hq
                    have := List.pairwise_iff_getElem.mp pw i j hil hjl h
                    rw [ej, ei] at this
                    omega
                refine List.mem_map.mpr ⟨p, List.mem_of_getElem? (i := j) ?_, rfl⟩
                rw [List.getElem?_take_of_lt hji]
                exact hj
              · exact .inl h
            refine zg_tup rfl ?_
            walk_at "zz"
            refine ⟨_, _, .ins rfl, T.cls_Elimination, T.na_Elimination_rows, ?_⟩
            walk_at "zz"
            refine ⟨_, _, _, _, rfl, rfl, arow, ?_⟩
            walk_at "zz"
            refine ⟨_, _, .ins rfl, T.cls_Elimination, T.na_Elimination_columns, ?_⟩
            have an : atI (row.map Dt.int) (n : Int) = some (.int (row.getD n 0)) := atI_D (by omega)
            have al : atI (row.map Dt.int) (q.1 : Int) = some (.int (row.getD q.1 0)) := atI_D (by omega)
            refine ⟨_, _, _, _, _, rfl, .inl rfl, rfl, an, ?_⟩
            walk_at "zz"
            have bn := hR3 _ (getD_mem (d := (0 : Int)) (show n < row.length by omega))
            refine ⟨Bits.mulW bn bd (by decide), ?_⟩
            walk_at "zz"
            refine zs_forL (zi_range2 ?_)
            walk_at "zz"
            refine ⟨_, _, .ins rfl, T.cls_Elimination, T.na_Elimination_columns, ?_⟩
            walk_at "zz"
            refine ⟨_, _, rfl, by omega, by omega, by omega, by omega, fun j ρ => ∃ p4, ρ = [.v (elD K false false false n S basis rows leads wrong), .v (freeD false fr), .v (.int det), .o (iL true fs), p4, .v (.int (q.1 : Int)), .v (.int (q.2 : Int)), .v (iL false row), .v (.int (row.getD n 0 * det - tailS row Y q.1 j)), .un], ⟨p4, ?_⟩, ?_, ?_⟩
            · show _ = [_, _, _, _, _, _, _, _, Sl.v (.int (row.getD n 0 * det - 0)), _]
              rw [Int.sub_zero]
              rfl
            · rintro ρ ⟨p4, rfl⟩
              refine ⟨trivial, ?_⟩
              dsimp only [bI]
              rw [List.length_map, List.length_range, show ((n : Int) - ((q.1 : Int) + 1)).toNat = n - (q.1 + 1) by omega, ← hx]
              walk_at "zz"
              refine ⟨_, _, _, _, _, rfl, .inl rfl, rfl, al, ?_⟩
              walk_at "zz"
              refine ⟨Bits.divG hR2 (hR3 _ (getD_mem (by omega))) (by decide), ?_⟩
              rw [Int.mul_fdiv_cancel_left _ hR2]
              refine zg_setL rfl ?_
              walk_at "zz"
              refine ⟨_, q.1, _, rfl, rfl, ?_, ?_⟩
              · unfold ixN
                rw [List.length_map, if_pos (by omega), if_pos (by omega), Int.toNat_natCast]
              · refine ⟨fs.set q.1 (Y.getD q.1 0), p4, .v (.int (q.1 : Int)), .v (.int (q.2 : Int)), .v (iL false row), .v (.int (row.getD q.1 0 * Y.getD q.1 0)), ?_, by rw [List.length_set]; exact fl, fun e he => ?_, fun c hc h => ?_⟩
                · unfold iL
                  rw [List.map_set]
                  rfl
                · rcases List.mem_or_eq_of_mem_set he with he | he
                  · exact fb e he
                  · rw [he]
                    exact bY _ (getD_mem (by omega))
                · by_cases h2 : c = q.1
                  · rw [h2, List.getD_eq_getElem?_getD, List.getElem?_set_self (by omega)]
                    rfl
                  · rw [List.getD_eq_getElem?_getD, List.getElem?_set_ne (fun z => h2 z.symm), ← List.getD_eq_getElem?_getD]
                    refine fe c hc ?_
                    rcases h with h | h
                    · exact .inl h
                    · right
                      rw [take_snoc hq, List.map_append] at h
                      rcases List.mem_append.mp h with h | h
                      · exact h
                      · exact absurd (List.mem_singleton.mp h) h2
            · rintro j d ρ hd ⟨p4, rfl⟩
              obtain ⟨c, hc, rfl⟩ := map_at hd
              obtain ⟨rfl, hj⟩ : c = j ∧ j < n - (q.1 + 1) := by
                obtain ⟨h1, h2⟩ := List.getElem?_eq_some_iff.mp hc
                rw [List.length_range] at h1
                rw [List.getElem_range] at h2
                omega
              have ec : ((q.1 : Int) + 1 + (c : Int)) = ((q.1 + 1 + c : Nat) : Int) := by omega
              rw [ec]
              have hcn : q.1 + 1 + c < n := by omega
              have ac : atI (row.map Dt.int) ((q.1 + 1 + c : Nat) : Int) = some (.int (row.getD (q.1 + 1 + c) 0)) := atI_D (by omega)
              have af : atI (fs.map Dt.int) ((q.1 + 1 + c : Nat) : Int) = some (.int (fs.getD (q.1 + 1 + c) 0)) := atI_D (by omega)
              have b1 := hR3 _ (getD_mem (d := (0 : Int)) (show q.1 + 1 + c < row.length by omega))
              have b2 := fb _ (getD_mem (d := (0 : Int)) (show q.1 + 1 + c < fs.length by omega))
              walk_at "zz"
              refine ⟨_, _, _, _, _, rfl, .inl rfl, rfl, ac, ?_⟩
              walk_at "zz"
              refine ⟨_, _, _, _, _, rfl, .inr (.inl rfl), rfl, af, ?_⟩
              walk_at "zz"
              refine ⟨Bits.mulW b1 b2 (by decide), ?_⟩
              walk_at "zz"
              refine ⟨.v (.int ((q.1 + 1 + c : Nat) : Int)), ?_⟩
              show _ = [_, _, _, _, _, _, _, _, Sl.v (.int (row.getD n 0 * det - (tailS row Y q.1 c + row.getD (q.1 + 1 + c) 0 * Y.getD (q.1 + 1 + c) 0))), _]
              rw [← later _ hcn (by omega), show ∀ x y w : Int, x - (y + w) = x - y - w from fun x y w => by omega]
              rfl
end
end Lq
/-! ### an __init__ that makes its fields: the instance is held, the right sides are walked -/
def hide1 (H : Hp) (x : Addr) : Hp := fun a => if a = x then none else H a
theorem hide1_ne {H : Hp} {x a : Addr} (h : a ≠ x) : hide1 H x a = H a := if_neg h
theorem hide1_at {H : Hp} {x : Addr} : hide1 H x x = none := if_pos rfl
def vOnly (ρ : List Sl) : Bool := ρ.all fun s => match s with
  | .v _ | .un => true
  | _ => false
def fmI (B F0 J : Hp) (x : Addr) : Fm := ⟨B, F0, J, fun a => a = x⟩
theorem vOnly_at {ρ : List Sl} (h : vOnly ρ = true) {i : Nat} {s : Sl} (e : ρ[i]? = some s) : s = .un ∨ ∃ d, s = .v d := by
  have := List.all_eq_true.mp h _ (List.mem_of_getElem? e)
  cases s with
  | un => exact .inl rfl
  | v d => exact .inr ⟨d, rfl⟩
  | o d => cases this
  | l a d => cases this
theorem Sm.startI {K : PySem.W.Frag} {E : XK} {F H : Hp} {x : Addr} {C dx : Addr} {σ : L2.St} {ρ : List Sl} (le : Le F H) (hx : H x = some (.ins C dx [])) (fx : F x = none) (vo : vOnly ρ = true) (len : σ.length = ρ.length)
    (hs : ∀ (i : Nat) (d : Dt), ρ[i]? = some (.v d) → ∃ v, σ[i]? = some (some v) ∧ Rz K (hide1 H x) F d v) : Sm ⟨K, E, fun _ _ => False⟩ (fmI (hide1 H x) F H x) F H σ ρ := by
  refine { lk := le.lk, base := Same.refl H, fr := Nw.refl F _, dom := fun a h => ?_, bj := fun a o q => ?_, er := fun _ _ _ _ f => f.elim, hid := fun a ha => ?_, fj := fun _ _ _ q => q, len := len, slot := fun i s ov a b => ?_, sep := fun i j d e l a _ _ _ => ?_, psep := fun i j a d e q _ => ?_ }
  · by_cases c : a = x
    · rw [c]; exact hide1_at
    · show hide1 H x a = none
      rw [hide1_ne c]; exact h
  · have q : hide1 H x a = some o := q
    by_cases c : a = x
    · rw [c, hide1_at] at q; cases q
    · rw [hide1_ne c] at q; exact .inl q
  · have ha : a = x := ha
    subst ha
    exact ⟨fx, _, hx, rfl⟩
  · rcases vOnly_at vo a with rfl | ⟨d, rfl⟩
    · trivial
    · obtain ⟨v, e, r⟩ := hs i d a
      rw [b] at e
      cases e
      exact ⟨v, rfl, r⟩
  · rcases vOnly_at vo a with h | ⟨d, h⟩ <;> cases h
  · rcases vOnly_at vo q with h | ⟨d, h⟩ <;> cases h
section
variable {z : Cz} {m : Fm} {F H : Hp} {σ : L2.St} {ρ : List Sl} {x C dx : Addr} {fs : List (Str × V)} {f : Str} {te : TE} {d0 : Dt} {D : Ends} {K' : PySem.W.Frag}
theorem fld_step {B F0 : Hp} (S : Sm z (fmI B F0 H x) F H σ ρ) (hB : B x = none) (hx : H x = some (.ins C dx fs)) (hσ : σ[0]? = some (some (.ref x))) (vo : vOnly ρ = true) (cls : Cls K' C) (na : NoAttr K' C f) (hl : fs.length < 1000)
    (e : ZE z te ρ fun d _ ρ' => d = d0 ∧ ρ' = ρ)
    (k : ∀ F' H' v, Same F F' → (∀ a, a ≠ x → ∀ o, H a = some o → H' a = some o) → (∀ a ob u, H' a = some (.frz ob u) → H a = some (.frz ob u)) → Sm z (fmI B F0 H' x) F' H' σ ρ → H' x = some (.ins C dx (putF f v fs)) → Rz z.K B F' d0 v → D.nx σ H') :
    sFld K' (tVar 0) te f D σ H := by
  refine e (fmI B F0 H x) F H σ _ S fun d fr ρ' F1 H1 v n s S1 r1 => ?_
  obtain ⟨rfl, rfl⟩ := n
  obtain ⟨F2, s2, S2, r⟩ := rzF_frz S1 r1
  have hx1 : H1 x = some (.ins C dx fs) := S2.base x _ hx
  refine ⟨_, hσ, x, C, dx, fs, rfl, hx1, cls, na, hl, ?_⟩
  have hF2 : F2 x = none := (S2.hid x rfl).1
  have le3 : Le F2 (upd H1 x (.ins C dx (putF f v fs))) := S2.le.put hF2
  have fz : ∀ a ob u, upd H1 x (.ins C dx (putF f v fs)) a = some (.frz ob u) → H a = some (.frz ob u) := fun a ob u q => by
    by_cases c : a = x
    · rw [c, upd_same] at q; cases q
    · rw [upd_ne c] at q; exact S2.fj a ob u q
  refine k F2 _ v (s.trans s2) (fun a n o q => by rw [upd_ne n]; exact S2.base a o q) fz ?_ upd_same r
  refine { lk := le3.lk, base := Same.refl _, fr := S2.fr, dom := fun a h => ?_, bj := fun a o q => ?_, er := fun C2 fs2 dd H' h1 h2 => S2.er C2 fs2 dd H' h1 h2, hid := fun a ha => ?_, fj := fun _ _ _ q => q, len := S2.len, slot := fun i s ov a b => ?_, sep := S2.sep, psep := S2.psep }
  · by_cases c : a = x
    · rw [c, upd_same] at h; cases h
    · rw [upd_ne c] at h; exact S2.dom a h
  · have q : B a = some o := q
    by_cases c : a = x
    · rw [c, hB] at q; cases q
    · show upd H1 x _ a = some o ∨ (isDk o = true ∧ ∃ ob, upd H1 x _ a = _)
      rw [upd_ne c]
      rcases S2.bj a o q with w | ⟨w, ob, w2⟩
      · exact .inl (S2.base _ _ w)
      · exact .inr ⟨w, ob, S2.base _ _ w2⟩
  · have ha : a = x := ha
    subst ha
    exact ⟨hF2, _, upd_same, rfl⟩
  · have q := S2.slot i s ov a b
    rcases vOnly_at vo a with rfl | ⟨d, rfl⟩
    · trivial
    · exact q
end
/-! ### a new list passed to a method that gives it back; everything frozen for one expression -/
section
variable {z : Cz} {ρ : List Sl} {N : Dt → Bool → List Sl → Prop} {ta tb : TE} {w : Wz} {E : XK}
theorem ze_methKeep {C : Addr} {mn : Str} (h : ZE z ta ρ fun x _ ρ1 => ∃ (fs : List Str) (es : List Dt), x = .ins C fs es ∧ mn ∉ fs ∧ ZE z tb ρ1 fun y fr ρ2 => fr = true ∧ ∀ l, w (Dt.olds [.ins C fs es, .adr l]) (fun d fr => d = .adr l ∧ fr = false ∧ N y true ρ2) fun _ _ => False) : ZE z (tMeth C mn (spZ z.K w) [] E ta (tCons tb tNil)) ρ N := fun m F H σ Q S k => by
  refine h m F H σ _ S fun x fx ρ1 F1 H1 vx n1 s1 S1 r1 => ?_
  obtain ⟨F2, s2, S2, rx⟩ := rzF_frz S1 r1
  obtain ⟨fs, es, rfl, hm, n2⟩ := n1
  have rx0 := rx
  simp only [Rz] at rx
  obtain ⟨a, dx, kvs, rfl, e, hk, r⟩ := rx
  refine ⟨a, dx, kvs, rfl, S2.le.exact e rfl, look_no (by rw [hk]; exact hm), ?_⟩
  refine n2 m F2 H1 σ _ S2 fun y fr ρ2 F3 H3 vy n3 s3 S3 r3 => ?_
  obtain ⟨rfl, n3⟩ := n3
  unfold RzF at r3
  rw [if_pos rfl] at r3
  obtain ⟨l, rfl, own, sp⟩ := r3
  have ra : Rz z.K m.B F3 (.adr l) (.ref l) := by simp only [Rz]
  refine ⟨F3, Dt.olds [.ins C fs es, .adr l], _, _, S3.le, rzl_old _ _ (.cons (rz_mono s3 _ _ rx0) (.cons ra .nil)), n3 l, fun d fr F' H' v nd g => ?_, fun C fs dd H' f => f.elim⟩
  obtain ⟨rfl, rfl, n4⟩ := nd
  obtain ⟨S4, r4⟩ := S3.got g
  have r4 : Rz z.K m.B F' (.adr l) v := r4
  simp only [Rz] at r4
  subst r4
  refine k _ _ _ _ _ _ n4 (s1.trans (s2.trans (s3.trans g.1))) S4 ?_
  unfold RzF
  rw [if_pos rfl]
  exact ⟨l, rfl, own.ext g.1 g.2.1 S4.le g.2.2.2.1, sp⟩
end
theorem Sm.full {K : PySem.W.Frag} {E : XK} {F H : Hp} {σ : L2.St} {ρ : List Sl} (le : Le F H) (vo : vOnly ρ = true) (len : σ.length = ρ.length)
    (hs : ∀ (i : Nat) (d : Dt), ρ[i]? = some (.v d) → ∃ v, σ[i]? = some (some v) ∧ Rz K H F d v) : Sm ⟨K, E, fun _ _ => False⟩ (fmE F H) F H σ ρ := by
  refine { lk := le.lk, base := Same.refl H, fr := Nw.refl F H, dom := fun _ h => h, bj := Le.refl H, er := fun _ _ _ _ f => f.elim, hid := fun _ h => h.elim, fj := fun _ _ _ q => q, len := len, slot := fun i s ov a b => ?_, sep := fun i j d e l a _ _ _ => ?_, psep := fun i j a d e q _ => ?_ }
  · rcases vOnly_at vo a with rfl | ⟨d, rfl⟩
    · trivial
    · obtain ⟨v, e, r⟩ := hs i d a
      rw [b] at e
      cases e
      exact ⟨v, rfl, r⟩
  · rcases vOnly_at vo a with h | ⟨d, h⟩ <;> cases h
  · rcases vOnly_at vo q with h | ⟨d, h⟩ <;> cases h
/-- one expression, everything frozen -/
theorem ze_full {K : PySem.W.Frag} {E : XK} {F H : Hp} {σ : L2.St} {ρ : List Sl} {te : TE} {d0 : Dt} {fr0 : Bool} {Q : VK} (S : Sm ⟨K, E, fun _ _ => False⟩ (fmE F H) F H σ ρ) (h : ZE ⟨K, E, fun _ _ => False⟩ te ρ fun d fr ρ' => d = d0 ∧ fr = fr0)
    (k : ∀ F' H' v, Same F F' → Same H H' → Le F' H' → Nw F H F' → (∀ a ob u, H' a = some (.frz ob u) → H a = some (.frz ob u)) → (if fr0 = true then ∃ l, v = .ref l ∧ H l = none ∧ F' l = none ∧ ∃ ho, H' l = some ho ∧ HoR K H F' ho d0 else Rz K H F' d0 v) → Q v H') : te σ H Q := by
  refine h (fmE F H) F H σ Q S fun d fr ρ' F' H' v n s S' r => ?_
  obtain ⟨rfl, rfl⟩ := n
  refine k F' H' v s S'.base S'.le S'.fr (fun a ob u q => S'.fj a ob u q) ?_
  unfold RzF at r
  cases fr with
  | true =>
    rw [if_pos rfl] at r ⊢
    obtain ⟨l, rfl, ⟨q1, q2, q3, ho, q4, q5⟩, _⟩ := r
    exact ⟨l, rfl, q2, q1, ho, q4, q5⟩
  | false => exact r
theorem zt_full {K : PySem.W.Frag} {E : XK} {F H : Hp} {σ : L2.St} {ρ : List Sl} {tt : TT} {b0 : Bool} {Q : Bool → Hp → Prop} (S : Sm ⟨K, E, fun _ _ => False⟩ (fmE F H) F H σ ρ) (h : ZT ⟨K, E, fun _ _ => False⟩ tt ρ fun b ρ' => b = b0)
    (k : ∀ F' H', Same F F' → Same H H' → Le F' H' → (∀ a ob u, H' a = some (.frz ob u) → H a = some (.frz ob u)) → Q b0 H') : tt σ H Q := by
  refine h (fmE F H) F H σ Q S fun b ρ' F' H' n s S' => ?_
  obtain rfl := n
  exact k F' H' s S'.base S'.le (fun a ob u q => S'.fj a ob u q)
/-- for .. in enumerate(te), by the heap -/
theorem for_enum {K K' : PySem.W.Frag} {E : XK} {F H : Hp} {σ : L2.St} {ρ : List Sl} {te : TE} {d0 : Dt} {fr0 : Bool} {g : TG} {tb : TS} {D : Ends} (S : Sm ⟨K, E, fun _ _ => False⟩ (fmE F H) F H σ ρ) (h : ZE ⟨K, E, fun _ _ => False⟩ te ρ fun d fr ρ' => d = d0 ∧ fr = fr0)
    (k : ∀ F' H' v, Same F F' → Same H H' → Le F' H' → Nw F H F' → (∀ a ob u, H' a = some (.frz ob u) → H a = some (.frz ob u)) → (if fr0 = true then ∃ l, v = .ref l ∧ H l = none ∧ F' l = none ∧ ∃ ho, H' l = some ho ∧ HoR K H F' ho d0 else Rz K H F' d0 v) →
      ∃ (a : Addr) (us : List V) (Pv : Nat → L2.St → Hp → Prop), v = .ref a ∧ SqL K' H' a us ∧ Pv 0 σ H' ∧ (∀ i σ H, i ≤ us.length → Pv i σ H → SqL K' H a us) ∧
        (∀ i x σ2 H2 H3, i < us.length → Pv i σ2 H2 → (∃ T vy, x = .ref T ∧ H2 T = none ∧ H3 = upd H2 T (.tup [.int (i : Nat), vy]) ∧ us[i]? = some vy) → g x σ2 H3 fun σ4 H4 => tb ⟨Pv (i + 1), unlV H D.rt, unlN H D.nx, Pv (i + 1)⟩ σ4 H4) ∧ ∀ σ2 H2, Pv us.length σ2 H2 → D.nx σ2 H2) : tLockL (tFor (iEnum K' (tCons te tNil)) g tb) D σ H := by
  show te σ H _
  refine ze_full S h fun F' H' v s1 s2 l1 n1 f1 r => ?_
  obtain ⟨a, us, Pv, rfl, hs, p0, pg, pb, pd⟩ := k F' H' v s1 s2 l1 n1 f1 r
  refine ⟨a, us, rfl, hs, for_it walk_enum (D := ⟨unlN H D.nx, unlV H D.rt, unlN H D.bk, unlN H D.ct⟩) Pv p0 pg ?_ fun σ2 H2 p => .inl (pd σ2 H2 p)⟩
  rintro i x σ2 H2 H3 hi p ⟨T, vx, vy, rfl, hN, rfl, e2, e3⟩
  cases e2
  exact pb i _ σ2 H2 _ hi p ⟨T, vy, rfl, hN, rfl, e3⟩
namespace Lq
/-- what has been found so far -/
structure El where
  basis : List Nat
  rows : List (List Int)
  leads : List Nat
  wrong : Option Nat
def El.bs (e : El) : List (List Int × Nat) := e.rows.zip e.leads
def redE (S : Nat) (e : El) (row : List Rat) (c : Rat) : List Int := (stI e.bs (intR S row c)).2
def usedE (n : Nat) (r : List Int) : List Nat := (List.range n).filter fun j => decide (r.getD j 0 ≠ 0)
def stepE (n S at_ : Nat) (e : El) (row : List Rat) (c : Rat) : El := match usedE n (redE S e row c) with
  | l :: _ => ⟨e.basis ++ [at_], e.rows ++ [redE S e row c], e.leads ++ [l], e.wrong⟩
  | [] => if (redE S e row c).getD n 0 ≠ 0 ∧ e.wrong = none then { e with wrong := some at_ } else e
def elimN (n S : Nat) (m : List (List Rat)) (cs : List Rat) : Nat → El
  | 0 => ⟨[], [], [], none⟩
  | i + 1 => stepE n S i (elimN n S m cs i) (m.getD i []) (cs.getD i 0)
/-- all that is read has few signs -/
structure ElOk (n S : Nat) (m : List (List Rat)) (cs : List Rat) : Prop where
  len : cs.length = m.length
  few : m.length ≤ 6 ∧ n ≤ 6
  wide : ∀ r ∈ m, r.length = n
  none_ : m = [] → n = 0
  bot : S = botN cs
  cden : ∃ D : Nat, D ≠ 0 ∧ D < 2 ^ 80 ∧ ∀ c ∈ cs, c.den ∣ D
  rden : ∃ D : Nat, D ≠ 0 ∧ D < 2 ^ 80 ∧ ∀ r ∈ m, ∀ e ∈ r, e.den ∣ D
  cbits : ∀ c ∈ cs, BQ 200 c
  rbits : ∀ r ∈ m, ∀ e ∈ r, BQ 200 e
  sbits : Bits 200 (S : Int)
  rows : ∀ i ≤ m.length, RowsI (n + 1) (elimN n S m cs i).bs ∧ (elimN n S m cs i).rows.length = (elimN n S m cs i).leads.length
  mid : ∀ i < m.length, ∀ k ≤ (elimN n S m cs i).bs.length, ∀ e ∈ (stI ((elimN n S m cs i).bs.take k) (intR S (m.getD i []) (cs.getD i 0))).2, Bits 4000 e
def nV (xs : List Nat) : List V := xs.map fun k : Nat => V.int (k : Int)
def wrV : Option Nat → V
  | none => .non
  | some k => .int (k : Int)
def fsE (n S : Nat) (a1 a2 a3 : Addr) (w : Option Nat) : List (Str × V) := [("columns", .int (n : Int)), ("scale", .int (S : Int)), ("basis", .ref a1), ("rows", .ref a2), ("leads", .ref a3), ("wrong", wrV w)]
/-- the instance and its three lists as they stand -/
structure Fix (K : PySem.W.Frag) (H0 H : Hp) (x dx a1 a2 a3 : Addr) (n S : Nat) (e : El) (rs : List V) : Prop where
  hx : H x = some (.ins (He.ga K "Elimination") dx (fsE n S a1 a2 a3 e.wrong))
  h1 : H a1 = some (.lst (nV e.basis))
  h2 : H a2 = some (.lst rs)
  h3 : H a3 = some (.lst (nV e.leads))
  nx : a1 ≠ x ∧ a2 ≠ x ∧ a3 ≠ x
  ne : a1 ≠ a2 ∧ a1 ≠ a3 ∧ a2 ≠ a3
  new : H0 a1 = none ∧ H0 a2 = none ∧ H0 a3 = none
  old : ∀ a, a ≠ x → ∀ o, H0 a = some o → H a = some o
  fz : ∀ a ob u, H a = some (.frz ob u) → H0 a = some (.frz ob u)
section
variable {K : PySem.W.Frag} {H0 H H' F : Hp} {x dx a1 a2 a3 : Addr} {n S : Nat} {e : El} {rs : List V}
theorem Fix.go (f : Fix K H0 H x dx a1 a2 a3 n S e rs) (s : Same H H') (z : ∀ a ob u, H' a = some (.frz ob u) → H a = some (.frz ob u)) : Fix K H0 H' x dx a1 a2 a3 n S e rs :=
  ⟨s _ _ f.hx, s _ _ f.h1, s _ _ f.h2, s _ _ f.h3, f.nx, f.ne, f.new, fun a n o q => s _ _ (f.old a n o q), fun a ob u q => f.fz a ob u (z a ob u q)⟩
/-- the frozen part, apart from the four -/
structure Frz (K : PySem.W.Frag) (H0 F1 F H : Hp) (x a1 a2 a3 : Addr) (e : El) (rs : List V) : Prop where
  le : Le F H
  fx : F x = none
  f1 : F a1 = none
  f2 : F a2 = none
  f3 : F a3 = none
  up : Same F1 F
  nw : Nw F1 (hide1 H0 x) F
  rows : Rzl K (hide1 H0 x) F (e.rows.map (iL false)) rs
theorem Frz.go {F1 : Hp} (g : Frz K H0 F1 F H x a1 a2 a3 e rs) (s : Same H H') : Frz K H0 F1 F H' x a1 a2 a3 e rs := ⟨g.le.same s, g.fx, g.f1, g.f2, g.f3, g.up, g.nw, g.rows⟩
theorem Frz.next {F1 F' : Hp} (f : Fix K H0 H x dx a1 a2 a3 n S e rs) (g : Frz K H0 F1 F H x a1 a2 a3 e rs) (hx0 : H0 x ≠ none) (s : Same F F') (sH : Same H H') (le' : Le F' H') (nw : Nw F H F') : Frz K H0 F1 F' H' x a1 a2 a3 e rs := by
  have off : ∀ {a : Addr} {o : HO}, F a = none → H a = some o → isTp o = false → F' a = none := fun {a o} h1 h2 h3 => by
    cases c : F' a with
    | none => rfl
    | some u =>
      rcases nw a u c with q | q | q
      · exact absurd h1 q
      · rw [h2] at q; cases q
      · have := le'.exact c (by cases u <;> first | rfl | cases q)
        rw [sH _ _ h2] at this
        cases this
        rw [h3] at q
        cases q
  refine ⟨le', off g.fx f.hx rfl, off g.f1 f.h1 rfl, off g.f2 f.h2 rfl, off g.f3 f.h3 rfl, g.up.trans s, fun a o q => ?_, rzl_mono s _ _ g.rows⟩
  rcases nw a o q with c | c | c
  · cases d : F a with
    | none => exact absurd d c
    | some u =>
      have := s _ _ d
      rw [q] at this
      cases this
      exact g.nw a o d
  · refine .inr (.inl ?_)
    by_cases h : a = x
    · rw [h]; exact hide1_at
    · rw [hide1_ne h]
      cases d : H0 a with
      | none => rfl
      | some u =>
        have := f.old a h _ d
        rw [c] at this
        cases this
  · exact .inr (.inr c)
theorem Frz.add {F1 : Hp} {l : Addr} {vs : List V} (f : Fix K H0 H x dx a1 a2 a3 n S e rs) (g : Frz K H0 F1 F H x a1 a2 a3 e rs) (sH : Same H H') (hl : H l = none) (hl' : H' l = some (.lst vs)) : Frz K H0 F1 (upd F l (.lst vs)) H' x a1 a2 a3 e rs ∧ Same F (upd F l (.lst vs)) := by
  have fl := g.le.free hl
  have off : ∀ {a : Addr} {o : HO}, F a = none → H a = some o → upd F l (.lst vs) a = none := fun {a o} h1 h2 => by
    rw [upd_ne (fun c => by rw [c, hl] at h2; cases h2)]
    exact h1
  have s := same_new (o := HO.lst vs) fl
  refine ⟨⟨(g.le.same sH).frz hl', off g.fx f.hx, off g.f1 f.h1, off g.f2 f.h2, off g.f3 f.h3, g.up.trans s, fun a o q => ?_, rzl_mono s _ _ g.rows⟩, s⟩
  by_cases c : a = l
  · refine .inr (.inl ?_)
    subst c
    by_cases h : a = x
    · rw [h]; exact hide1_at
    · rw [hide1_ne h]
      cases d : H0 a with
      | none => rfl
      | some u =>
        have := f.old a h _ d
        rw [hl] at this
        cases this
  · rw [upd_ne c] at q
    exact g.nw a o q
theorem Frz.put {F1 : Hp} {l : Addr} {vs : List V} (g : Frz K H0 F1 F H x a1 a2 a3 e rs) (fl : F l = none) (h : H l = some (.lst vs)) (nl : hide1 H0 x l = none) (ap : l ≠ x ∧ l ≠ a1 ∧ l ≠ a2 ∧ l ≠ a3) : Frz K H0 F1 (upd F l (.lst vs)) H x a1 a2 a3 e rs ∧ Same F (upd F l (.lst vs)) := by
  have s := same_new (o := HO.lst vs) fl
  refine ⟨⟨g.le.frz h, by rw [upd_ne ap.1.symm]; exact g.fx, by rw [upd_ne ap.2.1.symm]; exact g.f1, by rw [upd_ne ap.2.2.1.symm]; exact g.f2, by rw [upd_ne ap.2.2.2.symm]; exact g.f3, g.up.trans s, fun a o q => ?_, rzl_mono s _ _ g.rows⟩, s⟩
  by_cases c : a = l
  · exact .inr (.inl (c ▸ nl))
  · rw [upd_ne c] at q
    exact g.nw a o q
theorem Fix.apart {l : Addr} (f : Fix K H0 H x dx a1 a2 a3 n S e rs) (hl : H l = none) : (l ≠ x ∧ l ≠ a1 ∧ l ≠ a2 ∧ l ≠ a3) ∧ hide1 H0 x l = none := by
  have q : ∀ {a : Addr} {o : HO}, H a = some o → l ≠ a := fun {a o} h c => by rw [← c, hl] at h; cases h
  refine ⟨⟨q f.hx, q f.h1, q f.h2, q f.h3⟩, ?_⟩
  rw [hide1_ne (q f.hx)]
  cases d : H0 l with
  | none => rfl
  | some u =>
    have := f.old l (q f.hx) _ d
    rw [hl] at this
    cases this
/-- with the four -/
def bigF (F H : Hp) (x a1 a2 a3 : Addr) : Hp := fun a => if a = x ∨ a = a1 ∨ a = a2 ∨ a = a3 then H a else F a
theorem big_same {F1 : Hp} (g : Frz K H0 F1 F H x a1 a2 a3 e rs) : Same F (bigF F H x a1 a2 a3) := fun a o q => by
  unfold bigF
  rw [if_neg ?_]
  · exact q
  · rintro (rfl | rfl | rfl | rfl)
    · rw [g.fx] at q; cases q
    · rw [g.f1] at q; cases q
    · rw [g.f2] at q; cases q
    · rw [g.f3] at q; cases q
theorem big_le {F1 : Hp} (g : Frz K H0 F1 F H x a1 a2 a3 e rs) : Le (bigF F H x a1 a2 a3) H := fun a o q => by
  unfold bigF at q
  split at q
  · exact .inl q
  · exact g.le a o q
theorem nats_rzl2 {B F : Hp} : ∀ xs : List Nat, Rzl K B F (xs.map fun k : Nat => Dt.int (k : Int)) (nV xs)
  | [] => .nil
  | k :: xs => .cons (by simp only [Rz]) (nats_rzl2 xs)
theorem rows_any {B B' F : Hp} : ∀ (rows : List (List Int)) (rs : List V), Rzl K B F (rows.map (iL false)) rs → Rzl K B' F (rows.map (iL false)) rs
  | [], rs, h => by rw [h.inv0]; exact .nil
  | r :: rows, _, h => by
    obtain ⟨v, t, rfl, h1, h2⟩ := h.inv
    refine .cons ?_ (rows_any rows t h2)
    have := rz_old (B' := B') (iL false r) v h1
    rw [iL_old] at this
    exact this
theorem big_self {F1 : Hp} (f : Fix K H0 H x dx a1 a2 a3 n S e rs) (g : Frz K H0 F1 F H x a1 a2 a3 e rs) {B : Hp} : Rz K B (bigF F H x a1 a2 a3) (elD K false false false n S e.basis e.rows e.leads e.wrong) (.ref x) := by
  have r0 : Rzl K B (bigF F H x a1 a2 a3) (e.rows.map (iL false)) rs := by
    have := rzl_mono (big_same g) _ _ g.rows
    exact rows_any e.rows rs this
  have p1 : bigF F H x a1 a2 a3 x = H x := if_pos (.inl rfl)
  have p2 : bigF F H x a1 a2 a3 a1 = H a1 := if_pos (.inr (.inl rfl))
  have p3 : bigF F H x a1 a2 a3 a2 = H a2 := if_pos (.inr (.inr (.inl rfl)))
  have p4 : bigF F H x a1 a2 a3 a3 = H a3 := if_pos (.inr (.inr (.inr rfl)))
  unfold elD
  simp only [Rz]
  refine ⟨x, dx, fsE n S a1 a2 a3 e.wrong, rfl, by rw [p1]; exact f.hx, rfl, ?_⟩
  refine .cons (by simp only [Rz]) (.cons (by simp only [Rz]) (.cons ?_ (.cons ?_ (.cons ?_ (.cons ?_ .nil)))))
  · unfold nLst
    simp only [Rz]
    exact ⟨a1, _, rfl, by rw [p2]; exact f.h1, (fun c => nomatch c), nats_rzl2 _⟩
  · simp only [Rz]
    exact ⟨a2, _, rfl, by rw [p3]; exact f.h2, (fun c => nomatch c), r0⟩
  · unfold nLst
    simp only [Rz]
    exact ⟨a3, _, rfl, by rw [p4]; exact f.h3, (fun c => nomatch c), nats_rzl2 _⟩
  · unfold wrD wrV
    cases e.wrong <;> simp only [Rz]
end
end Lq
/-! ### x is None -/
inductive IsNon : Dt → Bool → Prop
  | non : IsNon .non true
  | int (i : Int) : IsNon (.int i) false
  | bl (i : Bool) : IsNon (.bl i) false
  | str (i : Str) : IsNon (.str i) false
  | lst (t : Bool) (ds : List Dt) : IsNon (.lst t ds) false
  | tup (ds : List Dt) : IsNon (.tup ds) false
  | ins (C : Addr) (fs : List Str) (ds : List Dt) : IsNon (.ins C fs ds) false
theorem IsNon.rz {K : PySem.W.Frag} {B F : Hp} {d : Dt} {b : Bool} {v : V} (h : IsNon d b) (r : Rz K B F d v) : decide (v = .non) = b := by
  cases h <;> simp only [Rz] at r
  · subst r; rfl
  · subst r; rfl
  · subst r; rfl
  · subst r; rfl
  · obtain ⟨_, _, rfl, _⟩ := r; rfl
  · obtain ⟨_, _, rfl, _⟩ := r; rfl
  · obtain ⟨_, _, _, rfl, _⟩ := r; rfl
theorem ze_isN {z : Cz} {ρ : List Sl} {N : Dt → Bool → List Sl → Prop} {ta : TE} (h : ZE z ta ρ fun x _ ρ1 => ∃ b, IsNon x b ∧ N (.bl b) false ρ1) : ZE z (tOp (fun x y H Q => y = V.non ∧ Q (V.bl (decide (x = V.non))) H) ta (tC .non)) ρ N := fun m F H σ Q S k => by
  refine h m F H σ _ S fun x fx ρ1 F1 H1 vx n1 s1 S1 r1 => ?_
  obtain ⟨F2, s2, S2, rx⟩ := rzF_frz S1 r1
  obtain ⟨b, hb, n⟩ := n1
  refine ⟨rfl, ?_⟩
  rw [hb.rz rx]
  exact k _ _ _ _ _ _ n (s1.trans s2) S2 (rzF_f (by simp only [Rz]))
theorem ze_notN {z : Cz} {ρ : List Sl} {N : Dt → Bool → List Sl → Prop} {ta : TE} (h : ZE z ta ρ fun x _ ρ1 => ∃ b, IsNon x b ∧ N (.bl (!b)) false ρ1) : ZE z (tOp (fun x y H Q => y = V.non ∧ Q (V.bl (!decide (x = V.non))) H) ta (tC .non)) ρ N := fun m F H σ Q S k => by
  refine h m F H σ _ S fun x fx ρ1 F1 H1 vx n1 s1 S1 r1 => ?_
  obtain ⟨F2, s2, S2, rx⟩ := rzF_frz S1 r1
  obtain ⟨b, hb, n⟩ := n1
  refine ⟨rfl, ?_⟩
  rw [hb.rz rx]
  exact k _ _ _ _ _ _ n (s1.trans s2) S2 (rzF_f (by simp only [Rz]))
/-! ### statements by the heap -/
namespace Lq
section
variable {K : PySem.W.Frag} {E : XK} {F H : Hp} {σ : L2.St} {ρ : List Sl} {te : TE} {d0 : Dt} {fr0 : Bool} {i : Nat} {D : Ends}
theorem set_full (S : Sm ⟨K, E, fun _ _ => False⟩ (fmE F H) F H σ ρ) (h : ZE ⟨K, E, fun _ _ => False⟩ te ρ fun d fr ρ' => d = d0 ∧ fr = fr0)
    (k : ∀ F' H' v, Same F F' → Same H H' → Le F' H' → Nw F H F' → (∀ a ob u, H' a = some (.frz ob u) → H a = some (.frz ob u)) → (if fr0 = true then ∃ l, v = .ref l ∧ H l = none ∧ F' l = none ∧ ∃ ho, H' l = some ho ∧ HoR K H F' ho d0 else Rz K H F' d0 v) → D.nx (σ.set i (some v)) H') : tAsg te (gName i) D σ H := by
  show te σ H _
  exact ze_full S h k
theorem setLc_full {wi : TI} {g : TG} {tt : TT} {vs : List Nat} (S : Sm ⟨K, E, fun _ _ => False⟩ (fmE F H) F H σ ρ) (h : ZE ⟨K, E, fun _ _ => False⟩ (tLockLE (tLc wi g tt te vs)) ρ fun d fr ρ' => d = d0 ∧ fr = fr0)
    (k : ∀ F' H' v, Same F F' → Same H H' → Le F' H' → Nw F H F' → (∀ a ob u, H' a = some (.frz ob u) → H a = some (.frz ob u)) → (if fr0 = true then ∃ l, v = .ref l ∧ H l = none ∧ F' l = none ∧ ∃ ho, H' l = some ho ∧ HoR K H F' ho d0 else Rz K H F' d0 v) → D.nx (σ.set i (some v)) H') : tLockL (tAsg (tLc wi g tt te vs) (gName i)) D σ H := by
  show tLockLE (tLc wi g tt te vs) σ H fun v H' => D.nx (σ.set i (some v)) H'
  exact ze_full S h k
theorem if_full {tt : TT} {b0 : Bool} {ta tb : TS} (S : Sm ⟨K, E, fun _ _ => False⟩ (fmE F H) F H σ ρ) (h : ZT ⟨K, E, fun _ _ => False⟩ tt ρ fun b ρ' => b = b0)
    (k : ∀ F' H', Same F F' → Same H H' → Le F' H' → (∀ a ob u, H' a = some (.frz ob u) → H a = some (.frz ob u)) → if b0 = true then ta D σ H' else tb D σ H') : tIfS tt ta tb D σ H := by
  show tt σ H _
  exact zt_full S h k
theorem app_fld {K1 K2 : PySem.W.Frag} {x C dx a : Addr} {kvs : List (Str × V)} {f : Str} {xs : List V} {v : V} (hσ : σ[0]? = some (some (.ref x))) (hx : H x = some (.ins C dx kvs)) (cls : Cls K2 C) (na : NoAttr K2 C f) (hf : kvs.lookup f = some (.ref a)) (ha : H a = some (.lst xs)) (hl : xs.length < 100000)
    (hv : ∀ Q : VK, Q v H → te σ H Q) (k : D.nx σ (upd H a (.lst (xs ++ [v])))) : tDrop (tBM K1 "list" rAppend (tFld K2 (tVar 0) f) (tCons te tNil)) D σ H :=
  ⟨_, hσ, x, C, dx, kvs, .ref a, rfl, hx, cls, na, hf, .inl ⟨rfl, xs, SqL.of ha⟩, hv _ ⟨a, xs, v, rfl, rfl, ha, by rw [sizeLine_eq]; omega, k⟩⟩
end
section
variable {K : PySem.W.Frag} {H0 H F F1 : Hp} {x dx a1 a2 a3 : Addr} {n S : Nat} {e : El} {rs : List V}
theorem Fix.app (f : Fix K H0 H x dx a1 a2 a3 n S e rs) (v : V) (r : List Int) (i l : Nat) : Fix K H0 (upd (upd (upd H a1 (.lst (nV e.basis ++ [.int (i : Int)]))) a2 (.lst (rs ++ [v]))) a3 (.lst (nV e.leads ++ [.int (l : Int)]))) x dx a1 a2 a3 n S ⟨e.basis ++ [i], e.rows ++ [r], e.leads ++ [l], e.wrong⟩ (rs ++ [v]) := by
  obtain ⟨n1, n2, n3⟩ := f.nx
  obtain ⟨m1, m2, m3⟩ := f.ne
  refine ⟨?_, ?_, ?_, ?_, f.nx, f.ne, f.new, fun a h o q => ?_, fun a ob u q => ?_⟩
  · rw [upd_ne n3.symm, upd_ne n2.symm, upd_ne n1.symm]; exact f.hx
  · rw [upd_ne m2, upd_ne m1, upd_same]
    show _ = some (HO.lst ((e.basis ++ [i]).map _))
    rw [List.map_append]; rfl
  · rw [upd_ne m3, upd_same]
  · rw [upd_same]
    show _ = some (HO.lst ((e.leads ++ [l]).map _))
    rw [List.map_append]; rfl
  · have z : ∀ {b : Addr}, H0 b = none → a ≠ b := fun {b} g c => by rw [c, g] at q; cases q
    rw [upd_ne (z f.new.2.2), upd_ne (z f.new.2.1), upd_ne (z f.new.1)]
    exact f.old a h o q
  · by_cases c3 : a = a3
    · rw [c3, upd_same] at q; cases q
    · rw [upd_ne c3] at q
      by_cases c2 : a = a2
      · rw [c2, upd_same] at q; cases q
      · rw [upd_ne c2] at q
        by_cases c1 : a = a1
        · rw [c1, upd_same] at q; cases q
        · rw [upd_ne c1] at q
          exact f.fz a ob u q
theorem Frz.app (g : Frz K H0 F1 F H x a1 a2 a3 e rs) {v : V} {r : List Int} (i l : Nat) {o1 o2 o3 : HO} (rv : Rz K (hide1 H0 x) F (iL false r) v) : Frz K H0 F1 F (upd (upd (upd H a1 o1) a2 o2) a3 o3) x a1 a2 a3 ⟨e.basis ++ [i], e.rows ++ [r], e.leads ++ [l], e.wrong⟩ (rs ++ [v]) := by
  refine ⟨((g.le.put g.f1).put g.f2).put g.f3, g.fx, g.f1, g.f2, g.f3, g.up, g.nw, ?_⟩
  show Rzl _ _ _ ((e.rows ++ [r]).map _) _
  rw [List.map_append]
  exact g.rows.app (.cons rv .nil)
theorem Fix.wr (f : Fix K H0 H x dx a1 a2 a3 n S e rs) (i : Nat) : Fix K H0 (upd H x (.ins (He.ga K "Elimination") dx (putF "wrong" (.int (i : Int)) (fsE n S a1 a2 a3 e.wrong)))) x dx a1 a2 a3 n S { e with wrong := some i } rs := by
  obtain ⟨n1, n2, n3⟩ := f.nx
  refine ⟨by rw [upd_same]; rfl, by rw [upd_ne n1]; exact f.h1, by rw [upd_ne n2]; exact f.h2, by rw [upd_ne n3]; exact f.h3, f.nx, f.ne, f.new, fun a h o q => by rw [upd_ne h]; exact f.old a h o q, fun a ob u q => ?_⟩
  by_cases c : a = x
  · rw [c, upd_same] at q; cases q
  · rw [upd_ne c] at q; exact f.fz a ob u q
theorem Frz.wr (g : Frz K H0 F1 F H x a1 a2 a3 e rs) (i : Nat) {o : HO} : Frz K H0 F1 F (upd H x o) x a1 a2 a3 { e with wrong := some i } rs :=
  ⟨g.le.put g.fx, g.fx, g.f1, g.f2, g.f3, g.up, g.nw, g.rows⟩
theorem rzl_int {B : Hp} : ∀ {r : List Int} {xs : List V}, Rzl K B F (r.map Dt.int) xs → xs = r.map V.int
  | [], _, h => h.inv0
  | i :: r, _, h => by
    obtain ⟨v, t, rfl, h1, h2⟩ := h.inv
    rw [rz_i h1, rzl_int h2]
    rfl
theorem int_rzl {B : Hp} : ∀ r : List Int, Rzl K B F (r.map Dt.int) (r.map V.int)
  | [] => .nil
  | i :: r => .cons (by simp only [Rz]) (int_rzl r)
theorem rzl_nat {B : Hp} : ∀ {r : List Nat} {xs : List V}, Rzl K B F (r.map fun k : Nat => Dt.int (k : Int)) xs → xs = nV r
  | [], _, h => h.inv0
  | i :: r, _, h => by
    obtain ⟨v, t, rfl, h1, h2⟩ := h.inv
    rw [rz_i h1, rzl_nat h2]
    rfl
/-- the row, made whole and reduced -/
theorem ze_elred {E : XK} {p1 p2 p3 p6 p7 p8 : Sl} {row : List Rat} {c : Rat} {C : Addr} (hC : C = He.ga K "Elimination")
    (hR : RowsI (n + 1) e.bs) (hb : ∀ k ≤ e.bs.length, ∀ y ∈ (stI (e.bs.take k) (intR S row c)).2, Bits 4000 y) (hn : n ≤ 6) (hw : row.length = n) {D : Nat} (hD : D ≠ 0) (hD2 : D < 2 ^ 80) (hd : ∀ y ∈ row, y.den ∣ D) (b1 : ∀ y ∈ row, BQ 200 y) (b2 : BQ 200 c) (b3 : Bits 200 (S : Int)) :
    ZE ⟨K, E, fun _ _ => False⟩ (tMeth C "_reduced" (spZ K (wReduced K)) [] E (tVar 0) (tCons (tMeth C "_integers" (spZ K (wInts K)) [] E (tVar 0) (tCons (tVar 4) (tCons (tVar 5) tNil))) tNil)) [.v (elD K false false false n S e.basis e.rows e.leads e.wrong), p1, p2, p3, .v (ratL false row), .v (ratE c), p6, p7, p8] fun d fr ρ' => d = iL true (redE S e row c) ∧ fr = true := by
  subst hC
  have li : (intR S row c).length = n + 1 := by unfold intR; rw [List.length_append, List.length_map, hw]; rfl
  by_cases eb : e.bs = []
  · refine ze_methKeep ?_
    walk_at "zz"
    refine ⟨elN, _, rfl, by decide, ?_⟩
    refine ze_meth ?_
    walk_at "zz"
    refine ⟨elN, _, rfl, by decide, ?_⟩
    walk_at "zz"
    refine ⟨D, n, S, e.basis, e.rows, e.leads, e.wrong, row, c, ?_, hD, hD2, hd, by omega, b1, b2, b3, ?_⟩
    · show [Dt.old _, Dt.old _, Dt.old _] = _
      rw [elD_old, ratL_old]
      rfl
    · refine ⟨rfl, fun l => .inr ⟨n, S, e.basis, e.rows, e.leads, e.wrong, l, ?_, eb, rfl, rfl, ?_, rfl⟩⟩
      · show [Dt.old (elD K false false false n S e.basis e.rows e.leads e.wrong), Dt.adr l] = _
        rw [elD_old]
      · unfold redE
        rw [eb]
        rfl
  · refine ze_meth ?_
    walk_at "zz"
    refine ⟨elN, _, rfl, by decide, ?_⟩
    walk_at "zz"
    refine ⟨elN, _, rfl, by decide, ?_⟩
    walk_at "zz"
    refine ⟨D, n, S, e.basis, e.rows, e.leads, e.wrong, row, c, ?_, hD, hD2, hd, by omega, b1, b2, b3, ?_⟩
    · show [Dt.old _, Dt.old _, Dt.old _] = _
      rw [elD_old, ratL_old]
      rfl
    · walk_at "zz"
      refine .inl ⟨n + 1, n, S, e.basis, e.rows, e.leads, e.wrong, intR S row c, ?_, li, by omega, hR, hb, eb, rfl, rfl⟩
      show [Dt.old _, Dt.old _] = _
      rw [elD_old, iL_old]
end
end Lq
namespace Lq
theorem elimN_basis (n S : Nat) (m : List (List Rat)) (cs : List Rat) : ∀ i, (elimN n S m cs i).basis.length = (elimN n S m cs i).rows.length
  | 0 => rfl
  | i + 1 => by
    have ih := elimN_basis n S m cs i
    show (stepE n S i _ _ _).basis.length = (stepE n S i _ _ _).rows.length
    unfold stepE
    split
    · dsimp only
      rw [List.length_append, List.length_append, ih]
      rfl
    · split
      · exact ih
      · exact ih
theorem iteBT {b : Bool} {A B : Prop} (h : b = true) (a : A) : if b = true then A else B := by rw [if_pos h]; exact a
theorem iteBF {b : Bool} {A B : Prop} (h : b = false) (a : B) : if b = true then A else B := by rw [h]; exact a
def spElim (K : PySem.W.Frag) : Sp := fun vs H Q _ => ∃ (F : Hp) (x dx : Addr) (v1 v2 : V) (m : List (List Rat)) (cs : List Rat) (n S : Nat), vs = [.ref x, v1, v2] ∧ H x = some (.ins (He.ga K "Elimination") dx []) ∧ F x = none ∧ Le F H ∧
  Rz K (hide1 H x) F (ratsD false false m) v1 ∧ Rz K (hide1 H x) F (ratL false cs) v2 ∧ ElOk n S m cs ∧
  ∀ (F' H' : Hp) (kvs : List (Str × V)), Same F F' → (∀ a, a ≠ x → ∀ o, H a = some o → H' a = some o) → (∀ a ob u, H' a = some (.frz ob u) → H a = some (.frz ob u)) → Le F' H' → Nw F (hide1 H x) F' → F' x = none →
    H' x = some (.ins (He.ga K "Elimination") dx kvs) → kvs.map Prod.fst = elN → Rzl K (hide1 H x) F' [.int (n : Int), .int (S : Int), nLst true (elimN n S m cs m.length).basis, .lst true ((elimN n S m cs m.length).rows.map (iL false)), nLst true (elimN n S m cs m.length).leads, wrD (elimN n S m cs m.length).wrong] (kvs.map Prod.snd) → Q .non H'
theorem none_upd {H : Hp} {p a : Addr} {o : HO} (h : upd H p o a = none) : a ≠ p ∧ H a = none := by
  by_cases c : a = p
  · rw [c, upd_same] at h; cases h
  · rw [upd_ne c] at h; exact ⟨c, h⟩
theorem ratsD_old (t t' : Bool) (m : List (List Rat)) : (ratsD t t' m).old = ratsD false false m := by
  show Dt.lst false (Dt.olds _) = _
  rw [olds_map, List.map_map]
  unfold ratsD
  congr 1
  exact List.map_congr_left fun r _ => ratL_old t' r
theorem hide1_none {H : Hp} {x a : Addr} (h : hide1 H x a = none) (n : a ≠ x) : H a = none := by rw [hide1_ne n] at h; exact h
section
variable {P : Program} {w : World} {K : PySem.W.Frag} {mg : Str → Option Value} {base : Heap}
set_option maxHeartbeats 8000000 in
theorem ok_Elimination___init__ (T : Top w K mg) : FnOk P w K mg base CX0 4 (He.ma K (He.ga K ("Elimination" : Str)) ("__init__" : Str)) (fdOf K d_Elimination___init__) ["self", "rows", "constants"] (spElim K) := by
  refine (T.f_Elimination___init__).ok sc_Elimination___init__ (fun vs H Q E h => ?_) (fun cdv A outer s H vs Q E hr h => ?_)
  · obtain ⟨F, x, dx, v1, v2, m, cs, n, S, rfl, _⟩ := h
    rfl
  · obtain ⟨F, x, dx, v1, v2, m, cs, n, S, rfl, hx, fx, le, r1, r2, ok, k⟩ := h
    refine ⟨_, PSs.nox (pss_cons (ps_fldK (K := K) rfl (pv 0) (pe_ifExp (pt_truth (pv 1) (by intro _; rfl)) (pe_callB (call_lenZ (K := K) rfl) (by rfl) T.n_len PySem.boot_len (pa_cons (pe_ix (ix_listK (K := K) rfl) (pv 1) pe_int (fun _ _ => rfl)) pa_nil)) pe_int) rfl)
    (pss_cons (ps_fldK (K := K) rfl (pv 0) (pe_call (ok__common_bottom (K := K) T) (hr.mono (by decide)) rfl T.g__common_bottom T.f__common_bottom.kp T.b__common_bottom .nil pass0 (pa_cons (pv 2) pa_nil)) rfl)
    (pss_cons (ps_fldK (K := K) rfl (pv 0) (pe_lst pa_nil) rfl)
    (pss_cons (ps_fldK (K := K) rfl (pv 0) (pe_lst pa_nil) rfl)
    (pss_cons (ps_fldK (K := K) rfl (pv 0) (pe_lst pa_nil) rfl)
    (pss_cons (ps_fldK (K := K) rfl (pv 0) pe_non rfl)
    (pss_one (ps_lockL (ps_for PassesOwn.never rfl (pi_enum rfl T.n_enumerate (pa_cons (LZ.pe_listZip (K := K) rfl rfl rfl T.n_list (by decide +kernel) rfl T.n_zip (pa_cons (pv 1) (pa_cons (pv 2) pa_nil))) pa_nil)) (pg_tup (by rfl) (pgs_cons (pg_name (i := 3) sc_Elimination___init__.nd rfl (Or.inl rfl)) (pgs_cons (pg_tup (by rfl) (pgs_cons (pg_name (i := 4) sc_Elimination___init__.nd rfl (Or.inl rfl)) (pgs_cons (pg_name (i := 5) sc_Elimination___init__.nd rfl (Or.inl rfl)) pgs_nil))) pgs_nil)))
    (pss_cons (ps_set (i := 6) sc_Elimination___init__.nd rfl (Or.inr rfl) (pe_meth (pv 0) T.cls_Elimination T.m_Elimination__reduced (ok_Elimination__reduced (K := K) T) (hr.mono (by decide)) T.b_Elimination__reduced .nil pass0 (pa_cons (pe_meth (pv 0) T.cls_Elimination T.m_Elimination__integers (ok_Elimination__integers (K := K) T) (hr.mono (by decide)) T.b_Elimination__integers .nil pass0 (pa_cons (pv 4) (pa_cons (pv 5) pa_nil))) pa_nil)))
    (pss_cons (ps_lockL (ps_setLc (i := 7) (own := [(("column" : Str), 8)]) (g := (gName 8)) rfl sc_Elimination___init__.nd rfl rfl (by rfl) (pi_range1 rfl T.n_range (pa_cons (pe_fldK (K := K) rfl (pv 0) rfl) pa_nil)) (blkOk_by (N := ["self", "rows", "constants", "at", "row", "constant", "reduced", "used", "column"]) (sc := defScope s_Elimination___init__) (by decide +kernel)) (fun _ _ _ _ _ => (pg_name (i := 8) sc_Elimination___init__.nd rfl (Or.inl rfl))) (fun _ _ _ _ _ => pts_one (pt_cmpR op_ne (pe_ix (ix_listK (K := K) rfl) (pv 6) (pv 8) (fun _ _ => rfl)) pe_int (nomark _))) (fun _ _ _ _ _ => (pv 8))))
    (pss_one (ps_if (pt_truth (pv 7) (by intro _; rfl))
    (pss_cons (ps_expr (pe_bm PySem.F.plainAttrs_list PySem.F.slot_list_append PySem.F.type_list_append mt_append (pe_fldK (K := K) rfl (pv 0) rfl) (pa_cons (pv 3) pa_nil)))
    (pss_cons (ps_expr (pe_bm PySem.F.plainAttrs_list PySem.F.slot_list_append PySem.F.type_list_append mt_append (pe_fldK (K := K) rfl (pv 0) rfl) (pa_cons (pv 6) pa_nil)))
    (pss_one (ps_expr (pe_bm PySem.F.plainAttrs_list PySem.F.slot_list_append PySem.F.type_list_append mt_append (pe_fldK (K := K) rfl (pv 0) rfl) (pa_cons (pe_ix (ix_listK (K := K) rfl) (pv 7) pe_int (fun _ _ => rfl)) pa_nil))))))
    (pss_one (ps_if (PW.pt (pw_and (pt_cmpR op_ne (pe_ix (ix_listK (K := K) rfl) (pv 6) (pe_fldK (K := K) rfl (pv 0) rfl) (fun _ _ => rfl)) pe_int (nomark _)) (pw_and1 (pt_cmpR op_isN (pe_fldK (K := K) rfl (pv 0) rfl) pe_non (nomark _)))))
    (pss_one (ps_fldK (K := K) rfl (pv 0) (pv 3) rfl))
    pss_nil))))))))))))))), ?_⟩
    have S0 : Sm ⟨K, E, fun _ _ => False⟩ (fmI (hide1 H x) F H x) F H (L2.start ["self", "rows", "constants", "at", "row", "constant", "reduced", "used", "column"] [.ref x, v1, v2]) [.v (.adr x), .v (ratsD false false m), .v (ratL false cs), .un, .un, .un, .un, .un, .un] :=
      Sm.startI le hx fx rfl rfl fun i d h => by
        match i, h with
        | 0, h => cases h; exact ⟨_, rfl, by simp only [Rz]⟩
        | 1, h => cases h; exact ⟨_, rfl, r1⟩
        | 2, h => cases h; exact ⟨_, rfl, r2⟩
        | 3, h => cases h
        | 4, h => cases h
        | 5, h => cases h
        | 6, h => cases h
        | 7, h => cases h
        | 8, h => cases h
    refine fld_step (d0 := .int (n : Int)) S0 hide1_at hx rfl rfl T.cls_Elimination T.na_Elimination_columns (by decide) ?_ (fun F1 H1 u1 s1 g1 z1 S1 hx1 q1 => ?_)
    · refine ze_ifE ?_
      refine Tr.zt_truM rfl rfl (.inl rfl) ?_
      cases m with
      | nil =>
        refine zF (by simp) ?_
        walk_at "zz"
        exact ⟨by rw [ok.none_ rfl]; rfl, rfl⟩
      | cons r m =>
        refine zT (by simp) ?_
        walk_at "zz"
        refine ⟨_, _, _, _, _, rfl, .inl rfl, rfl, atI_k (k := 0) rfl, ?_⟩
        refine ⟨_, .lst _ _, ?_⟩
        walk_at "zz"
        refine ⟨?_, rfl⟩
        rw [List.length_map, ok.wide r (by simp)]
    dsimp only
    refine fld_step (d0 := .int (S : Int)) S1 hide1_at hx1 rfl rfl T.cls_Elimination T.na_Elimination_scale (Nat.le_of_ble_eq_true rfl) ?_ (fun F2 H2 u2 s2 g2 z2 S2 hx2 q2 => ?_)
    · obtain ⟨D, hD, hD2, hd⟩ := ok.cden
      walk_at "zz"
      refine ⟨D, cs, by show [(ratL false cs).old] = _; rw [ratL_old], hD, hD2, hd, ?_⟩
      exact ⟨by rw [ok.bot], rfl⟩
    dsimp only
    obtain rfl : u1 = .int (n : Int) := by simpa only [Rz] using q1
    obtain rfl : u2 = .int (S : Int) := by simpa only [Rz] using q2
    have old2 : ∀ a, a ≠ x → ∀ o, H a = some o → H2 a = some o := fun a nn o q => g2 a nn _ (g1 a nn _ q)
    have fz2 : ∀ a ob u, H2 a = some (.frz ob u) → H a = some (.frz ob u) := fun a ob u q => z1 _ _ _ (z2 _ _ _ q)
    have le2 := S2.le
    have fx2 : F2 x = none := (S2.hid x rfl).1
    have nw2 : Nw F (hide1 H x) F2 := S2.fr
    have r1' := rz_mono (s1.trans s2) _ _ r1
    have r2' := rz_mono (s1.trans s2) _ _ r2
    have s12 := s1.trans s2
    clear S0 S1 S2 q1 q2 g1 g2 z1 z2 hx1 r1 r2
    have nx : ∀ {a : Addr}, H2 a = none → a ≠ x := fun {a} q c => by rw [c, hx2] at q; cases q
    refine ⟨Nat.zero_le _, fun a1 e1 => ⟨_, rfl, x, _, dx, _, rfl, by rw [upd_ne (nx e1).symm]; exact hx2, T.cls_Elimination, T.na_Elimination_basis, Nat.le_of_ble_eq_true rfl, ?_⟩⟩
    dsimp only
    refine ⟨Nat.zero_le _, fun a2 e2 => ?_⟩
    obtain ⟨b21, b22⟩ := none_upd e2
    obtain ⟨b23, b24⟩ := none_upd b22
    refine ⟨_, rfl, x, _, dx, _, rfl, by rw [upd_ne b21.symm, upd_same], T.cls_Elimination, T.na_Elimination_rows, Nat.le_of_ble_eq_true rfl, ?_⟩
    dsimp only
    refine ⟨Nat.zero_le _, fun a3 e3 => ?_⟩
    obtain ⟨b31, b32⟩ := none_upd e3
    obtain ⟨b33, b34⟩ := none_upd b32
    obtain ⟨_, b35⟩ := none_upd b34
    obtain ⟨b36, b37⟩ := none_upd b35
    refine ⟨_, rfl, x, _, dx, _, rfl, by rw [upd_ne b31.symm, upd_same], T.cls_Elimination, T.na_Elimination_leads, Nat.le_of_ble_eq_true rfl, ?_⟩
    dsimp only
    refine ⟨_, rfl, x, _, dx, _, rfl, upd_same, T.cls_Elimination, T.na_Elimination_wrong, Nat.le_of_ble_eq_true rfl, ?_⟩
    have c1 := nx e1
    have h0 : ∀ {a : Addr}, a ≠ x → H2 a = none → H a = none := fun {a} h1 h2 => by
      cases c : H a with
      | none => rfl
      | some o => rw [old2 a h1 o c] at h2; cases h2
    generalize hH : upd (upd _ x _) x _ = H6
    have fix : Fix K H H6 x dx a1 a2 a3 n S ⟨[], [], [], none⟩ [] := by
      subst hH
      refine ⟨?_, ?_, ?_, ?_, ⟨c1, b21, b31⟩, ⟨b23.symm, b36.symm, b33.symm⟩, ⟨?_, ?_, ?_⟩, fun a h o q => ?_, fun a ob u q => ?_⟩
      · rw [upd_same]; rfl
      · rw [upd_ne c1, upd_ne c1, upd_ne b36.symm, upd_ne c1, upd_ne b23.symm, upd_ne c1, upd_same]; rfl
      · rw [upd_ne b21, upd_ne b21, upd_ne b33.symm, upd_ne b21, upd_same]
      · rw [upd_ne b31, upd_ne b31, upd_same]; rfl
      · exact h0 c1 e1
      · exact h0 b21 b24
      · exact h0 b31 b37
      · have q2 := old2 a h o q
        have n1 : a ≠ a1 := fun c => by rw [c, e1] at q2; cases q2
        have n2 : a ≠ a2 := fun c => by rw [c, b24] at q2; cases q2
        have n3 : a ≠ a3 := fun c => by rw [c, b37] at q2; cases q2
        rw [upd_ne h, upd_ne h, upd_ne n3, upd_ne h, upd_ne n2, upd_ne h, upd_ne n1]
        exact q2
      · by_cases h : a = x
        · rw [h, upd_same] at q; cases q
        · rw [upd_ne h, upd_ne h] at q
          by_cases n3 : a = a3
          · rw [n3, upd_same] at q; cases q
          · rw [upd_ne n3, upd_ne h] at q
            by_cases n2 : a = a2
            · rw [n2, upd_same] at q; cases q
            · rw [upd_ne n2, upd_ne h] at q
              by_cases n1 : a = a1
              · rw [n1, upd_same] at q; cases q
              · rw [upd_ne n1] at q
                exact fz2 a ob u q
    have frz : Frz K H F F2 H6 x a1 a2 a3 ⟨[], [], [], none⟩ [] := by
      subst hH
      exact ⟨(((((((le2.put (le2.free e1)).put fx2).put (le2.free b24)).put fx2).put (le2.free b37)).put fx2).put fx2), fx2, le2.free e1, le2.free b24, le2.free b37, s12, nw2, .nil⟩
    clear hH hx2 e1 e2 e3 b21 b22 b23 b24 b31 b32 b33 b34 b35 b36 b37 c1 nx h0
    have hx0 : H x ≠ none := by rw [hx]; exact fun c => nomatch c
    have SI : Sm ⟨K, E, fun _ _ => False⟩ (fmE F2 H6) F2 H6 (L2.start ["self", "rows", "constants", "at", "row", "constant", "reduced", "used", "column"] [.ref x, v1, v2]) [.un, .v (ratsD false false m), .v (ratL false cs), .un, .un, .un, .un, .un, .un] :=
      Sm.full frz.le rfl rfl fun i d h => by
        match i, h with
        | 0, h => cases h
        | 1, h => cases h; exact ⟨_, rfl, by have := rz_old (B' := H6) _ _ r1'; rw [ratsD_old] at this; exact this⟩
        | 2, h => cases h; exact ⟨_, rfl, by have := rz_old (B' := H6) _ _ r2'; rw [ratL_old] at this; exact this⟩
        | 3, h => cases h
        | 4, h => cases h
        | 5, h => cases h
        | 6, h => cases h
        | 7, h => cases h
        | 8, h => cases h
    dsimp only
    refine for_enum (d0 := .lst true (zip2 (m.map (ratL false)) (cs.map ratE))) (fr0 := true) SI ?_ fun F' H' v sF sH le' nw' fz' rv => ?_
    · refine ze_listZip rfl ?_
      walk_at "zz"
      exact ⟨_, _, _, _, rfl, by rw [List.length_map, List.length_map, ok.len], rfl, rfl⟩
    rw [if_pos rfl] at rv
    obtain ⟨l, rfl, hl, fl, ho, hl', hor⟩ := rv
    cases hor with
    | @lst us _ rus =>
    have fix' := fix.go sH fz'
    obtain ⟨apl, nwl⟩ := fix.apart hl
    obtain ⟨frz', sL⟩ := (frz.next fix hx0 sF sH le' nw').put fl hl' nwl apl
    have hul : us.length = m.length := by
      rw [rus.len]
      unfold zip2
      rw [List.length_zipWith, List.length_map, List.length_map, ok.len]
      omega
    clear fix frz SI sF sH le' nw' fz' hl le2 fx2 nw2 old2 fz2 r1' r2'
    refine ⟨l, us, fun i σ Hi => ∃ (F3 : Hp) (rs : List V) (o1 o2 o3 o4 o5 o6 o7 o8 : Option V), σ = [some (.ref x), o1, o2, o3, o4, o5, o6, o7, o8] ∧ Fix K H Hi x dx a1 a2 a3 n S (elimN n S m cs i) rs ∧ Frz K H F F3 Hi x a1 a2 a3 (elimN n S m cs i) rs ∧ Same (upd F' l (.lst us)) F3, rfl, SqL.of hl', ?_, ?_, ?_, ?_⟩
    · exact ⟨_, [], _, _, _, _, _, _, _, _, rfl, fix', frz', Same.refl _⟩
    · rintro i σ Hi hi ⟨F3, rs, o1, o2, o3, o4, o5, o6, o7, o8, rfl, fi, fr, sa⟩
      exact SqL.of (fr.le.exact (sa _ _ upd_same) rfl)
    · rintro i v σ2 H2 H3 hi ⟨F3, rs, o1, o2, o3, o4, o5, o6, o7, o8, rfl, fi, fr, sa⟩ ⟨T', vy, rfl, hT, rfl, huy⟩
      rw [hul] at hi
      have hm := getD_in (d := ([] : List Rat)) hi
      have hc := getD_in (d := (0 : Rat)) (show i < cs.length by rw [ok.len]; exact hi)
      have hE : elimN n S m cs (i + 1) = stepE n S i (elimN n S m cs i) (m.getD i []) (cs.getD i 0) := rfl
      obtain ⟨okr1, okr2⟩ := ok.rows i (Nat.le_of_lt hi)
      have okm := ok.mid i hi
      have okw := ok.wide _ (List.mem_of_getElem? hm)
      have okb := ok.rbits _ (List.mem_of_getElem? hm)
      have okc := ok.cbits _ (List.mem_of_getElem? hc)
      obtain ⟨D, hD, hD2, okd⟩ := ok.rden
      have okd := okd _ (List.mem_of_getElem? hm)
      have few := ok.few
      have osb := ok.sbits
      obtain ⟨dvy, hdv, ryv⟩ := rus.back huy
      have ez : (zip2 (m.map (ratL false)) (cs.map ratE))[i]? = some (.tup [ratL false (m.getD i []), ratE (cs.getD i 0)]) := by
        unfold zip2
        rw [List.getElem?_zipWith, List.getElem?_map, List.getElem?_map, hm, hc]
        rfl
      rw [ez] at hdv
      cases hdv
      simp only [Rz] at ryv
      obtain ⟨t, ys, rfl, et, rys⟩ := ryv
      obtain ⟨vr, q, rfl, rvr, rys⟩ := rys.inv
      obtain ⟨vc, q, rfl, rvc, rys⟩ := rys.inv
      obtain rfl := rys.inv0
      have sF3 := sL.trans sa
      have rvr := rz_old (B' := fun _ => none) _ _ (rz_mono sF3 _ _ rvr)
      have rvc := rz_old (B' := fun _ => none) _ _ (rz_mono sF3 _ _ rvc)
      have et3 := fr.le.exact (sF3 _ _ et) rfl
      rw [ratL_old] at rvr
      have hbl := elimN_basis n S m cs i
      have hrl := okr1.few
      unfold El.bs at hrl
      rw [List.length_zip] at hrl
      generalize m.getD i [] = row at *
      generalize cs.getD i 0 = c at *
      generalize elimN n S m cs i = e at *
      have fi3 := fi.go (same_new (o := HO.tup [.int (i : Nat), .ref t]) hT) (fun a ob u q => by
        by_cases h : a = T'
        · rw [h, upd_same] at q; cases q
        · rw [upd_ne h] at q; exact q)
      have fr3 := fr.go (same_new (o := HO.tup [.int (i : Nat), .ref t]) hT)
      have et4 : upd H2 T' (.tup [.int (i : Nat), .ref t]) t = some (.tup [vr, vc]) := same_new hT _ _ et3
      refine ⟨T', _, rfl, SqT.of upd_same, rfl, _, _, rfl, ?_⟩
      refine ⟨_, _, rfl, ⟨t, _, rfl, SqT.of et4, rfl, _, _, rfl, _, _, rfl, rfl, rfl, ?_⟩⟩
      generalize upd H2 T' (.tup [.int (i : Nat), .ref t]) = H4 at *
      have SS : Sm ⟨K, E0, fun _ _ => False⟩ (fmE (bigF F3 H4 x a1 a2 a3) H4) (bigF F3 H4 x a1 a2 a3) H4 [some (.ref x), o1, o2, some (.int (i : Nat)), some vr, some vc, o6, o7, o8] [.v (elD K false false false n S e.basis e.rows e.leads e.wrong), .un, .un, .un, .v (ratL false row), .v (ratE c), .un, .un, .un] :=
        Sm.full (big_le fr3) rfl rfl fun q d h => by
          match q, h with
          | 0, h => cases h; exact ⟨_, rfl, big_self fi3 fr3⟩
          | 1, h => cases h
          | 2, h => cases h
          | 3, h => cases h
          | 4, h => cases h; exact ⟨_, rfl, by have := rz_old (B' := H4) _ _ (rz_mono (big_same fr3) _ _ rvr); rw [ratL_old] at this; exact this⟩
          | 5, h => cases h; exact ⟨_, rfl, rz_old (B' := H4) _ _ (rz_mono (big_same fr3) _ _ rvc)⟩
          | 6, h => cases h
          | 7, h => cases h
          | 8, h => cases h
      refine r_seq (set_full SS (ze_elred rfl okr1 okm few.2 okw hD hD2 okd okb okc osb) fun F4 H5 v sF sH le4 nw4 fz4 rv => ?_)
      rw [if_pos rfl] at rv
      obtain ⟨l6, rfl, hl6, fl6, ho, hl6', hor⟩ := rv
      cases hor with
      | @lst xs6 _ r6 =>
      obtain rfl := rzl_int r6
      have fi5 := fi3.go sH fz4
      obtain ⟨apl, nwl⟩ := fi3.apart hl6
      obtain ⟨fr5, s5⟩ := (fr3.go sH).put (fr3.le.free hl6) hl6' nwl apl
      have rd6 : ∀ {B : Hp}, Rz K B (upd F3 l6 (.lst ((redE S e row c).map V.int))) (iL false (redE S e row c)) (.ref l6) := fun {B} => by
        unfold iL
        simp only [Rz]
        exact ⟨l6, _, rfl, upd_same, (fun c => nomatch c), int_rzl _⟩
      generalize upd F3 l6 _ = F5 at *
      clear SS sF le4 nw4 fz4 fl6 r6 fi3 fr3
      dsimp only
      have hred : (redE S e row c).length = n + 1 := by
        unfold redE
        rw [stI_len]
        unfold intR
        rw [List.length_append, List.length_map, okw]
        rfl
      generalize hr0 : redE S e row c = red at *
      have SS2 : Sm ⟨K, E0, fun _ _ => False⟩ (fmE (bigF F5 H5 x a1 a2 a3) H5) (bigF F5 H5 x a1 a2 a3) H5 [some (.ref x), o1, o2, some (.int (i : Nat)), some vr, some vc, some (.ref l6), o7, o8] [.v (elD K false false false n S e.basis e.rows e.leads e.wrong), .un, .un, .un, .un, .un, .v (iL false red), .un, .un] :=
        Sm.full (big_le fr5) rfl rfl fun q d h => by
          match q, h with
          | 0, h => cases h; exact ⟨_, rfl, big_self fi5 fr5⟩
          | 1, h => cases h
          | 2, h => cases h
          | 3, h => cases h
          | 4, h => cases h
          | 5, h => cases h
          | 6, h => cases h; exact ⟨_, rfl, rz_mono (big_same fr5) _ _ rd6⟩
          | 7, h => cases h
          | 8, h => cases h
      refine r_seq (setLc_full (d0 := nLst true (usedE n red)) (fr0 := true) SS2 ?_ fun F6 H6' v sF sH le6 nw6 fz6 rv => ?_)
      · refine ze_lcM (List.range n) (fun j => .int (j : Int)) (fun j => if decide (red.getD j 0 ≠ 0) then some (.int (j : Int)) else none) (zi_range1 ?_)
        walk_at "zz"
        refine ⟨_, _, .ins rfl, T.cls_Elimination, T.na_Elimination_columns, ?_⟩
        walk_at "zz"
        refine ⟨by omega, by omega, rfl, trivial, rfl, by rw [List.length_range]; omega, fun j hj => ?_, ?_⟩
        · have hj := List.mem_range.mp hj
          have aj : atI (red.map Dt.int) (j : Int) = some (.int (red.getD j 0)) := atI_D (by omega)
          refine zgw_name (by decide) ?_
          walk_at "zz"
          refine ⟨_, _, _, _, _, rfl, .inl rfl, rfl, aj, ?_⟩
          walk_at "zz"
          generalize red.getD j 0 = y
          by_cases c0 : y = 0
          · refine iteBF (by simp [c0]) ?_
            exact ⟨rfl, by simp [c0]⟩
          · refine iteBT (by simp [c0]) ?_
            walk_at "zz"
            exact ⟨rfl, by simp [c0]⟩
        · rw [map_if (fun j : Nat => Dt.int (j : Int)) (fun j => decide (red.getD j 0 ≠ 0)) (List.range n)]
          exact ⟨rfl, rfl⟩
      rw [if_pos rfl] at rv
      obtain ⟨l7, rfl, hl7, fl7, ho, hl7', hor⟩ := rv
      cases hor with
      | @lst xs7 _ r7 =>
      obtain rfl := rzl_nat r7
      have fi7 := fi5.go sH fz6
      obtain ⟨apl7, nwl7⟩ := fi5.apart hl7
      obtain ⟨fr7, s7⟩ := (fr5.go sH).put (fr5.le.free hl7) hl7' nwl7 apl7
      have rd7 : ∀ {B : Hp}, Rz K B (upd F5 l7 (.lst (nV (usedE n red)))) (nLst false (usedE n red)) (.ref l7) := fun {B} => by
        unfold nLst
        simp only [Rz]
        exact ⟨l7, _, rfl, upd_same, (fun c => nomatch c), nats_rzl2 _⟩
      have rd6 := fun {B : Hp} => rz_mono s7 _ _ (rd6 (B := B))
      have fl7' : upd F5 l7 (.lst (nV (usedE n red))) l7 = some (.lst (nV (usedE n red))) := upd_same
      have s57 := (sa.trans s5).trans s7
      generalize upd F5 l7 _ = F7 at *
      clear SS2 sF le6 nw6 fz6 fl7 r7 fi5 fr5 s5 s7
      dsimp only
      have SS3 : Sm ⟨K, E0, fun _ _ => False⟩ (fmE (bigF F7 H6' x a1 a2 a3) H6') (bigF F7 H6' x a1 a2 a3) H6' [some (.ref x), o1, o2, some (.int (i : Nat)), some vr, some vc, some (.ref l6), some (.ref l7), o8] [.v (elD K false false false n S e.basis e.rows e.leads e.wrong), .un, .un, .un, .un, .un, .v (iL false red), .v (nLst false (usedE n red)), .un] :=
        Sm.full (big_le fr7) rfl rfl fun q d h => by
          match q, h with
          | 0, h => cases h; exact ⟨_, rfl, big_self fi7 fr7⟩
          | 1, h => cases h
          | 2, h => cases h
          | 3, h => cases h
          | 4, h => cases h
          | 5, h => cases h
          | 6, h => cases h; exact ⟨_, rfl, rz_mono (big_same fr7) _ _ rd6⟩
          | 7, h => cases h; exact ⟨_, rfl, rz_mono (big_same fr7) _ _ rd7⟩
          | 8, h => cases h
      refine if_full (b0 := !(usedE n red).isEmpty) SS3 ?_ fun F8 H8 sF sH le8 fz8 => ?_
      · refine Tr.zt_truM rfl rfl (.inl rfl) ?_
        rw [List.isEmpty_map]
      have fi8 := fi7.go sH fz8
      have fr8 := fr7.go sH
      have hl8 : H8 l7 = some (.lst (nV (usedE n red))) := sH _ _ hl7'
      clear SS3 fi7 fr7 sF le8 fz8
      cases hu : usedE n red with
      | cons q us' =>
        rw [hu] at hl8 rd7 fl7'
        refine iteT ?_
        have hst : stepE n S i e row c = ⟨e.basis ++ [i], e.rows ++ [red], e.leads ++ [q], e.wrong⟩ := by
          unfold stepE
          rw [hr0, hu]
        have lrs := fr8.rows.len
        rw [List.length_map] at lrs
        obtain ⟨m1, m2, m3⟩ := fi8.ne
        obtain ⟨n1, n2, n3⟩ := fi8.nx
        refine r_seq (app_fld (a := a1) rfl fi8.hx T.cls_Elimination T.na_Elimination_basis rfl fi8.h1 (by unfold nV; rw [List.length_map]; omega) (fun Q q => ⟨_, rfl, q⟩) ?_)
        dsimp only
        refine r_seq (app_fld (a := a2) rfl (by rw [upd_ne n1.symm]; exact fi8.hx) T.cls_Elimination T.na_Elimination_rows rfl (by rw [upd_ne m1.symm]; exact fi8.h2) (by omega) (fun Q q => ⟨_, rfl, q⟩) ?_)
        dsimp only
        have a7 : ∀ {a : Addr} {xs : List V}, H8 a = some (.lst xs) → True := fun _ => trivial
        obtain ⟨w0, w1, w2, w3⟩ := apl7
        refine app_fld (a := a3) rfl (by rw [upd_ne n2.symm, upd_ne n1.symm]; exact fi8.hx) T.cls_Elimination T.na_Elimination_leads rfl (by rw [upd_ne m3.symm, upd_ne m2.symm]; exact fi8.h3) (by unfold nV; rw [List.length_map]; omega) (fun Q qq => ⟨_, rfl, l7, nV (q :: us'), 0, _, rfl, rfl, SqL.of (by rw [upd_ne w2, upd_ne w1]; exact hl8), atI_k (k := 0) rfl, qq⟩) ?_
        refine ⟨F7, rs ++ [.ref l6], _, _, _, _, _, _, _, _, rfl, ?_, ?_, s57⟩
        · rw [hE, hst]
          exact fi8.app (.ref l6) red i q
        · rw [hE, hst]
          exact fr8.app i q rd6
      | nil =>
        refine iteF ?_
        have SS4 : Sm ⟨K, E0, fun _ _ => False⟩ (fmE (bigF F7 H8 x a1 a2 a3) H8) (bigF F7 H8 x a1 a2 a3) H8 [some (.ref x), o1, o2, some (.int (i : Nat)), some vr, some vc, some (.ref l6), some (.ref l7), o8] [.v (elD K false false false n S e.basis e.rows e.leads e.wrong), .un, .un, .un, .un, .un, .v (iL false red), .un, .un] :=
          Sm.full (big_le fr8) rfl rfl fun q d h => by
            match q, h with
            | 0, h => cases h; exact ⟨_, rfl, big_self fi8 fr8⟩
            | 1, h => cases h
            | 2, h => cases h
            | 3, h => cases h
            | 4, h => cases h
            | 5, h => cases h
            | 6, h => cases h; exact ⟨_, rfl, rz_mono (big_same fr8) _ _ rd6⟩
            | 7, h => cases h
            | 8, h => cases h
        have an : atI (red.map Dt.int) (n : Int) = some (.int (red.getD n 0)) := atI_D (by omega)
        refine if_full (b0 := decide (red.getD n 0 ≠ 0 ∧ e.wrong = none)) SS4 ?_ fun F9 H9 sF sH le9 fz9 => ?_
        · walk_at "zz"
          refine ⟨_, _, .ins rfl, T.cls_Elimination, T.na_Elimination_columns, ?_⟩
          walk_at "zz"
          refine ⟨_, _, _, _, _, rfl, .inl rfl, rfl, an, ?_⟩
          walk_at "zz"
          generalize red.getD n 0 = y
          by_cases c0 : y = 0
          · refine iteBF (by simp [c0]) ?_
            simp [c0]
          · refine iteBT (by simp [c0]) ?_
            walk_at "zz"
            refine ze_isN ?_
            walk_at "zz"
            refine ⟨_, _, .ins rfl, T.cls_Elimination, T.na_Elimination_wrong, ?_⟩
            cases hw : e.wrong with
            | none => exact ⟨true, .non, _, rfl, by simp [c0]⟩
            | some w => exact ⟨false, .int _, _, rfl, by simp⟩
        have fi9 := fi8.go sH fz9
        have fr9 := fr8.go sH
        by_cases hc9 : red.getD n 0 ≠ 0 ∧ e.wrong = none
        · refine iteBT (decide_eq_true hc9) ?_
          have hst : stepE n S i e row c = { e with wrong := some i } := by
            unfold stepE
            rw [hr0, hu]
            exact if_pos hc9
          refine r_sfld ⟨_, rfl, _, rfl, x, _, dx, _, rfl, fi9.hx, T.cls_Elimination, T.na_Elimination_wrong, Nat.le_of_ble_eq_true rfl, ?_⟩
          refine ⟨F7, rs, _, _, _, _, _, _, _, _, rfl, ?_, ?_, s57⟩
          · rw [hE, hst]
            exact fi9.wr i
          · rw [hE, hst]
            exact fr9.wr i
        · refine iteBF (decide_eq_false hc9) ?_
          have hst : stepE n S i e row c = e := by
            unfold stepE
            rw [hr0, hu]
            exact if_neg hc9
          refine r_next ⟨F7, rs, _, _, _, _, _, _, _, _, rfl, ?_, ?_, s57⟩
          · rw [hE, hst]
            exact fi9
          · rw [hE, hst]
            exact fr9
    · rintro σ Hi ⟨F3, rs, o1, o2, o3, o4, o5, o6, o7, o8, rfl, fi, fr, sa⟩
      rw [hul] at fi fr
      obtain ⟨m1, m2, m3⟩ := fi.ne
      obtain ⟨n1, n2, n3⟩ := fi.nx
      have hn : ∀ {a : Addr}, a ≠ x → H a = none → hide1 H x a = none := fun {a} h1 h2 => by rw [hide1_ne h1]; exact h2
      have q2 : upd F3 a1 (.lst (nV (elimN n S m cs m.length).basis)) a2 = none := by rw [upd_ne m1.symm]; exact fr.f2
      have q3 : upd (upd F3 a1 (.lst (nV (elimN n S m cs m.length).basis))) a2 (.lst rs) a3 = none := by rw [upd_ne m3.symm, upd_ne m2.symm]; exact fr.f3
      refine k (upd (upd (upd F3 a1 (.lst (nV (elimN n S m cs m.length).basis))) a2 (.lst rs)) a3 (.lst (nV (elimN n S m cs m.length).leads))) Hi _ ?_ fi.old fi.fz ?_ ?_ ?_ fi.hx rfl ?_
      · exact fr.up.trans ((same_new fr.f1).trans ((same_new q2).trans (same_new q3)))
      · exact ((fr.le.frz fi.h1).frz fi.h2).frz fi.h3
      · intro a o q
        by_cases c3 : a = a3
        · rw [c3]; exact .inr (.inl (hn n3 fi.new.2.2))
        · rw [upd_ne c3] at q
          by_cases c2 : a = a2
          · rw [c2]; exact .inr (.inl (hn n2 fi.new.2.1))
          · rw [upd_ne c2] at q
            by_cases c1 : a = a1
            · rw [c1]; exact .inr (.inl (hn n1 fi.new.1))
            · rw [upd_ne c1] at q
              exact fr.nw a o q
      · rw [upd_ne n3.symm, upd_ne n2.symm, upd_ne n1.symm]; exact fr.fx
      · have r0 := rzl_mono ((same_new (o := HO.lst (nV (elimN n S m cs m.length).basis)) fr.f1).trans ((same_new (o := HO.lst rs) q2).trans (same_new (o := HO.lst (nV (elimN n S m cs m.length).leads)) q3))) _ _ fr.rows
        refine .cons (by simp only [Rz]) (.cons (by simp only [Rz]) (.cons ?_ (.cons ?_ (.cons ?_ (.cons ?_ .nil)))))
        · unfold nLst
          simp only [Rz]
          exact ⟨a1, _, rfl, by rw [upd_ne m2, upd_ne m1, upd_same], (fun _ => hn n1 fi.new.1), nats_rzl2 _⟩
        · simp only [Rz]
          exact ⟨a2, _, rfl, by rw [upd_ne m3, upd_same], (fun _ => hn n2 fi.new.2.1), r0⟩
        · unfold nLst
          simp only [Rz]
          exact ⟨a3, _, rfl, upd_same, (fun _ => hn n3 fi.new.2.2), nats_rzl2 _⟩
        · show Rz _ _ _ (wrD _) (wrV _)
          unfold wrD wrV
          cases (elimN n S m cs m.length).wrong <;> simp only [Rz]
end
end Lq
/-! ### errors out of a list comprehension -/
section
variable {M : Model} {A : Around} {E₁ : Value → Shared → Prop} {sh : Shared} {Z : Obj → Prop} {bs : Heap} {ev : Env} {out : List Env} {L ea : Addr}
theorem note_env {x : Value} {ev ev' : Env} (h : ev.frame = ev'.frame) : noteFrame x ev = noteFrame x ev' := by
  unfold noteFrame PySem.frameOf
  rw [h]
/-- whatever its flight: noted here -/
theorem note_any {fl : Value} {Q : Unit → Shared → Prop} (hZ : HandSPX.Steady Z) (hA : A.frames = some (ev :: out)) (hf : ev.frame = some L) (k1 : bs.StaysIn sh.heap) (k2 : bs.get? ea = none) (k3 : sh.heap.FunFrames bs (ev :: out)) (k4 : HandSPX.TracedZ sh.heap bs ea Z fl)
    (hQ : ∀ h', HandSPX.HeldZ bs (ev :: out) ea Z L h' → sh.heap.UpToSlots h' → Q () { sh with heap := h' }) : wpAny M A (noteFrame (.ref ea) ev) Q E₁ sh := by
  by_cases c : (fl == rawInt L) = true
  · have c : fl = rawInt L := by simpa using c
    subst c
    exact HandSPX.againZ hf k4 (hQ sh.heap ⟨k1, k2, k3, k4⟩ (Heap.UpToSlots.refl _))
  obtain ⟨xo, ws, TB, to, us, g1, g2, g3, g4, g5, g6, g7, g8, g9⟩ := k4
  unfold noteFrame
  simp only [hf]
  refine wpAny_bind (wpAny_field g1 g3 g4 ?_)
  rw [if_pos (show (Value.ref TB != Value.none) = true from by simp)]
  refine wpAny_bind (wpAny_field g7 g8 g9 ?_)
  rw [if_neg c]
  refine wpAny_bind (wpAny_setField g7 g8 (Array.getElem?_eq_some_iff.mp g9).1 ?_)
  have oth : ∀ b, b ≠ TB → (sh.heap.update TB (Obj.mapFields (·.setIfInBounds 3 Value.none))).get? b = sh.heap.get? b := fun b n => Heap.get?_update_other _ _ (Ne.symm n)
  have nor : ∀ b o, sh.heap.get? b = some o → (∀ v, o.data ≠ .fields v) → b ≠ TB := fun b o q n z => by
    rw [z, g7] at q
    cases q
    exact n us g8
  refine HandSPX.wpAny_entryZ hZ hA (k3.of_keeps fun b o q n => ⟨o, (oth b (nor b o q n)).trans q, rfl⟩) hf ((oth ea (Ne.symm g6)).trans g1) (fun b o q => (oth b fun z => by rw [z, g5] at q; cases q).trans (k1 b o q)) k2 g3 (Array.getElem?_eq_some_iff.mp g4).1 g2 fun h' hN => ?_
  obtain ⟨n1, n2, n3, n4⟩ := hN
  exact hQ h' ⟨n1, k2, n2, n3⟩ fun b o q n => n4 b o ((oth b (nor b o q n)).trans q) n
theorem sky_note {L' : Addr} {Q : Unit → Shared → Prop} (hZ : HandSPX.Steady Z) (hA : A.frames = some (ev :: out)) (hf : ev.frame = some L) (x : Sky bs (ev :: out) ea Z L' sh.heap)
    (hQ : ∀ h', HandSPX.HeldZ bs (ev :: out) ea Z L h' → sh.heap.UpToSlots h' → Q () { sh with heap := h' }) : wpAny M A (noteFrame (.ref ea) ev) Q E₁ sh := by
  rcases x with ⟨a1, a2, a3, xo, ws, b1, b2, b3, b4⟩ | ⟨a1, a2, a3, a4⟩ | ⟨a1, a2, a3, a4⟩
  · exact HandSPX.look_newZ hZ hA a3 hf b1 a1 a2 b3 b4 b2 hQ
  · exact note_any hZ hA hf a1 a2 a3 a4 hQ
  · exact note_any hZ hA hf a1 a2 a3 a4 hQ
/-- behind the block: as the library has it, the frame told -/
def cmpPost (M : Model) (A : Around) (E : Value → Shared → Prop) (use : Option (Value → Sem Unit)) (Q : Value → Shared → Prop) (acc : Value) (C : Addr) (fr : Option Addr) (r : Result) (s' : Shared) : Prop :=
  match r with
  | .ok f => compPost M A E use Q acc C (.ok f) s'
  | .error x => ∃ mp, s'.heap.Ns C mp ∧ ∀ g, Heap.SameBut C s'.heap g → ∀ ce : Env, ce.locals = C → ce.frame = fr → wpAny M A (passOn "comprehension.variables-let-go" x ce : Sem Value) (fun _ _ => False) E { s' with heap := g }
theorem cmp_free {env : Env} {E : Value → Shared → Prop} {e : Expr} {scope : Scope} {pos : Pos} {mk fst : Sem Value} {g : Comprehension} {gs : List Comprehension} {cl : List (Str × Addr)} {use : Option (Value → Sem Unit)} {Q : Value → Shared → Prop}
    (h1 : clausesOf e = g :: gs) (h2 : ∀ x, foldedSetIterable g.iter env x = pure x) (h3 : closureFor scope env = pure cl) (hkind : scope.kind = .function) (h4 : ∀ x ∈ scope.names, x.2 = .local → scope.names.lookup x.1 = some .local)
    (h : wpAny M A fst (fun x t1 => wpAny M A (pyIter x) (fun it t2 => wpAny M A mk (fun acc t3 => wpAny M A (newFunctionEnv scope env.globals cl [] env.qual none .none (some env)) (fun ce t4 =>
        ce.frame = env.frame ∧ codeAny M A (.compStart e 0 it acc { ce with scope := relabel scope env }) (cmpPost M A E use Q acc ce.locals env.frame) t4) E t3) E t2) E t1) E sh) :
    wpAny M A (comprehension e scope env pos mk false fst use) Q E sh := by
  unfold comprehension
  rw [h3, h1]
  refine wpAny_bind (wpAny_mono h (fun x t1 q1 => wpAny_bind (wpAny_standAt (wpAny_bind (wpAny_of_eq (h2 x) (wpAny_bind (wpAny_holding (wpAny_mono q1 (fun it t2 q2 => wpAny_standIf (wpAny_bind (wpAny_mono q2 (fun acc t3 q3 => wpAny_bind (wpAny_pure (wpAny_bind (wpAny_mono q3 (fun ce t4 q4 => ?_) fun _ _ z => z)))) fun _ _ z => z))) fun _ _ z => z))))))) fun _ _ z => z)
  dsimp only
  obtain ⟨fr, q4⟩ := q4
  have lk : ∀ x ∈ (scope.names.filter fun x => (x.2 == .local || x.2 == .cell) && x.1 != (".0" : Str)).reverse, x.2 = .local → Env.kindOf { ce with scope := relabel scope env } x.1 = some .local := fun x hx hl => lookup_relabel_local (h4 x (List.mem_filter.mp (List.mem_reverse.mp hx)).1 hl)
  have lk' : ∀ x ∈ (scope.names.filter fun x => (x.2 == .local || x.2 == .cell) && x.1 != (".0" : Str)).reverse.drop 1 ++ (scope.names.filter fun x => (x.2 == .local || x.2 == .cell) && x.1 != (".0" : Str)).reverse.take 1, x.2 = .local → Env.kindOf { ce with scope := relabel scope env } x.1 = some .local := fun x hx hl =>
    (List.mem_append.mp hx).elim (fun z => lk x (List.mem_of_mem_drop z) hl) fun z => lk x (List.mem_of_mem_take z) hl
  refine wpAny_holding (wpAny_bind (wpAny_attempt (wpAny_holding (wpAny_run (codeAny_mono q4 fun r t5 hr => ?_)))))
  cases r with
  | ok f =>
    cases use with
    | none =>
      obtain ⟨mp, hn, hr⟩ := hr
      exact wpAny_bind (wpAny_holding (wpAny_comp_letGo (cenv := { ce with scope := relabel scope env }) hkind _ t5 mp lk hn fun g mp' _ sb => wpAny_pure (hr g sb)))
    | some u =>
      refine wpAny_bind (wpAny_rule (wpAny_bind (wpAny_holding (wpAny_mono hr (fun _ t6 hr => ?_) fun _ _ z => z))))
      obtain ⟨mp, hn, hr⟩ := hr
      exact wpAny_bind (wpAny_comp_letGo (cenv := { ce with scope := relabel scope env }) hkind _ t6 mp lk' hn fun g mp' _ sb => wpAny_pure (hr g sb))
  | error x =>
    obtain ⟨mp, hn, hr⟩ := hr
    exact wpAny_bind (wpAny_holding (wpAny_comp_letGo (cenv := { ce with scope := relabel scope env }) hkind _ t5 mp lk hn fun g mp' _ sb => wpAny_mono (hr g sb _ rfl fr) (fun _ _ f => f.elim) fun _ _ y => y))
theorem funFrames_but {h g base base' : Heap} {C : Addr} (sb : Heap.SameBut C h g) (hb : ∀ b, base.get? b = none → base'.get? b = none) : ∀ {l : List Env}, C ∉ frs l → h.FunFrames base l → g.FunFrames base' l
  | [], _, _ => trivial
  | ev :: l, nc, q => by
    obtain ⟨q1, ⟨F, o, q2, q3, q4, q5⟩, q6⟩ := q
    have nF : F ≠ C := fun z => nc (by rw [← z]; exact List.mem_filterMap.mpr ⟨ev, List.mem_cons_self, q2⟩)
    refine ⟨q1, ⟨F, o, q2, hb _ q3, by rw [sb.2 _ nF]; exact q4, q5⟩, funFrames_but sb hb (fun z => nc ?_) q6⟩
    obtain ⟨e, he, hx⟩ := List.mem_filterMap.mp z
    exact List.mem_filterMap.mpr ⟨e, List.mem_cons_of_mem _ he, hx⟩
theorem hide_one {h : Heap} {C b : Addr} {o : Obj} (q : (PySem.W.hideAll h [C]).get? b = some o) : b ≠ C ∧ h.get? b = some o := by
  refine ⟨fun z => ?_, PySem.W.of_hideAll _ q⟩
  rw [z, PySem.W.hideAll_none [C] List.mem_cons_self] at q
  cases q
theorem hide_get {h : Heap} {C b : Addr} {o : Obj} (n : b ≠ C) (q : h.get? b = some o) : (PySem.W.hideAll h [C]).get? b = some o := PySem.W.hideAll_get _ q (by simpa using n)
theorem hide_free {h : Heap} {C b : Addr} (q : h.get? b = none) : (PySem.W.hideAll h [C]).get? b = none := by
  cases z : (PySem.W.hideAll h [C]).get? b with
  | none => rfl
  | some o => rw [(hide_one z).2] at q; cases q
end
section
variable {X : Cx} {E : XK}
/-- an error in the block: noted, let go, taken by the def -/
theorem blk_err (hs : X.stack = X.env :: X.outer) (hf : X.env.frame = some X.env.locals) (tk : Takes X fun cls d _ H => E cls d H) {pins : List (Addr × Obj)} {σ : L2.St} {H3 : Hp} {s3 : Shared} (I3 : Inv X pins σ H3 s3) {scope : Scope} {ce : Env} {fp : List Addr}
    (cL : ce.locals = s3.heap.objs.size) (cF : ce.frame = X.env.frame) (f3 : ∀ b ∈ fp, FpOk X pins H3 b) {use : Option (Value → Sem Unit)} {Qf : Value → Shared → Prop} {D : Value} {xe : Value → Shared → Prop} {u : Value} {s' : Shared}
    (x : XE ((X.blk s3 H3 scope ce fp).wish xe) (fun cls d _ H => E cls d H) u s') :
    notedBy (model X.prog X.w) X.A ce (fun e s'' => cmpPost (model X.prog X.w) X.A X.xe use Qf D s3.heap.objs.size X.env.frame (.error e) s'') u s' := by
  obtain ⟨a, B, sI, pins', σ', H', cls, d, rfl, I, nb, up, sky, na, os, ag, w⟩ := x
  have hA : X.A.frames = some (X.env :: X.outer) := by rw [I3.ok.frames, hs]
  have sky : Sky B (X.env :: X.outer) a (Zc cls d) ce.locals s'.heap := by rw [← hs]; exact sky
  unfold notedBy
  rw [note_env cF]
  refine sky_note Zc.steady hA hf sky fun h1 hh up1 => ?_
  obtain ⟨mp, hns, _⟩ := I.loc
  have hns : sI.heap.Ns ce.locals mp := hns
  rw [cL] at hns
  obtain ⟨o, es, ep, ho, hd, r1⟩ := hns
  have nC : s3.heap.objs.size ∉ frs X.stack := fun z => by
    obtain ⟨_, oo, e, _⟩ := I3.stack.mem z
    exact absurd (Heap.lt_size e) (Nat.lt_irrefl _)
  have hfree : H' s3.heap.objs.size = none := by
    have q : H' ce.locals = none := I.free
    rw [cL] at q
    exact q
  have hB := nb _ o ho nC
  have h1C := hh.1 _ o hB
  refine ⟨mp, ⟨o, es, ep, h1C, hd, r1⟩, fun g sb c2 hl hfr => ?_⟩
  obtain ⟨k1, k2, k3, oe, vs, TB, oT, ts, t1, t2, t3, t4, t5, t6, t7, t8, t9⟩ := hh
  have nf : ∀ {b : Addr} {ob : Obj} {ws : Array Value}, h1.get? b = some ob → ob.data = .fields ws → b ≠ s3.heap.objs.size := fun q dd z => by
    rw [z, h1C] at q
    cases q
    rw [hd] at dd
    cases dd
  have na' := nf t1 t3
  have nT := nf t7 t8
  have hh' : HandSPX.HeldZ (PySem.W.hideAll B [s3.heap.objs.size]) (X.env :: X.outer) a (Zc cls d) X.env.locals g := by
    refine ⟨fun b ob q => ?_, hide_free k2, funFrames_but sb (fun b q => hide_free q) (by rw [← hs]; exact nC) k3, oe, vs, TB, oT, ts, by rw [sb.2 _ na']; exact t1, t2, t3, t4, hide_free t5, t6, by rw [sb.2 _ nT]; exact t7, t8, t9⟩
    obtain ⟨n, q⟩ := hide_one q
    rw [sb.2 _ n]
    exact k1 b ob q
  obtain ⟨_, _, _, oe2, vs2, TB2, oT2, ts2, v1, v2, v3, v4, v5, v6, v7, v8, v9⟩ := id hh'
  unfold PySem.passOn
  refine wpAny_bind (wpAny_field v1 v3 v4 ?_)
  rw [if_neg (show ¬ ((Value.ref TB2 == Value.none) = true) from by simp)]
  refine wpAny_bind ?_
  rw [hfr, hf]
  refine HandSPX.setFlight_onZ hh' fun h2 hh2 up2 => ?_
  refine wpAny_throw ?_
  refine tk _ _ ⟨a, PySem.W.hideAll B [s3.heap.objs.size], { sI with heap := PySem.W.hideAll sI.heap [s3.heap.objs.size] }, pins, σ, H', cls, d, rfl, ?_, fun b ob q n => ?_, fun b ob q n => ?_, ?_, na, os, ag, w⟩
  · have ne : ∀ {b : Addr} {ob : Obj}, s3.heap.get? b = some ob → b ≠ s3.heap.objs.size := fun q z => absurd (Heap.lt_size q) (by rw [z]; exact Nat.lt_irrefl _)
    have ub : Un (frs X.stack) fp H3 H' s3.heap sI.heap := I.base
    refine I3.call' (ch := fp) I.os ⟨fun b ob q n1 n2 n3 => hide_get (ne q) (ub.keep b ob q n1 n2 n3), fun b ob q n1 n2 n3 => ?_, ub.free, fun b ob q n1 => ?_, ub.tups, ub.frzs, ub.tbls⟩ (fun b ob q => ?_) I.bare fun b hb => ⟨(f3 b hb).2.2.2.1, (f3 b hb).2.1, (f3 b hb).2.2.2.2.1, (f3 b hb).2.2.2.2.2⟩
    · obtain ⟨sl, z⟩ := ub.slot b ob q n1 n2 n3
      exact ⟨sl, hide_get (ne q) z⟩
    · obtain ⟨o', z⟩ := ub.there b ob q n1
      exact ⟨o', hide_get (ne q) z⟩
    · refine (I.hok b ob q).stay (fun c v hc z => hide_get (fun e => ?_) z) (fun _ z => z) fun _ _ z => z
      rw [e] at hc
      rcases hc with hc | hc
      · rw [← hc, hfree] at q; cases q
      · rw [hfree] at hc; cases hc
  · obtain ⟨n1, q⟩ := hide_one q
    exact hide_get n1 (nb b ob q n)
  · obtain ⟨n1, q⟩ := hide_one q
    obtain ⟨sl, q1⟩ := (up.trans up1) b ob q n
    rw [← sb.2 _ n1] at q1
    obtain ⟨sl2, q2⟩ := up2 b _ q1 n
    exact ⟨sl2, q2⟩
  · rw [hs]
    exact .inr (.inr hh2)
end
section
variable {X : Cx} {E : XK}
theorem ok_wish {xe : Value → Shared → Prop} (k : X.Ok) : (X.wish xe).Ok := ⟨k.mod, k.kind, k.glob, k.blt, k.above, k.inj, k.has, k.cab, k.hd, k.frames, k.stk, k.exf, k.bs, k.bsz, k.noex, k.exfs, k.funs, k.frf⟩
theorem inv_wish {xe : Value → Shared → Prop} {pins : List (Addr × Obj)} {σ : L2.St} {H : Hp} {s : Shared} (I : Inv X pins σ H s) : Inv (X.wish xe) pins σ H s := ⟨ok_wish I.ok, I.os, I.bare, I.base, I.loc, I.cell, I.free, I.freeC, I.pin, I.hok, I.len⟩
theorem lc_err (hs : X.stack = X.env :: X.outer) (hf : X.env.frame = some X.env.locals) (tk : Takes X fun cls d _ H => E cls d H) {pins : List (Addr × Obj)} {s : Shared} {σ : L2.St} {H : Hp} {Q : VK} {elt tg iter : Expr} {ifs : List Expr} {scope : Scope} {own : List (Str × Nat)} {pos pos' : Pos} {wi : TI} {g : TG} {tt : TT} {te : TE}
    {use : Option (Value → Sem Unit)} {Qf : Value → Shared → Prop} (hc : X.calm = true) (hN : X.N.Nodup) (I : Inv X pins σ H s) (hi : PI X tg iter wi) (ok : BlkOk X.N X.env.scope scope own)
    (hg : ∀ (s : Shared) (H : Hp) (C : Addr) (cl : List (Str × Addr)) (fp : List Addr) (xe : Value → Shared → Prop), PG ((X.blk s H scope (compEnvC scope cl C X.env) fp).wish xe) tg g)
    (ht : ∀ (s : Shared) (H : Hp) (C : Addr) (cl : List (Str × Addr)) (fp : List Addr) (xe : Value → Shared → Prop), Takes ((X.blk s H scope (compEnvC scope cl C X.env) fp).wish xe) (fun cls d _ H => E cls d H) → PTs ((X.blk s H scope (compEnvC scope cl C X.env) fp).wish xe) ifs tt)
    (he : ∀ (s : Shared) (H : Hp) (C : Addr) (cl : List (Str × Addr)) (fp : List Addr) (xe : Value → Shared → Prop), Takes ((X.blk s H scope (compEnvC scope cl C X.env) fp).wish xe) (fun cls d _ H => E cls d H) → PE ((X.blk s H scope (compEnvC scope cl C X.env) fp).wish xe) elt te)
    (h2 : ∀ x, foldedSetIterable iter X.env x = pure x) (h : tLc wi g tt te (own.map (·.2)) σ H Q)
    (fin : ∀ D C s' mp H', Inv X pins σ H' s' → Q (.ref D) H' → s'.heap.Ns C mp → FpOk X pins H' C → compPost (model X.prog X.w) X.A X.xe use Qf (.ref D) C (.ok .next) s') :
    wpAny (model X.prog X.w) X.A (comprehension (.ListComp elt [⟨tg, iter, ifs, 0⟩] scope pos) scope X.env pos' (newList []) false (eval iter X.env) use) Qf X.xe s := by
  have frees : ∀ y ∈ scope.names, y.2 = .free → ∃ c, X.env.cells.lookup y.1 = some c := fun y hy e => (ok.free y hy e).elim (fun k => I.ok.has _ (.inl k)) fun k => I.ok.has _ (.inr k)
  refine cmp_free (use := use) rfl h2 (closure_ok frees) ok.kind (fun y hy e => by rw [ok.uniq y hy, e]) (thn (hi.run pins s σ H _ I h) fun xv s1 hx => thn hx fun itv s2 q2 => ?_)
  obtain ⟨it, fp, tn, J, H2, e, I2, T, st2, f2, q⟩ := q2
  subst e
  refine wpAny_newObj_type (newEnv_comp ?_) (by show 0 ≤ sizeLine; decide)
  refine ⟨rfl, ?_⟩
  generalize hD : s2.heap.objs.size = D
  have nD : H2 D = none := I2.hok.fresh (Nat.le_of_eq hD)
  obtain ⟨W, ⟨m0, w0⟩, turn⟩ := q D nD
  generalize es3 : ({ s2 with heap := s2.heap.push { cls := .type "list", data := .seq ([] : List Value).toArray } } : Shared) = s3
  have I3 : Inv X pins σ (upd H2 D (.lst [])) s3 := by
    rw [← es3]
    refine I2.laid (t' := s2.toks) (fun b o e => Heap.get?_push_of_some _ e) (Nat.le_of_eq hD) ⟨Nat.zero_le _, [], 0, .nil, ?_⟩
    rw [← hD]
    exact Heap.get?_push_size _ rfl
  have hp3 : s3.heap = s2.heap.push { cls := .type "list", data := .seq ([] : List Value).toArray } := by rw [← es3]
  have lts : ∀ b ∈ fp, b < s2.heap.objs.size := fun b hb => by
    obtain ⟨o, e, _⟩ := T.obj _ _ st2 b hb
    exact Heap.lt_size e
  have f3 : ∀ b ∈ fp, FpOk X pins (upd H2 D (.lst [])) b ∧ b < s3.heap.objs.size := fun b hb => by
    have lt := lts b hb
    refine ⟨⟨?_, (f2 b hb).2⟩, by rw [hp3, Heap.size_push]; exact Nat.lt_succ_of_lt lt⟩
    rw [upd_ne (by rw [← hD]; exact Nat.ne_of_lt lt)]
    exact (f2 b hb).1
  have st3 : tn 0 s3.heap := T.keep _ _ _ st2 fun b _ o e => by rw [hp3]; exact Heap.get?_push_of_some _ e
  have I4 := block_start I3 ok hN f3
  generalize ecl : cellsFrom (s3.heap.objs.size + 1) scope.names (cloFrom X.env.cells scope.names []) = cl at I4
  have pg := hg s3 (upd H2 D (.lst [])) s3.heap.objs.size cl fp
  have pt := ht s3 (upd H2 D (.lst [])) s3.heap.objs.size cl fp
  have pe := he s3 (upd H2 D (.lst [])) s3.heap.objs.size cl fp
  show codeAny _ _ (.compStart (.ListComp elt [⟨tg, iter, ifs, 0⟩] scope pos) 0 (.ref it) (.ref D) (compEnvC scope cl s3.heap.objs.size X.env)) (cmpPost (model X.prog X.w) X.A X.xe use Qf (.ref D) s3.heap.objs.size X.env.frame) { s3 with heap := pushCells (s3.heap.push { cls := .type "dict", data := .dict #[] }) scope.names }
  have nfp : ∀ b ∈ fp, (upd H2 D (.lst [])) b = none := fun b hb => (f3 b hb).1.1
  have cF : (compEnvC scope cl s3.heap.objs.size X.env).frame = X.env.frame := rfl
  have cL : (compEnvC scope cl s3.heap.objs.size X.env).locals = s3.heap.objs.size := rfl
  generalize hce : compEnvC scope cl s3.heap.objs.size X.env = ce at I4 pg pt pe cF cL ⊢
  generalize eH3 : upd H2 D (.lst []) = H3 at I3 I4 pg pt pe w0 nfp f3
  generalize es4 : ({ s3 with heap := pushCells (s3.heap.push { cls := .type "dict", data := .dict #[] }) scope.names } : Shared) = s4 at I4 ⊢
  have st4 : tn 0 s4.heap := T.keep _ _ _ st3 fun b _ o e => by rw [← es4]; exact pushCells_keeps _ _ _ _ (Heap.get?_push_of_some _ e)
  generalize exe : notedBy (model X.prog X.w) X.A ce (fun e s' => cmpPost (model X.prog X.w) X.A X.xe use Qf (.ref D) s3.heap.objs.size X.env.frame (.error e) s') = xe
  have tkb : Takes ((X.blk s3 H3 scope ce fp).wish xe) (fun cls d _ H => E cls d H) := fun u s' x => by
    subst exe
    exact blk_err hs hf tk I3 cL cF (fun b hb => (f3 b hb).1) x
  have pg := pg xe
  have pt := pt xe tkb
  have pe := pe xe tkb
  have I5 : Inv ((X.blk s3 H3 scope ce fp).wish xe) [] (wipe σ (own.map (·.2))) H3 s4 := inv_wish I4
  have stat : ∀ {σ' : L2.St} {H' : Hp} {s' : Shared}, Inv ((X.blk s3 H3 scope ce fp).wish xe) [] σ' H' s' → (∀ b ∈ fp, H' b = none) → ∀ b ∈ fp, FpOk ((X.blk s3 H3 scope ce fp).wish xe) [] H' b := fun {σ' H' s'} I' hn b hb =>
    ⟨hn b hb, (I'.ok.exf b hb).1, I'.ok.exfs b hb, .inl hb, fun x c e => (I'.ok.exf b hb).2 x c e, fun p hp => absurd (show p ∈ ([] : List (Addr × Obj)) ++ [] from hp) (by simp)⟩
  have loop : codeAny (model X.prog X.w) X.A (.compLoop (.ListComp elt [⟨tg, iter, ifs, 0⟩] scope pos) 0 (.ref it) (.ref D) ce) (cmpPost (model X.prog X.w) X.A X.xe use Qf (.ref D) s3.heap.objs.size X.env.frame) s4 := by
    refine compLoop_any (fun n s' => ∃ i H', Inv ((X.blk s3 H3 scope ce fp).wish xe) [] (wipe σ (own.map (·.2))) H' s' ∧ tn i s'.heap ∧ (∀ b ∈ fp, H' b = none) ∧ W i n H') ?_ m0 ⟨0, H3, I5, st4, nfp, w0⟩
    rw [exe]
    rintro n s5 ⟨i, H5, J5, st5, n5, w5⟩
    rcases turn i n H5 w5 with ⟨stop, qq⟩ | ⟨go, Nx, hNx, step⟩
    · refine thn (T.done ((X.blk s3 H3 scope ce fp).wish xe) rfl rfl rfl hc i [] s5 _ H5 xe J5 (stat J5 n5) st5 stop) fun r s6 ⟨hr, I6⟩ => ?_
      subst hr
      have I7 : Inv X pins σ H5 s6 := I3.call' (ch := fp) I6.os I6.base I6.hok I6.bare fun b hb => ⟨(f3 b hb).1.2.2.2.1, (f3 b hb).1.2.1, (f3 b hb).1.2.2.2.2.1, (f3 b hb).1.2.2.2.2.2⟩
      have nC : H5 s3.heap.objs.size = none := by
        have z : H5 ce.locals = none := I6.free
        rw [cL] at z
        exact z
      obtain ⟨mp, hn, _⟩ := I6.loc
      have hn : s6.heap.Ns ce.locals mp := hn
      rw [cL] at hn
      exact fin D s3.heap.objs.size s6 mp H5 I7 qq hn (I3.fpOk (Nat.le_refl _) nC)
    · refine thn (T.item ((X.blk s3 H3 scope ce fp).wish xe) rfl rfl rfl hc i [] s5 _ H5 xe J5 (stat J5 n5) st5 go) fun r s6 ⟨u, hr, h6⟩ => ?_
      subst hr
      refine thn h6 fun _ s7 ⟨x, H7, I7, r7, y7, st7, n7⟩ => ?_
      have I7p := I7.pinned (stat I7 n7) (T.obj _ _ st7)
      refine thn (pg.run _ s7 _ H7 x u _ I7p r7 (step x H7 y7)) fun _ s8 ⟨σ8, H8, I8, hw8, q8⟩ => ?_
      refine thn (pt.run _ s8 σ8 H8 _ I8 q8) fun b s9 ⟨H9, I9, q9⟩ => ?_
      have more : ∀ {s' : Shared} {H' : Hp}, Inv ((X.blk s3 H3 scope ce fp).wish xe) ([] ++ pinsAt fp s7.heap) σ8 H' s' → Nx H' → ∃ mm, mm < n ∧ ∃ i H', Inv ((X.blk s3 H3 scope ce fp).wish xe) [] (wipe σ (own.map (·.2))) H' s' ∧ tn i s'.heap ∧ (∀ b ∈ fp, H' b = none) ∧ W i mm H' := fun {s' H'} J' nx => by
        obtain ⟨mm, hm, w'⟩ := hNx H' nx
        have pn : ∀ b ∈ fp, ∀ o, s7.heap.get? b = some o → s'.heap.get? b = some o ∧ H' b = none := fun b hb o e =>
          let z := J'.pin (b, o) (List.mem_append_right _ (List.mem_append_right _ (mem_pinsAt hb e)))
          ⟨z.1, z.2.1⟩
        have hl : (wipe σ (own.map (·.2))).length = σ8.length := by rw [← hw8, wipe_length]
        refine ⟨mm, hm, i + 1, H', (J'.unpinned (pins := [])).weak hl (fun j v e => ?_), T.keep _ _ _ st7 fun b hb o e => (pn b hb o e).1, fun b hb => ?_, w'⟩
        · rw [← hw8] at e
          exact (wipe_some e).1
        · obtain ⟨o, e, _⟩ := T.obj _ _ st7 b hb
          exact (pn b hb o e).2
      cases b with
      | false =>
        simp only [Bool.false_eq_true, if_false] at q9 ⊢
        exact more I9 q9
      | true =>
        simp only [if_true] at q9 ⊢
        refine thn (pe.run _ s9 σ8 H9 _ I9 q9) fun z s10 ⟨yv, H10, I10, r10, acc, hD10, hz10, nx⟩ => ?_
        exact app_ok (X := (X.blk s3 H3 scope ce fp).wish xe) I10 hD10 hz10 r10 fun s11 I11 => more I11 nx
  refine codeAny_compStart_list loop ?_
  exact T.self X.A 0 _ _ _ st4 loop
end
section
variable {X : Cx} {E : XK} {elt tg iter : Expr} {ifs : List Expr} {scope : Scope} {own : List (Str × Nat)} {pos : Pos} {wi : TI} {g : TG} {tt : TT} {te : TE}
/-- a comprehension whose parts may raise, as a value -/
theorem pe_lcE (hs : X.stack = X.env :: X.outer) (hf : X.env.frame = some X.env.locals) (tk : Takes X fun cls d _ H => E cls d H) (hc : X.calm = true) (hN : X.N.Nodup) (hi : PI X tg iter wi) (ok : BlkOk X.N X.env.scope scope own)
    (hg : ∀ (s : Shared) (H : Hp) (C : Addr) (cl : List (Str × Addr)) (fp : List Addr) (xe : Value → Shared → Prop), PG ((X.blk s H scope (compEnvC scope cl C X.env) fp).wish xe) tg g)
    (ht : ∀ (s : Shared) (H : Hp) (C : Addr) (cl : List (Str × Addr)) (fp : List Addr) (xe : Value → Shared → Prop), Takes ((X.blk s H scope (compEnvC scope cl C X.env) fp).wish xe) (fun cls d _ H => E cls d H) → PTs ((X.blk s H scope (compEnvC scope cl C X.env) fp).wish xe) ifs tt)
    (he : ∀ (s : Shared) (H : Hp) (C : Addr) (cl : List (Str × Addr)) (fp : List Addr) (xe : Value → Shared → Prop), Takes ((X.blk s H scope (compEnvC scope cl C X.env) fp).wish xe) (fun cls d _ H => E cls d H) → PE ((X.blk s H scope (compEnvC scope cl C X.env) fp).wish xe) elt te)
    (h2 : ∀ x, foldedSetIterable iter X.env x = pure x := by intro _; rfl) : PE X (.ListComp elt [⟨tg, iter, ifs, 0⟩] scope pos) (tLc wi g tt te (own.map (·.2))) := by
  refine ⟨fun pins s σ H Q I q => ?_⟩
  rw [eval_ListComp]
  refine lc_err hs hf tk hc hN I hi ok hg ht he h2 q fun D C s' mp H' I' q hn f => ⟨mp, hn, fun g sb => ?_⟩
  obtain ⟨b0, b1, b2, b3, b4, b5⟩ := f
  exact ⟨.ref D, H', I'.turned (t' := s'.toks) (fun b o hb e => (sb.2 b hb).trans e) b0 b1 b3 b4 b5, rfl, q⟩
/-- name = [..], its parts may raise -/
theorem ps_setLcE {i : Nat} {y : Str} {py spos : Pos} (hs : X.stack = X.env :: X.outer) (hf : X.env.frame = some X.env.locals) (tk : Takes X fun cls d _ H => E cls d H) (hc : X.calm = true) (hN : X.N.Nodup) (hy : X.N[i]? = some y) (hyl : X.env.scope.names.lookup y = some .local)
    (hsw : swapsWith (.ListComp elt [⟨tg, iter, ifs, 0⟩] scope pos) (some (.Name y py)) spos.line X.env = pure true) (hi : PI X tg iter wi) (ok : BlkOk X.N X.env.scope scope own)
    (hg : ∀ (s : Shared) (H : Hp) (C : Addr) (cl : List (Str × Addr)) (fp : List Addr) (xe : Value → Shared → Prop), PG ((X.blk s H scope (compEnvC scope cl C X.env) fp).wish xe) tg g)
    (ht : ∀ (s : Shared) (H : Hp) (C : Addr) (cl : List (Str × Addr)) (fp : List Addr) (xe : Value → Shared → Prop), Takes ((X.blk s H scope (compEnvC scope cl C X.env) fp).wish xe) (fun cls d _ H => E cls d H) → PTs ((X.blk s H scope (compEnvC scope cl C X.env) fp).wish xe) ifs tt)
    (he : ∀ (s : Shared) (H : Hp) (C : Addr) (cl : List (Str × Addr)) (fp : List Addr) (xe : Value → Shared → Prop), Takes ((X.blk s H scope (compEnvC scope cl C X.env) fp).wish xe) (fun cls d _ H => E cls d H) → PE ((X.blk s H scope (compEnvC scope cl C X.env) fp).wish xe) elt te)
    (h2 : ∀ x, foldedSetIterable iter X.env x = pure x := by intro _; rfl) : PS X (.Assign [.Name y py] (.ListComp elt [⟨tg, iter, ifs, 0⟩] scope pos) spos) (tAsg (tLc wi g tt te (own.map (·.2))) (gName i)) := by
  refine ⟨fun pins s σ H D I q => ?_⟩
  rw [exec_Assign_Name_used _ _ _ _ hsw]
  refine wpAny_bind (wpAny_standAt (wpAny_bind ?_))
  show wpAny _ X.A (do let _ ← comprehension (.ListComp elt [⟨tg, iter, ifs, 0⟩] scope pos) scope X.env (firstIterPos [⟨tg, iter, ifs, 0⟩] pos) (newList []) false (eval iter X.env) (some (assign (.Name y py) X.env))) _ _ s
  have q : tLc wi g tt te (own.map (·.2)) σ H (fun x H1 => gName i x σ H1 D.nx) := q
  refine wpAny_bind (thn (lc_err (Qf := fun _ s' => SP X pins D .next s') hs hf tk hc hN I hi ok hg ht he h2 q fun N C s' mp H' I' q hn f => ?_) fun _ s' z => wpAny_pure (wpAny_pure z))
  show wpAny _ _ (assign (.Name y py) X.env (.ref N)) _ _ _
  refine wpAny_assign_Name (store_ok2 (v := V.ref N) I' hN hy (.inl hyl) rfl (fun s2 I2 ⟨a, sb, ha⟩ => ?_) (.inr hyl))
  obtain ⟨b0, b1, b2, b3, b4, b5⟩ := f
  have nC : C ≠ a := ha.elim (fun z => by rw [z]; exact b1) fun z e => b4 y a z e.symm
  refine ⟨mp, hn.sameBut sb nC, fun h3 sb3 => ?_⟩
  exact ⟨_, H', I2.turned (t' := s2.toks) (fun b o hb e => (sb3.2 b hb).trans e) b0 b1 b3 b4 b5, q⟩
end
/-! ### max(xs, default=d) of ints -/
section
variable {X : Cx}
def maxL (d : Int) : List Int → Int
  | [] => d
  | y :: ys => ys.foldl max y
def rMaxDef (K : PySem.W.Frag) : List V → List V → Hp → VK → Prop := fun xs zs H Q => ∃ (a : Addr) (ns : List Int) (d : Int), xs = [.ref a] ∧ zs = [.int d] ∧ SqL K H a (ns.map V.int) ∧ Q (.int (maxL d ns)) H
theorem datsV_ints {K : PySem.W.Frag} {H : Hp} : ∀ ns : List Int, DatsV K H (ns.map V.int) (ns.map PyData.int)
  | [] => .nil
  | n :: ns => .cons (.int n) (datsV_ints ns)
theorem maxOf_int : ∀ (ys : List Int) (y : Int), PySem.W.maxOf y ys = ys.foldl max y
  | [], y => rfl
  | x :: ys, y => by
    have ih := maxOf_int ys (max y x)
    unfold PySem.W.maxOf at ih ⊢
    rw [List.foldl_cons, List.foldl_cons, ← ih]
    congr 1
    show (if decide (y < x) = true then x else y) = max y x
    rw [Int.max_def]
    by_cases h : y < x
    · rw [if_pos (by simpa using h), if_pos (Int.le_of_lt h)]
    · rw [if_neg (by simpa using h)]
      split <;> omega
theorem cr_maxDef {K : PySem.W.Frag} (hK : X.K = K) (hc : X.calm = true) (hu : X.A.units + 1 < cLine) : CallRK X (.builtin "max") [Str.ofString "default"] (rMaxDef K) := by
  subst hK
  intro pins s σ H vs zs us ws Q I r rz h
  obtain ⟨a, ns, d, rfl, rfl, hs, q⟩ := h
  obtain ⟨its, rv, hl, hz⟩ := I.list hs
  rw [Vals.ref1 r]
  obtain ⟨w1, rfl, e1⟩ := vals1 rz
  obtain ⟨td, rfl⟩ := e1
  obtain ⟨as, ra⟩ := DatsV.reads I _ _ _ (datsV_ints ns) rv
  have ra2 : ReadsAll s.heap its (ns.map PySem.W.Datum.toD) as := ra
  refine PySem.W.max_list_datum_default (α := Int) (xs := ns) (I.ok.hd hc) hl.isList ⟨as, ra2⟩ (by show X.A.units + 1 + 0 < cLine; omega) (fun e h' tk hk => ?_) fun y ys i v h' tk e hi hv hk => ?_
  · subst e
    exact ⟨.int d, H, I.kept hk, ⟨_, rfl⟩, q⟩
  · subst e
    have hv2 : ∃ t, v = .int (PySem.W.maxOf y ys) t := by
      obtain ⟨bs, hr⟩ := hv
      cases hr
      exact ⟨_, rfl⟩
    obtain ⟨t, rfl⟩ := hv2
    refine ⟨.int (PySem.W.maxOf y ys), H, I.kept hk, ⟨_, rfl⟩, ?_⟩
    rw [maxOf_int]
    exact q
end
/-! ### what an error left locked is open again where it is caught -/
def strip : HO → HO
  | .frz _ u => strip u
  | o => o
theorem strip_not (o : HO) : isFz (strip o) = false := by
  induction o with
  | frz _ u ih => exact ih
  | _ => rfl
theorem objOk_strip {P : Program} {w : World} {H : Hp} {h : Heap} {a : Addr} {o : HO} (x : ObjOk P w H h a o) : ObjOk P w H h a (strip o) := by
  induction o with
  | frz _ u ih => exact ih x.2
  | _ => exact x
def unLk (H0 H : Hp) : Hp := fun a => match H a with
  | some (.frz ob u) => (match H0 a with
    | some (.frz _ _) => some (.frz ob u)
    | _ => some (strip u))
  | o => o
theorem unLk_of {H0 H : Hp} {a : Addr} {o : HO} (h : H a = some o) (n : isFz o = false) : unLk H0 H a = some o := by
  unfold unLk
  rw [h]
  cases o <;> first | rfl | exact nomatch n
theorem unLk_keep {H0 H : Hp} {a : Addr} {o u o0 u0} (h : H a = some (.frz o u)) (h0 : H0 a = some (.frz o0 u0)) : unLk H0 H a = some (.frz o u) := by
  unfold unLk
  rw [h, h0]
theorem unLk_open {H0 H : Hp} {a : Addr} {o u} (h : H a = some (.frz o u)) (h0 : ∀ o0 u0, H0 a ≠ some (.frz o0 u0)) : unLk H0 H a = some (strip u) := by
  unfold unLk
  rw [h]
  cases e : H0 a with
  | none => rfl
  | some x => cases x <;> first | rfl | exact absurd e (h0 _ _)
theorem unLk_none {H0 H : Hp} {a : Addr} (h : H a = none) : unLk H0 H a = none := by
  unfold unLk
  rw [h]
theorem unLk_fz {H0 H : Hp} {a : Addr} {ob u} (q : unLk H0 H a = some (.frz ob u)) : ∃ o1 u1, H a = some (.frz o1 u1) ∧ ∃ o2 u2, H0 a = some (.frz o2 u2) := by
  cases e : H a with
  | none => rw [unLk_none e] at q; cases q
  | some o =>
    by_cases c : isFz o = false
    · rw [unLk_of e c] at q
      cases q
      exact absurd c Bool.noConfusion
    · obtain ⟨o1, u1, rfl⟩ : ∃ ob u, o = .frz ob u := by
        cases o with
        | frz ob u => exact ⟨ob, u, rfl⟩
        | _ => exact absurd rfl c
      by_cases c0 : ∃ o0 u0, H0 a = some (.frz o0 u0)
      · exact ⟨o1, u1, rfl, c0⟩
      · rw [unLk_open e fun o0 u0 z => c0 ⟨o0, u0, z⟩] at q
        have := strip_not u1
        injection q with q
        rw [q] at this
        exact nomatch this
theorem inv_unLk {X : Cx} {pins : List (Addr × Obj)} {σ : L2.St} {H0 H : Hp} {s : Shared} (hz : ∀ b o u, X.H_0 b = some (.frz o u) → H0 b = some (.frz o u)) (I : Inv X pins σ H s) : Inv X pins σ (unLk H0 H) s where
  ok := I.ok
  os := I.os
  bare := I.bare
  base := ⟨I.base.keep, I.base.slot, fun b o q n hx => unLk_none (I.base.free b o q n hx), I.base.there, fun b xs q => unLk_of (I.base.tups b xs q) rfl, fun b o u q => unLk_keep (I.base.frzs b o u q) (hz b o u q), fun b ps q => by
    obtain ⟨more, hm⟩ := I.base.tbls b ps q
    exact ⟨more, unLk_of hm rfl⟩⟩
  loc := I.loc
  cell := I.cell
  free := unLk_none I.free
  freeC := fun x c q => unLk_none (I.freeC x c q)
  pin := fun p hp => by
    obtain ⟨h1, h2, h3⟩ := I.pin p hp
    exact ⟨h1, unLk_none h2, h3⟩
  hok := fun a o q => by
    have mv : ∀ {o' : HO}, ObjOk X.prog X.w H s.heap a o' → ObjOk X.prog X.w (unLk H0 H) s.heap a o' := fun x => x.stay (fun _ _ _ z => z) (fun b z => unLk_of z rfl) fun b xs z => unLk_of z rfl
    cases e : H a with
    | none => rw [unLk_none e] at q; cases q
    | some x =>
      by_cases c : isFz x = false
      · rw [unLk_of e c] at q
        cases q
        exact mv (I.hok a _ e)
      · obtain ⟨ob, u, rfl⟩ : ∃ ob u, x = .frz ob u := by
          cases x with
          | frz ob u => exact ⟨ob, u, rfl⟩
          | _ => exact absurd rfl c
        by_cases c0 : ∃ o0 u0, H0 a = some (.frz o0 u0)
        · obtain ⟨o0, u0, h0⟩ := c0
          rw [unLk_keep e h0] at q
          cases q
          exact mv (I.hok a _ e)
        · rw [unLk_open e fun o0 u0 z => c0 ⟨o0, u0, z⟩] at q
          cases q
          obtain ⟨_, x2⟩ := (show ObjOk X.prog X.w H s.heap a (.frz ob _) from I.hok a _ e)
          exact mv (objOk_strip x2)
  len := I.len
theorem ps_unlk {X : Cx} {body : List Stmt} {t : TS} {H0 : Hp} (hz : ∀ b o u, X.H_0 b = some (.frz o u) → H0 b = some (.frz o u)) (h : PSs X body t) : PSs X body (fun D σ H => t D σ (unLk H0 H)) := ⟨fun pins s σ H D I q => h.run pins s σ _ D (inv_unLk hz I) q⟩
section
variable {X : Cx} {x n : Str} {c : Value} {i : Nat} {body suite : List Stmt} {b₀ : Stmt} {np pos pos' : Pos} {tb : WX → TS} {ts : Addr → Value → Option Addr → TS} {Wout : WX}
def wAsU (K : PySem.W.Frag) (c : Value) (i : Nat) (ts : Addr → Value → Option Addr → TS) (Wout : WX) (H : Hp) (D : Ends) : WX := wAs K c i (fun a cls d D σ H' => ts a cls d D σ (unLk H H')) Wout D
def wOnlyU (K : PySem.W.Frag) (c : Value) (ts : Addr → Value → Option Addr → TS) (Wout : WX) (H : Hp) (D : Ends) : WX := wOnly K c (fun a cls d D σ H' => ts a cls d D σ (unLk H H')) Wout D
theorem ps_tryU (hs : X.stack = X.env :: X.outer) (hf : X.env.frame = some X.env.locals) (hN : X.N.Nodup) (hi : X.N[i]? = some n) (hln : X.env.kindOf n = some .local) (hc : Names X x c) (tk : Takes X Wout)
    (hb : ∀ (W : WX) (pn : List (Addr × Obj)) (xe : Value → Shared → Prop), Takes (X.tr pn xe) W → PassesOwn (model X.prog X.w) X.A X.env xe → PSs (X.tr pn xe) body (tb W))
    (hsu : ∀ (a : Addr) (oe : Obj) (cls : Value) (d : Option Addr) (pn : List (Addr × Obj)), Zc cls d oe → (∃ vs, oe.data = .fields vs) → PSs (X.suite a ((a, oe) :: pn)) (b₀ :: suite) (ts a cls d)) :
    PS X (.Try body [.ExceptHandler (some (.Name x np)) (some n) (b₀ :: suite) pos'] [] [] pos) (fun D σ H => tb (wAsU X.K c i ts Wout H D) D σ H) := ⟨fun pins s σ H D I q =>
  (ps_try_as (ts := fun a cls d D σ H' => ts a cls d D σ (unLk H H')) hs hf hN hi hln hc tk hb fun a oe cls d pn h1 h2 => ps_unlk (H0 := H) (fun b o u z => I.base.frzs b o u z) (hsu a oe cls d pn h1 h2)).run pins s σ H D I q⟩
theorem ps_tryO (hs : X.stack = X.env :: X.outer) (hf : X.env.frame = some X.env.locals) (hc : Names X x c) (tk : Takes X Wout)
    (hb : ∀ (W : WX) (pn : List (Addr × Obj)) (xe : Value → Shared → Prop), Takes (X.tr pn xe) W → PassesOwn (model X.prog X.w) X.A X.env xe → PSs (X.tr pn xe) body (tb W))
    (hsu : ∀ (a : Addr) (oe : Obj) (cls : Value) (d : Option Addr) (pn : List (Addr × Obj)), Zc cls d oe → (∃ vs, oe.data = .fields vs) → PSs (X.suite a ((a, oe) :: pn)) (b₀ :: suite) (ts a cls d)) :
    PS X (.Try body [.ExceptHandler (some (.Name x np)) none (b₀ :: suite) pos'] [] [] pos) (fun D σ H => tb (wOnlyU X.K c ts Wout H D) D σ H) := ⟨fun pins s σ H D I q =>
  (ps_try_only (ts := fun a cls d D σ H' => ts a cls d D σ (unLk H H')) hs hf hc tk hb fun a oe cls d pn h1 h2 => ps_unlk (H0 := H) (fun b o u z => I.base.frzs b o u z) (hsu a oe cls d pn h1 h2)).run pins s σ H D I q⟩
end
/-! ### several except clauses, what an error left locked opened again -/
def wManyU (K : PySem.W.Frag) (l : List (Value × (Addr → Value → Option Addr → TS))) (Wout : WX) (H : Hp) (D : Ends) : WX :=
  wMany K Wout D (l.map fun p => (p.1, fun a cls d D σ H' => p.2 a cls d D σ (unLk H H')))
theorem hds_unlk {X : Cx} {H0 : Hp} (hz : ∀ b o u, X.H_0 b = some (.frz o u) → H0 b = some (.frz o u)) {hds : List ExceptHandler} {l : List (Value × (Addr → Value → Option Addr → TS))} (h : HdsOk X hds l) :
    HdsOk X hds (l.map fun p => (p.1, fun a cls d D σ H' => p.2 a cls d D σ (unLk H0 H'))) := by
  induction h with
  | nil => exact .nil
  | @cons x c ts b₀ suite np pos' hds2 l2 hc hsu r ih => exact .cons hc (fun a oe cls d pn h1 h2 => ps_unlk (H0 := H0) hz (hsu a oe cls d pn h1 h2)) ih
section
variable {X : Cx} {body : List Stmt} {h₀ : ExceptHandler} {hds : List ExceptHandler} {l : List (Value × (Addr → Value → Option Addr → TS))} {pos : Pos} {tb : WX → TS} {Wout : WX}
theorem ps_tryM (hs : X.stack = X.env :: X.outer) (hf : X.env.frame = some X.env.locals) (tk : Takes X Wout)
    (hb : ∀ (W : WX) (pn : List (Addr × Obj)) (xe : Value → Shared → Prop), Takes (X.tr pn xe) W → PassesOwn (model X.prog X.w) X.A X.env xe → PSs (X.tr pn xe) body (tb W))
    (hh : HdsOk X (h₀ :: hds) l) : PS X (.Try body (h₀ :: hds) [] [] pos) (fun D σ H => tb (wManyU X.K l Wout H D) D σ H) := ⟨fun pins s σ H D I q =>
  (ps_try_many hs hf tk hb (hds_unlk (H0 := H) (fun b o u z => I.base.frzs b o u z) hh)).run pins s σ H D I q⟩
end
/-! ### several except clauses that all bear the same name -/
namespace TN
/-- behind a clause its name is gone -/
def gone (i : Nat) (D : Ends) : Ends := ⟨fun σ' H' => D.nx (σ'.set i none) H', D.rt, fun σ' H' => D.bk (σ'.set i none) H', fun σ' H' => D.ct (σ'.set i none) H'⟩
def wishN (K : PySem.W.Frag) (i : Nat) (D : Ends) : List (Value × (Addr → Value → Option Addr → TS)) → WX
  | [] => fun _ _ _ _ => False
  | p :: r => fun cls d σ H => ∃ b : Bool, PySem.W.exmOne K cls p.1 = some b ∧ if b = true then ∀ a, H a = none → p.2 a cls d (gone i D) (σ.set i (some (.ref a))) H else wishN K i D r cls d σ H
/-- each clause is read -/
inductive Named (X : Cx) (n : Str) : List ExceptHandler → List (Value × (Addr → Value → Option Addr → TS)) → Prop
  | nil : Named X n [] []
  | cons {x : Str} {c : Value} {ts : Addr → Value → Option Addr → TS} {st : Stmt} {sts : List Stmt} {q q' : Pos} {hds : List ExceptHandler} {l : List (Value × (Addr → Value → Option Addr → TS))} : Names X x c →
      (∀ (a : Addr) (oe : Obj) (cls : Value) (d : Option Addr) (pn : List (Addr × Obj)), Zc cls d oe → (∃ vs, oe.data = .fields vs) → PSs (X.suite a ((a, oe) :: pn)) (st :: sts) (ts a cls d)) → Named X n hds l →
      Named X n (.ExceptHandler (some (.Name x q)) (some n) (st :: sts) q' :: hds) ((c, ts) :: l)
section
variable {X : Cx} {n : Str} {i : Nat} {body : List Stmt} {h₀ : ExceptHandler} {hds : List ExceptHandler} {l : List (Value × (Addr → Value → Option Addr → TS))} {pos : Pos} {tb : WX → TS}
/-- the error a has landed in g: what is known of it -/
structure Down (X : Cx) (pins : List (Addr × Obj)) (σ : St) (H : Hp) (s' : Shared) (B : Heap) (a : Addr) (cls : Value) (d : Option Addr) (g : Heap) : Prop where
  fly : HandSPX.FlyingZ B (X.env :: X.outer) a (Zc cls d) g
  inv : Inv X pins σ H { s' with heap := g }
  na : H a = none
  nl : a ≠ X.env.locals
  nf : a ∉ X.fs
  more : ∀ g2, HandSPX.FlyingZ B (X.env :: X.outer) a (Zc cls d) g2 → g.UpToSlots g2 → Inv X pins σ H { s' with heap := g2 }
theorem Down.next {X : Cx} {pins : List (Addr × Obj)} {σ : St} {H : Hp} {s' : Shared} {B : Heap} {a : Addr} {cls : Value} {d : Option Addr} {g g2 : Heap} (w : Down X pins σ H s' B a cls d g) (f : HandSPX.FlyingZ B (X.env :: X.outer) a (Zc cls d) g2) (u : g.UpToSlots g2) : Down X pins σ H s' B a cls d g2 :=
  ⟨f, w.more g2 f u, w.na, w.nl, w.nf, fun g3 f3 u3 => w.more g3 f3 (u.trans u3)⟩
theorem by_turns (nd : X.N.Nodup) (at_ : X.N[i]? = some n) (kd : X.env.kindOf n = some .local) {pins : List (Addr × Obj)} {D : Ends} {σ : St} {H : Hp} {s0 : Shared} (ok : Inv X pins σ H s0) {s' : Shared} {B : Heap} {a : Addr} {cls : Value} {d : Option Addr} {g : Heap} (w : Down X pins σ H s' B a cls d g) {hds : List ExceptHandler} {l : List (Value × (Addr → Value → Option Addr → TS))}
    (rh : Named X n hds l) : wishN X.K i D l cls d σ H → wpAny (model X.prog X.w) X.A (handleBy (.ref a) X.env hds) (SP X pins D) X.xe { s' with heap := g } := by
  induction rh with
  | nil => exact fun f => f.elim
  | @cons x c ts st sts q q' hds l nm rd _ ih =>
    rintro ⟨b, eb, hb⟩
    obtain ⟨o, vs, go, zo, fo⟩ := w.fly.there
    have T := w.inv.suite go fo w.na w.nl w.nf
    have looks : PySem.W.Looks (model X.prog X.w) g (typeOf (.ref a)) cls := fun _ _ _ _ k z => wpAny_typeOf_ref (k _ _ go) (by rw [zo.1]; exact z)
    have m := PySem.W.exm_one (M := model X.prog X.w) w.inv.kIn looks eb
    refine wpAny_handleBy_cons (codeAny_handlers_test ?_) (by intro z; cases z)
    have ld : ∀ {Q : Value → Shared → Prop} {E : Value → Shared → Prop}, Q c { s' with heap := g } → wpAny (model X.prog X.w) (X.A.mark (some (.ref a))) (eval (.Name x q) X.env) Q E { s' with heap := g } := fun {Q E} z => by
      obtain ⟨n1, n2, n3⟩ := nm
      rcases n3 with n3 | ⟨n3, n4, n5⟩
      · exact ld_glob (X := X.suite a ((a, o) :: (X.pn ++ pins))) T n1 n3 z n2
      · exact ld_blt (X := X.suite a ((a, o) :: (X.pn ++ pins))) T n1 n3 n4 z n5 n2
    refine ld (m.here ?_)
    cases b with
    | false => exact ih hb
    | true =>
      refine codeAny_handlers_suite_as (HandSPX.lands_againZ w.fly fun g2 f2 u2 => ?_)
      have w2 := w.next f2 u2
      obtain ⟨o2, vs2, go2, zo2, fo2⟩ := f2.there
      have T2 := w2.inv.suite go2 fo2 w.na w.nl w.nf
      refine store_ok (X := X.suite a ((a, o2) :: (X.pn ++ pins))) (v := .ref a) T2 nd at_ (.inl kd) rfl (fun s5 T5 => ?_) (.inr kd)
      refine wpAny_mono ((rd a o2 cls d (X.pn ++ pins) zo2 ⟨_, fo2⟩).run [] s5 _ H _ T5 (hb a w.na)) (fun f s6 r => ?_) (fun _ _ z => z.elim)
      have out : ∀ {σ6 : St} {H6 : Hp} {Q : Shared → Prop}, Inv (X.suite a ((a, o2) :: (X.pn ++ pins))) [] σ6 H6 s6 → (∀ s7, Inv X pins (σ6.set i none) H6 s7 → Q s7) → wpAny (model X.prog X.w) X.A (do bindName X.env n .none; unbindBehindTheSuite X.env n q') (fun _ s7 => Q s7) X.xe s6 :=
        fun {σ6 H6 Q} T6 z => gone_ok (T6.unsuite ok.ok) nd at_ kd z
      cases f with
      | next => obtain ⟨_, _, T6, z⟩ := r; exact out T6 fun _ J => ⟨_, _, J, z⟩
      | brk => obtain ⟨_, _, T6, z⟩ := r; exact out T6 fun _ J => ⟨_, _, J, z⟩
      | cont => obtain ⟨_, _, T6, z⟩ := r; exact out T6 fun _ J => ⟨_, _, J, z⟩
      | ret _ => obtain ⟨_, _, _, T6, y, z⟩ := r; exact out T6 fun _ J => ⟨_, _, _, J, y, z⟩
theorem ps_tryN (stk : X.stack = X.env :: X.outer) (frm : X.env.frame = some X.env.locals) (nd : X.N.Nodup) (at_ : X.N[i]? = some n) (kd : X.env.kindOf n = some .local)
    (rb : ∀ (W : WX) (pn : List (Addr × Obj)) (xe : Value → Shared → Prop), Takes (X.tr pn xe) W → PassesOwn (model X.prog X.w) X.A X.env xe → PSs (X.tr pn xe) body (tb W))
    (rh : Named X n (h₀ :: hds) l) : PS X (.Try body (h₀ :: hds) [] [] pos) (fun D σ H => tb (wishN X.K i D l) D σ H) := by
  refine ⟨fun pins s σ H D I want => wpAny_Try_except ?_⟩
  have ok := I.ok
  have frs_ : X.A.frames = some (X.env :: X.outer) := by rw [ok.frames, stk]
  have caught : Takes (X.tr (X.pn ++ pins) fun e s1 => wpAny (model X.prog X.w) X.A (noteFrame e X.env) (fun _ s2 => wpAny (model X.prog X.w) X.A (setFlight e none) (fun _ s3 => wpAny (model X.prog X.w) X.A (handleBy e X.env (h₀ :: hds)) (SP X pins D) X.xe s3) X.xe s2) X.xe s1) (wishN X.K i D l) := by
    rintro u s' ⟨a, B, sI, _, σ', H', cls, d, rfl, J', nb, up, sky, na, os, ag, wish⟩
    have J : Inv X pins σ' H' sI := J'.ofTry ok
    have sk : Sky B (X.env :: X.outer) a (Zc cls d) X.env.locals s'.heap := by rw [← stk]; exact sky
    refine Sky.land Zc.steady frs_ frm sk fun g f u => ?_
    obtain ⟨o, vs, go, zo, fo⟩ := id f.there
    have away : a ∉ frs (X.env :: X.outer) := fun hm => by
      obtain ⟨_, o1, e1, no⟩ := f.2.2.1.mem hm
      rw [go] at e1
      cases e1
      exact no _ fo
    refine by_turns nd at_ kd J ⟨f, J.landed nb f.1 (up.trans u) os ag, na, fun z => away (List.mem_filterMap.mpr ⟨X.env, List.mem_cons_self, by rw [frm, z]⟩), fun hm => ?_, fun g2 f2 u2 => J.landed nb f2.1 ((up.trans u).trans u2) os ag⟩ rh wish
    obtain ⟨v, hv, z⟩ := List.mem_filterMap.mp hm
    exact away (List.mem_filterMap.mpr ⟨v, List.mem_cons_of_mem _ hv, z⟩)
  refine wpAny_mono ((rb _ _ _ caught PassesOwn.looking).run [] s σ H D (I.toTry _) want) (fun f s1 r => ?_) fun _ _ z => z
  cases f with
  | next => obtain ⟨_, _, J, z⟩ := r; exact wpAny_execs_nil ⟨_, _, J.ofTry ok, z⟩
  | brk => obtain ⟨_, _, J, z⟩ := r; exact ⟨_, _, J.ofTry ok, z⟩
  | cont => obtain ⟨_, _, J, z⟩ := r; exact ⟨_, _, J.ofTry ok, z⟩
  | ret _ => obtain ⟨_, _, _, J, y, z⟩ := r; exact ⟨_, _, _, J.ofTry ok, y, z⟩
end
end TN
/-! ### .. with what an error left locked opened again -/
namespace TN
def wNU (K : PySem.W.Frag) (i : Nat) (l : List (Value × (Addr → Value → Option Addr → TS))) (H : Hp) (D : Ends) : WX :=
  wishN K i D (l.map fun p => (p.1, fun a cls d D σ H' => p.2 a cls d D σ (unLk H H')))
theorem named_unlk {X : Cx} {n : Str} {H0 : Hp} (hz : ∀ b o u, X.H_0 b = some (.frz o u) → H0 b = some (.frz o u)) {hds : List ExceptHandler} {l : List (Value × (Addr → Value → Option Addr → TS))} (h : Named X n hds l) :
    Named X n hds (l.map fun p => (p.1, fun a cls d D σ H' => p.2 a cls d D σ (unLk H0 H'))) := by
  induction h with
  | nil => exact .nil
  | cons nm rd _ ih => exact .cons nm (fun a oe cls d pn h1 h2 => ps_unlk (H0 := H0) hz (rd a oe cls d pn h1 h2)) ih
section
variable {X : Cx} {n : Str} {i : Nat} {body : List Stmt} {h₀ : ExceptHandler} {hds : List ExceptHandler} {l : List (Value × (Addr → Value → Option Addr → TS))} {pos : Pos} {tb : WX → TS}
theorem ps_tryNU (stk : X.stack = X.env :: X.outer) (frm : X.env.frame = some X.env.locals) (nd : X.N.Nodup) (at_ : X.N[i]? = some n) (kd : X.env.kindOf n = some .local)
    (rb : ∀ (W : WX) (pn : List (Addr × Obj)) (xe : Value → Shared → Prop), Takes (X.tr pn xe) W → PassesOwn (model X.prog X.w) X.A X.env xe → PSs (X.tr pn xe) body (tb W))
    (rh : Named X n (h₀ :: hds) l) : PS X (.Try body (h₀ :: hds) [] [] pos) (fun D σ H => tb (wNU X.K i l H D) D σ H) := ⟨fun pins s σ H D I q =>
  (ps_tryN stk frm nd at_ kd rb (named_unlk (H0 := H) (fun b o u z => I.base.frzs b o u z) rh)).run pins s σ H D I q⟩
end
end TN
/-! ### raise, try, max with a default -/
section
variable {z : Cz} {ρ : List Sl} {N : Zn} {t : TS} {ta : TA} {w : Wz} {i : Nat}
theorem zs_raise {C : Addr} (h : z.Eh C []) : ZS z (fun _ _ H => z.Er (.ref C) none H) ρ N := fun m F H σ D S _ _ _ _ => S.er C [] none H h ⟨S.bj.same S.base, rfl⟩
theorem zs_given {p : Prop} (q : p) (h : ZS z t ρ N) : ZS z (fun D σ H => p ∧ t D σ H) ρ N := fun m F H σ D S a b c d => ⟨q, h m F H σ D S a b c d⟩
theorem Sm.unLk {m : Fm} {F F1 H H1 H' : Hp} {σ : L2.St} {ρ1 : List Sl} (S1 : Sm z m F1 H1 σ ρ1) (S : Sm z m F H σ ρ) (le : Le H1 H') : Sm z m F1 (unLk H H') σ ρ1 := by
  have dkf : ∀ {o : HO}, isDk o = true → isFz o = false := fun {o} h => by cases o <;> first | rfl | exact nomatch h
  have same : Same H1 (Lk.unLk H H') := fun a o e => by
    rcases le a o e with q | ⟨q, ob, q2⟩
    · by_cases c : isFz o = false
      · exact unLk_of q c
      · obtain ⟨ob, u, rfl⟩ : ∃ ob u, o = .frz ob u := by
          cases o with
          | frz ob u => exact ⟨ob, u, rfl⟩
          | _ => exact absurd rfl c
        exact unLk_keep q (S.base _ _ (S1.fj _ _ _ e))
    · have so : strip o = o := by cases o <;> first | rfl | exact nomatch q
      refine (unLk_open (H0 := H) q2 fun o0 u0 h0 => ?_).trans (congrArg some so)
      have := S1.base _ _ (S.fj _ _ _ h0)
      rw [e] at this
      cases this
      exact nomatch q
  refine S1.ext (Same.refl F1) same (S1.lk.same same) (Nw.refl F1 H1) fun a ob u q => ?_
  obtain ⟨o1, u1, h1, h0⟩ := unLk_fz q
  obtain ⟨o2, u2, h2⟩ := h0
  have h3 := S1.base _ _ (S.fj _ _ _ h2)
  rcases le a _ h3 with q1 | ⟨q1, _⟩
  · rw [unLk_keep q1 h2] at q
    rw [h3, q]
  · exact nomatch q1
theorem zs_tryRet {K' : PySem.W.Frag} {c : Value} {ts : Addr → Value → Option Addr → TS} {Wout : WX}
    (hK : K' = z.K) (h : ZA z ta ρ fun ds ρ1 => w (Dt.olds ds) N.rt fun C fs => fs = [] ∧ PySem.W.exmOne z.K (.ref C) c = some true ∧
      ∀ a, ZS z (ts a (.ref C) none) (ρ1.set i (.v (.adr a))) ⟨fun ρ' => N.nx (ρ'.set i .un), N.rt, fun ρ' => N.bk (ρ'.set i .un), fun ρ' => N.ct (ρ'.set i .un)⟩) :
    ZS z (fun D σ H => tRet (tCallS (spZ z.K w) (WE (wAsU K' c i ts Wout H D)) ta) D σ H) ρ N := fun m F H σ D S kn kr kb kc => by
  subst hK
  refine h m F H σ _ S fun ds ρ1 F1 H1 vs n1 s1 S1 r1 => ?_
  refine ⟨F1, Dt.olds ds, N.rt, _, S1.le, rzl_old _ _ r1, n1, fun d fr F' H' v nd g => ?_, fun C fs dd H' e er => ?_⟩
  · obtain ⟨S2, r2⟩ := S1.got g
    exact kr _ _ _ _ _ nd (s1.trans g.1) (rt_of S2 r2)
  · obtain ⟨rfl, ex, go⟩ := e
    obtain ⟨le, hd⟩ := er
    cases hd
    refine ⟨true, ex, fun _ a ha => ?_, fun q => Bool.noConfusion q⟩
    have S3 := S1.unLk S le
    exact go a m F1 (unLk H H') _ _ (S3.setv (d := .adr a) (by simp only [Rz])) (fun ρ' F' H'' σ' n s S4 => kn _ _ _ _ n (s1.trans s) S4.setu) (fun d fr F' H'' v n s R => kr _ _ _ _ _ n (s1.trans s) R)
      (fun ρ' F' H'' σ' n s S4 => kb _ _ _ _ n (s1.trans s) S4.setu) fun ρ' F' H'' σ' n s S4 => kc _ _ _ _ n (s1.trans s) S4.setu
end
section
variable {z : Cz} {ρ : List Sl} {N : Dt → Bool → List Sl → Prop} {ta : TE} {i : Nat}
theorem ze_isE {K' : PySem.W.Frag} {D a : Addr} {c : V} {u : Value} {b : Bool} (hK : K' = z.K) (hc : ClsV c u) (h0 : ρ[i]? = some (.v (.adr a))) (hk : PySem.W.kitOne z.K (.ref D) u = some b) (n : N (.bl b) false ρ) : ZE z (tCB (rIsE K' D a) (tCons (tVar i) (tCons (tC c) tNil))) ρ N := fun m F H σ Q S k => by
  subst hK
  obtain ⟨hi, e⟩ := List.getElem?_eq_some_iff.mp h0
  have hi2 : i < σ.length := by rw [S.len]; exact hi
  obtain ⟨v, e1, r⟩ := S.slot i _ _ h0 (List.getElem?_eq_getElem hi2)
  simp only [Rz] at r
  subst r
  exact ⟨_, (List.getElem?_eq_getElem hi2).trans (congrArg some e1), c, u, b, rfl, fun w hw => hc.eq hw, hk, k _ _ _ _ _ _ n (Same.refl F) S (rzF_f rzb)⟩
theorem rzl_intsX {K : PySem.W.Frag} {B F : Hp} : ∀ {bs : List Int} {xs : List V}, Rzl K B F (bs.map Dt.int) xs → xs = bs.map V.int
  | [], _, h => h.inv0
  | b :: bs, _, h => by
    obtain ⟨v, r, rfl, h1, t⟩ := h.inv
    rw [rz_i h1, rzl_intsX t]
    rfl
theorem ze_maxDef {K' : PySem.W.Frag} {d : Int} (hK : K' = z.K) (h : ZE z ta ρ fun x _ ρ1 => ∃ (t : Bool) (ns : List Int), x = .lst t (ns.map Dt.int) ∧ N (.int (maxL d ns)) false ρ1) : ZE z (tCKw (rMaxDef K') (tCons ta tNil) (tCons (tC (.int d)) tNil)) ρ N := fun m F H σ Q S k => by
  subst hK
  refine h m F H σ _ S fun x fx ρ1 F1 H1 vx n1 s1 S1 r1 => ?_
  obtain ⟨F2, s2, S2, rx⟩ := rzF_frz S1 r1
  obtain ⟨t, ns, rfl, n⟩ := n1
  simp only [Rz] at rx
  obtain ⟨a, xs, rfl, e, _, r⟩ := rx
  refine ⟨a, ns, d, rfl, rfl, ?_, k _ _ _ _ _ _ n (s1.trans s2) S2 (rzF_f rzi)⟩
  rw [← rzl_intsX r]
  exact SqL.of (S2.le.exact e rfl)
end
section
variable {z : Cz} {ρ : List Sl} {N : Dt → Bool → List Sl → Prop} {wi : TI} {g : TG} {te : TE} {vs : List Nat}
/-- [te for g in ..], where each item's value tells more -/
theorem ze_lcR {α : Type} (as : List α) (gd : α → Dt) (f : α → Dt) (ok : α → Prop) (h : ZI z wi ρ fun ds ρ1 bp bm => ds = as.map gd ∧ bp ρ1 ∧ okW ρ1 vs = true ∧ as.length ≤ 100000 ∧
    (∀ a ∈ as, ZGw z g vs (gd a) (wipeZ ρ1 vs) fun ρ2 => ZE z te ρ2 fun y _ ρ4 => wipeZ ρ4 vs = wipeZ ρ1 vs ∧ y = f a ∧ ok a) ∧
    ((∀ a ∈ as, ok a) → N (.lst true (as.map f)) true (bm ρ1))) : ZE z (tLockLE (tLc wi g tYes te vs)) ρ N :=
  ze_lcW fun m F H σ R S k => h m F H σ R S fun ds ρ1 bp bm m' un F1 H1 Jt n1 => k ds ρ1 bp bm m' un F1 H1 Jt <| by
    obtain ⟨rfl, h1, h2, h3, h4, h5⟩ := n1
    refine ⟨h1, h2, by rw [List.length_map]; exact h3, fun i ad => ad = (as.take i).map f ∧ ∀ a ∈ as.take i, ok a, ⟨rfl, fun _ q => nomatch q⟩, fun i d ad hd ha => ?_, fun ad ha => ?_⟩
    · rw [List.getElem?_map] at hd
      cases q : as[i]? with
      | none => rw [q] at hd; cases hd
      | some a =>
        rw [q] at hd
        cases hd
        have hf := h4 a (List.mem_of_getElem? q)
        refine fun m F H σ v Q S r k => hf m F H σ v Q S r fun ρ2 F2 H2 σ2 n2 => k ρ2 F2 H2 σ2 (zt_yes ?_)
        rw [if_pos rfl]
        have et : as.take (i + 1) = as.take i ++ [a] := by rw [List.take_add_one, q]; rfl
        refine fun m F H σ Q S k => n2 m F H σ Q S fun y fy ρ4 F4 H4 v n4 => k y fy ρ4 F4 H4 v ⟨n4.1, ?_, ?_⟩
        · rw [et, List.map_append, ha.1, n4.2.1]
          rfl
        · intro b hb
          rw [et] at hb
          rcases List.mem_append.mp hb with c | c
          · exact ha.2 b c
          · rw [List.mem_singleton.mp c]
            exact n4.2.2
    · rw [List.length_map, List.take_length] at ha
      rw [ha.1]
      exact h5 ha.2
end
/-! ### what catches -/
section
variable {z : Cz} {ρ : List Sl} {N : Zn} {ta : TA} {w : Wz} {i : Nat}
/-- an error of the class C, thrown where the locals are ρ, is caught -/
def Catch (z : Cz) (N : Zn) (W : Hp → Ends → WX) (ρ1 : List Sl) (C : Addr) : Prop := ∀ (m : Fm) (F F1 H H1 H' : Hp) (σ : L2.St) (D : Ends) (ρ0 : List Sl), Sm z m F H σ ρ0 → Same F F1 → Sm z m F1 H1 σ ρ1 → Le H1 H' →
  (∀ ρ' F' H' σ', N.nx ρ' → Same F F' → Sm z m F' H' σ' ρ' → D.nx σ' H') → (∀ d fr F' H' v, N.rt d fr → Same F F' → RtR z m F' H' fr d v → D.rt v H') →
  (∀ ρ' F' H' σ', N.bk ρ' → Same F F' → Sm z m F' H' σ' ρ' → D.bk σ' H') → (∀ ρ' F' H' σ', N.ct ρ' → Same F F' → Sm z m F' H' σ' ρ' → D.ct σ' H') → W H D (.ref C) none σ H'
theorem catch_as {K' : PySem.W.Frag} {c : Value} {ts : Addr → Value → Option Addr → TS} {Wout : WX} {ρ1 : List Sl} {C : Addr} (hK : K' = z.K) (ex : PySem.W.exmOne z.K (.ref C) c = some true)
    (h : ∀ a, ZS z (ts a (.ref C) none) (ρ1.set i (.v (.adr a))) ⟨fun ρ' => N.nx (ρ'.set i .un), N.rt, fun ρ' => N.bk (ρ'.set i .un), fun ρ' => N.ct (ρ'.set i .un)⟩) : Catch z N (wAsU K' c i ts Wout) ρ1 C :=
  fun m F F1 H H1 H' σ D ρ0 S s1 S1 le kn kr kb kc => by
  subst hK
  refine ⟨true, ex, fun _ a ha => ?_, fun q => Bool.noConfusion q⟩
  have S3 := S1.unLk S le
  exact h a m F1 (unLk H H') _ _ (S3.setv (d := .adr a) (by simp only [Rz])) (fun ρ' F' H'' σ' n s S4 => kn _ _ _ _ n (s1.trans s) S4.setu) (fun d fr F' H'' v n s R => kr _ _ _ _ _ n (s1.trans s) R)
    (fun ρ' F' H'' σ' n s S4 => kb _ _ _ _ n (s1.trans s) S4.setu) fun ρ' F' H'' σ' n s S4 => kc _ _ _ _ n (s1.trans s) S4.setu
theorem catch_only {K' : PySem.W.Frag} {c : Value} {ts : Addr → Value → Option Addr → TS} {Wout : WX} {ρ1 : List Sl} {C : Addr} (hK : K' = z.K) (ex : PySem.W.exmOne z.K (.ref C) c = some true)
    (h : ∀ a, ZS z (ts a (.ref C) none) ρ1 N) : Catch z N (wOnlyU K' c ts Wout) ρ1 C :=
  fun m F F1 H H1 H' σ D ρ0 S s1 S1 le kn kr kb kc => by
  subst hK
  refine ⟨true, ex, fun _ a ha => ?_, fun q => Bool.noConfusion q⟩
  exact h a m F1 (unLk H H') _ _ (S1.unLk S le) (fun ρ' F' H'' σ' n s S4 => kn _ _ _ _ n (s1.trans s) S4) (fun d fr F' H'' v n s R => kr _ _ _ _ _ n (s1.trans s) R)
    (fun ρ' F' H'' σ' n s S4 => kb _ _ _ _ n (s1.trans s) S4) fun ρ' F' H'' σ' n s S4 => kc _ _ _ _ n (s1.trans s) S4
theorem catch_yes {K' : PySem.W.Frag} {c : Value} {ts : Addr → Value → Option Addr → TS} {r : List (Value × (Addr → Value → Option Addr → TS))} {Wout : WX} {ρ1 : List Sl} {C : Addr} (hK : K' = z.K) (ex : PySem.W.exmOne z.K (.ref C) c = some true)
    (h : ∀ a, ZS z (ts a (.ref C) none) ρ1 N) : Catch z N (wManyU K' ((c, ts) :: r) Wout) ρ1 C :=
  fun m F F1 H H1 H' σ D ρ0 S s1 S1 le kn kr kb kc => by
  subst hK
  refine ⟨true, ex, fun _ a ha => ?_, fun q => Bool.noConfusion q⟩
  exact h a m F1 (unLk H H') _ _ (S1.unLk S le) (fun ρ' F' H'' σ' n s S4 => kn _ _ _ _ n (s1.trans s) S4) (fun d fr F' H'' v n s R => kr _ _ _ _ _ n (s1.trans s) R)
    (fun ρ' F' H'' σ' n s S4 => kb _ _ _ _ n (s1.trans s) S4) fun ρ' F' H'' σ' n s S4 => kc _ _ _ _ n (s1.trans s) S4
theorem catch_no {K' : PySem.W.Frag} {c : Value} {ts : Addr → Value → Option Addr → TS} {r : List (Value × (Addr → Value → Option Addr → TS))} {Wout : WX} {ρ1 : List Sl} {C : Addr} (hK : K' = z.K) (ex : PySem.W.exmOne z.K (.ref C) c = some false)
    (h : Catch z N (wManyU K' r Wout) ρ1 C) : Catch z N (wManyU K' ((c, ts) :: r) Wout) ρ1 C :=
  fun m F F1 H H1 H' σ D ρ0 S s1 S1 le kn kr kb kc => by
  subst hK
  exact ⟨false, ex, fun q => Bool.noConfusion q, fun _ => h m F F1 H H1 H' σ D ρ0 S s1 S1 le kn kr kb kc⟩
/-- try: return f(..) -/
theorem zs_tryRetC {W : Hp → Ends → WX} (h : ZA z ta ρ fun ds ρ1 => w (Dt.olds ds) N.rt fun C fs => fs = [] ∧ Catch z N W ρ1 C) :
    ZS z (fun D σ H => tRet (tCallS (spZ z.K w) (WE (W H D)) ta) D σ H) ρ N := fun m F H σ D S kn kr kb kc => by
  refine h m F H σ _ S fun ds ρ1 F1 H1 vs n1 s1 S1 r1 => ?_
  refine ⟨F1, Dt.olds ds, N.rt, _, S1.le, rzl_old _ _ r1, n1, fun d fr F' H' v nd g => ?_, fun C fs dd H' e er => ?_⟩
  · obtain ⟨S2, r2⟩ := S1.got g
    exact kr _ _ _ _ _ nd (s1.trans g.1) (rt_of S2 r2)
  · obtain ⟨rfl, e⟩ := e
    obtain ⟨le, hd⟩ := er
    cases hd
    exact e m F F1 H H1 H' σ D ρ S s1 S1 le kn kr kb kc
/-- try: x = f(..) -/
theorem zs_trySetC {W : Hp → Ends → WX} {g : TG} (h : ZA z ta ρ fun ds ρ1 => w (Dt.olds ds) (fun d fr => ZG z g d fr ρ1 N.nx) fun C fs => fs = [] ∧ Catch z N W ρ1 C) :
    ZS z (fun D σ H => tAsg (tCallS (spZ z.K w) (WE (W H D)) ta) g D σ H) ρ N := fun m F H σ D S kn kr kb kc => by
  refine h m F H σ _ S fun ds ρ1 F1 H1 vs n1 s1 S1 r1 => ?_
  refine ⟨F1, Dt.olds ds, (fun d fr => ZG z g d fr ρ1 N.nx), _, S1.le, rzl_old _ _ r1, n1, fun d fr F' H' v nd q => ?_, fun C fs dd H' e er => ?_⟩
  · obtain ⟨S2, r2⟩ := S1.got q
    exact nd m F' H' σ v _ S2 r2 fun ρ' F'' H'' σ' n s S3 => kn _ _ _ _ n ((s1.trans q.1).trans s) S3
  · obtain ⟨rfl, e⟩ := e
    obtain ⟨le, hd⟩ := er
    cases hd
    exact e m F F1 H H1 H' σ D ρ S s1 S1 le kn kr kb kc
/-- try: f(..) -/
theorem zs_tryDropC {W : Hp → Ends → WX} (h : ZA z ta ρ fun ds ρ1 => w (Dt.olds ds) (fun _ _ => N.nx ρ1) fun C fs => fs = [] ∧ Catch z N W ρ1 C) :
    ZS z (fun D σ H => tDrop (tCallS (spZ z.K w) (WE (W H D)) ta) D σ H) ρ N := fun m F H σ D S kn kr kb kc => by
  refine h m F H σ _ S fun ds ρ1 F1 H1 vs n1 s1 S1 r1 => ?_
  refine ⟨F1, Dt.olds ds, (fun _ _ => N.nx ρ1), _, S1.le, rzl_old _ _ r1, n1, fun d fr F' H' v nd q => ?_, fun C fs dd H' e er => ?_⟩
  · obtain ⟨S2, r2⟩ := S1.got q
    exact kn _ _ _ _ nd (s1.trans q.1) S2
  · obtain ⟨rfl, e⟩ := e
    obtain ⟨le, hd⟩ := er
    cases hd
    exact e m F F1 H H1 H' σ D ρ S s1 S1 le kn kr kb kc
/-- try: x = f(..), then what raises nothing -/
theorem zs_trySeqC {W : Hp → Ends → WX} {g : TG} {tb : TS} (h : ZA z ta ρ fun ds ρ1 => w (Dt.olds ds) (fun d fr => ZG z g d fr ρ1 fun ρ2 => ZS z tb ρ2 N) fun C fs => fs = [] ∧ Catch z N W ρ1 C) :
    ZS z (fun D σ H => tSeq (tAsg (tCallS (spZ z.K w) (WE (W H D)) ta) g) tb D σ H) ρ N := fun m F H σ D S kn kr kb kc => by
  refine h m F H σ _ S fun ds ρ1 F1 H1 vs n1 s1 S1 r1 => ?_
  refine ⟨F1, Dt.olds ds, (fun d fr => ZG z g d fr ρ1 fun ρ2 => ZS z tb ρ2 N), _, S1.le, rzl_old _ _ r1, n1, fun d fr F' H' v nd q => ?_, fun C fs dd H' e er => ?_⟩
  · obtain ⟨S2, r2⟩ := S1.got q
    exact nd m F' H' σ v _ S2 r2 fun ρ' F'' H'' σ' n s S3 => n m F'' H'' σ' D S3 (fun _ _ _ _ a b c => kn _ _ _ _ a (((s1.trans q.1).trans s).trans b) c) (fun _ _ _ _ _ a b c => kr _ _ _ _ _ a (((s1.trans q.1).trans s).trans b) c)
      (fun _ _ _ _ a b c => kb _ _ _ _ a (((s1.trans q.1).trans s).trans b) c) fun _ _ _ _ a b c => kc _ _ _ _ a (((s1.trans q.1).trans s).trans b) c
  · obtain ⟨rfl, e⟩ := e
    obtain ⟨le, hd⟩ := er
    cases hd
    exact e m F F1 H H1 H' σ D ρ S s1 S1 le kn kr kb kc
end
/-- Ratio(n, d), or ByZero -/
theorem ze_ratioR {z : Cz} {ρ : List Sl} {N : Dt → Bool → List Sl → Prop} {t : TA} {dvs : List V} (h : ZA z t ρ fun ds ρ1 => ∃ n d, ((ds = [.int n, .int d] ∧ dvs = []) ∨ (ds = [.int n] ∧ dvs = [.int d])) ∧ (d ≠ 0 → Bits 8000 (sgc n d)) ∧ (d ≠ 0 → N (.rat (pn n d) (pd n d)) false ρ1) ∧ (d = 0 → z.Eh (He.ga z.K "ByZero") [])) :
    ZE z (tMake (He.ga z.K "Ratio") (spInit z.K) dvs z.Er t) ρ N := fun m F H σ Q S k => by
  refine h m F H σ _ S fun ds ρ1 F1 H1 vs n1 s1 S1 r1 x dx hx hd ne => ?_
  obtain ⟨n, d, hds, hb, n1, ne0⟩ := n1
  have ev : vs ++ dvs = [.int n, .int d] := by
    rcases hds with ⟨rfl, rfl⟩ | ⟨rfl, rfl⟩
    · obtain ⟨v, r, rfl, q1, q2⟩ := r1.inv
      obtain ⟨v2, r, rfl, q3, q4⟩ := q2.inv
      rw [rz_i q1, rz_i q3, q4.inv0]
      rfl
    · obtain ⟨v, r, rfl, q1, q2⟩ := r1.inv
      rw [rz_i q1, q2.inv0]
      rfl
  rw [ev]
  refine ⟨x, dx, n, d, rfl, upd_same, hb, fun h0 => ?_, fun h0 => ⟨rfl, ?_⟩⟩
  · exact S1.er _ [] none _ (ne0 h0) ⟨(S1.bj.same S1.base).same (same_mk hx hd), rfl⟩
  · rw [upd_upd]
    obtain ⟨s2, S2⟩ := sm_ins (C := He.ga z.K "Ratio") (fs := rfl2 (pn n d) (pd n d)) S1 hx hd ne
    exact k _ _ _ _ _ _ (n1 h0) (s1.trans s2) S2 (rzF_f (show Rz z.K m.B _ (.rat _ _) _ by simp only [Rz]; exact ⟨x, dx, rfl, upd_same⟩))
theorem zg_lst {z : Cz} {ρ : List Sl} {K : PySem.W.Frag} {n : Nat} {gs : TGs} {t : Bool} {ds : List Dt} {fr : Bool} {L : List Sl → Prop} (hl : ds.length = n) (h : ZGs z gs ds ρ L) : ZG z (gLst K n gs) (.lst t ds) fr ρ L := fun m F H σ v Q S r k => by
  obtain ⟨F1, s1, S1, r⟩ := rzF_frz S r
  simp only [Rz] at r
  obtain ⟨a, xs, rfl, e, _, r⟩ := r
  exact ⟨a, xs, rfl, SqL.of (S1.le.exact e rfl), by rw [r.len, hl], h m F1 H σ xs Q S1 r fun ρ2 F2 H2 σ2 n2 s2 => k ρ2 F2 H2 σ2 n2 (s1.trans s2)⟩
/-! ### several clauses with one name -/
section
variable {z : Cz} {N : Zn} {i : Nat}
theorem catch_nyes {K' : PySem.W.Frag} {c : Value} {ts : Addr → Value → Option Addr → TS} {r : List (Value × (Addr → Value → Option Addr → TS))} {ρ1 : List Sl} {C : Addr} (hK : K' = z.K) (ex : PySem.W.exmOne z.K (.ref C) c = some true)
    (h : ∀ a, ZS z (ts a (.ref C) none) (ρ1.set i (.v (.adr a))) ⟨fun ρ' => N.nx (ρ'.set i .un), N.rt, fun ρ' => N.bk (ρ'.set i .un), fun ρ' => N.ct (ρ'.set i .un)⟩) : Catch z N (TN.wNU K' i ((c, ts) :: r)) ρ1 C :=
  fun m F F1 H H1 H' σ D ρ0 S s1 S1 le kn kr kb kc => by
  subst hK
  refine ⟨true, ex, ?_⟩
  rw [if_pos rfl]
  intro a ha
  have S3 := S1.unLk S le
  exact h a m F1 (unLk H H') _ _ (S3.setv (d := .adr a) (by simp only [Rz])) (fun ρ' F' H'' σ' n s S4 => kn _ _ _ _ n (s1.trans s) S4.setu) (fun d fr F' H'' v n s R => kr _ _ _ _ _ n (s1.trans s) R)
    (fun ρ' F' H'' σ' n s S4 => kb _ _ _ _ n (s1.trans s) S4.setu) fun ρ' F' H'' σ' n s S4 => kc _ _ _ _ n (s1.trans s) S4.setu
theorem catch_nno {K' : PySem.W.Frag} {c : Value} {ts : Addr → Value → Option Addr → TS} {r : List (Value × (Addr → Value → Option Addr → TS))} {ρ1 : List Sl} {C : Addr} (hK : K' = z.K) (ex : PySem.W.exmOne z.K (.ref C) c = some false)
    (h : Catch z N (TN.wNU K' i r) ρ1 C) : Catch z N (TN.wNU K' i ((c, ts) :: r)) ρ1 C :=
  fun m F F1 H H1 H' σ D ρ0 S s1 S1 le kn kr kb kc => by
  subst hK
  refine ⟨false, ex, ?_⟩
  rw [if_neg (by decide)]
  exact h m F F1 H H1 H' σ D ρ0 S s1 S1 le kn kr kb kc
end
namespace Lq
section
variable {z : Cz} {ρ : List Sl} {N : Dt → Bool → List Sl → Prop} {t : TA} {E : XK}
def elR (K : PySem.W.Frag) (n S : Nat) (e : El) : Dt := elD K true true true n S e.basis e.rows e.leads e.wrong
theorem ze_elim (h : ZA z t ρ fun ds ρ1 => ∃ (t1 t2 t3 : Bool) (m : List (List Rat)) (cs : List Rat) (n S : Nat), ds = [ratsD t1 t2 m, ratL t3 cs] ∧ ElOk n S m cs ∧
    N (elR z.K n S (elimN n S m cs m.length)) false ρ1) : ZE z (tMake (He.ga z.K "Elimination") (spElim z.K) [] E t) ρ N := fun m F H σ Q S k => by
  refine h m F H σ _ S fun ds ρ1 F1 H1 vs n1 s1 S1 r1 x dx hx hd ne => ?_
  obtain ⟨t1, t2, t3, mm, cs, n, sc, rfl, ok, n1⟩ := n1
  obtain ⟨v1, q, rfl, a1, r⟩ := r1.inv
  obtain ⟨v2, q, rfl, a2, r⟩ := r.inv
  obtain rfl := r.inv0
  have fx := S1.le.free hx
  have fd := S1.le.free hd
  have hne : ∀ {a : Addr} {o : HO}, H1 a = some o → a ≠ x ∧ a ≠ dx := fun {a o} e => ⟨fun c => (by rw [c, hx] at e; cases e), fun c => (by rw [c, hd] at e; cases e)⟩
  have hnone : ∀ a, hide1 (upd (upd H1 dx (.own x)) x (.ins (He.ga z.K "Elimination") dx [])) x a = none → H1 a = none := fun a e => by
    by_cases c : a = x
    · rw [c]; exact hx
    · rw [hide1_ne c, upd_ne c] at e
      by_cases c2 : a = dx
      · rw [c2]; exact hd
      · rw [upd_ne c2] at e; exact e
  have b1 := rz_old (B' := hide1 (upd (upd H1 dx (.own x)) x (.ins (He.ga z.K "Elimination") dx [])) x) _ _ a1
  have b2 := rz_old (B' := hide1 (upd (upd H1 dx (.own x)) x (.ins (He.ga z.K "Elimination") dx [])) x) _ _ a2
  rw [ratsD_old] at b1
  rw [ratL_old] at b2
  refine ⟨F1, x, dx, v1, v2, mm, cs, n, sc, rfl, upd_same, fx, (S1.le.put fd).put fx, b1, b2, ok, ?_⟩
  intro F' H' kvs s2 g fz le nw fx' hx' hk hr
  refine ⟨rfl, ?_⟩
  have same1 : Same H1 H' := fun a o e => by
    obtain ⟨c1, c2⟩ := hne e
    exact g a c1 o (by rw [upd_ne c1, upd_ne c2]; exact e)
  have fz1 : ∀ a ob u, H' a = some (.frz ob u) → H1 a = some (.frz ob u) := fun a ob u e => by
    have q := fz a ob u e
    by_cases c : a = x
    · rw [c, upd_same] at q; cases q
    · rw [upd_ne c] at q
      by_cases c2 : a = dx
      · rw [c2, upd_same] at q; cases q
      · rw [upd_ne c2] at q; exact q
  have sF : Same F' (upd F' x (.ins (He.ga z.K "Elimination") dx kvs)) := same_new fx'
  have lk : Lk m.J (upd F' x (.ins (He.ga z.K "Elimination") dx kvs)) H' := fun a o e => by
    by_cases c : a = x
    · subst c
      rw [upd_same] at e
      cases e
      exact .inl hx'
    · rw [upd_ne c] at e
      rcases le a o e with q | ⟨q, ob, q2⟩
      · exact .inl q
      · exact .inr ⟨q, ob, q2, S1.fj a ob o (fz1 a ob o q2)⟩
  have nw1 : Nw F1 H1 (upd F' x (.ins (He.ga z.K "Elimination") dx kvs)) := fun a o e => by
    by_cases c : a = x
    · exact .inr (.inl (c ▸ hx))
    · rw [upd_ne c] at e
      rcases nw a o e with q | q | q
      · exact .inl q
      · exact .inr (.inl (hnone a q))
      · exact .inr (.inr q)
  have S2 := S1.ext (s2.trans sF) same1 lk nw1 fz1
  refine k _ _ _ _ _ _ n1 (s1.trans (s2.trans sF)) S2 (rzF_f (show Rz z.K m.B _ (.ins _ _ _) _ from ?_))
  simp only [Rz]
  exact ⟨x, dx, kvs, rfl, upd_same, hk, rzl_mono sF _ _ (rzl_base (fun a e => S1.dom a (hnone a e)) _ _ hr)⟩
end
end Lq
local macro_rules | `(tactic| walk_at "z1") => `(tactic| first | (with_reducible apply Lq.ze_elim) | (with_reducible apply Lq.ze_isN) | (with_reducible apply Lq.ze_notN))
namespace Lq
section
variable {P : Program} {w : World} {K : PySem.W.Frag} {mg : Str → Option Value} {base : Heap}
def zc (m : List (List Rat)) : List Rat := m.map fun _ => 0
def wWithout (K : PySem.W.Frag) : Wz := fun ds Nv _ => ∃ (n : Nat) (m : List (List Rat)), ds = [ratsD false false m] ∧ ElOk n 1 m (zc m) ∧ Nv (elR K n 1 (elimN n 1 m (zc m) m.length)) false
set_option maxHeartbeats 4000000 in
theorem ok__without_constants (T : Top w K mg) : FnOk P w K mg base CX0 6 (He.ga K ("_without_constants" : Str)) (fdOf K d__without_constants) ["rows"] (spZ K (wWithout K)) := by
  obtain ⟨ds0, B0⟩ := T.b0_Ratio___init__
  refine (T.f__without_constants).ok sc__without_constants (fun vs H Q E h => spz_len h (n := 1) fun ds Nv Ne hw => ?_) (fun cdv A outer s H vs Q E hr h => ?_)
  · obtain ⟨_, _, rfl, _⟩ := hw
    rfl
  · refine z_fn h (PSs.nox (pss_one (ps_ret (pe_make (C := He.ga K ("Elimination" : Str)) T.mk_Elimination (ok_Elimination___init__ (K := K) T) (hr.mono (by decide)) rfl T.g_Elimination T.b_Elimination___init__ .nil pass0 (pa_cons (pv 0) (pa_cons (pe_lockL (pe_lc (own := [(("_" : Str), 1)]) (g := (gName 1)) (tt := tYes) rfl sc__without_constants.nd (pi_listK (K := K) rfl (pv 0)) (blkOk_by (N := ["rows", "_"]) (sc := defScope s__without_constants) (by decide +kernel)) (fun _ _ _ _ _ => (pg_name (i := 1) sc__without_constants.nd rfl (Or.inl rfl))) (fun _ _ _ _ _ => pts_nil) (fun _ _ _ _ _ => (pe_make (C := He.ga K ("Ratio" : Str)) T.mk_Ratio (ok_Ratio___init__ (K := K) T) (hr.mono (by decide)) rfl T.g_Ratio (B0.2) (B0.1) passL (pa_cons pe_int pa_nil))))) pa_nil)))))) fun ds Nv Ne hw => ?_
    obtain ⟨n, m, rfl, ok, k⟩ := hw
    walk_at "zz"
    have hm := ok.few
    refine ze_lcM m (ratL false) (fun _ => some (ratE 0)) (zi_list ?_)
    walk_at "zz"
    refine ⟨trivial, rfl, by omega, fun r hrm => ?_, ?_⟩
    · refine zgw_name (by decide) ?_
      walk_at "zz"
      refine ⟨0, 1, .inr ⟨rfl, rfl⟩, by decide, by unfold Bits; decide +kernel, rfl, ?_⟩
      rfl
    · rw [map_some]
      walk_at "zz"
      refine ⟨false, false, true, m, zc m, n, 1, ?_, ok, k⟩
      unfold zc ratL
      rw [List.map_map]
      rfl
/-- what the solution wants of the rows -/
structure SolOk (n S : Nat) (e : El) (fr : Option Nat) (Y : List Int) : Prop where
  lt : ∀ l ∈ e.leads, l < n
  nd : e.leads.Nodup
  len : Y.length = n
  ne : S ≠ 0
  free : ∀ c < n, c ∉ e.leads → Y.getD c 0 = frI fr c * (S : Int) * detI e.rows e.leads
  row : ∀ x ∈ e.rows.zip e.leads, x.1.getD x.2 0 * Y.getD x.2 0 = x.1.getD n 0 * detI e.rows e.leads - tailS x.1 Y x.2 (n - (x.2 + 1))
  bits : ∀ y ∈ Y, Bits 9000 y
def solY (S : Nat) (e : El) (Y : List Int) : List Rat := Y.map fun (y : Int) => (y : Rat) / ((detI e.rows e.leads * (S : Int) : Int) : Rat)
def freeE (n : Nat) (e : El) : List Nat := (List.range n).filter fun c => decide (c ∉ e.leads)
def wSolve (K : PySem.W.Frag) : Wz := fun ds Nv Ne => ∃ (n S : Nat) (m : List (List Rat)) (cs : List Rat), ds = [ratsD false false m, ratL false cs] ∧ ElOk n S m cs ∧
  ((elimN n S m cs m.length).wrong ≠ none → Ne (He.ga K "NoSolution") []) ∧ ((elimN n S m cs m.length).wrong = none → freeE n (elimN n S m cs m.length) ≠ [] → Ne (He.ga K "ManySolutions") []) ∧
  ((elimN n S m cs m.length).wrong = none → freeE n (elimN n S m cs m.length) = [] → ∃ Y, SolOk n S (elimN n S m cs m.length) none Y ∧ Nv (ratL true (solY S (elimN n S m cs m.length) Y)) true)
set_option maxHeartbeats 8000000 in
theorem ok_solve_linear (T : Top w K mg) : FnOk P w K mg base (L2.CX P w) 6 (He.ga K ("solve_linear" : Str)) (fdOf K d_solve_linear) ["rows", "constants"] (spZ K (wSolve K)) := by
  refine (T.f_solve_linear).ok sc_solve_linear (fun vs H Q E h => spz_len h (n := 2) fun ds Nv Ne hw => ?_) (fun cdv A outer s H vs Q E hr h => ?_)
  · obtain ⟨_, _, _, _, rfl, _⟩ := hw
    rfl
  · refine z_fn h ((pss_cons (ps_set (i := 2) sc_solve_linear.nd rfl (Or.inl rfl) (pe_make (C := He.ga K ("Elimination" : Str)) T.mk_Elimination (ok_Elimination___init__ (K := K) T) (hr.mono (by decide)) rfl T.g_Elimination T.b_Elimination___init__ .nil pass0 (pa_cons (pv 0) (pa_cons (pv 1) pa_nil))))
    (pss_cons (ps_if (pt_cmpR op_notN (pe_fldK (K := K) rfl (pv 2) rfl) pe_non (nomark _))
    (pss_one (ps_raise rfl (takes_of rfl rfl rfl rfl) (pmk_own PySem.F.excBase_ValueError T.exc_NoSolution.1 T.g_NoSolution T.exc_NoSolution.2.1 (raises_own T.exc_NoSolution.2.2.1 T.exc_NoSolution.2.2.2) rfl)))
    pss_nil)
    (pss_cons (ps_if (pt_truth (pe_meth0 (pv 2) T.cls_Elimination T.m_Elimination_free_columns (ok_Elimination_free_columns (K := K) T) (hr.mono (by decide)) T.b_Elimination_free_columns .nil pass0) (by intro _; rfl))
    (pss_one (ps_raise rfl (takes_of rfl rfl rfl rfl) (pmk_own PySem.F.excBase_ValueError T.exc_ManySolutions.1 T.g_ManySolutions T.exc_ManySolutions.2.1 (raises_own T.exc_ManySolutions.2.2.1 T.exc_ManySolutions.2.2.2) rfl)))
    pss_nil)
    (pss_one (ps_ret (pe_meth (pv 2) T.cls_Elimination T.m_Elimination_solution (ok_Elimination_solution (K := K) T) (hr.mono (by decide)) T.b_Elimination_solution .nil pass0 (pa_cons pe_dnewK pa_nil)))))))) fun ds Nv Ne hw => ?_
    obtain ⟨n, S, m, cs, rfl, ok, k1, k2, k3⟩ := hw
    walk_at "zz"
    refine ⟨false, false, false, m, cs, n, S, rfl, ok, ?_⟩
    have hfew := ok.few
    have osb := ok.sbits
    obtain ⟨okr1, okr2⟩ := ok.rows m.length (Nat.le_refl _)
    generalize elimN n S m cs m.length = e at *
    walk_at "zz"
    refine ze_notN ?_
    walk_at "zz"
    refine ⟨_, _, .ins rfl, T.cls_Elimination, T.na_Elimination_wrong, ?_⟩
    cases hw : e.wrong with
    | some i =>
      refine ⟨false, .int _, _, rfl, ?_⟩
      refine iteBT rfl ?_
      exact zs_raise (k1 (by rw [hw]; exact fun c => nomatch c))
    | none =>
      refine ⟨true, .non, _, rfl, ?_⟩
      refine iteBF rfl ?_
      walk_at "zz"
      refine zt_truX rfl (ze_meth ?_)
      walk_at "zz"
      refine ⟨elN, _, rfl, by decide, ?_⟩
      walk_at "zz"
      refine ⟨n, S, e.basis, e.rows, e.leads, e.wrong, ?_, by omega, ?_⟩
      · show [Dt.old (elD K true true true n S e.basis e.rows e.leads e.wrong)] = _
        rw [elD_old]
      refine ⟨_, .lst _ _, ?_⟩
      rw [List.isEmpty_map]
      by_cases hf : freeE n e = []
      · have hf2 : ((List.range n).filter fun c => decide (c ∉ e.leads)) = [] := hf
        rw [hf2]
        refine iteBF rfl ?_
        walk_at "zz"
        obtain ⟨Y, so, kk⟩ := k3 hw hf
        refine ⟨elN, _, rfl, by decide, ?_⟩
        walk_at "zz"
        refine ⟨n, S, e.basis, e.rows, e.leads, e.wrong, none, Y, ?_, okr2, by omega, okr1, so.lt, so.nd, so.len, so.ne, osb, so.free, so.row, so.bits, kk⟩
        show [Dt.old (elD K true true true n S e.basis e.rows e.leads e.wrong), _] = _
        rw [elD_old]
        rfl
      · have hf2 : ((List.range n).filter fun c => decide (c ∉ e.leads)).isEmpty = false := by
          cases q : freeE n e with
          | nil => exact absurd q hf
          | cons a b =>
            have q : ((List.range n).filter fun c => decide (c ∉ e.leads)) = a :: b := q
            rw [q]
            rfl
        rw [hf2]
        refine iteBT rfl ?_
        exact zs_raise (k2 hw hf)
end
end Lq
/-! ### the rows that are kept, as functions -/
namespace Dg
def fnq (n : Nat) (q : Vq) : Option Nat := (List.range n).find? fun j => decide (q j ≠ 0)
theorem fnq_succ (n : Nat) (q : Vq) : fnq (n + 1) q = match fnq n q with
    | some l => some l
    | none => if q n ≠ 0 then some n else none := by
  unfold fnq
  rw [List.range_succ, List.find?_append]
  cases (List.range n).find? fun j => decide (q j ≠ 0) with
  | some l => rfl
  | none =>
    by_cases c : q n = 0
    · simp [c]
    · simp [c]
theorem fnq_none {q : Vq} : ∀ {n : Nat}, fnq n q = none → ∀ j < n, q j = 0
  | n, h, j, hj => by
    have := List.find?_eq_none.mp h j (List.mem_range.mpr hj)
    simpa using this
theorem fnq_some {q : Vq} : ∀ {n l : Nat}, fnq n q = some l → l < n ∧ q l ≠ 0 ∧ ∀ j < l, q j = 0
  | 0, l, h => by cases h
  | n + 1, l, h => by
    rw [fnq_succ] at h
    cases c : fnq n q with
    | some k =>
      rw [c] at h
      cases h
      obtain ⟨h1, h2, h3⟩ := fnq_some c
      exact ⟨by omega, h2, h3⟩
    | none =>
      rw [c] at h
      dsimp only at h
      by_cases z : q n ≠ 0
      · rw [if_pos z] at h
        cases h
        exact ⟨by omega, z, fnq_none c⟩
      · rw [if_neg z] at h
        cases h
theorem fnq_congr {q q' : Vq} : ∀ {n : Nat}, (∀ j < n, q j = 0 ↔ q' j = 0) → fnq n q = fnq n q'
  | 0, _ => rfl
  | n + 1, h => by
    rw [fnq_succ, fnq_succ, fnq_congr fun j hj => h j (by omega)]
    have := h n (by omega)
    cases fnq n q' with
    | some l => rfl
    | none =>
      dsimp only
      by_cases c : q n = 0
      · rw [if_neg (by simp [c]), if_neg (by simp [this.mp c])]
      · rw [if_pos c, if_pos (fun z => c (this.mpr z))]
def stQ (n : Nat) (lb : List (Vq × Nat)) (q : Vq) : List (Vq × Nat) := match fnq n (redQ lb q) with
  | some l => lb ++ [(redQ lb q, l)]
  | none => lb
def lbQ (n : Nat) (qs : List Vq) : List (Vq × Nat) := qs.foldl (stQ n) []
theorem lbQ_snoc (n : Nat) (qs : List Vq) (q : Vq) : lbQ n (qs ++ [q]) = stQ n (lbQ n qs) q := by
  unfold lbQ
  rw [List.foldl_append]
  rfl
/-! #### two that agree on the first columns -/
structure Ag (n : Nat) (A B : List (Vq × Nat)) : Prop where
  len : A.length = B.length
  red : ∀ q q' : Vq, (∀ j < n, q j = q' j) → ∀ j < n, redQ A q j = redQ B q' j
theorem Ag.step {n : Nat} {A B : List (Vq × Nat)} (h : Ag n A B) {q q' : Vq} (e : ∀ j < n, q j = q' j) : Ag n (stQ n A q) (stQ n B q') := by
  have r := h.red q q' e
  have f : fnq n (redQ A q) = fnq n (redQ B q') := fnq_congr fun j hj => by rw [r j hj]
  unfold stQ
  rw [f]
  cases c : fnq n (redQ B q') with
  | none => exact h
  | some l =>
    have hl := (fnq_some c).1
    refine ⟨by rw [List.length_append, List.length_append, h.len]; rfl, fun u u' eu j hj => ?_⟩
    have ru := h.red u u' eu
    rw [redQ_snoc, redQ_snoc]
    show redQ A u j - (redQ A u l / redQ A q l) * redQ A q j = redQ B u' j - (redQ B u' l / redQ B q' l) * redQ B q' j
    rw [ru j hj, ru l hl, r j hj, r l hl]
theorem lbQ_agree {n : Nat} (f g : α → Vq) (xs : List α) (h : ∀ x ∈ xs, ∀ j < n, f x j = g x j) : Ag n (lbQ n (xs.map f)) (lbQ n (xs.map g)) := by
  have : ∀ (xs : List α) (A B : List (Vq × Nat)), (∀ x ∈ xs, ∀ j < n, f x j = g x j) → Ag n A B → Ag n ((xs.map f).foldl (stQ n) A) ((xs.map g).foldl (stQ n) B) := by
    intro xs
    induction xs with
    | nil => intro A B _ h; exact h
    | cons x xs ih =>
      intro A B hx h
      exact ih _ _ (fun y hy => hx y (List.mem_cons_of_mem _ hy)) (h.step (hx x List.mem_cons_self))
  exact this xs [] [] h ⟨rfl, fun q q' e => e⟩
/-! #### columns multiplied -/
def scq (k : Nat → Rat) (q : Vq) : Vq := fun j => k j * q j
def scb (k : Nat → Rat) (lb : List (Vq × Nat)) : List (Vq × Nat) := lb.map fun x => (scq k x.1, x.2)
theorem scb_snoc (k : Nat → Rat) (lb : List (Vq × Nat)) (x : Vq × Nat) : scb k (lb ++ [x]) = scb k lb ++ [(scq k x.1, x.2)] := by
  unfold scb
  rw [List.map_append]
  rfl
theorem stepQ_sc {k : Nat → Rat} (hk : ∀ j, k j ≠ 0) (x : Vq × Nat) (q : Vq) : stepQ (scq k x.1, x.2) (scq k q) = scq k (stepQ x q) := by
  funext j
  show k j * q j - (k x.2 * q x.2 / (k x.2 * x.1 x.2)) * (k j * x.1 j) = k j * (q j - (q x.2 / x.1 x.2) * x.1 j)
  have h := hk x.2
  have e : k x.2 * q x.2 / (k x.2 * x.1 x.2) = q x.2 / x.1 x.2 := by
    generalize k x.2 = a at *
    generalize q x.2 = b
    generalize x.1 x.2 = c
    by_cases z : c = 0
    · subst z; grind
    · grind
  rw [e]
  grind
theorem redQ_sc {k : Nat → Rat} (hk : ∀ j, k j ≠ 0) : ∀ (lb : List (Vq × Nat)) (q : Vq), redQ (scb k lb) (scq k q) = scq k (redQ lb q)
  | [], q => rfl
  | x :: lb, q => by
    show redQ (scb k lb) (stepQ (scq k x.1, x.2) (scq k q)) = scq k (redQ lb (stepQ x q))
    rw [stepQ_sc hk, redQ_sc hk lb]
theorem fnq_sc {k : Nat → Rat} (hk : ∀ j, k j ≠ 0) (n : Nat) (q : Vq) : fnq n (scq k q) = fnq n q := fnq_congr fun j _ => by
  show k j * q j = 0 ↔ _
  rw [Rat.mul_eq_zero]
  exact ⟨fun h => h.resolve_left (hk j), .inr⟩
theorem stQ_sc {k : Nat → Rat} (hk : ∀ j, k j ≠ 0) (n : Nat) (lb : List (Vq × Nat)) (q : Vq) : stQ n (scb k lb) (scq k q) = scb k (stQ n lb q) := by
  unfold stQ
  rw [redQ_sc hk, fnq_sc hk]
  cases fnq n (redQ lb q) with
  | none => rfl
  | some l => dsimp only; rw [scb_snoc]
theorem lbQ_sc {k : Nat → Rat} (hk : ∀ j, k j ≠ 0) (n : Nat) (qs : List Vq) : lbQ n (qs.map (scq k)) = scb k (lbQ n qs) := by
  have : ∀ (qs : List Vq) (A : List (Vq × Nat)), (qs.map (scq k)).foldl (stQ n) (scb k A) = scb k (qs.foldl (stQ n) A) := by
    intro qs
    induction qs with
    | nil => intro A; rfl
    | cons q qs ih =>
      intro A
      show (qs.map (scq k)).foldl (stQ n) (stQ n (scb k A) (scq k q)) = scb k (qs.foldl (stQ n) (stQ n A q))
      rw [stQ_sc hk, ih]
  exact this qs []
/-! #### one column more -/
def Wq (n : Nat) (A : List (Vq × Nat)) (q : Vq) : Prop := fnq n (redQ A q) = none ∧ redQ A q n ≠ 0
structure Far (n : Nat) (A B : List (Vq × Nat)) : Prop where
  len : B.length = A.length + 1
  red : ∀ q : Vq, (∀ j < n, redQ B q j = redQ A q j) ∧ redQ B q n = 0
theorem stQ_same {n : Nat} {A : List (Vq × Nat)} {q : Vq} (h : ¬ Wq n A q) : stQ (n + 1) A q = stQ n A q := by
  unfold stQ
  rw [fnq_succ]
  cases c : fnq n (redQ A q) with
  | some l => rfl
  | none =>
    have : ¬ redQ A q n ≠ 0 := fun z => h ⟨c, z⟩
    dsimp only
    rw [if_neg this]
theorem stQ_first {n : Nat} {A : List (Vq × Nat)} {q : Vq} (h : Wq n A q) : Far n (stQ n A q) (stQ (n + 1) A q) := by
  obtain ⟨c, z⟩ := h
  have e1 : stQ n A q = A := by unfold stQ; rw [c]
  have e2 : stQ (n + 1) A q = A ++ [(redQ A q, n)] := by
    unfold stQ
    rw [fnq_succ, c]
    dsimp only
    rw [if_pos z]
  rw [e1, e2]
  refine ⟨by rw [List.length_append]; rfl, fun u => ?_⟩
  rw [redQ_snoc]
  refine ⟨fun j hj => ?_, ?_⟩
  · show redQ A u j - (redQ A u n / redQ A q n) * redQ A q j = _
    rw [fnq_none c j hj]
    grind
  · show redQ A u n - (redQ A u n / redQ A q n) * redQ A q n = 0
    generalize redQ A q n = a at *
    grind
theorem Far.step {n : Nat} {A B : List (Vq × Nat)} (h : Far n A B) (q : Vq) : Far n (stQ n A q) (stQ (n + 1) B q) := by
  obtain ⟨r, rn⟩ := h.red q
  have f : fnq (n + 1) (redQ B q) = fnq n (redQ A q) := by
    rw [fnq_succ, fnq_congr (q' := redQ A q) fun j hj => by rw [r j hj]]
    cases fnq n (redQ A q) with
    | some l => rfl
    | none => dsimp only; rw [if_neg (by simp [rn])]
  unfold stQ
  rw [f]
  cases c : fnq n (redQ A q) with
  | none => exact h
  | some l =>
    have hl := (fnq_some c).1
    refine ⟨by rw [List.length_append, List.length_append, h.len]; rfl, fun u => ?_⟩
    obtain ⟨ru, rz⟩ := h.red u
    rw [redQ_snoc, redQ_snoc]
    refine ⟨fun j hj => ?_, ?_⟩
    · show redQ B u j - (redQ B u l / redQ B q l) * redQ B q j = redQ A u j - (redQ A u l / redQ A q l) * redQ A q j
      rw [ru j hj, ru l hl, r j hj, r l hl]
    · show redQ B u n - (redQ B u l / redQ B q l) * redQ B q n = 0
      rw [rz, rn]
      grind
/-- a row that shows a contradiction -/
def Wr (n : Nat) (qs : List Vq) (i : Nat) : Prop := ∃ k < i, ∃ q, qs[k]? = some q ∧ Wq n (lbQ n (qs.take k)) q
theorem aug {n : Nat} (qs : List Vq) : ∀ i ≤ qs.length, (¬ Wr n qs i ∧ lbQ (n + 1) (qs.take i) = lbQ n (qs.take i)) ∨ (Wr n qs i ∧ Far n (lbQ n (qs.take i)) (lbQ (n + 1) (qs.take i)))
  | 0, _ => .inl ⟨fun ⟨_, h, _⟩ => by omega, rfl⟩
  | i + 1, hi => by
    have ih := aug (n := n) qs i (by omega)
    have hq : qs[i]? = some (qs[i]'(by omega)) := List.getElem?_eq_getElem (by omega)
    generalize qs[i]'(by omega) = q at hq
    have et : qs.take (i + 1) = qs.take i ++ [q] := by rw [List.take_succ, hq]; rfl
    rw [et, lbQ_snoc, lbQ_snoc]
    rcases ih with ⟨h1, h2⟩ | ⟨h1, h2⟩
    · rw [h2]
      by_cases c : Wq n (lbQ n (qs.take i)) q
      · exact .inr ⟨⟨i, by omega, q, hq, c⟩, stQ_first c⟩
      · refine .inl ⟨?_, stQ_same c⟩
        rintro ⟨k, hk, q', hq', w⟩
        by_cases e : k = i
        · subst e
          rw [hq] at hq'
          cases hq'
          exact c w
        · exact h1 ⟨k, by omega, q', hq', w⟩
    · obtain ⟨k, hk, w⟩ := h1
      exact .inr ⟨⟨k, by omega, w⟩, h2.step q⟩
theorem aug_gt {n : Nat} (qs : List Vq) : (lbQ n qs).length < (lbQ (n + 1) qs).length ↔ Wr n qs qs.length := by
  have h := aug (n := n) qs qs.length (Nat.le_refl _)
  rw [List.take_length] at h
  rcases h with ⟨h1, h2⟩ | ⟨h1, h2⟩
  · rw [h2]
    exact ⟨fun c => absurd c (Nat.lt_irrefl _), fun c => absurd c h1⟩
  · exact ⟨fun _ => h1, fun _ => by rw [h2.len]; omega⟩
end Dg
/-! ### the program's rows and the law's -/
namespace Lq
open Dg (Vc Vq stepQ redQ redQ_snoc Lk2 red red_snoc stepR dv Good link dv_snoc fnq fnq_some fnq_none fnq_congr stQ lbQ lbQ_snoc)
def vcI (r : List Int) : Vc := fun j => r.getD j 0
def bsV (bs : List (List Int × Nat)) : List (Vc × Nat) := bs.map fun x => (vcI x.1, x.2)
theorem bsV_snoc (bs : List (List Int × Nat)) (x : List Int × Nat) : bsV (bs ++ [x]) = bsV bs ++ [(vcI x.1, x.2)] := by
  unfold bsV
  rw [List.map_append]
  rfl
theorem vcI_step {L : Nat} {x : List Int × Nat} {r : List Int} {d : Int} (hx : x.1.length = L) (hr : r.length = L) : vcI (stepI d x r) = stepR d (vcI x.1, x.2) (vcI r) := by
  funext j
  show (stepI d x r).getD j 0 = (x.1.getD x.2 0 * r.getD j 0 - r.getD x.2 0 * x.1.getD j 0).fdiv d
  by_cases c : j < r.length
  · exact stepI_at c
  · rw [getD_out (by rw [stepI_len]; omega), getD_out (r := r) (j := j) (by omega), getD_out (r := x.1) (j := j) (by omega), Int.mul_zero, Int.mul_zero, Int.sub_zero, Int.zero_fdiv]
theorem stI_red {L : Nat} {bs : List (List Int × Nat)} (h : ∀ x ∈ bs, x.1.length = L) {r : List Int} (hr : r.length = L) : ∀ i, (stI (bs.take i) r).1 = dv (bsV (bs.take i)) ∧ vcI (stI (bs.take i) r).2 = red (bsV (bs.take i)) (vcI r)
  | 0 => ⟨rfl, rfl⟩
  | i + 1 => by
    have ih := stI_red h hr i
    cases c : bs[i]? with
    | none => rw [List.take_succ, c]; simpa using ih
    | some x =>
      rw [take_snoc c, stI_snoc, bsV_snoc, dv_snoc, red_snoc]
      refine ⟨rfl, ?_⟩
      rw [vcI_step (h x (List.mem_of_getElem? c)) (by rw [stI_len]; exact hr), ih.1, ih.2]
theorem stI_all {L : Nat} {bs : List (List Int × Nat)} (h : ∀ x ∈ bs, x.1.length = L) {r : List Int} (hr : r.length = L) : vcI (stI bs r).2 = red (bsV bs) (vcI r) := by
  have := (stI_red h hr bs.length).2
  rw [List.take_length] at this
  exact this
/-! #### the lists agree with the functions -/
theorem fnz_fnq (n : Nat) (r : List Rat) : fnz n r = fnq n (vq r) := rfl
theorem toV_stepB {N n : Nat} {lb : List (List Rat × Nat)} {r : List Rat} (hl : ∀ x ∈ lb, x.1.length = N) (hr : r.length = N) : toV (stepB n lb r) = stQ n (toV lb) (vq r) ∧ ∀ x ∈ stepB n lb r, x.1.length = N := by
  have e := vq_red lb r hr hl
  unfold stepB stQ
  rw [fnz_fnq, e]
  cases c : fnq n (redQ (toV lb) (vq r)) with
  | none => exact ⟨rfl, hl⟩
  | some l =>
    dsimp only
    refine ⟨by rw [toV_snoc, e], fun x hx => ?_⟩
    rcases List.mem_append.mp hx with hx | hx
    · exact hl x hx
    · rw [List.mem_singleton.mp hx, redL_len, hr]
theorem toV_lbOf {N n : Nat} {m : List (List Rat)} (h : ∀ r ∈ m, r.length = N) : toV (lbOf n m) = lbQ n (m.map vq) := by
  have : ∀ (m : List (List Rat)) (lb : List (List Rat × Nat)), (∀ r ∈ m, r.length = N) → (∀ x ∈ lb, x.1.length = N) → toV (m.foldl (stepB n) lb) = (m.map vq).foldl (stQ n) (toV lb) := by
    intro m
    induction m with
    | nil => intro lb _ _; rfl
    | cons r m ih =>
      intro lb hm hl
      obtain ⟨e, hl2⟩ := toV_stepB (n := n) hl (hm r List.mem_cons_self)
      show toV (m.foldl (stepB n) (stepB n lb r)) = (m.map vq).foldl (stQ n) (stQ n (toV lb) (vq r))
      rw [ih _ (fun y hy => hm y (List.mem_cons_of_mem _ hy)) hl2, e]
  exact this m [] h (fun x hx => nomatch hx)
theorem lbOf_len {N n : Nat} {m : List (List Rat)} (h : ∀ r ∈ m, r.length = N) : (lbOf n m).length = (lbQ n (m.map vq)).length := by
  rw [← toV_lbOf h]
  unfold toV
  rw [List.length_map]
/-! #### the system -/
def rowS (S : Nat) (r : List Rat) (c : Rat) : List Rat := r ++ [((S : Int) : Rat) * c]
def qsS (S : Nat) (m : List (List Rat)) (cs : List Rat) : List Vq := (m.zip cs).map fun p => vq (rowS S p.1 p.2)
structure SysQ (n S M M2 : Nat) (m : List (List Rat)) (cs : List Rat) : Prop where
  len : cs.length = m.length
  few : m.length ≤ 6 ∧ n ≤ 6
  wide : ∀ r ∈ m, r.length = n
  none_ : m = [] → n = 0
  bot : S = botN cs
  m1 : M ≠ 0 ∧ M < 2 ^ 40
  m2 : M2 ≠ 0 ∧ M2 < 2 ^ 80
  rows : ∀ r ∈ m, ∀ e ∈ r, SmQ M (2 ^ 80) e
  cons : ∀ c ∈ cs, SmQ M2 (2 ^ 49) c
section
variable {n S M M2 : Nat} {m : List (List Rat)} {cs : List Rat}
theorem SmQ.den {M B : Nat} {q : Rat} (hM : M ≠ 0) (h : SmQ M B q) : q.den ∣ M := by
  obtain ⟨k, e, _⟩ := h
  have h1 : ((M : Int) : Rat) ≠ 0 := int_ne (by omega)
  have e1 := rat_eq q
  have hq := den_ne q
  have e2 : ((q.num * (M : Int) : Int) : Rat) = ((k * (q.den : Int) : Int) : Rat) := by
    rw [Rat.intCast_mul, Rat.intCast_mul]
    generalize ((M : Int) : Rat) = a at *
    generalize (k : Rat) = b at *
    generalize ((q.den : Int) : Rat) = c at *
    generalize (q.num : Rat) = d at *
    have e5 : d / c = b / a := by rw [e1, e]
    grind
  have e3 := Rat.intCast_inj.mp e2
  have e4 : q.den ∣ q.num.natAbs * M := by
    have : (q.num * (M : Int)).natAbs = (k * (q.den : Int)).natAbs := by rw [e3]
    rw [Int.natAbs_mul, Int.natAbs_mul, Int.natAbs_natCast, Int.natAbs_natCast] at this
    exact ⟨k.natAbs, by rw [this, Nat.mul_comm]⟩
  exact Nat.Coprime.dvd_of_dvd_mul_left q.reduced.symm e4
theorem scI_le {M B b : Nat} {e : Rat} (hM : M ≠ 0) (h : SmQ M B e) (h1 : e.den ∣ b) (h2 : b ∣ M) : (scI b e).natAbs ≤ B := by
  obtain ⟨k, ek, hk⟩ := h
  have hm : ((M : Int) : Rat) ≠ 0 := int_ne (by omega)
  have e1 := scI_eq h1
  have e2 : ((scI b e * (M : Int) : Int) : Rat) = (((b : Int) * k : Int) : Rat) := by
    rw [Rat.intCast_mul, Rat.intCast_mul, e1, ek]
    generalize ((M : Int) : Rat) = a at *
    generalize ((b : Int) : Rat) = c at *
    generalize (k : Rat) = d at *
    grind
  have e3 := congrArg Int.natAbs (Rat.intCast_inj.mp e2)
  rw [Int.natAbs_mul, Int.natAbs_mul, Int.natAbs_natCast, Int.natAbs_natCast] at e3
  have hb := Nat.le_of_dvd (Nat.pos_of_ne_zero hM) h2
  have e4 : (scI b e).natAbs * M ≤ k.natAbs * M := by
    rw [e3, Nat.mul_comm b]
    exact Nat.mul_le_mul_left _ hb
  exact Nat.le_trans (Nat.le_of_mul_le_mul_right e4 (Nat.pos_of_ne_zero hM)) hk
theorem SysQ.S_dvd (h : SysQ n S M M2 m cs) : S ∣ M2 := by
  rw [h.bot]
  exact botN_all fun c hc => (h.cons c hc).den h.m2.1
theorem SysQ.S_ne (h : SysQ n S M M2 m cs) : S ≠ 0 := fun c => h.m2.1 (by have := h.S_dvd; rw [c] at this; exact Nat.eq_zero_of_zero_dvd this)
theorem SysQ.b_dvd (h : SysQ n S M M2 m cs) {r : List Rat} (hr : r ∈ m) : botN r ∣ M := botN_all fun e he => (h.rows r hr e he).den h.m1.1
theorem SysQ.b_ne (h : SysQ n S M M2 m cs) {r : List Rat} (hr : r ∈ m) : botN r ≠ 0 := fun c => h.m1.1 (by have := h.b_dvd hr; rw [c] at this; exact Nat.eq_zero_of_zero_dvd this)
theorem intR_len (S : Nat) (r : List Rat) (c : Rat) : (intR S r c).length = r.length + 1 := by
  unfold intR
  rw [List.length_append, List.length_map]
  rfl
theorem intR_at {S : Nat} {r : List Rat} {c : Rat} {j : Nat} (h : j < r.length) : (intR S r c).getD j 0 = scI (botN r) (r.getD j 0) := by
  unfold intR
  rw [List.getD_eq_getElem?_getD, List.getElem?_append_left (by rw [List.length_map]; exact h), List.getElem?_map, getD_in h]
  rfl
theorem intR_last {S : Nat} {r : List Rat} {c : Rat} {j : Nat} (h : j = r.length) : (intR S r c).getD j 0 = scI S c * (botN r : Int) := by
  subst h
  unfold intR
  rw [List.getD_eq_getElem?_getD, List.getElem?_append_right (by rw [List.length_map]; exact Nat.le_refl _), List.length_map, Nat.sub_self]
  rfl
theorem rowS_at {S : Nat} {r : List Rat} {c : Rat} {j : Nat} (h : j < r.length) : (rowS S r c).getD j 0 = r.getD j 0 := by
  unfold rowS
  rw [List.getD_eq_getElem?_getD, List.getElem?_append_left h, List.getD_eq_getElem?_getD]
theorem rowS_last {S : Nat} {r : List Rat} {c : Rat} {j : Nat} (h : j = r.length) : (rowS S r c).getD j 0 = ((S : Int) : Rat) * c := by
  subst h
  unfold rowS
  rw [List.getD_eq_getElem?_getD, List.getElem?_append_right (Nat.le_refl _), Nat.sub_self]
  rfl
/-- the row of whole numbers is the row of fractions, multiplied -/
theorem SysQ.scaled (h : SysQ n S M M2 m cs) {r : List Rat} {c : Rat} (hr : r ∈ m) (hc : c ∈ cs) : ∀ j, j < n + 1 → (vcI (intR S r c) j : Rat) = ((botN r : Int) : Rat) * vq (rowS S r c) j := fun j hj => by
  have w := h.wide r hr
  show ((intR S r c).getD j 0 : Rat) = _ * (rowS S r c).getD j 0
  by_cases q : j < r.length
  · rw [intR_at q, rowS_at q, scI_eq (den_mem (getD_mem q))]
  · have q2 : j = r.length := by omega
    rw [intR_last q2, rowS_last q2, Rat.intCast_mul, scI_eq (by rw [h.bot]; exact den_mem hc)]
    grind
theorem SysQ.ibits (h : SysQ n S M M2 m cs) {r : List Rat} {c : Rat} (hr : r ∈ m) (hc : c ∈ cs) : ∀ j, Bits 90 (vcI (intR S r c) j) := fun j => by
  show ((intR S r c).getD j 0).natAbs < 2 ^ 90
  by_cases q : j < r.length
  · rw [intR_at q]
    have := scI_le h.m1.1 (h.rows r hr _ (getD_mem (d := 0) q)) (den_mem (getD_mem (d := 0) q)) (h.b_dvd hr)
    omega
  · by_cases q2 : j = r.length
    · rw [intR_last q2, Int.natAbs_mul, Int.natAbs_natCast]
      have a1 := scI_le h.m2.1 (h.cons c hc) (by rw [h.bot]; exact den_mem hc) h.S_dvd
      have a2 := Nat.le_of_dvd (Nat.pos_of_ne_zero h.m1.1) (h.b_dvd hr)
      have a3 := h.m1.2
      have a4 : (scI S c).natAbs * botN r ≤ 2 ^ 49 * 2 ^ 40 := Nat.mul_le_mul a1 (by omega)
      omega
    · rw [getD_out (by rw [intR_len]; omega)]
      decide
/-! #### what stands behind i rows -/
structure Gi (n S : Nat) (m : List (List Rat)) (cs : List Rat) (i : Nat) : Prop where
  lk : Lk2 (fun j => j < n + 1) (bsV (elimN n S m cs i).bs) (lbQ n ((qsS S m cs).take i))
  wb : ∀ k, WB ((bsV (elimN n S m cs i).bs).take k)
  rl : (elimN n S m cs i).rows.length = (elimN n S m cs i).leads.length
  ri : RowsI (n + 1) (elimN n S m cs i).bs
  ld : ∀ x ∈ (elimN n S m cs i).bs, x.2 < n ∧ ∀ j < x.2, x.1.getD j 0 = 0
  few : (elimN n S m cs i).bs.length ≤ i
  nd : (elimN n S m cs i).leads.Nodup
  hb : ∀ x ∈ (elimN n S m cs i).bs, ∀ j, Bits (bb 5) (vcI x.1 j)
theorem used_fnq {n : Nat} {red : List Int} {q : Vq} (h : ∀ j < n, red.getD j 0 = 0 ↔ q j = 0) : (usedE n red).head? = fnq n q := by
  unfold usedE fnq
  rw [List.head?_filter]
  have : ∀ xs : List Nat, (∀ j ∈ xs, red.getD j 0 = 0 ↔ q j = 0) → xs.find? (fun j => decide (red.getD j 0 ≠ 0)) = xs.find? fun j => decide (q j ≠ 0) := by
    intro xs
    induction xs with
    | nil => intro _; rfl
    | cons x xs ih =>
      intro hx
      have e := hx x List.mem_cons_self
      rw [List.find?_cons, List.find?_cons, ih fun j hj => hx j (List.mem_cons_of_mem _ hj)]
      rw [show decide (q x ≠ 0) = decide (red.getD x 0 ≠ 0) from decide_eq_decide.mpr (not_congr e.symm)]
  exact this _ fun j hj => h j (List.mem_range.mp hj)
theorem zip_snoc {α β : Type} {xs : List α} {ys : List β} (h : xs.length = ys.length) (x : α) (y : β) : (xs ++ [x]).zip (ys ++ [y]) = xs.zip ys ++ [(x, y)] := by
  rw [List.zip_append h]
  rfl
theorem Gi.zero (n S : Nat) (m : List (List Rat)) (cs : List Rat) : Gi n S m cs 0 := by
  refine ⟨?_, fun k v hv j => ?_, rfl, ⟨fun x h => ?_, fun x h => ?_, fun x h => ?_, Nat.zero_le _⟩, fun x h => ?_, Nat.le_refl _, List.nodup_nil, fun x h => ?_⟩
  · rw [List.take_zero]; exact .nil
  · show Bits (bb ((bsV []).take k).length) (red ((bsV []).take k) v j)
    rw [show bsV [] = [] from rfl, List.take_nil]
    exact hv j
  all_goals exact nomatch h
theorem lead_mem {e : El} (h : e.rows.length = e.leads.length) {l : Nat} (hl : l ∈ e.leads) : ∃ x ∈ e.bs, x.2 = l := by
  have : e.bs.map Prod.snd = e.leads := List.map_snd_zip (Nat.le_of_eq h.symm)
  rw [← this] at hl
  obtain ⟨x, h1, h2⟩ := List.mem_map.mp hl
  exact ⟨x, h1, h2⟩
theorem mem_lead {e : El} {x : List Int × Nat} (h : x ∈ e.bs) : x.1 ∈ e.rows ∧ x.2 ∈ e.leads := List.of_mem_zip h
theorem bb5 {k : Nat} (h : k ≤ 5) {i : Int} (b : Bits (bb k) i) : Bits 4000 i := b.mono (Nat.le_trans (bb_mono h) (by decide))
theorem qsS_len (S : Nat) {m : List (List Rat)} {cs : List Rat} (h : cs.length = m.length) : (qsS S m cs).length = m.length := by
  unfold qsS
  rw [List.length_map, List.length_zip, h, Nat.min_self]
theorem qsS_at (S : Nat) {m : List (List Rat)} {cs : List Rat} (h : cs.length = m.length) {i : Nat} (hi : i < m.length) : (qsS S m cs)[i]? = some (vq (rowS S (m.getD i []) (cs.getD i 0))) := by
  have h1 := getD_in (d := ([] : List Rat)) hi
  have h2 := getD_in (d := (0 : Rat)) (show i < cs.length by omega)
  have h3 : (m.zip cs)[i]? = some (m.getD i [], cs.getD i 0) := List.getElem?_zip_eq_some.mpr ⟨h1, h2⟩
  unfold qsS
  rw [List.getElem?_map, h3]
  rfl
/-- what is left of the row i -/
theorem Gi.left (h : SysQ n S M M2 m cs) {i : Nat} (hi : i < m.length) (g : Gi n S m cs i) : vcI (redE S (elimN n S m cs i) (m.getD i []) (cs.getD i 0)) = red (bsV (elimN n S m cs i).bs) (vcI (intR S (m.getD i []) (cs.getD i 0))) ∧
    (redE S (elimN n S m cs i) (m.getD i []) (cs.getD i 0)).length = n + 1 ∧ ∀ j < n + 1, (redE S (elimN n S m cs i) (m.getD i []) (cs.getD i 0)).getD j 0 = 0 ↔ redQ (lbQ n ((qsS S m cs).take i)) (vq (rowS S (m.getD i []) (cs.getD i 0))) j = 0 := by
  have hr := getD_mem (d := ([] : List Rat)) hi
  have hc := getD_mem (d := (0 : Rat)) (show i < cs.length by rw [h.len]; exact hi)
  generalize m.getD i [] = r at *
  generalize cs.getD i 0 = c at *
  have hR : (intR S r c).length = n + 1 := by rw [intR_len, h.wide r hr]
  have e1 : vcI (redE S (elimN n S m cs i) r c) = red (bsV (elimN n S m cs i).bs) (vcI (intR S r c)) := stI_all (fun x hx => (g.ri.len x hx).1) hR
  refine ⟨e1, by unfold redE; rw [stI_len, hR], fun j hj => ?_⟩
  show vcI (redE S (elimN n S m cs i) r c) j = 0 ↔ _
  rw [e1]
  exact red_ne g.lk (int_ne (by have := h.b_ne hr; omega)) (h.scaled hr hc) hj
theorem Gi.step (h : SysQ n S M M2 m cs) {i : Nat} (hi : i < m.length) (g : Gi n S m cs i) : Gi n S m cs (i + 1) := by
  obtain ⟨e1, e2, e3⟩ := g.left h hi
  have hq := qsS_at S h.len hi
  have hr := getD_mem (d := ([] : List Rat)) hi
  have hc := getD_mem (d := (0 : Rat)) (show i < cs.length by rw [h.len]; exact hi)
  have et : (qsS S m cs).take (i + 1) = (qsS S m cs).take i ++ [vq (rowS S (m.getD i []) (cs.getD i 0))] := by rw [List.take_succ, hq]; rfl
  have hE : elimN n S m cs (i + 1) = stepE n S i (elimN n S m cs i) (m.getD i []) (cs.getD i 0) := rfl
  have hs := h.scaled hr hc
  have hb := h.ibits hr hc
  have hbn := h.b_ne hr
  have f := h.few
  have hu := used_fnq (n := n) (red := redE S (elimN n S m cs i) (m.getD i []) (cs.getD i 0)) (q := redQ (lbQ n ((qsS S m cs).take i)) (vq (rowS S (m.getD i []) (cs.getD i 0)))) fun j hj => e3 j (by omega)
  obtain ⟨lk, wb, rl, ri, ld, few, nd, hb6⟩ := g
  have same : ∀ e' : El, elimN n S m cs (i + 1) = e' → e'.rows = (elimN n S m cs i).rows → e'.leads = (elimN n S m cs i).leads → fnq n (redQ (lbQ n ((qsS S m cs).take i)) (vq (rowS S (m.getD i []) (cs.getD i 0)))) = none → Gi n S m cs (i + 1) := fun e' he h1 h2 hn => by
    have hb : e'.bs = (elimN n S m cs i).bs := by unfold El.bs; rw [h1, h2]
    refine ⟨?_, ?_, ?_, ?_, ?_, ?_, ?_, ?_⟩
    · rw [he, hb, et, lbQ_snoc]
      unfold stQ
      rw [hn]
      exact lk
    · rw [he, hb]; exact wb
    · rw [he, h1, h2]; exact rl
    · rw [he, hb]; exact ri
    · rw [he, hb]; exact ld
    · rw [he, hb]; omega
    · rw [he, h2]; exact nd
    · rw [he, hb]; exact hb6
  generalize vq (rowS S (m.getD i []) (cs.getD i 0)) = q at *
  generalize hA : lbQ n ((qsS S m cs).take i) = A at *
  generalize hR : vcI (intR S (m.getD i []) (cs.getD i 0)) = R at *
  cases c : usedE n (redE S (elimN n S m cs i) (m.getD i []) (cs.getD i 0)) with
  | nil =>
    rw [c] at hu
    have hn : fnq n (redQ A q) = none := hu.symm
    unfold stepE at hE
    rw [c] at hE
    dsimp only at hE
    split at hE
    · exact same _ hE rfl rfl hn
    · exact same _ hE rfl rfl hn
  | cons l us =>
    rw [c] at hu
    have hn : fnq n (redQ A q) = some l := hu.symm
    unfold stepE at hE
    rw [c] at hE
    dsimp only at hE
    generalize redE S (elimN n S m cs i) (m.getD i []) (cs.getD i 0) = t at *
    generalize elimN n S m cs i = e at *
    obtain ⟨hl, hnz, hz⟩ := fnq_some hn
    have tl : t.getD l 0 ≠ 0 := fun z => hnz ((e3 l (by omega)).mp z)
    have hbs : (⟨e.basis ++ [i], e.rows ++ [t], e.leads ++ [l], e.wrong⟩ : El).bs = e.bs ++ [(t, l)] := zip_snoc rl t l
    have hp : red (bsV e.bs) R l ≠ 0 := by rw [← e1]; exact tl
    have hbv : bsV (e.bs ++ [(t, l)]) = bsV e.bs ++ [(red (bsV e.bs) R, l)] := by rw [bsV_snoc, e1]
    have wf : WB (bsV e.bs) := by
      have := wb (bsV e.bs).length
      rw [List.take_length] at this
      exact this
    have lv : (bsV e.bs).length = e.bs.length := by unfold bsV; rw [List.length_map]
    refine ⟨?_, fun k => ?_, ?_, ?_, ?_, ?_, ?_, ?_⟩
    · rw [hE, hbs, hbv, et, lbQ_snoc, hA]
      unfold stQ
      rw [hn]
      exact .snoc lk (by omega) (int_ne (by omega)) hs hp
    · rw [hE, hbs, hbv]
      by_cases k1 : k ≤ (bsV e.bs).length
      · rw [List.take_append_of_le_length k1]
        exact wb k
      · rw [List.take_of_length_le (by rw [List.length_append, List.length_singleton]; omega)]
        exact wf.snoc (link lk).1 hp hb
    · rw [hE]
      dsimp only
      rw [List.length_append, List.length_append, rl]
      rfl
    · rw [hE, hbs]
      have new : ∀ {x : List Int × Nat}, x ∈ e.bs ++ [(t, l)] → x ∈ e.bs ∨ x = (t, l) := fun {x} hx => (List.mem_append.mp hx).imp id List.mem_singleton.mp
      refine ⟨fun x hx => ?_, fun x hx => ?_, fun x hx => ?_, by rw [List.length_append, List.length_singleton]; omega⟩
      · rcases new hx with hx | rfl
        · exact ri.len x hx
        · exact ⟨e2, by show l < n + 1; omega⟩
      · rcases new hx with hx | rfl
        · exact ri.ne x hx
        · exact tl
      · rcases new hx with hx | rfl
        · exact ri.bits x hx
        · intro y hy
          obtain ⟨j, hj, rfl⟩ := List.mem_iff_getElem.mp hy
          have q1 := wf R hb j
          rw [← e1] at q1
          have q2 : vcI t j = t[j] := by
            show t.getD j 0 = _
            rw [List.getD_eq_getElem?_getD, List.getElem?_eq_getElem hj]
            rfl
          rw [q2, lv] at q1
          exact bb5 (by omega) q1
    · rw [hE, hbs]
      intro x hx
      rcases List.mem_append.mp hx with hx | hx
      · exact ld x hx
      · rw [List.mem_singleton.mp hx]
        exact ⟨hl, fun j hj => (e3 j (by have : j < l := hj; omega)).mpr (hz j hj)⟩
    · rw [hE, hbs, List.length_append, List.length_singleton]
      omega
    · rw [hE]
      dsimp only
      refine List.nodup_append.mpr ⟨nd, by simp, fun a ha b hb2 z => ?_⟩
      rw [List.mem_singleton.mp hb2] at z
      subst z
      obtain ⟨x, hx, rfl⟩ := lead_mem rl ha
      exact hp (Dg.red_lead lk (vcI x.1, x.2) (List.mem_map.mpr ⟨x, hx, rfl⟩) R)
    · rw [hE, hbs]
      intro x hx j
      rcases List.mem_append.mp hx with hx | hx
      · exact hb6 x hx j
      · rw [List.mem_singleton.mp hx]
        have q1 := wf R hb j
        rw [← e1, lv] at q1
        exact q1.mono (bb_mono (by omega))
theorem Gi.all (h : SysQ n S M M2 m cs) : ∀ i ≤ m.length, Gi n S m cs i
  | 0, _ => Gi.zero n S m cs
  | i + 1, hi => (Gi.all h i (by omega)).step h (by omega)
end
end Lq
/-! ### ranks, contradictions, bounds -/
namespace Lq
open Dg (Vc Vq stepQ redQ redQ_snoc Lk2 red red_snoc stepR dv Good link dv_snoc fnq fnq_some fnq_none fnq_congr stQ lbQ lbQ_snoc)
theorem nodup_le : ∀ {xs ys : List Nat}, xs.Nodup → (∀ x ∈ xs, x ∈ ys) → xs.length ≤ ys.length
  | [], _, _, _ => Nat.zero_le _
  | x :: xs, ys, nd, h => by
    obtain ⟨h1, h2⟩ := List.nodup_cons.mp nd
    have hx := h x List.mem_cons_self
    have e := List.length_erase_of_mem hx
    have p := List.length_pos_of_mem hx
    have := nodup_le (ys := ys.erase x) h2 fun y hy => (List.mem_erase_of_ne (fun c => h1 (by rw [← c]; exact hy))).mpr (h y (List.mem_cons_of_mem _ hy))
    rw [List.length_cons]
    omega
section
variable {n S M M2 : Nat} {m : List (List Rat)} {cs : List Rat}
theorem lk_len {J : Nat → Prop} {bs : List (Vc × Nat)} {lb : List (Vq × Nat)} (h : Lk2 J bs lb) : bs.length = lb.length := by
  induction h with
  | nil => rfl
  | snoc _ _ _ _ _ ih => rw [List.length_append, List.length_append, ih]; rfl
theorem bs_len {e : El} (h : e.rows.length = e.leads.length) : e.bs.length = e.rows.length := by
  unfold El.bs
  rw [List.length_zip, ← h, Nat.min_self]
theorem take_bsV (bs : List (List Int × Nat)) (k : Nat) : bsV (bs.take k) = (bsV bs).take k := List.map_take
theorem SysQ.ok (h : SysQ n S M M2 m cs) : ElOk n S m cs := by
  have m1 := h.m1
  have m2 := h.m2
  refine ⟨h.len, h.few, h.wide, h.none_, h.bot, ⟨M2, m2.1, m2.2, fun c hc => (h.cons c hc).den m2.1⟩, ⟨M, m1.1, by omega, fun r hr e he => (h.rows r hr e he).den m1.1⟩, fun c hc => ?_, fun r hr e he => ?_, ?_, fun i hi => ?_, fun i hi k hk y hy => ?_⟩
  · exact (h.cons c hc).bits m2.1 (Nat.lt_of_lt_of_le m2.2 (by decide)) (by decide)
  · exact (h.rows r hr e he).bits m1.1 (Nat.lt_of_lt_of_le m1.2 (by decide)) (by decide)
  · exact (bits_dvd m2.1 h.S_dvd m2.2).mono (by decide)
  · exact ⟨(Gi.all h i hi).ri, (Gi.all h i hi).rl⟩
  · have g := Gi.all h i (by omega)
    have hr := getD_mem (d := ([] : List Rat)) hi
    have hc := getD_mem (d := (0 : Rat)) (show i < cs.length by rw [h.len]; exact hi)
    have f := h.few
    have gf := g.few
    generalize m.getD i [] = r at *
    generalize cs.getD i 0 = c at *
    have hR : (intR S r c).length = n + 1 := by rw [intR_len, h.wide r hr]
    have e1 := (stI_red (fun x hx => (g.ri.len x hx).1) hR k).2
    obtain ⟨j, hj, rfl⟩ := List.mem_iff_getElem.mp hy
    have q1 := g.wb k _ (h.ibits hr hc) j
    rw [← take_bsV, ← e1] at q1
    have q2 : vcI (stI ((elimN n S m cs i).bs.take k) (intR S r c)).2 j = (stI ((elimN n S m cs i).bs.take k) (intR S r c)).2[j] := by
      show List.getD _ j 0 = _
      rw [List.getD_eq_getElem?_getD, List.getElem?_eq_getElem hj]
      rfl
    rw [q2] at q1
    refine bb5 ?_ q1
    unfold bsV
    rw [List.length_map, List.length_take]
    omega
theorem SysQ.lbq (h : SysQ n S M M2 m cs) : (lbQ n (qsS S m cs)).length = (lbOf n m).length := by
  have e := Dg.lbQ_agree (n := n) (fun p : List Rat × Rat => vq (rowS S p.1 p.2)) (fun p : List Rat × Rat => vq p.1) (m.zip cs) fun p hp j hj => rowS_at (by rw [h.wide p.1 (List.of_mem_zip hp).1]; exact hj)
  have e2 : (m.zip cs).map (fun p : List Rat × Rat => vq p.1) = m.map vq := by
    have : (m.zip cs).map Prod.fst = m := List.map_fst_zip (by rw [h.len]; exact Nat.le_refl _)
    conv => rhs; rw [← this]
    rw [List.map_map]
    rfl
  rw [e2] at e
  rw [lbOf_len h.wide]
  exact e.len
theorem SysQ.leads_len (h : SysQ n S M M2 m cs) : (elimN n S m cs m.length).leads.length = (lbOf n m).length := by
  have g := Gi.all h m.length (Nat.le_refl _)
  have l := lk_len g.lk
  rw [show (qsS S m cs).take m.length = qsS S m cs by rw [← qsS_len S h.len, List.take_length], h.lbq] at l
  unfold bsV at l
  rw [List.length_map, bs_len g.rl, g.rl] at l
  exact l
theorem SysQ.rank_eq (h : SysQ n S M M2 m cs) : (elimN n S m cs m.length).basis.length = (lbOf n m).length := by
  rw [elimN_basis, (Gi.all h m.length (Nat.le_refl _)).rl, h.leads_len]
theorem SysQ.free_iff (h : SysQ n S M M2 m cs) : freeE n (elimN n S m cs m.length) = [] ↔ n ≤ (lbOf n m).length := by
  have g := Gi.all h m.length (Nat.le_refl _)
  rw [← h.leads_len]
  have lt : ∀ l ∈ (elimN n S m cs m.length).leads, l < n := fun l hl => by
    obtain ⟨x, hx, rfl⟩ := lead_mem g.rl hl
    exact (g.ld x hx).1
  have nd := g.nd
  generalize (elimN n S m cs m.length) = e at *
  unfold freeE
  rw [List.filter_eq_nil_iff]
  constructor
  · intro hf
    have := nodup_le (xs := List.range n) (ys := e.leads) List.nodup_range fun x hx => by
      have := hf x hx
      simpa using this
    rw [List.length_range] at this
    exact this
  · intro hl c hc
    have hc := List.mem_range.mp hc
    by_cases q : c ∈ e.leads
    · simp [q]
    · exfalso
      have := nodup_le (xs := c :: e.leads) (ys := List.range n) (List.nodup_cons.mpr ⟨q, nd⟩) fun x hx => by
        rcases List.mem_cons.mp hx with rfl | hx
        · exact List.mem_range.mpr hc
        · exact List.mem_range.mpr (lt x hx)
      rw [List.length_range, List.length_cons] at this
      omega
/-- a contradiction is found where one is -/
theorem SysQ.wrong_iff (h : SysQ n S M M2 m cs) : ∀ i ≤ m.length, (elimN n S m cs i).wrong ≠ none ↔ Dg.Wr n (qsS S m cs) i
  | 0, _ => ⟨fun c => absurd rfl c, fun ⟨_, c, _⟩ => by omega⟩
  | i + 1, hi => by
    have hi : i < m.length := by omega
    have ih := h.wrong_iff i (by omega)
    have g := Gi.all h i (by omega)
    obtain ⟨e1, e2, e3⟩ := g.left h hi
    have hq := qsS_at S h.len hi
    have hE : elimN n S m cs (i + 1) = stepE n S i (elimN n S m cs i) (m.getD i []) (cs.getD i 0) := rfl
    have hu := used_fnq (n := n) (red := redE S (elimN n S m cs i) (m.getD i []) (cs.getD i 0)) (q := redQ (lbQ n ((qsS S m cs).take i)) (vq (rowS S (m.getD i []) (cs.getD i 0)))) fun j hj => e3 j (by omega)
    have e3n := e3 n (by omega)
    have wr : Dg.Wr n (qsS S m cs) (i + 1) ↔ Dg.Wr n (qsS S m cs) i ∨ Dg.Wq n (lbQ n ((qsS S m cs).take i)) (vq (rowS S (m.getD i []) (cs.getD i 0))) := by
      constructor
      · rintro ⟨k, hk, q, hq', w⟩
        by_cases c : k = i
        · subst c
          rw [hq] at hq'
          cases hq'
          exact .inr w
        · exact .inl ⟨k, by omega, q, hq', w⟩
      · rintro (⟨k, hk, w⟩ | w)
        · exact ⟨k, by omega, w⟩
        · exact ⟨i, by omega, _, hq, w⟩
    rw [wr, ← ih]
    unfold Dg.Wq
    generalize vq (rowS S (m.getD i []) (cs.getD i 0)) = q at *
    generalize lbQ n ((qsS S m cs).take i) = A at *
    unfold stepE at hE
    generalize redE S (elimN n S m cs i) (m.getD i []) (cs.getD i 0) = t at *
    generalize elimN n S m cs i = e at *
    rw [← hu, show (redQ A q n ≠ 0) ↔ t.getD n 0 ≠ 0 from (not_congr e3n).symm]
    cases c : usedE n t with
    | cons l us =>
      rw [c] at hE
      rw [hE]
      simp
    | nil =>
      rw [c] at hE
      dsimp only at hE
      rw [hE]
      by_cases c1 : t.getD n 0 ≠ 0 ∧ e.wrong = none
      · rw [if_pos c1]
        simp only [List.head?_nil, true_and]
        exact ⟨fun _ => .inr c1.1, fun _ z => nomatch z⟩
      · rw [if_neg c1]
        simp only [List.head?_nil, true_and]
        refine ⟨.inl, fun z => z.elim id fun z => ?_⟩
        intro w
        exact c1 ⟨z, w⟩
def augL (m : List (List Rat)) (cs : List Rat) : List (List Rat) := (m.zip cs).map fun p => p.1 ++ [p.2]
def kS (n S : Nat) : Nat → Rat := fun j => if j = n then ((S : Int) : Rat) else 1
theorem SysQ.aug_sc (h : SysQ n S M M2 m cs) : qsS S m cs = ((augL m cs).map vq).map (Dg.scq (kS n S)) := by
  unfold qsS augL
  rw [List.map_map, List.map_map]
  refine List.map_congr_left fun p hp => ?_
  have w := h.wide p.1 (List.of_mem_zip hp).1
  funext j
  show (rowS S p.1 p.2).getD j 0 = kS n S j * (p.1 ++ [p.2]).getD j 0
  unfold kS
  by_cases c : j < n
  · rw [rowS_at (by omega), if_neg (by omega), List.getD_eq_getElem?_getD, List.getD_eq_getElem?_getD, List.getElem?_append_left (by omega)]
    grind
  · by_cases c2 : j = n
    · rw [rowS_last (by omega), if_pos c2, List.getD_eq_getElem?_getD, List.getElem?_append_right (by omega), show j - p.1.length = 0 by omega]
      rfl
    · rw [getD_out (by unfold rowS; rw [List.length_append, List.length_singleton]; omega), getD_out (r := p.1 ++ [p.2]) (by rw [List.length_append, List.length_singleton]; omega)]
      grind
theorem SysQ.aug_len (h : SysQ n S M M2 m cs) : ∀ r ∈ augL m cs, r.length = n + 1 := fun r hr => by
  obtain ⟨p, hp, rfl⟩ := List.mem_map.mp hr
  rw [List.length_append, h.wide p.1 (List.of_mem_zip hp).1]
  rfl
theorem SysQ.wrong_rank (h : SysQ n S M M2 m cs) : (elimN n S m cs m.length).wrong ≠ none ↔ (lbOf n m).length < (lbOf (n + 1) (augL m cs)).length := by
  rw [h.wrong_iff m.length (Nat.le_refl _), lbOf_len h.aug_len, ← h.lbq]
  have e := Dg.lbQ_sc (k := kS n S) (fun j => by
    unfold kS
    split
    · exact int_ne (by have := h.S_ne; omega)
    · grind) (n + 1) ((augL m cs).map vq)
  rw [← h.aug_sc] at e
  have e2 : (lbQ (n + 1) (qsS S m cs)).length = (lbQ (n + 1) ((augL m cs).map vq)).length := by
    rw [e]
    unfold Dg.scb
    rw [List.length_map]
  rw [← e2, Dg.aug_gt, qsS_len S h.len]
end
end Lq
/-! ### the solution -/
namespace Lq
open Dg (Vc Vq Lk2 red red_snoc dv Good link dv_snoc unit sol sumF sumF_succ cutv comb LinF form_red red_self red_lead red_unit red_sum sol_row)
section
theorem dv_last {bs : List (Vc × Nat)} (h : bs ≠ []) : dv bs = (bs.getLast h).1 (bs.getLast h).2 := by
  conv => lhs; rw [← List.dropLast_concat_getLast h]
  rw [dv_snoc]
theorem dv_det {e : El} (h : e.rows.length = e.leads.length) : dv (bsV e.bs) = detI e.rows e.leads := by
  unfold detI
  by_cases c : e.rows = []
  · rw [if_pos c]
    unfold El.bs
    rw [c, List.zip_nil_left]
    rfl
  · rw [if_neg c]
    have p : 0 < e.rows.length := List.length_pos_iff.mpr c
    have bl := bs_len h
    have nb : bsV e.bs ≠ [] := fun z => by
      have := congrArg List.length z
      unfold bsV at this
      rw [List.length_map, bl] at this
      have this : e.rows.length = 0 := this
      omega
    have hx : e.bs[e.rows.length - 1]? = some (e.rows.getD (e.rows.length - 1) [], e.leads.getD (e.leads.length - 1) 0) := by
      unfold El.bs
      exact List.getElem?_zip_eq_some.mpr ⟨getD_in (by omega), by rw [h]; exact getD_in (by omega)⟩
    have hl : (bsV e.bs).getLast? = some (vcI (e.rows.getD (e.rows.length - 1) []), e.leads.getD (e.leads.length - 1) 0) := by
      rw [List.getLast?_eq_getElem?]
      unfold bsV
      rw [List.length_map, bl, List.getElem?_map, hx]
      rfl
    rw [dv_last nb]
    rw [List.getLast?_eq_some_getLast nb] at hl
    rw [Option.some.inj hl]
    rfl
/-- the numbers times the determinant: the constants' part, and that of the column fr -/
def yS (bs : List (Vc × Nat)) (n S : Nat) (fr : Option Nat) (i : Nat) : Int := sol bs n i - match fr with
  | some c => (S : Int) * sol bs c i
  | none => 0
def yL (bs : List (Vc × Nat)) (n S : Nat) (fr : Option Nat) : List Int := (List.range n).map (yS bs n S fr)
theorem yL_at {bs : List (Vc × Nat)} {n S : Nat} {fr : Option Nat} {i : Nat} (h : i < n) : (yL bs n S fr).getD i 0 = yS bs n S fr i := by
  unfold yL
  rw [List.getD_eq_getElem?_getD, List.getElem?_map, List.getElem?_range h]
  rfl
theorem sumF_mul (n : Nat) (a b : Int) (f g : Nat → Int) : sumF n (fun i => a * f i + b * g i) = a * sumF n f + b * sumF n g := by
  induction n with
  | zero => simp [sumF]
  | succ n ih => rw [sumF_succ, sumF_succ, sumF_succ, ih]; grind
theorem sumF_neg (n : Nat) (f : Nat → Int) : sumF n (fun i => - f i) = - sumF n f := by
  induction n with
  | zero => rfl
  | succ n ih => rw [sumF_succ, sumF_succ, ih]; omega
theorem sumF_congr {n : Nat} {f g : Nat → Int} (h : ∀ i < n, f i = g i) : sumF n f = sumF n g := by
  induction n with
  | zero => rfl
  | succ n ih => rw [sumF_succ, sumF_succ, ih fun i hi => h i (by omega), h n (by omega)]
variable {J : Nat → Prop} {bs : List (Vc × Nat)} {lb : List (Vq × Nat)} {n S : Nat}
theorem sol_off (h : Lk2 J bs lb) {c i : Nat} (hi : ∀ x ∈ bs, x.2 ≠ i) : sol bs c i = - (dv bs * unit i c) := by
  unfold sol
  rw [red_unit h hi]
/-- a basis row and the column c, a free one -/
theorem sol_free (h : Lk2 J bs lb) {c : Nat} (hc : c < n) (hn : ∀ x ∈ bs, x.2 ≠ n) {u : Vc} (hu : red bs (cutv (n + 1) u) c = 0) : sumF n (fun i => u i * sol bs c i) = 0 := by
  rw [red_sum h, sumF_succ, red_unit h hn] at hu
  have e : unit n c = 0 := if_neg (by omega)
  rw [e, Int.mul_zero, Int.mul_zero, Int.add_zero] at hu
  have z : sumF n (fun i => u i * sol bs c i) = - sumF n fun i => u i * red bs (unit i) c := by
    rw [← sumF_neg]
    refine sumF_congr fun i _ => ?_
    unfold sol
    grind
  rw [z, hu]
  rfl
theorem y_row (h : Lk2 J bs lb) (hn : ∀ x ∈ bs, x.2 ≠ n) {fr : Option Nat} (hf : ∀ c, fr = some c → c < n) {u : Vc} (hu : ∀ j, red bs (cutv (n + 1) u) j = 0) : sumF n (fun i => u i * yS bs n S fr i) = dv bs * u n := by
  have a := sol_row h hn (hu n)
  cases fr with
  | none =>
    rw [← a]
    refine sumF_congr fun i _ => ?_
    unfold yS
    dsimp only
    rw [Int.sub_zero]
  | some c =>
    have b := sol_free (n := n) h (hf c rfl) hn (hu c)
    have := sumF_mul n 1 (-(S : Int)) (fun i => u i * sol bs n i) (fun i => u i * sol bs c i)
    rw [a, b] at this
    rw [Int.mul_zero, Int.add_zero, Int.one_mul] at this
    rw [← this]
    refine sumF_congr fun i _ => ?_
    unfold yS
    dsimp only
    grind
theorem y_free (h : Lk2 J bs lb) {fr : Option Nat} {c : Nat} (hc : c < n) (hl : ∀ x ∈ bs, x.2 ≠ c) : yS bs n S fr c = frI fr c * (S : Int) * dv bs := by
  unfold yS frI
  rw [sol_off h hl, show unit c n = 0 from if_neg (by omega)]
  cases fr with
  | none => simp
  | some d =>
    dsimp only
    rw [sol_off h hl]
    by_cases e : c = d
    · subst e
      rw [if_pos rfl, show unit c c = 1 from if_pos rfl]
      grind
    · rw [if_neg (fun z => e (Option.some.inj z).symm), show unit c d = 0 from if_neg (fun z => e z.symm)]
      simp
theorem tail_eq {row Y : List Int} {l : Nat} (hz : ∀ j < l, row.getD j 0 = 0) : ∀ k, sumF (l + 1 + k) (fun i => row.getD i 0 * Y.getD i 0) = row.getD l 0 * Y.getD l 0 + tailS row Y l k
  | 0 => by
    rw [Nat.add_zero, sumF_succ]
    have : sumF l (fun i => row.getD i 0 * Y.getD i 0) = 0 := by
      have e : sumF l (fun i => row.getD i 0 * Y.getD i 0) = sumF l fun _ => 0 := sumF_congr fun i hi => by rw [hz i hi, Int.zero_mul]
      rw [e]
      clear e hz
      induction l with
      | zero => rfl
      | succ l ih => rw [sumF_succ, ih]; rfl
    rw [this]
    show 0 + _ = _ + 0
    omega
  | k + 1 => by
    rw [← Nat.add_assoc, sumF_succ, tail_eq hz k]
    show _ + _ + _ = _ + (_ + _)
    omega
end
section
variable {n S M M2 : Nat} {m : List (List Rat)} {cs : List Rat}
theorem cut_row {L : Nat} {r : List Int} (h : r.length = L) : cutv L (vcI r) = vcI r := by
  funext j
  show (if j < L then r.getD j 0 else 0) = r.getD j 0
  by_cases c : j < L
  · rw [if_pos c]
  · rw [if_neg c, getD_out (by omega)]
theorem SysQ.y_bits (h : SysQ n S M M2 m cs) (fr : Option Nat) : ∀ y ∈ yL (bsV (elimN n S m cs m.length).bs) n S fr, Bits 5910 y := fun y hy => by
  have g := Gi.all h m.length (Nat.le_refl _)
  have f := h.few
  have sb : Bits 80 (S : Int) := bits_dvd h.m2.1 h.S_dvd h.m2.2
  have wb := g.wb
  have few := g.few
  generalize elimN n S m cs m.length = e at *
  unfold yL at hy
  obtain ⟨i, hi, rfl⟩ := List.mem_map.mp hy
  have wf : WB (bsV e.bs) := by
    have := wb (bsV e.bs).length
    rw [List.take_length] at this
    exact this
  have lv : (bsV e.bs).length = e.bs.length := by unfold bsV; rw [List.length_map]
  have ub : ∀ c i, Bits 5823 (sol (bsV e.bs) c i) := fun c i => by
    unfold sol
    refine Bits.neg ?_
    have := wf (unit i) (fun j => by
      show (if j = i then (1 : Int) else 0).natAbs < 2 ^ 90
      split <;> decide) c
    rw [lv] at this
    exact this.mono (Nat.le_trans (bb_mono (show e.bs.length ≤ 6 by omega)) (by decide))
  unfold yS
  cases fr with
  | none =>
    dsimp only
    rw [Int.sub_zero]
    exact (ub n i).mono (by decide)
  | some c =>
    dsimp only
    exact Bits.sub (a := 5823) (b := 80 + 5823) (ub n i) (sb.mul (ub c i)) (by decide) (by decide)
theorem SysQ.sol_ok (h : SysQ n S M M2 m cs) (fr : Option Nat) (hf : ∀ c, fr = some c → c < n) : SolOk n S (elimN n S m cs m.length) fr (yL (bsV (elimN n S m cs m.length).bs) n S fr) := by
  have g := Gi.all h m.length (Nat.le_refl _)
  have f := h.few
  have sb : Bits 80 (S : Int) := bits_dvd h.m2.1 h.S_dvd h.m2.2
  have sn := h.S_ne
  obtain ⟨lk, wb, rl, ri, ld, few, nd, hb6⟩ := g
  have hd := dv_det rl
  have yb := h.y_bits fr
  have memV : ∀ {y : Vc × Nat}, y ∈ bsV (elimN n S m cs m.length).bs → ∃ x ∈ (elimN n S m cs m.length).bs, (vcI x.1, x.2) = y := fun {y} hy => List.mem_map.mp hy
  generalize elimN n S m cs m.length = e at *
  have hn : ∀ y ∈ bsV e.bs, y.2 ≠ n := fun y hy => by
    obtain ⟨x, hx, rfl⟩ := memV hy
    have := (ld x hx).1
    show x.2 ≠ n
    omega
  refine ⟨fun l hl => ?_, nd, by unfold yL; rw [List.length_map, List.length_range], sn, fun c hc hl => ?_, fun x hx => ?_, fun y hy => ?_⟩
  · obtain ⟨x, hx, rfl⟩ := lead_mem rl hl
    exact (ld x hx).1
  · rw [yL_at hc, y_free lk hc, hd]
    intro y hy z
    obtain ⟨x, hx, rfl⟩ := memV hy
    exact hl (z ▸ (mem_lead hx).2)
  · obtain ⟨l1, l2⟩ := ld x hx
    have e1 := y_row (S := S) (fr := fr) lk hn hf (u := vcI x.1) fun j => by
      rw [cut_row (ri.len x hx).1]
      exact red_self lk (vcI x.1, x.2) (List.mem_map.mpr ⟨x, hx, rfl⟩) j
    have e2 := tail_eq (row := x.1) (Y := yL (bsV e.bs) n S fr) (l := x.2) l2 (n - (x.2 + 1))
    rw [show x.2 + 1 + (n - (x.2 + 1)) = n by omega] at e2
    have e3 : sumF n (fun i => vcI x.1 i * yS (bsV e.bs) n S fr i) = sumF n (fun i => x.1.getD i 0 * (yL (bsV e.bs) n S fr).getD i 0) := sumF_congr fun i hi => by rw [yL_at hi]; rfl
    rw [e3, e2, hd] at e1
    have e4 : vcI x.1 n = x.1.getD n 0 := rfl
    rw [e4, Int.mul_comm (detI e.rows e.leads)] at e1
    omega
  · exact (yb y hy).mono (by decide)
/-- what the numbers are parts of -/
theorem SysQ.pts (h : SysQ n S M M2 m cs) (fr : Option Nat) : ∃ c : Int, c ≠ 0 ∧ Bits 3400 c ∧ ∀ e ∈ solY S (elimN n S m cs m.length) (yL (bsV (elimN n S m cs m.length).bs) n S fr), PtQ c 7000 e := by
  have g := Gi.all h m.length (Nat.le_refl _)
  have sb : Bits 80 (S : Int) := bits_dvd h.m2.1 h.S_dvd h.m2.2
  have sn := h.S_ne
  have yb := h.y_bits fr
  have hd := dv_det g.rl
  have d0 : detI (elimN n S m cs m.length).rows (elimN n S m cs m.length).leads ≠ 0 := by rw [← hd]; exact (link g.lk).1.ne
  have db : Bits 2911 (detI (elimN n S m cs m.length).rows (elimN n S m cs m.length).leads) := by
    unfold detI
    by_cases c : (elimN n S m cs m.length).rows = []
    · rw [if_pos c]
      exact Bits.mono (a := 1) (show (1 : Int).natAbs < 2 ^ 1 by decide) (by decide)
    · rw [if_neg c]
      exact (g.hb _ (zip_last g.rl c) _).mono (by decide)
  refine ⟨detI (elimN n S m cs m.length).rows (elimN n S m cs m.length).leads * (S : Int), Int.mul_ne_zero d0 (by omega), (db.mul sb).mono (by decide), fun e he => ?_⟩
  unfold solY at he
  obtain ⟨y, hy, rfl⟩ := List.mem_map.mp he
  exact ⟨y, rfl, (yb y hy).mono (by decide)⟩
theorem bs_step (h : SysQ n S M M2 m cs) {k : Nat} (hk : k < m.length) : ∀ x ∈ (elimN n S m cs k).bs, x ∈ (elimN n S m cs (k + 1)).bs := by
  have rl := (Gi.all h k (by omega)).rl
  have hE : elimN n S m cs (k + 1) = stepE n S k (elimN n S m cs k) (m.getD k []) (cs.getD k 0) := rfl
  rw [hE]
  generalize elimN n S m cs k = e at *
  unfold stepE
  intro x hx
  split
  · show x ∈ (e.rows ++ [_]).zip (e.leads ++ [_])
    rw [zip_snoc rl]
    exact List.mem_append_left _ hx
  · split
    · exact hx
    · exact hx
theorem bs_mono (h : SysQ n S M M2 m cs) {k : Nat} : ∀ d, k + d ≤ m.length → ∀ x ∈ (elimN n S m cs k).bs, x ∈ (elimN n S m cs (k + d)).bs
  | 0, _ => fun _ hx => hx
  | d + 1, hd => fun x hx => by
    show x ∈ (elimN n S m cs (k + d + 1)).bs
    exact bs_step h (by omega) x (bs_mono h d (by omega) x hx)
theorem bs_all (h : SysQ n S M M2 m cs) {k : Nat} (hk : k ≤ m.length) : ∀ x ∈ (elimN n S m cs k).bs, x ∈ (elimN n S m cs m.length).bs := by
  have := bs_mono h (k := k) (m.length - k) (by omega)
  rw [show k + (m.length - k) = m.length by omega] at this
  exact this
/-- put into the rows -/
def formY (n : Nat) (d : Int) (Y : Nat → Int) (v : Vc) : Rat := ((sumF n (fun i => v i * Y i) - d * v n : Int) : Rat)
theorem formY_lin (n : Nat) (d : Int) (Y : Nat → Int) : LinF (formY n d Y) := fun a b u w => by
  unfold formY
  have e : sumF n (fun i => comb a u b w i * Y i) = a * sumF n (fun i => u i * Y i) + b * sumF n (fun i => w i * Y i) := by
    rw [← sumF_mul]
    refine sumF_congr fun i _ => ?_
    show (a * u i + b * w i) * Y i = _
    grind
  rw [e, ← Rat.intCast_mul, ← Rat.intCast_mul, ← Rat.intCast_add]
  congr 1
  show _ - d * (a * u n + b * w n) = _
  grind
theorem formY_zero {n : Nat} {d : Int} {Y : Nat → Int} {v : Vc} (h : ∀ j < n + 1, v j = 0) : formY n d Y v = 0 := by
  unfold formY
  have e : sumF n (fun i => v i * Y i) = sumF n fun i => 0 * (0 : Int) + 0 * 0 := sumF_congr fun i hi => by rw [h i (by omega)]; simp
  rw [e, sumF_mul, h n (by omega)]
  simp
theorem SysQ.form_rows (h : SysQ n S M M2 m cs) (hw : (elimN n S m cs m.length).wrong = none) {fr : Option Nat} (hf : ∀ c, fr = some c → c < n) {k : Nat} (hk : k < m.length) :
    formY n (detI (elimN n S m cs m.length).rows (elimN n S m cs m.length).leads) (yS (bsV (elimN n S m cs m.length).bs) n S fr) (vcI (intR S (m.getD k []) (cs.getD k 0))) = 0 := by
  have G := Gi.all h m.length (Nat.le_refl _)
  have g := Gi.all h k (by omega)
  have hd := dv_det G.rl
  have zero : ∀ x ∈ (elimN n S m cs m.length).bs, formY n (detI (elimN n S m cs m.length).rows (elimN n S m cs m.length).leads) (yS (bsV (elimN n S m cs m.length).bs) n S fr) (vcI x.1) = 0 := fun x hx => by
    have hn : ∀ y ∈ bsV (elimN n S m cs m.length).bs, y.2 ≠ n := fun y hy => by
      obtain ⟨x, hx, rfl⟩ := List.mem_map.mp hy
      have := (G.ld x hx).1
      show x.2 ≠ n
      omega
    have e1 := y_row (S := S) (fr := fr) G.lk hn hf (u := vcI x.1) fun j => by
      rw [cut_row (G.ri.len x hx).1]
      exact red_self G.lk (vcI x.1, x.2) (List.mem_map.mpr ⟨x, hx, rfl⟩) j
    unfold formY
    rw [e1, hd, Int.sub_self]
    rfl
  obtain ⟨e1, e2, e3⟩ := g.left h hk
  have nowr : ¬ Dg.Wr n (qsS S m cs) m.length := fun z => (h.wrong_iff m.length (Nat.le_refl _)).mpr z hw
  have left0 : formY n (detI (elimN n S m cs m.length).rows (elimN n S m cs m.length).leads) (yS (bsV (elimN n S m cs m.length).bs) n S fr) (vcI (redE S (elimN n S m cs k) (m.getD k []) (cs.getD k 0))) = 0 := by
    cases c : usedE n (redE S (elimN n S m cs k) (m.getD k []) (cs.getD k 0)) with
    | cons l us =>
      refine zero (redE S (elimN n S m cs k) (m.getD k []) (cs.getD k 0), l) (bs_all h (k := k + 1) (by omega) _ ?_)
      show _ ∈ (stepE n S k (elimN n S m cs k) (m.getD k []) (cs.getD k 0)).bs
      have rl := g.rl
      unfold stepE
      rw [c]
      show _ ∈ List.zip (_ ++ [_]) (_ ++ [_])
      rw [zip_snoc rl]
      simp
    | nil =>
      have hu := used_fnq (n := n) (red := redE S (elimN n S m cs k) (m.getD k []) (cs.getD k 0)) (q := Dg.redQ (Dg.lbQ n ((qsS S m cs).take k)) (vq (rowS S (m.getD k []) (cs.getD k 0)))) fun j hj => e3 j (by omega)
      rw [c] at hu
      have hn : Dg.fnq n (Dg.redQ (Dg.lbQ n ((qsS S m cs).take k)) (vq (rowS S (m.getD k []) (cs.getD k 0)))) = none := hu.symm
      have hz : Dg.redQ (Dg.lbQ n ((qsS S m cs).take k)) (vq (rowS S (m.getD k []) (cs.getD k 0))) n = 0 := by
        by_cases z : Dg.redQ (Dg.lbQ n ((qsS S m cs).take k)) (vq (rowS S (m.getD k []) (cs.getD k 0))) n = 0
        · exact z
        · exact absurd ⟨k, hk, _, qsS_at S h.len hk, hn, z⟩ nowr
      refine formY_zero fun j hj => ?_
      refine (e3 j hj).mpr ?_
      by_cases q : j < n
      · exact Dg.fnq_none hn j q
      · rw [show j = n by omega]; exact hz
  have e4 := form_red (formY_lin n (detI (elimN n S m cs m.length).rows (elimN n S m cs m.length).leads) (yS (bsV (elimN n S m cs m.length).bs) n S fr)) g.lk (fun y hy => by
    obtain ⟨x, hx, rfl⟩ := List.mem_map.mp hy
    exact zero x (bs_all h (by omega) x hx)) (vcI (intR S (m.getD k []) (cs.getD k 0)))
  rw [← e1, left0] at e4
  have dn : (dv (bsV (elimN n S m cs k).bs) : Rat) ≠ 0 := int_ne (link g.lk).1.ne
  rcases Rat.mul_eq_zero.mp e4.symm with z | z
  · exact absurd z dn
  · exact z
theorem SysQ.solves (h : SysQ n S M M2 m cs) (hw : (elimN n S m cs m.length).wrong = none) {fr : Option Nat} (hf : ∀ c, fr = some c → c < n) {k : Nat} (hk : k < m.length) :
    dotN (m.getD k []) (solY S (elimN n S m cs m.length) (yL (bsV (elimN n S m cs m.length).bs) n S fr)) n = cs.getD k 0 := by
  have e := h.form_rows hw hf hk
  have G := Gi.all h m.length (Nat.le_refl _)
  have hd := dv_det G.rl
  have dne : detI (elimN n S m cs m.length).rows (elimN n S m cs m.length).leads ≠ 0 := by rw [← hd]; exact (link G.lk).1.ne
  have hr := getD_mem (d := ([] : List Rat)) hk
  have hc := getD_mem (d := (0 : Rat)) (show k < cs.length by rw [h.len]; exact hk)
  have sc := h.scaled hr hc
  have bn := h.b_ne hr
  have w := h.wide _ hr
  have sn := h.S_ne
  unfold formY solY at *
  generalize m.getD k [] = r at *
  generalize cs.getD k 0 = c at *
  generalize detI (elimN n S m cs m.length).rows (elimN n S m cs m.length).leads = d at *
  generalize hY : yS (bsV (elimN n S m cs m.length).bs) n S fr = Y at *
  have hb : ((botN r : Int) : Rat) ≠ 0 := int_ne (by omega)
  have hd0 : (d : Rat) ≠ 0 := int_ne dne
  have hs0 : ((S : Int) : Rat) ≠ 0 := int_ne (by omega)
  have v2 : ∀ j < n, ((yL (bsV (elimN n S m cs m.length).bs) n S fr).map fun (y : Int) => (y : Rat) / ((d * (S : Int) : Int) : Rat)).getD j 0 = (Y j : Rat) / ((d : Rat) * ((S : Int) : Rat)) := fun j hj => by
    unfold yL
    rw [List.getD_eq_getElem?_getD, List.getElem?_map, List.getElem?_map, List.getElem?_range hj, hY, ← Rat.intCast_mul]
    rfl
  generalize ((yL (bsV (elimN n S m cs m.length).bs) n S fr).map fun (y : Int) => (y : Rat) / ((d * (S : Int) : Int) : Rat)) = V at *
  have key : ∀ j ≤ n, ((sumF j (fun i => vcI (intR S r c) i * Y i) : Int) : Rat) = ((botN r : Int) : Rat) * ((d : Rat) * ((S : Int) : Rat)) * dotN r V j := by
    intro j
    induction j with
    | zero => intro _; show ((0 : Int) : Rat) = _ * 0; simp
    | succ j ih =>
      intro hj
      rw [sumF_succ, Rat.intCast_add, ih (by omega), Rat.intCast_mul, sc j (by omega)]
      have v1 : vq (rowS S r c) j = r.getD j 0 := rowS_at (by omega)
      show _ = _ * (dotN r V j + r.getD j 0 * V.getD j 0)
      rw [v1, v2 j (by omega)]
      generalize dotN r V j = x
      generalize ((botN r : Int) : Rat) = b at *
      generalize ((S : Int) : Rat) = s at *
      generalize (d : Rat) = dd at *
      generalize (Y j : Rat) = yy
      generalize r.getD j 0 = rr
      clear ih sc e v2
      grind
  have k2 := key n (Nat.le_refl _)
  have sn2 := sc n (by omega)
  have v3 : vq (rowS S r c) n = ((S : Int) : Rat) * c := rowS_last (by omega)
  rw [v3] at sn2
  rw [Rat.intCast_sub, Rat.intCast_mul, k2, sn2] at e
  generalize dotN r _ n = x at *
  generalize ((botN r : Int) : Rat) = b at *
  generalize ((S : Int) : Rat) = s at *
  generalize (d : Rat) = dd at *
  clear sc k2 sn2 v3 key
  have e5 : (b * dd * s) * (x - c) = 0 := by rw [← e]; grind
  have nz : b * dd * s ≠ 0 := by
    intro z
    rcases Rat.mul_eq_zero.mp z with z | z
    · rcases Rat.mul_eq_zero.mp z with z | z
      · exact hb z
      · exact hd0 z
    · exact hs0 z
  rcases Rat.mul_eq_zero.mp e5 with z | z
  · exact absurd z nz
  · grind
end
end Lq
/-- name = {..} on one line, the name a local -/
theorem ps_setDc {X : Cx} {i : Nat} {y : Str} {py : Pos} {kx vx tg iter : Expr} {ifs : List Expr} {scope : Scope} {own : List (Str × Nat)} {pos spos : Pos} {wi : TI} {g : TG} {tt : TT} {tk tv : TE} (hc : X.calm = true) (hN : X.N.Nodup) (hy : X.N[i]? = some y) (hyl : X.env.scope.names.lookup y = some .local)
    (hsw : swapsWith (.DictComp kx vx [⟨tg, iter, ifs, 0⟩] scope pos) (some (.Name y py)) spos.line X.env = pure true) (hi : PI X tg iter wi) (ok : BlkOk X.N X.env.scope scope own)
    (hg : ∀ (s : Shared) (H : Hp) (C : Addr) (cl : List (Str × Addr)) (fp : List Addr), PG (X.blk s H scope (compEnvC scope cl C X.env) fp) tg g) (ht : ∀ (s : Shared) (H : Hp) (C : Addr) (cl : List (Str × Addr)) (fp : List Addr), PTs (X.blk s H scope (compEnvC scope cl C X.env) fp) ifs tt)
    (hk : ∀ (s : Shared) (H : Hp) (C : Addr) (cl : List (Str × Addr)) (fp : List Addr), PE (X.blk s H scope (compEnvC scope cl C X.env) fp) kx tk)
    (he : ∀ (s : Shared) (H : Hp) (C : Addr) (cl : List (Str × Addr)) (fp : List Addr), PE (X.blk s H scope (compEnvC scope cl C X.env) fp) vx tv) (hs : ∀ x, foldedSetIterable iter X.env x = pure x := by intro _; rfl) :
    PS X (.Assign [.Name y py] (.DictComp kx vx [⟨tg, iter, ifs, 0⟩] scope pos) spos) (tAsg (tDc wi g tt tk tv (own.map (·.2))) (gName i)) := by
  refine ⟨fun pins s σ H D I h => ?_⟩
  rw [exec_Assign_Name_used _ _ _ _ hsw]
  refine wpAny_bind (wpAny_standAt (wpAny_bind ?_))
  show wpAny _ X.A (do let _ ← comprehension (.DictComp kx vx [⟨tg, iter, ifs, 0⟩] scope pos) scope X.env (firstIterPos [⟨tg, iter, ifs, 0⟩] pos) newDict false (eval iter X.env) (some (assign (.Name y py) X.env))) _ _ s
  have h : tDc wi g tt tk tv (own.map (·.2)) σ H (fun x H1 => gName i x σ H1 D.nx) := h
  refine wpAny_bind (thn (dc_core (Qf := fun _ s' => SP X pins D .next s') hc hN I hi ok hg ht hk he hs h fun L C s' m H' I' q hn f => ?_) fun _ s' hq => wpAny_pure (wpAny_pure hq))
  show wpAny _ _ (assign (.Name y py) X.env (.ref L)) _ _ _
  refine wpAny_assign_Name (store_ok2 (v := V.ref L) I' hN hy (.inl hyl) rfl (fun s2 I2 ⟨a, sb, ha⟩ => ?_) (.inr hyl))
  obtain ⟨f0, f1, f2, f3, f4, f5⟩ := f
  have haC : C ≠ a := by
    rcases ha with z | z
    · rw [z]; exact f1
    · exact fun e => f4 y a z e.symm
  refine ⟨m, hn.sameBut sb haC, fun h3 sb3 => ?_⟩
  exact ⟨_, H', I2.turned (t' := s2.toks) (fun b o hb e => (sb3.2 b hb).trans e) f0 f1 f3 f4 f5, q⟩
theorem zs_setdc {z : Cz} {ρ : List Sl} {i : Nat} {wi : TI} {g : TG} {tt : TT} {tk tv : TE} {vs : List Nat} {D : Zn} (h : ZE z (tLockLE (tDc wi g tt tk tv vs)) ρ fun d fr ρ1 => ZG z (gName i) d fr ρ1 D.nx) : ZS z (tLockL (tAsg (tDc wi g tt tk tv vs) (gName i))) ρ D := fun m F H σ E S kn kr kb kc =>
  h m F H σ (fun x H1 => E.nx (σ.set i (some x)) H1) S fun d fr ρ1 F1 H1 v n1 s1 S1 r1 => n1 m F1 H1 σ v (fun σ2 H2 => E.nx σ2 H2) S1 r1 fun ρ2 F2 H2 σ2 n2 s2 => kn ρ2 F2 H2 σ2 n2 (s1.trans s2)
/-! ### xs[::step] of a list, step 1 or -1 -/
section
variable {X : Cx}
def tStepL (K : PySem.W.Frag) (te : TE) (to : TO) : TE := fun σ H Q => te σ H fun x H1 => to σ H1 fun o H2 => ∃ a xs, x = .ref a ∧ SqL K H2 a xs ∧
  ((o = some (-1) ∧ ∀ p, H2 p = none → Q (.ref p) (upd H2 p (.lst xs.reverse))) ∨ (o = some 1 ∧ ∀ p, H2 p = none → Q (.ref p) (upd H2 p (.lst xs))))
theorem pick_one (items : Array Value) : slicePick items none none (some 1) = items := by
  have e : slicePick items none none (some 1) = slicePick items none none none := rfl
  have h := slicePick_cut items.toList none none
  rw [Array.toArray_toList] at h
  rw [e, h]
  unfold HT.sIx
  have e2 : items.size = items.toList.length := by simp
  simp only [Option.getD, e2, Nat.sub_zero, List.drop_zero, List.take_length, Array.toArray_toList]
theorem pe_stepL {K : PySem.W.Frag} (hK : X.K = K) {e est : Expr} {te : TE} {to : TO} {p3 pos : Pos} (he : PE X e te) (hs : PO X (some est) to) (hsub : ∀ u v : Value, subscripted (.Slice none none (some est) p3) false u v = operate [u, v] (getItem u v) := by intro _ _; with_unfolding_all rfl) (lt : ∀ v r, letTemporaryGo e v r = pure () := by intro _ _; rfl) : PE X (.Subscript e (.Slice none none (some est) p3) pos) (tStepL K te to) := by
  subst hK
  refine ⟨fun pins s σ H Q I h => ?_⟩
  refine Subscript_ (thn (he.run pins s σ H _ I h) fun v s1 ⟨x, H1, I1, r1, q1⟩ => ?_)
  refine wpAny_Slice (thn (po_none.run pins s1 σ H1 (fun o H2 => o = none ∧ H2 = H1) I1 ⟨rfl, rfl⟩) fun vl s2 ⟨l, H2, I2, pl, el, e2⟩ => ?_)
  subst el e2
  refine thn (po_none.run pins s2 σ H2 (fun o H3 => o = none ∧ H3 = H2) I2 ⟨rfl, rfl⟩) fun vu s3 ⟨u, H3, I3, pu, eu, e3⟩ => ?_
  subst eu e3
  refine thn (hs.run pins s3 σ H3 _ I3 q1) fun vs s4 ⟨o, H4, I4, ps, a, xs, ex, hx, q⟩ => ?_
  subst ex
  cases r1
  have I5 : Inv X pins σ H4 { s4 with heap := s4.heap.push { cls := .type "slice", data := .fields #[vl, vu, vs] } } := I4.kept (t' := s4.toks) fun b ob q => Heap.get?_push_of_some _ q
  obtain ⟨its, r, ht, hz⟩ := I5.list hx
  have hlen := r.length
  show wpAny (model X.prog X.w) X.A (subscriptTail e (.Slice none none (some est) p3) (.ref a) (.ref s4.heap.objs.size)) (EP X pins σ Q) X.xe { s4 with heap := s4.heap.push { cls := .type "slice", data := .fields #[vl, vu, vs] } }
  refine tail_any (ops := [.ref a, .ref s4.heap.objs.size]) ht.isList.typeIs (PySem.slot_list_getitem.lookup) ?_ (hsub _ _)
  rcases q with ⟨rfl, q⟩ | ⟨rfl, q⟩
  · refine wpAny_getItem_list_slice ht.isList (Heap.IsSliceOf.new _ vl vu vs) pl pu ps (by decide) ?_ (by rw [List.size_toArray]; omega)
    rw [PySem.W.krv_pick]
    refine ⟨.ref _, _, I5.laid (t' := s4.toks) (o := .lst xs.reverse) (fun b ob q => Heap.get?_push_of_some _ q) (Nat.le_refl _) ?_, rfl, q _ (I5.hok.fresh (Nat.le_refl _))⟩
    exact ⟨by rw [List.length_reverse]; exact hz, _, 0, r.reverse, Heap.get?_push_size _ rfl⟩
  · refine wpAny_getItem_list_slice ht.isList (Heap.IsSliceOf.new _ vl vu vs) pl pu ps (by decide) ?_ (by rw [List.size_toArray]; omega)
    rw [pick_one]
    refine ⟨.ref _, _, I5.laid (t' := s4.toks) (o := .lst xs) (fun b ob q => Heap.get?_push_of_some _ q) (Nat.le_refl _) ?_, rfl, q _ (I5.hok.fresh (Nat.le_refl _))⟩
    exact ⟨hz, _, 0, r, Heap.get?_push_size _ rfl⟩
end
/-! ### more built-ins: all, d.get on any dict, sorted(dict), texts joined, str of an int, xs[::step] -/
section
variable {z : Cz} {ρ : List Sl} {N : Dt → Bool → List Sl → Prop} {ta tb td ty tx te : TE} {to : TO} {i : Nat}
theorem rzl_bls {K : PySem.W.Frag} {B F : Hp} : ∀ {bs : List Bool} {xs : List V}, Rzl K B F (bs.map Dt.bl) xs → xs = bs.map V.bl
  | [], _, h => h.inv0
  | b :: bs, _, h => by
    obtain ⟨v, r, rfl, h1, t⟩ := h.inv
    rw [rz_b h1, rzl_bls t]
    rfl
theorem rzl_strs {K : PySem.W.Frag} {B F : Hp} : ∀ {bs : List Str} {xs : List V}, Rzl K B F (bs.map Dt.str) xs → xs = bs.map V.str
  | [], _, h => h.inv0
  | b :: bs, _, h => by
    obtain ⟨v, r, rfl, h1, t⟩ := h.inv
    rw [rz_s h1, rzl_strs t]
    rfl
theorem strs_rzl {K : PySem.W.Frag} {B F : Hp} : ∀ (bs : List Str), Rzl K B F (bs.map Dt.str) (bs.map V.str)
  | [] => .nil
  | b :: bs => .cons rzs (strs_rzl bs)
theorem ze_all {K' : PySem.W.Frag} (h : ZE z ta ρ fun x _ ρ1 => ∃ (t : Bool) (bs : List Bool), x = .lst t (bs.map Dt.bl) ∧ N (.bl (bs.all id)) false ρ1) : ZE z (tCB (rAll K') (tCons ta tNil)) ρ N :=
  ze_CB1 (W := fun x N ρ1 => ∃ (t : Bool) (bs : List Bool), x = .lst t (bs.map Dt.bl) ∧ N (.bl (bs.all id)) false ρ1) (fun x ρ2 N n1 m F H σ Q vx S r k => by
    obtain ⟨t, bs, rfl, q⟩ := n1
    simp only [Rz] at r
    obtain ⟨a, xs, rfl, e, _, r⟩ := r
    refine ⟨a, bs, rfl, ?_, k _ _ _ _ _ _ q (Same.refl F) S (rzF_f rzb)⟩
    rw [← rzl_bls r]
    exact SqL.of (S.le.exact e rfl)) h
theorem ze_dget2 (h : ZE z td ρ fun c _ ρ0 => isDd c = true ∧ ZE z ty ρ0 fun y _ ρ1 => ZE z tx ρ1 fun x _ ρ2 => ∃ o, GetD c y o ∧ N (o.getD x) false ρ2) : ZE z (tDGet2 td ty tx) ρ N := fun m F H σ Q S k => by
  refine h m F H σ _ S fun c fc ρ0 F0 H0 vc n0 s0 S0 r0 => ?_
  obtain ⟨F1, s1, S1, rc⟩ := rzF_frz S0 r0
  obtain ⟨hc, n0⟩ := n0
  obtain ⟨a, rfl, q0⟩ := rz_dct rc S1.le hc
  refine ⟨a, rfl, q0.isD, n0 m F1 H0 σ _ S1 fun y fy ρ1 F2 H1 vy n1 s2 S2 r1 => ?_⟩
  obtain ⟨F3, s3, S3, ry⟩ := rzF_frz S2 r1
  refine n1 m F3 H1 σ _ S3 fun x fx ρ2 F4 H2 vx n2 s4 S4 r3 => ?_
  obtain ⟨F5, s5, S5, rx⟩ := rzF_frz S4 r3
  obtain ⟨o, g, n⟩ := n2
  obtain ⟨a', e', q⟩ := rz_dct (rz_mono ((s2.trans s3).trans (s4.trans s5)) _ _ rc) S5.le hc
  cases e'
  obtain ⟨vo, q1, q2⟩ := dct_get q g (rz_mono (s4.trans s5) _ _ ry) S5.le
  refine ⟨vo, q1, k _ _ _ _ _ _ n (((s0.trans s1).trans (s2.trans s3)).trans (s4.trans s5)) S5 (rzF_f ?_)⟩
  cases o <;> cases vo <;> first | exact q2.elim | exact rx | exact q2
/-- sorted(d), of a dict with fewer than 64 keys, all texts -/
def rSortedDz : List V → Hp → VK → Prop := fun xs H Q => ∃ (a : Addr) (kvs : List (Key × V)) (ks : List Str), xs = [.ref a] ∧ L2.Rd H a (.dK kvs) ∧ kvs.map (·.1) = ks.map Sum.inr ∧ ks.length < 64 ∧
    ∀ ys p, ys.Perm ks → sortedS ys = true → H p = none → Q (.ref p) (upd H p (.lst (ys.map V.str)))
theorem ze_sortedD (h : ZE z ta ρ fun x _ ρ1 => ∃ (t : Bool) (ks : List Str) (ds : List Dt), x = .dic t (ks.map Sum.inr) ds ∧ ks.length < 64 ∧ ∀ ys : List Str, ys.Perm ks → sortedS ys = true → N (.lst true (ys.map Dt.str)) true ρ1) : ZE z (tCB rSortedDz (tCons ta tNil)) ρ N :=
  ze_CB1 (W := fun x N ρ1 => ∃ (t : Bool) (ks : List Str) (ds : List Dt), x = .dic t (ks.map Sum.inr) ds ∧ ks.length < 64 ∧ ∀ ys : List Str, ys.Perm ks → sortedS ys = true → N (.lst true (ys.map Dt.str)) true ρ1) (fun x ρ2 N n1 m F H σ Q vx S r k => by
    obtain ⟨t, ks, ds, rfl, hl, q⟩ := n1
    simp only [Rz] at r
    obtain ⟨a, kvs, rfl, e, _, e2, r⟩ := r
    refine ⟨a, kvs, ks, rfl, S.le.rd e, e2, hl, fun ys p hp hs hn => ?_⟩
    exact k _ _ _ _ _ _ (q ys hp hs) (Same.refl F) (S.newO hn) (rzF_new S hn (.lst (strs_rzl ys)))) h
theorem ze_addStr (h : ZE z ta ρ fun x _ ρ1 => ZE z tb ρ1 fun y _ ρ2 => ∃ a b, x = .str a ∧ y = .str b ∧ a.length + b.length ≤ 100000 ∧ N (.str (a ++ b)) false ρ2) : ZE z (tOp (fun x y H Q => ∃ i j, x = V.str i ∧ y = V.str j ∧ i.length + j.length ≤ sizeLine ∧ Q (V.str (i ++ j)) H) ta tb) ρ N :=
  ze_op2w (W := fun x y N ρ2 => ∃ a b, x = .str a ∧ y = .str b ∧ a.length + b.length ≤ 100000 ∧ N (.str (a ++ b)) false ρ2) (fun x y ρ2 N n2 m F H σ Q vx vy S r1 r2 k => by
    obtain ⟨a, b, rfl, rfl, hl, n⟩ := n2
    exact ⟨a, b, rz_s r1, rz_s r2, by rw [sizeLine_eq]; omega, k _ _ _ _ _ _ n (Same.refl F) S (rzF_f rzs)⟩) h
theorem ze_strInt (h : ZE z ta ρ fun x _ ρ1 => ∃ j : Int, x = .int j ∧ j.natAbs.log2 < 1920 ∧ N (.str (toString j)) false ρ1) : ZE z (tCB (fun xs H Q => ∃ i : Int, xs = [V.int i] ∧ i.natAbs.log2 < 1920 ∧ Q (V.str (toString i)) H) (tCons ta tNil)) ρ N :=
  ze_CB1 (W := fun x N ρ1 => ∃ j : Int, x = .int j ∧ j.natAbs.log2 < 1920 ∧ N (.str (toString j)) false ρ1) (fun x ρ2 N n1 m F H σ Q vx S r k => by
    obtain ⟨j, rfl, hl, q⟩ := n1
    exact ⟨j, by rw [rz_i r], hl, k _ _ _ _ _ _ q (Same.refl F) S (rzF_f rzs)⟩) h
theorem ze_stepL {K' : PySem.W.Frag} (h : ZE z ta ρ fun x _ ρ1 => ZO z to ρ1 fun o ρ2 => ∃ t ds, x = .lst t ds ∧ ((o = some (-1) ∧ N (.lst true ds.reverse) true ρ2) ∨ (o = some 1 ∧ N (.lst true ds) true ρ2))) : ZE z (tStepL K' ta to) ρ N := fun m F H σ Q S k => by
  refine h m F H σ _ S fun x fx ρ1 F1 H1 vx n1 s1 S1 r1 => ?_
  obtain ⟨F2, s2, S2, rx⟩ := rzF_frz S1 r1
  refine n1 m F2 H1 σ _ S2 fun o ρ2 F3 H2 n2 s3 S3 => ?_
  obtain ⟨t, ds, rfl, n⟩ := n2
  have rx := rz_mono s3 _ _ rx
  simp only [Rz] at rx
  obtain ⟨a, xs, rfl, e, _, r⟩ := rx
  refine ⟨a, xs, rfl, SqL.of (S3.le.exact e rfl), ?_⟩
  rcases n with ⟨rfl, n⟩ | ⟨rfl, n⟩
  · exact .inl ⟨rfl, fun p hp => k _ _ _ _ _ _ n ((s1.trans s2).trans s3) (S3.newO hp) (rzF_new S3 hp (.lst r.rev))⟩
  · exact .inr ⟨rfl, fun p hp => k _ _ _ _ _ _ n ((s1.trans s2).trans s3) (S3.newO hp) (rzF_new S3 hp (.lst r))⟩
end
local macro_rules | `(tactic| walk_at "z1") => `(tactic| first | (with_reducible apply ze_all) | (with_reducible apply ze_dget2) | (with_reducible apply ze_sortedD) | (with_reducible apply ze_addStr) | (with_reducible apply ze_strInt) | (with_reducible apply ze_stepL))
/-! ### == and != of equal data that holds Ratios: nothing else stays behind -/
def NoFz (H H' : Hp) : Prop := ∀ a ob u, H' a = some (.frz ob u) → H a = some (.frz ob u)
/-- H', without the frozen that H has not -/
def unFz (H H' : Hp) : Hp := fun a => match H' a with
  | some (.frz _ _) => H a
  | o => o
theorem unFz_of {H H' : Hp} {a : Addr} {o : HO} (h : H' a = some o) (n : isFz o = false) : unFz H H' a = some o := by
  unfold unFz
  rw [h]
  cases o <;> first | rfl | cases n
theorem unFz_none {H H' : Hp} (e : Ext H H') {a : Addr} (h : H' a = none) : unFz H H' a = none := by
  unfold unFz
  rw [h]
theorem unFz_old {H H' : Hp} (e : Ext H H') {a : Addr} {o : HO} (h : H a = some o) : unFz H H' a = some o := by
  unfold unFz
  rw [e _ _ h]
  cases o <;> first | rfl | exact h
theorem unFz_sub {H H' : Hp} (e : Ext H H') {a : Addr} {o : HO} (h : unFz H H' a = some o) : H' a = some o := by
  unfold unFz at h
  split at h
  · exact e _ _ h
  · exact h
theorem unFz_noFz {H H' : Hp} : NoFz H (unFz H H') := fun a ob u h => by
  unfold unFz at h
  split at h
  · exact h
  · rename_i x hx
    exact absurd h (hx ob u)
theorem objOk_unFz {P : Program} {w : World} {H H' : Hp} {h : Heap} (e : Ext H H') {a : Addr} : ∀ {o : HO}, ObjOk P w H' h a o → ObjOk P w (unFz H H') h a o
  | .lst _, x => x
  | .tup _, x => x
  | .dK _, x => x
  | .dT kvs, x => by
    obtain ⟨h1, h2, xs, h3, h4⟩ := x
    exact ⟨h1, h2, xs, Paired.mapP h3 fun p q ⟨a1, a2, a3⟩ => ⟨a1, unFz_of a2 rfl, a3⟩, h4⟩
  | .set _ _, x => x
  | .ins _ _ _, x => by
    obtain ⟨h1, h2⟩ := x
    exact ⟨unFz_of h1 rfl, h2⟩
  | .own _, x => x
  | .xd _, x => x
  | .rng _ _, x => x
  | .frz o u, x => by
    obtain ⟨h1, h2⟩ := x
    exact ⟨h1, objOk_unFz e h2⟩
  | .tbl _, x => x
  | .met _ _, x => x
  | .ext _, x => x
theorem inv_unFz {X : Cx} {pins : List (Addr × Obj)} {σ : L2.St} {H H' : Hp} {s s' : Shared} (I : Inv X pins σ H s) (I' : Inv X pins σ H' s') (e : Ext H H') : Inv X pins σ (unFz H H') s' where
  ok := I'.ok
  os := I'.os
  bare := I'.bare
  base := ⟨I'.base.keep, I'.base.slot, fun b o q n hx => unFz_none e (I'.base.free b o q n hx), I'.base.there, fun b xs q => unFz_of (I'.base.tups b xs q) rfl, fun b o u q => unFz_old e (I.base.frzs b o u q), fun b ps q => by
    obtain ⟨more, hm⟩ := I'.base.tbls b ps q
    exact ⟨more, unFz_of hm rfl⟩⟩
  loc := I'.loc
  cell := I'.cell
  free := unFz_none e I'.free
  freeC := fun x c q => unFz_none e (I'.freeC x c q)
  pin := fun p hp => by
    obtain ⟨h1, h2, h3⟩ := I'.pin p hp
    exact ⟨h1, unFz_none e h2, h3⟩
  hok := fun a o q => objOk_unFz e (I'.hok a o (unFz_sub e q))
  len := I'.len
def rEqZ (D : Eqv) (b : Bool) : R2 := fun x y H Q => D x y H ∧ ∀ H', Ext H H' → NoFz H H' → Q (.bl b) H'
theorem op_eqZ {X : Cx} {n : Nat} {D : Eqv} (h : RcG X n D) (hr : Room n X.A) : OpR X (compareOp .Eq) (rEqZ D true) := by
  intro pins s σ H x y v u Q I rx ry hq
  obtain ⟨d, q⟩ := hq
  show wpAny (model X.prog X.w) X.A (richCompare .Eq v u) (EP X pins σ Q) X.xe s
  refine wpAny_mono (h X.A pins s σ H x y v u ⟨hr, rfl⟩ I rx ry d) (fun r s' z => ?_) fun _ _ x => x
  obtain ⟨rfl, H', I', e⟩ := z
  exact ⟨.bl true, _, inv_unFz I I' e, rfl, q _ (fun a o w => unFz_old e w) unFz_noFz⟩
theorem op_neZ {X : Cx} {n : Nat} {D : Eqv} (h : RnG X n D) (hr : Room n X.A) : OpR X (compareOp .NotEq) (rEqZ D false) := by
  intro pins s σ H x y v u Q I rx ry hq
  obtain ⟨d, q⟩ := hq
  show wpAny (model X.prog X.w) X.A (richCompare .NotEq v u) (EP X pins σ Q) X.xe s
  refine wpAny_mono (h X.A pins s σ H x y v u ⟨hr, rfl⟩ I rx ry d) (fun r s' z => ?_) fun _ _ x => x
  obtain ⟨rfl, H', I', e⟩ := z
  exact ⟨.bl false, _, inv_unFz I I' e, rfl, q _ (fun a o w => unFz_old e w) unFz_noFz⟩
theorem RcG.or {X : Cx} {n : Nat} {D D' : Eqv} (h : RcG X n D) (h' : RcG X n D') : RcG X n (fun x y H => D x y H ∨ D' x y H) := fun A pins s σ H x y u v sb I rx ry d => by
  rcases d with d | d
  · exact h A pins s σ H x y u v sb I rx ry d
  · exact h' A pins s σ H x y u v sb I rx ry d
theorem RnG.or {X : Cx} {n : Nat} {D D' : Eqv} (h : RnG X n D) (h' : RnG X n D') : RnG X n (fun x y H => D x y H ∨ D' x y H) := fun A pins s σ H x y u v sb I rx ry d => by
  rcases d with d | d
  · exact h A pins s σ H x y u v sb I rx ry d
  · exact h' A pins s σ H x y u v sb I rx ry d
theorem OpR.or2 {X : Cx} {op : Value → Value → Sem Value} {r r' : R2} (h : OpR X op r) (h' : OpR X op r') : OpR X op (fun x y H Q => r x y H Q ∨ r' x y H Q) := by
  intro pins s σ H x y v u Q I rx ry hq
  rcases hq with q | q
  · exact h pins s σ H x y v u Q I rx ry q
  · exact h' pins s σ H x y v u Q I rx ry q
/-! what is equal -/
def RatR (K : PySem.W.Frag) (a b : Addr) (H : Hp) : Prop := ∃ n d, RatAt K H a n d ∧ RatAt K H b n d
def DZ (K : PySem.W.Frag) : Nat → Eqv
  | 0 => fun x y H => DFlat x y H ∨ DIns (He.ga K "Ratio") (RatR K) x y H
  | n + 1 => fun x y H => DZ K n x y H ∨ (DTup K (DZ K n) x y H ∨ DList (DZ K n) x y H)
theorem mon_dz (K : PySem.W.Frag) : ∀ n, Mon (DZ K n)
  | 0 => Mon.or mon_flat (mon_ins fun a b H H' e ⟨n, d, h1, h2⟩ => ⟨n, d, h1.mono e, h2.mono e⟩)
  | n + 1 => Mon.or (mon_dz K n) (Mon.or (mon_tup (mon_dz K n)) (mon_list (mon_dz K n)))
theorem DZ.up {K : PySem.W.Frag} {x y : V} {H : Hp} {n m : Nat} (h : n ≤ m) (d : DZ K n x y H) : DZ K m x y H := by
  induction h with
  | refl => exact d
  | step _ ih => exact .inl ih
mutual
inductive EqD : Nat → Dt → Dt → Prop
  | flat {n : Nat} {d : Dt} {u : V} : flatD d = some u → EqD n d d
  | rat {n : Nat} (a b : Int) : EqD n (.rat a b) (.rat a b)
  | tup {n : Nat} {ds es : List Dt} : EqDs n ds es → EqD (n + 1) (.tup ds) (.tup es)
  | lst {n : Nat} {t s : Bool} {ds es : List Dt} : EqDs n ds es → EqD (n + 1) (.lst t ds) (.lst s es)
inductive EqDs : Nat → List Dt → List Dt → Prop
  | nil {n : Nat} : EqDs n [] []
  | cons {n : Nat} {d e : Dt} {ds es : List Dt} : EqD n d e → EqDs n ds es → EqDs n (d :: ds) (e :: es)
end
theorem eqV_self {v : V} (h : flatV v = true) : eqV v v = true := by cases v <;> first | rfl | (simp [eqV]; done) | cases h
mutual
theorem EqD.dz {K : PySem.W.Frag} {B B' F F' H : Hp} (l : Le F H) (l' : Le F' H) : ∀ {n : Nat} {d e : Dt} {x y : V}, EqD n d e → Rz K B F d x → Rz K B' F' e y → DZ K n x y H
  | n, _, _, x, y, .flat h, r, r' => by
    obtain ⟨h1, h2⟩ := flat_rz h r
    obtain ⟨h3, _⟩ := flat_rz h r'
    rw [h1, h3]
    exact DZ.up (Nat.zero_le n) (.inl ⟨h2, h2, eqV_self h2⟩)
  | n, _, _, x, y, .rat a b, r, r' => by
    simp only [Rz] at r r'
    obtain ⟨p, dx, rfl, h1⟩ := r
    obtain ⟨q, dy, rfl, h2⟩ := r'
    have e1 := l.exact h1 rfl
    have e2 := l'.exact h2 rfl
    exact DZ.up (Nat.zero_le n) (.inr ⟨p, q, dx, dy, _, _, rfl, rfl, e1, e2, a, b, ⟨dx, e1⟩, ⟨dy, e2⟩⟩)
  | _, _, _, x, y, .tup h, r, r' => by
    simp only [Rz] at r r'
    obtain ⟨p, xs, rfl, h1, r⟩ := r
    obtain ⟨q, ys, rfl, h2, r'⟩ := r'
    exact .inr (.inl ⟨p, q, xs, ys, rfl, rfl, SqT.of (l.exact h1 rfl), SqT.of (l'.exact h2 rfl), EqDs.dz l l' h r r'⟩)
  | _, _, _, x, y, .lst h, r, r' => by
    simp only [Rz] at r r'
    obtain ⟨p, xs, rfl, h1, _, r⟩ := r
    obtain ⟨q, ys, rfl, h2, _, r'⟩ := r'
    exact .inr (.inr ⟨p, q, xs, ys, rfl, rfl, l.exact h1 rfl, l'.exact h2 rfl, EqDs.dz l l' h r r'⟩)
theorem EqDs.dz {K : PySem.W.Frag} {B B' F F' H : Hp} (l : Le F H) (l' : Le F' H) : ∀ {n : Nat} {ds es : List Dt} {xs ys : List V}, EqDs n ds es → Rzl K B F ds xs → Rzl K B' F' es ys → Prs (DZ K n) xs ys H
  | _, _, _, _, _, .nil, r, r' => by
    rw [r.inv0, r'.inv0]
    exact Prs.nil
  | _, _, _, _, _, .cons h h', r, r' => by
    obtain ⟨v, vs, rfl, a1, a2⟩ := r.inv
    obtain ⟨u, us, rfl, b1, b2⟩ := r'.inv
    exact Prs.cons (EqD.dz l l' h a1 b1) (EqDs.dz l l' h' a2 b2)
end
def DZ1 (K : PySem.W.Frag) (n : Nat) : Eqv := fun x y H => DTup K (DZ K n) x y H ∨ DList (DZ K n) x y H
theorem EqD.dz1 {K : PySem.W.Frag} {B B' F F' H : Hp} (l : Le F H) (l' : Le F' H) {n : Nat} {d e : Dt} {x y : V} (h : EqD (n + 1) d e) (nf : flatD d = none) (nr : ∀ a b, d ≠ .rat a b) (r : Rz K B F d x) (r' : Rz K B' F' e y) : DZ1 K n x y H := by
  cases h with
  | flat h => rw [nf] at h; cases h
  | rat a b => exact absurd rfl (nr a b)
  | tup h =>
    simp only [Rz] at r r'
    obtain ⟨p, xs, rfl, h1, r⟩ := r
    obtain ⟨q, ys, rfl, h2, r'⟩ := r'
    exact .inl ⟨p, q, xs, ys, rfl, rfl, SqT.of (l.exact h1 rfl), SqT.of (l'.exact h2 rfl), EqDs.dz l l' h r r'⟩
  | lst h =>
    simp only [Rz] at r r'
    obtain ⟨p, xs, rfl, h1, _, r⟩ := r
    obtain ⟨q, ys, rfl, h2, _, r'⟩ := r'
    exact .inr ⟨p, q, xs, ys, rfl, rfl, l.exact h1 rfl, l'.exact h2 rfl, EqDs.dz l l' h r r'⟩
/-- the rule: plain data, or what is equal -/
def rEqZZ (K : PySem.W.Frag) (n : Nat) : R2 := fun x y H Q => rEqD K x y H Q ∨ rEqZ (DZ1 K n) true x y H Q
def rNeZZ (K : PySem.W.Frag) (n : Nat) : R2 := fun x y H Q => rNeD K x y H Q ∨ rEqZ (DZ1 K n) false x y H Q
section
variable {z : Cz} {ρ : List Sl} {N : Dt → Bool → List Sl → Prop} {ta tb : TE}
theorem Sm.ext0 {m : Fm} {F H H' : Hp} {σ : L2.St} (S : Sm z m F H σ ρ) (e : Ext H H') (n : NoFz H H') : Sm z m F H' σ ρ := S.ext (Same.refl F) e (S.lk.same e) (Nw.refl F H) n
theorem ze_eqZ {K' : PySem.W.Frag} {n : Nat} (hK : K' = z.K) (h : ZE z ta ρ fun x _ ρ1 => ZE z tb ρ1 fun y _ ρ2 => EqD (n + 1) x y ∧ flatD x = none ∧ (∀ a b, x ≠ .rat a b) ∧ N (.bl true) false ρ2) : ZE z (tOp (rEqZZ K' n) ta tb) ρ N :=
  ze_op2w (W := fun x y N ρ2 => EqD (n + 1) x y ∧ flatD x = none ∧ (∀ a b, x ≠ .rat a b) ∧ N (.bl true) false ρ2) (fun x y ρ2 N n2 m F H σ Q vx vy S r1 r2 k => by
    subst hK
    obtain ⟨h1, h2, h3, n⟩ := n2
    exact .inr ⟨h1.dz1 S.le S.le h2 h3 r1 r2, fun H' e nf => k _ _ _ _ _ _ n (Same.refl F) (S.ext0 e nf) (rzF_f rzb)⟩) h
theorem ze_neZ {K' : PySem.W.Frag} {n : Nat} (hK : K' = z.K) (h : ZE z ta ρ fun x _ ρ1 => ZE z tb ρ1 fun y _ ρ2 => EqD (n + 1) x y ∧ flatD x = none ∧ (∀ a b, x ≠ .rat a b) ∧ N (.bl false) false ρ2) : ZE z (tOp (rNeZZ K' n) ta tb) ρ N :=
  ze_op2w (W := fun x y N ρ2 => EqD (n + 1) x y ∧ flatD x = none ∧ (∀ a b, x ≠ .rat a b) ∧ N (.bl false) false ρ2) (fun x y ρ2 N n2 m F H σ Q vx vy S r1 r2 k => by
    subst hK
    obtain ⟨h1, h2, h3, n⟩ := n2
    exact .inr ⟨h1.dz1 S.le S.le h2 h3 r1 r2, fun H' e nf => k _ _ _ _ _ _ n (Same.refl F) (S.ext0 e nf) (rzF_f rzb)⟩) h
end
section
variable {P : Program} {w : World} {K : PySem.W.Frag} {mg : Str → Option Value} {base : Heap}
theorem r_isiRat {H : Hp} {Q : VK} {x : Addr} {n d : Int} (T : Top w K mg) (r : RatAt K H x n d) (h : Q (.bl true) H) : rIsi K [.ref x, .ref (He.ga K "Ratio")] H Q := by
  obtain ⟨dx, r⟩ := r
  exact r_isi (isi_ins T.x_isi_Ratio T.cls_Ratio r) (.own _) (of_decide_eq_true T.x_kit_Ratio_Ratio) h
theorem ok_Ratio___eq__ (T : Top w K mg) : FnOk P w K mg base CX0 1 (He.ma K (He.ga K ("Ratio" : Str)) ("__eq__" : Str)) (fdOf K d_Ratio___eq__) ["self", "other"] (spEq (RatR K)) := by
  refine (T.f_Ratio___eq__).ok sc_Ratio___eq__ (fun vs H Q E h => ?_) (fun cdv A outer s H vs Q E hr h => ?_)
  · obtain ⟨x, y, rfl, _⟩ := h
    rfl
  · obtain ⟨x, y, rfl, ⟨n, d, ⟨dx, hx⟩, ry⟩, k⟩ := h
    obtain ⟨dy, hy⟩ := id ry
    refine ⟨_, PSs.nox (pss_one (ps_ret (pe_and (pe_callB (call_isiK' (K := K) rfl) (by rfl) T.n_isinstance (by decide +kernel) (pa_cons (pv 1) (pa_cons (pe_glob (v := .ref (He.ga K ("Ratio" : Str))) rfl T.g_Ratio rfl) pa_nil))) (pe_and (pe_cmpR op_eq (pe_fldK (K := K) rfl (pv 0) rfl) (pe_fldK (K := K) rfl (pv 1) rfl) (nomark _)) (pe_one (pe_cmpR op_eq (pe_fldK (K := K) rfl (pv 0) rfl) (pe_fldK (K := K) rfl (pv 1) rfl) (nomark _))))))), ?_⟩
    walk_at "go"
    refine r_isiRat T ry ?_
    walk_at "go"
    refine ⟨_, _, _, _, _, rfl, hx, T.cls_Ratio, T.na_Ratio_top, r2_top _ _, ?_⟩
    walk_at "go"
    refine ⟨_, _, _, _, _, rfl, hy, T.cls_Ratio, T.na_Ratio_top, r2_top _ _, ?_⟩
    walk_at "go"
    refine ite_d (fun c => ?_) (fun c => absurd rfl c)
    walk_at "go"
    refine ⟨_, _, _, _, _, rfl, hx, T.cls_Ratio, T.na_Ratio_bottom, r2_bot _ _, ?_⟩
    walk_at "go"
    refine ⟨_, _, _, _, _, rfl, hy, T.cls_Ratio, T.na_Ratio_bottom, r2_bot _ _, ?_⟩
    walk_at "go"
    rw [decide_eq_true rfl]
    exact k H Ext.rfl'
theorem eqDZ (T : Top w K mg) {X : Cx} (hp : X.prog = P) (hw : X.w = w) (hk : X.K = K) (hm : X.mg = mg) : ∀ n, EqG X (1 + n) (DZ K n)
  | 0 => by
    subst hp hw hk hm
    exact EqG.or ((eqG_flat (X := X)).mono (Nat.zero_le 1)) (eqG_ins (ok_Ratio___eq__ (base := X.base) T) T.m_Ratio___eq__.at_ T.m_Ratio___eq__.fn T.b_Ratio___eq__ pass0)
  | n + 1 => by
    have ih := eqDZ T hp hw hk hm n
    subst hp hw hk hm
    exact EqG.or (ih.mono (Nat.le_succ _)) (EqG.or (eqG_tup (mon_dz _ n) ih) (eqG_list (mon_dz _ n) ih))
theorem op_eqZZ (T : Top w K mg) (n : Nat) {X : Cx} (hu : X.A.units + 64 < cLine) (hr : Room (1 + n + 1) X.A) (hp : X.prog = P := by rfl) (hw : X.w = w := by rfl) (hk : X.K = K := by rfl) (hm : X.mg = mg := by rfl) : OpR X (compareOp .Eq) (rEqZZ K n) := by
  have h := eqDZ T hp hw hk hm n
  refine OpR.or2 (op_eqDK hk hu) (op_eqZ (RcG.or ?_ (rcG_list (mon_dz K n) h)) hr)
  subst hk
  exact rcG_tup (mon_dz _ n) h
theorem op_neZZ (T : Top w K mg) (n : Nat) {X : Cx} (hu : X.A.units + 64 < cLine) (hr : Room (1 + n + 1) X.A) (hp : X.prog = P := by rfl) (hw : X.w = w := by rfl) (hk : X.K = K := by rfl) (hm : X.mg = mg := by rfl) : OpR X (compareOp .NotEq) (rNeZZ K n) := by
  have h := eqDZ T hp hw hk hm n
  refine OpR.or2 (op_neDK hk hu) (op_neZ (RnG.or ?_ (rnG_list (mon_dz K n) h)) hr)
  subst hk
  exact rnG_tup (mon_dz _ n) h
end
section
variable {z : Cz} {ρ : List Sl} {N : Dt → Bool → List Sl → Prop} {ta tb te : TE} {i j : Nat}
/-- plain data, whatever the answer -/
theorem ze_eqDZ {K' : PySem.W.Frag} {n : Nat} (hK : K' = z.K) (h : ZE z ta ρ fun x _ ρ1 => ZE z tb ρ1 fun y _ ρ2 => ∃ p q, toQ x = some p ∧ toQ y = some q ∧ SeqAt.shaped p = true ∧ SeqAt.shaped q = true ∧ N (.bl (PyData.eqv p q)) false ρ2) : ZE z (tOp (rEqZZ K' n) ta tb) ρ N :=
  ze_op2w (W := fun x y N ρ2 => ∃ p q, toQ x = some p ∧ toQ y = some q ∧ SeqAt.shaped p = true ∧ SeqAt.shaped q = true ∧ N (.bl (PyData.eqv p q)) false ρ2) (fun x y ρ2 N n2 m F H σ Q vx vy S r1 r2 k => by
    subst hK
    obtain ⟨p, q, h1, h2, h3, h4, n⟩ := n2
    exact .inl ⟨p, q, toQ_dp S.le x p vx h1 r1, toQ_dp S.le y q vy h2 r2, h3, h4, k _ _ _ _ _ _ n (Same.refl F) S (rzF_f rzb)⟩) h
theorem ze_neDvZ {K' : PySem.W.Frag} {n : Nat} (hK : K' = z.K) {c0 : Dt} (h0 : ρ[i]? = some (.o c0)) (h : ZE z tb ρ fun y _ ρ2 => ∃ t ds p q, ρ2[i]? = some (.o (.lst t ds)) ∧ toQ (.lst t ds) = some p ∧ toQ y = some q ∧ SeqAt.shaped p = true ∧ SeqAt.shaped q = true ∧ N (.bl (!PyData.eqv p q)) false ρ2) : ZE z (tOp (rNeZZ K' n) (tVar i) tb) ρ N := fun m F H σ Q S k => by
  subst hK
  obtain ⟨l, e, _⟩ := S.geto h0
  refine ⟨_, e, h m F H σ _ S fun y fy ρ2 F2 H2 vy n2 s2 S2 r2 => ?_⟩
  obtain ⟨F3, s3, S3, ry⟩ := rzF_frz S2 r2
  obtain ⟨t, ds, p, q, hi, h1, h2, h3, h4, n⟩ := n2
  exact .inl ⟨p, q, S3.own_dp hi e h1, toQ_dp S3.le y q vy h2 ry, h3, h4, k _ _ _ _ _ _ n (s2.trans s3) S3 (rzF_f rzb)⟩
theorem ze_isivT {nm : String} {d0 : Dt} (h0 : ρ[i]? = some (.o d0)) (h : ∃ t b, TyD z.K d0 t ∧ PySem.W.kitOne z.K t (.type nm) = some b ∧ N (.bl b) false ρ) : ZE z (tCB (rIsi z.K) (tCons (tVar i) (tCons (tC (.ty nm)) tNil))) ρ N := by
  obtain ⟨t, b, h1, h2, n⟩ := h
  exact ze_isiv (.ty nm) h0 h1 h2 n
theorem ze_notInDv {K' : PySem.W.Frag} (hK : K' = z.K) (h : ZE z ta ρ fun x _ ρ1 => ∃ p t ds ps, ρ1[i]? = some (.o (.lst t ds)) ∧ toQ x = some p ∧ toQs ds = some ps ∧ SeqAt.shaped p = true ∧ SeqAt.shaped (.list ps) = true ∧ N (.bl (!ps.any fun z => PyData.eqv z p)) false ρ1) : ZE z (tOp (rNotInD K') ta (tVar i)) ρ N := fun m F H σ Q S k => by
  subst hK
  refine h m F H σ _ S fun x fx ρ1 F1 H1 vx n1 s1 S1 r1 => ?_
  obtain ⟨F2, s2, S2, rx⟩ := rzF_frz S1 r1
  obtain ⟨p, t, ds, ps, hi, h1, h2, h3, h4, n⟩ := n1
  obtain ⟨l, e, _⟩ := S2.geto hi
  exact ⟨_, e, p, ps, toQ_dp S2.le x p vx h1 rx, S2.own_dp hi e (by simp only [toQ, h2]), h3, h4, k _ _ _ _ _ _ n (s1.trans s2) S2 (rzF_f rzb)⟩
theorem ze_neZv {K' : PySem.W.Frag} {n : Nat} (hK : K' = z.K) {c0 : Dt} (h0 : ρ[i]? = some (.o c0)) (h : ZE z tb ρ fun y _ ρ2 => ∃ t ds, ρ2[i]? = some (.o (.lst t ds)) ∧ EqD (n + 1) (.lst t ds) y ∧ N (.bl false) false ρ2) : ZE z (tOp (rNeZZ K' n) (tVar i) tb) ρ N := fun m F H σ Q S k => by
  subst hK
  obtain ⟨l, e, _⟩ := S.geto h0
  refine ⟨_, e, h m F H σ _ S fun y fy ρ2 F2 H2 vy n2 s2 S2 r2 => ?_⟩
  obtain ⟨F3, s3, S3, ry⟩ := rzF_frz S2 r2
  obtain ⟨t, ds, hi, hq, n⟩ := n2
  obtain ⟨l', e', f1, f2, f3, ho, f4, f5⟩ := S3.geto hi
  rw [e] at e'
  cases e'
  have rl := f5.rz f2 f1
  have lel : Le (upd F3 l ho) H2 := fun a o q => by
    by_cases c : a = l
    · subst c
      rw [upd_same] at q
      cases q
      exact .inl f4
    · rw [upd_ne c] at q
      exact S3.le a o q
  exact .inr ⟨hq.dz1 lel S3.le rfl (fun _ _ q => nomatch q) rl ry, fun H' ex nf => k _ _ _ _ _ _ n (s2.trans s3) (S3.ext0 ex nf) (rzF_f rzb)⟩
end
/-! ### what is a sum of what -/
namespace Dg
def lc2 (a : Rat) (u : Vq) (b : Rat) (w : Vq) : Vq := fun j => a * u j + b * w j
theorem redQ_lin : ∀ (lb : List (Vq × Nat)) (a b : Rat) (u w : Vq), redQ lb (lc2 a u b w) = lc2 a (redQ lb u) b (redQ lb w)
  | [], _, _, _, _ => rfl
  | x :: lb, a, b, u, w => by
    show redQ lb (stepQ x (lc2 a u b w)) = lc2 a (redQ lb (stepQ x u)) b (redQ lb (stepQ x w))
    rw [← redQ_lin lb]
    congr 1
    funext j
    show a * u j + b * w j - ((a * u x.2 + b * w x.2) / x.1 x.2) * x.1 j = a * (u j - (u x.2 / x.1 x.2) * x.1 j) + b * (w j - (w x.2 / x.1 x.2) * x.1 j)
    by_cases z : x.1 x.2 = 0
    · rw [z]
      have e : ∀ y : Rat, y / 0 = 0 := fun y => by grind
      rw [e, e, e]
      grind
    · grind
/-- what is a sum of rows -/
def sumQ (n : Nat) (f : Nat → Rat) : Rat := ((List.range n).map f).sum
theorem sumQ_succ (n : Nat) (f : Nat → Rat) : sumQ (n + 1) f = sumQ n f + f n := by
  unfold sumQ
  rw [List.range_succ, List.map_append, List.sum_append]
  show _ + (f n + 0) = _
  grind
theorem sumQ_zero {n : Nat} {f : Nat → Rat} (h : ∀ i < n, f i = 0) : sumQ n f = 0 := by
  induction n with
  | zero => rfl
  | succ n ih =>
    rw [sumQ_succ, ih fun i hi => h i (by omega), h n (by omega)]
    grind
theorem sumQ_congr {n : Nat} {f g : Nat → Rat} (h : ∀ i < n, f i = g i) : sumQ n f = sumQ n g := by
  induction n with
  | zero => rfl
  | succ n ih => rw [sumQ_succ, sumQ_succ, ih fun i hi => h i (by omega), h n (by omega)]
theorem sumQ_mul (n : Nat) (a b : Rat) (f g : Nat → Rat) : sumQ n (fun i => a * f i + b * g i) = a * sumQ n f + b * sumQ n g := by
  induction n with
  | zero => show (0 : Rat) = a * 0 + b * 0; grind
  | succ n ih => rw [sumQ_succ, sumQ_succ, sumQ_succ, ih]; grind
theorem sumQ_swap (n m : Nat) (f : Nat → Nat → Rat) : sumQ n (fun i => sumQ m fun k => f i k) = sumQ m fun k => sumQ n fun i => f i k := by
  induction n with
  | zero => exact (sumQ_zero fun _ _ => rfl).symm
  | succ n ih =>
    rw [sumQ_succ, ih]
    have := sumQ_mul m 1 1 (fun k => sumQ n fun i => f i k) (fun k => f n k)
    have e : sumQ m (fun k => sumQ (n + 1) fun i => f i k) = sumQ m fun k => 1 * (sumQ n fun i => f i k) + 1 * f n k := sumQ_congr fun k _ => by rw [sumQ_succ]; grind
    rw [e, this]
    grind
def lcs (n : Nat) (κ : Nat → Rat) (g : Nat → Vq) : Vq := fun j => sumQ n fun i => κ i * g i j
theorem redQ_lcs (lb : List (Vq × Nat)) (κ : Nat → Rat) (g : Nat → Vq) : ∀ n, redQ lb (lcs n κ g) = lcs n κ fun i => redQ lb (g i)
  | 0 => by
    have e : lcs 0 κ g = lc2 0 (g 0) 0 (g 0) := by funext j; show (0 : Rat) = 0 * _ + 0 * _; grind
    rw [e, redQ_lin]
    funext j
    show 0 * _ + 0 * _ = (0 : Rat)
    grind
  | n + 1 => by
    have e : lcs (n + 1) κ g = lc2 1 (lcs n κ g) (κ n) (g n) := by
      funext j
      show sumQ (n + 1) _ = 1 * sumQ n _ + κ n * g n j
      rw [sumQ_succ]
      grind
    rw [e, redQ_lin, redQ_lcs lb κ g n]
    funext j
    show 1 * sumQ n _ + κ n * _ = sumQ (n + 1) _
    rw [sumQ_succ]
    grind
/-- rows that are given are reduced to nothing -/
theorem stQ_zero {n : Nat} {lb : List (Vq × Nat)} {q u : Vq} (h : ∀ j < n, redQ lb u j = 0) : ∀ j < n, redQ (stQ n lb q) u j = 0 := by
  unfold stQ
  cases c : fnq n (redQ lb q) with
  | none => exact h
  | some l =>
    intro j hj
    have hl := (fnq_some c).1
    dsimp only
    rw [redQ_snoc]
    show redQ lb u j - (redQ lb u l / redQ lb q l) * redQ lb q j = 0
    rw [h j hj, h l hl]
    grind
theorem stQ_own {n : Nat} {lb : List (Vq × Nat)} {q : Vq} : ∀ j < n, redQ (stQ n lb q) q j = 0 := by
  unfold stQ
  cases c : fnq n (redQ lb q) with
  | none => exact fnq_none c
  | some l =>
    intro j hj
    have hl := (fnq_some c).2.1
    dsimp only
    rw [redQ_snoc]
    show redQ lb q j - (redQ lb q l / redQ lb q l) * redQ lb q j = 0
    generalize redQ lb q l = a at *
    grind
theorem lbQ_zero {n : Nat} (qs : List Vq) : ∀ i ≤ qs.length, ∀ k < i, ∀ q, qs[k]? = some q → ∀ j < n, redQ (lbQ n (qs.take i)) q j = 0
  | 0, _, k, hk, _, _ => by omega
  | i + 1, hi, k, hk, q, hq => by
    have hx : qs[i]? = some (qs[i]'(by omega)) := List.getElem?_eq_getElem (by omega)
    rw [List.take_succ, hx]
    show ∀ j < n, redQ (lbQ n (qs.take i ++ [_])) q j = 0
    rw [lbQ_snoc]
    by_cases c : k = i
    · subst c
      rw [hx] at hq
      rw [Option.some.inj hq]
      exact stQ_own
    · exact stQ_zero (lbQ_zero qs i (by omega) k (by omega) q hq)
/-- rows that are kept leave nothing at all -/
theorem lbQ_kept {n : Nat} (qs : List Vq) {k : Nat} {q : Vq} (hq : qs[k]? = some q) (hk : fnq n (redQ (lbQ n (qs.take k)) q) ≠ none) : ∀ d, k + 1 + d ≤ qs.length → redQ (lbQ n (qs.take (k + 1 + d))) q = fun _ => 0
  | 0, _ => by
    rw [Nat.add_zero, List.take_succ, hq]
    show redQ (lbQ n (qs.take k ++ [q])) q = _
    rw [lbQ_snoc]
    unfold stQ
    cases c : fnq n (redQ (lbQ n (qs.take k)) q) with
    | none => exact absurd c hk
    | some l =>
      have hl := (fnq_some c).2.1
      dsimp only
      rw [redQ_snoc]
      funext j
      show redQ _ q j - (redQ _ q l / redQ _ q l) * redQ _ q j = 0
      generalize redQ (lbQ n (qs.take k)) q l = a at *
      grind
  | d + 1, hd => by
    have ih := lbQ_kept qs hq hk d (by omega)
    have hx : qs[k + 1 + d]? = some (qs[k + 1 + d]'(by omega)) := List.getElem?_eq_getElem (by omega)
    rw [show k + 1 + (d + 1) = k + 1 + d + 1 by omega, List.take_succ, hx]
    show redQ (lbQ n (qs.take (k + 1 + d) ++ [_])) q = _
    rw [lbQ_snoc]
    unfold stQ
    split
    · rw [redQ_snoc, ih]
      funext j
      show (0 : Rat) - (0 / _) * _ = 0
      grind
    · exact ih
/-- a linear form -/
def LinQ (φ : Vq → Rat) : Prop := ∀ (a b : Rat) (u w : Vq), φ (lc2 a u b w) = a * φ u + b * φ w
theorem form_step {φ : Vq → Rat} (hφ : LinQ φ) {x : Vq × Nat} (hx : φ x.1 = 0) (q : Vq) : φ (stepQ x q) = φ q := by
  have e : stepQ x q = lc2 1 q (-(q x.2 / x.1 x.2)) x.1 := by
    funext j
    show q j - _ * x.1 j = 1 * q j + -_ * x.1 j
    grind
  rw [e, hφ, hx]
  grind
theorem form_redQ {φ : Vq → Rat} (hφ : LinQ φ) : ∀ {lb : List (Vq × Nat)}, (∀ x ∈ lb, φ x.1 = 0) → ∀ q, φ (redQ lb q) = φ q
  | [], _, _ => rfl
  | x :: lb, h, q => by
    show φ (redQ lb (stepQ x q)) = _
    rw [form_redQ hφ (fun y hy => h y (List.mem_cons_of_mem _ hy)), form_step hφ (h x List.mem_cons_self)]
theorem form_lbQ {φ : Vq → Rat} (hφ : LinQ φ) {n : Nat} (qs : List Vq) : ∀ i ≤ qs.length, (∀ q ∈ qs.take i, φ q = 0) → ∀ x ∈ lbQ n (qs.take i), φ x.1 = 0
  | 0, _, _, x, hx => by rw [List.take_zero] at hx; cases hx
  | i + 1, hi, h, x, hx => by
    have hq : qs[i]? = some (qs[i]'(by omega)) := List.getElem?_eq_getElem (by omega)
    generalize qs[i]'(by omega) = q at hq
    have et : qs.take (i + 1) = qs.take i ++ [q] := by rw [List.take_succ, hq]; rfl
    rw [et] at h hx
    rw [lbQ_snoc] at hx
    have ih := form_lbQ hφ (n := n) qs i (by omega) (fun u hu => h u (List.mem_append_left _ hu))
    unfold stQ at hx
    split at hx
    · rcases List.mem_append.mp hx with hx | hx
      · exact ih x hx
      · rw [List.mem_singleton.mp hx]
        show φ (redQ _ q) = 0
        rw [form_redQ hφ ih]
        exact h q (by simp)
    · exact ih x hx
def dotF (n : Nat) (y : Nat → Rat) (q : Vq) : Rat := sumQ n fun j => q j * y j
theorem dotF_lin (n : Nat) (y : Nat → Rat) : LinQ (dotF n y) := fun a b u w => by
  unfold dotF
  rw [← sumQ_mul]
  exact sumQ_congr fun j _ => by show (a * u j + b * w j) * y j = _; grind
/-- no contradiction where there is a solution -/
theorem no_wr {n : Nat} {qs : List Vq} {y : Nat → Rat} (h : ∀ q ∈ qs, dotF n y q = q n) : ¬ Wr n qs qs.length := by
  rintro ⟨k, hk, q, hq, h1, h2⟩
  have lin : LinQ fun q => dotF n y q - q n := fun a b u w => by
    show dotF n y (lc2 a u b w) - (a * u n + b * w n) = _
    rw [dotF_lin]
    grind
  have z := form_redQ lin (form_lbQ lin (n := n) qs k (by omega) fun u hu => by
    have := h u (List.mem_of_mem_take hu)
    show dotF n y u - u n = 0
    grind) q
  have z : dotF n y (redQ (lbQ n (qs.take k)) q) - redQ (lbQ n (qs.take k)) q n = dotF n y q - q n := z
  rw [h q (List.mem_of_getElem? hq)] at z
  have e : dotF n y (redQ (lbQ n (qs.take k)) q) = 0 := sumQ_zero fun j hj => by rw [fnq_none h1 j hj]; grind
  rw [e] at z
  apply h2
  generalize redQ (lbQ n (qs.take k)) q n = a at *
  grind
/-! #### how a row is made of those that are kept -/
def kept (n : Nat) (qs : List Vq) : Nat → List Nat
  | 0 => []
  | i + 1 => match fnq n (redQ (lbQ n (qs.take i)) (qs.getD i fun _ => 0)) with
    | some _ => kept n qs i ++ [i]
    | none => kept n qs i
theorem kept_lt (n : Nat) (qs : List Vq) : ∀ i, ∀ k ∈ kept n qs i, k < i
  | 0, _, h => nomatch h
  | i + 1, k, h => by
    unfold kept at h
    split at h
    · rcases List.mem_append.mp h with h | h
      · have := kept_lt n qs i k h; omega
      · rw [List.mem_singleton.mp h]; omega
    · have := kept_lt n qs i k h; omega
theorem kept_mem (n : Nat) (qs : List Vq) : ∀ i, ∀ k, k ∈ kept n qs i ↔ k < i ∧ fnq n (redQ (lbQ n (qs.take k)) (qs.getD k fun _ => 0)) ≠ none
  | 0, k => ⟨(fun h => nomatch h), fun h => by omega⟩
  | i + 1, k => by
    have ih := kept_mem n qs i k
    unfold kept
    cases c : fnq n (redQ (lbQ n (qs.take i)) (qs.getD i fun _ => 0)) with
    | none =>
      rw [ih]
      constructor
      · rintro ⟨h1, h2⟩; exact ⟨by omega, h2⟩
      · rintro ⟨h1, h2⟩
        refine ⟨?_, h2⟩
        by_cases e : k = i
        · subst e; exact absurd c h2
        · omega
    | some l =>
      dsimp only
      rw [List.mem_append, ih, List.mem_singleton]
      constructor
      · rintro (⟨h1, h2⟩ | rfl)
        · exact ⟨by omega, h2⟩
        · exact ⟨by omega, by rw [c]; exact fun z => nomatch z⟩
      · rintro ⟨h1, h2⟩
        by_cases e : k = i
        · exact .inr e
        · exact .inl ⟨by omega, h2⟩
theorem kept_take (n : Nat) (qs : List Vq) (w : Nat) : ∀ i, w ≤ i → (kept n qs i).filter (fun k => decide (k < w)) = kept n qs w
  | 0, h => by
    have : w = 0 := by omega
    subst this
    rfl
  | i + 1, h => by
    by_cases e : w = i + 1
    · subst e
      exact List.filter_eq_self.mpr fun k hk => decide_eq_true (kept_lt n qs _ k hk)
    · have ih := kept_take n qs w i (by omega)
      have ek : kept n qs (i + 1) = match fnq n (redQ (lbQ n (qs.take i)) (qs.getD i fun _ => 0)) with
        | some _ => kept n qs i ++ [i]
        | none => kept n qs i := rfl
      rw [ek]
      split
      · rw [List.filter_append, ih]
        have : ([i] : List Nat).filter (fun k => decide (k < w)) = [] := by
          rw [List.filter_cons_of_neg (by simp; omega)]
          rfl
        rw [this, List.append_nil]
      · exact ih
theorem made_of {n : Nat} (qs : List Vq) : ∀ i ≤ qs.length, ∀ q, ∃ κ : Nat → Rat, ∀ j, redQ (lbQ n (qs.take i)) q j = q j - lcs (kept n qs i).length κ (fun k => qs.getD ((kept n qs i).getD k 0) fun _ => 0) j
  | 0, _, q => ⟨fun _ => 0, fun j => by show q j = q j - 0; grind⟩
  | i + 1, hi, q => by
    have hx : qs[i]? = some (qs.getD i fun _ => 0) := by rw [List.getD_eq_getElem?_getD, List.getElem?_eq_getElem (by omega)]; rfl
    have et : qs.take (i + 1) = qs.take i ++ [qs.getD i fun _ => 0] := by rw [List.take_succ, hx]; rfl
    obtain ⟨κ1, h1⟩ := made_of qs i (by omega) q
    obtain ⟨κ2, h2⟩ := made_of qs i (by omega) (qs.getD i fun _ => 0)
    rw [et, lbQ_snoc]
    unfold stQ kept
    cases c : fnq n (redQ (lbQ n (qs.take i)) (qs.getD i fun _ => 0)) with
    | none => exact ⟨κ1, h1⟩
    | some l =>
      dsimp only
      generalize kept n qs i = ks at *
      generalize lbQ n (qs.take i) = lb at *
      generalize qs.getD i (fun _ => 0) = u at *
      have hi : i = i := rfl
      refine ⟨fun k => if k < ks.length then κ1 k - (redQ lb q l / redQ lb u l) * κ2 k else redQ lb q l / redQ lb u l, fun j => ?_⟩
      rw [redQ_snoc]
      show redQ lb q j - (redQ lb q l / redQ lb u l) * redQ lb u j = _
      rw [h1 j, h2 j]
      generalize redQ lb q l / redQ lb u l = z
      have eu : qs.getD i (fun _ => 0) = u := by rw [List.getD_eq_getElem?_getD, hx]; rfl
      unfold lcs
      rw [List.length_append, List.length_singleton, sumQ_succ]
      dsimp only
      rw [if_neg (Nat.lt_irrefl _)]
      have e1 : sumQ ks.length (fun k => (if k < ks.length then κ1 k - z * κ2 k else z) * qs.getD ((ks ++ [i]).getD k 0) (fun _ => 0) j) = 1 * sumQ ks.length (fun k => κ1 k * qs.getD (ks.getD k 0) (fun _ => 0) j) + (-z) * sumQ ks.length (fun k => κ2 k * qs.getD (ks.getD k 0) (fun _ => 0) j) := by
        rw [← sumQ_mul]
        refine sumQ_congr fun k hk => ?_
        rw [if_pos hk]
        have e : (ks ++ [i]).getD k 0 = ks.getD k 0 := by rw [List.getD_eq_getElem?_getD, List.getD_eq_getElem?_getD, List.getElem?_append_left hk]
        rw [e]
        grind
      have e2 : (ks ++ [i]).getD ks.length 0 = i := by rw [List.getD_eq_getElem?_getD, List.getElem?_append_right (Nat.le_refl _), Nat.sub_self]; rfl
      rw [e1, e2, eu]
      grind
end Dg
/-! ### kernels and contradictions: what is to be found -/
namespace Lq
open Dg (Vc Vq stepQ redQ redQ_snoc Lk2 red redF stepR dv Good link fnq fnq_some fnq_none fnq_congr stQ lbQ lbQ_snoc kept kept_lt kept_mem made_of sumQ sumQ_succ sumQ_congr sumQ_zero sumQ_mul lc2 lcs LinQ form_redQ form_lbQ dotF dotF_lin redQ_lcs sumF sumF_succ sol unit)
theorem kept_succ (n : Nat) (qs : List Vq) (i : Nat) : kept n qs (i + 1) = match fnq n (redQ (lbQ n (qs.take i)) (qs.getD i fun _ => 0)) with
    | some _ => kept n qs i ++ [i]
    | none => kept n qs i := rfl
theorem bidx_succ (n : Nat) (m : List (List Rat)) (i : Nat) : bidx n m (i + 1) = match fnz n (redL (lbOf n (m.take i)) (m.getD i [])) with
    | some _ => bidx n m i ++ [i]
    | none => bidx n m i := rfl
theorem getD_map {α β : Type} {f : α → β} {xs : List α} {i : Nat} {d : α} {e : β} (h : i < xs.length) : (xs.map f).getD i e = f (xs.getD i d) := by
  rw [List.getD_eq_getElem?_getD, List.getElem?_map, getD_in (d := d) h]
  rfl
/-- the places, of lists and of functions -/
theorem bidx_kept {L n : Nat} {m : List (List Rat)} (h : ∀ r ∈ m, r.length = L) : ∀ i ≤ m.length, bidx n m i = kept n (m.map vq) i
  | 0, _ => rfl
  | i + 1, hi => by
    have ih := bidx_kept (n := n) h i (by omega)
    have ht : ∀ r ∈ m.take i, r.length = L := fun r hr => h r (List.mem_of_mem_take hr)
    have hl : ∀ x ∈ lbOf n (m.take i), x.1.length = L := by
      have : ∀ (m : List (List Rat)) (lb : List (List Rat × Nat)), (∀ r ∈ m, r.length = L) → (∀ x ∈ lb, x.1.length = L) → ∀ x ∈ m.foldl (stepB n) lb, x.1.length = L := by
        intro m
        induction m with
        | nil => intro lb _ h; exact h
        | cons r m ih => intro lb hm hl; exact ih _ (fun y hy => hm y (List.mem_cons_of_mem _ hy)) (toV_stepB hl (hm r List.mem_cons_self)).2
      exact this _ [] ht (fun x hx => nomatch hx)
    have e := vq_red (lbOf n (m.take i)) (m.getD i []) (h _ (getD_mem (by omega))) hl
    rw [bidx_succ, kept_succ, ih, fnz_fnq, e, toV_lbOf ht, getD_map (d := []) (by omega), ← List.map_take]
theorem kept_agree {α : Type} {n : Nat} (f g : α → Vq) (xs : List α) (h : ∀ x ∈ xs, ∀ j < n, f x j = g x j) : ∀ i ≤ xs.length, kept n (xs.map f) i = kept n (xs.map g) i
  | 0, _ => rfl
  | i + 1, hi => by
    have ih := kept_agree f g xs h i (by omega)
    have a := Dg.lbQ_agree f g (xs.take i) fun x hx => h x (List.mem_of_mem_take hx)
    rw [List.map_take, List.map_take] at a
    have hx : xs[i]? = some xs[i] := List.getElem?_eq_getElem (by omega)
    have e1 : (xs.map f).getD i (fun _ => 0) = f xs[i] := by rw [List.getD_eq_getElem?_getD, List.getElem?_map, hx]; rfl
    have e2 : (xs.map g).getD i (fun _ => 0) = g xs[i] := by rw [List.getD_eq_getElem?_getD, List.getElem?_map, hx]; rfl
    have r := a.red (f xs[i]) (g xs[i]) (h _ (List.mem_of_getElem? hx))
    rw [kept_succ, kept_succ, ih, e1, e2, fnq_congr fun j hj => by rw [r j hj]]
theorem lk_leads {J : Nat → Prop} {bs : List (Vc × Nat)} {lb : List (Vq × Nat)} (h : Lk2 J bs lb) : bs.map Prod.snd = lb.map Prod.snd := by
  induction h with
  | nil => rfl
  | snoc _ _ _ _ _ ih => rw [List.map_append, List.map_append, ih]; rfl
/-- where a row of the chain comes from -/
theorem lbQ_mem {n : Nat} (qs : List Vq) : ∀ i ≤ qs.length, ∀ y ∈ lbQ n (qs.take i), ∃ k < i, fnq n (redQ (lbQ n (qs.take k)) (qs.getD k fun _ => 0)) = some y.2 ∧ y.1 = redQ (lbQ n (qs.take k)) (qs.getD k fun _ => 0)
  | 0, _, y, hy => by rw [List.take_zero] at hy; cases hy
  | i + 1, hi, y, hy => by
    have hx : qs[i]? = some (qs.getD i fun _ => 0) := getD_in (by omega)
    have et : qs.take (i + 1) = qs.take i ++ [qs.getD i fun _ => 0] := by rw [List.take_succ, hx]; rfl
    rw [et, lbQ_snoc] at hy
    unfold stQ at hy
    split at hy
    · rename_i l hl
      rcases List.mem_append.mp hy with hy | hy
      · obtain ⟨k, hk, h1⟩ := lbQ_mem qs i (by omega) y hy
        exact ⟨k, by omega, h1⟩
      · rw [List.mem_singleton.mp hy]
        exact ⟨i, by omega, hl, rfl⟩
    · obtain ⟨k, hk, h1⟩ := lbQ_mem qs i (by omega) y hy
      exact ⟨k, by omega, h1⟩
section
variable {n S M M2 : Nat} {m : List (List Rat)} {cs : List Rat}
theorem SysQ.take_all (h : SysQ n S M M2 m cs) : (qsS S m cs).take m.length = qsS S m cs := by rw [← qsS_len S h.len, List.take_length]
theorem SysQ.leads_eq (h : SysQ n S M M2 m cs) : (elimN n S m cs m.length).leads = (lbQ n (qsS S m cs)).map Prod.snd := by
  have g := Gi.all h m.length (Nat.le_refl _)
  have e1 := lk_leads g.lk
  rw [h.take_all] at e1
  have e2 : (elimN n S m cs m.length).bs.map Prod.snd = (elimN n S m cs m.length).leads := List.map_snd_zip (Nat.le_of_eq g.rl.symm)
  rw [← e2, ← e1]
  unfold bsV
  rw [List.map_map]
  rfl
theorem SysQ.qs_getD (h : SysQ n S M M2 m cs) {i : Nat} (hi : i < m.length) : (qsS S m cs).getD i (fun _ => 0) = vq (rowS S (m.getD i []) (cs.getD i 0)) := by
  rw [List.getD_eq_getElem?_getD, qsS_at S h.len hi]
  rfl
theorem SysQ.basis_eq (h : SysQ n S M M2 m cs) : ∀ i ≤ m.length, (elimN n S m cs i).basis = kept n (qsS S m cs) i
  | 0, _ => rfl
  | i + 1, hi => by
    have hi : i < m.length := by omega
    have ih := h.basis_eq i (by omega)
    have g := Gi.all h i (by omega)
    obtain ⟨e1, e2, e3⟩ := g.left h hi
    have hu := used_fnq (n := n) (red := redE S (elimN n S m cs i) (m.getD i []) (cs.getD i 0)) (q := redQ (lbQ n ((qsS S m cs).take i)) (vq (rowS S (m.getD i []) (cs.getD i 0)))) fun j hj => e3 j (by omega)
    rw [kept_succ, h.qs_getD hi, ← hu, ← ih]
    show (stepE n S i (elimN n S m cs i) (m.getD i []) (cs.getD i 0)).basis = _
    unfold stepE
    cases usedE n (redE S (elimN n S m cs i) (m.getD i []) (cs.getD i 0)) with
    | cons l us => rfl
    | nil =>
      dsimp only
      split <;> rfl
theorem qs_first (h : SysQ n S M M2 m cs) : ∀ p ∈ m.zip cs, ∀ j < n, vq (rowS S p.1 p.2) j = vq p.1 j := fun p hp j hj => rowS_at (by rw [h.wide p.1 (List.of_mem_zip hp).1]; exact hj)
theorem zip_fst (h : SysQ n S M M2 m cs) : (m.zip cs).map (fun p : List Rat × Rat => vq p.1) = m.map vq := by
  have : (m.zip cs).map Prod.fst = m := List.map_fst_zip (by rw [h.len]; exact Nat.le_refl _)
  conv => rhs; rw [← this]
  rw [List.map_map]
  rfl
theorem SysQ.kept_eq (h : SysQ n S M M2 m cs) : ∀ i ≤ m.length, kept n (qsS S m cs) i = bidx n m i := fun i hi => by
  have e := kept_agree (n := n) (fun p : List Rat × Rat => vq (rowS S p.1 p.2)) (fun p : List Rat × Rat => vq p.1) (m.zip cs) (qs_first h) i (by rw [List.length_zip, h.len]; omega)
  rw [zip_fst h] at e
  rw [bidx_kept h.wide i hi]
  exact e
/-- where the first contradiction is -/
theorem SysQ.wrong_at (h : SysQ n S M M2 m cs) : ∀ i ≤ m.length, ∀ w, (elimN n S m cs i).wrong = some w → w < i ∧ Dg.Wq n (lbQ n ((qsS S m cs).take w)) (vq (rowS S (m.getD w []) (cs.getD w 0))) ∧ ¬ Dg.Wr n (qsS S m cs) w
  | 0, _, w, hw => nomatch hw
  | i + 1, hi, w, hw => by
    have hi : i < m.length := by omega
    by_cases c : (elimN n S m cs i).wrong = none
    · have g := Gi.all h i (by omega)
      obtain ⟨e1, e2, e3⟩ := g.left h hi
      have hu := used_fnq (n := n) (red := redE S (elimN n S m cs i) (m.getD i []) (cs.getD i 0)) (q := redQ (lbQ n ((qsS S m cs).take i)) (vq (rowS S (m.getD i []) (cs.getD i 0)))) fun j hj => e3 j (by omega)
      have nw : ¬ Dg.Wr n (qsS S m cs) i := fun z => (h.wrong_iff i (by omega)).mpr z c
      have hw : (stepE n S i (elimN n S m cs i) (m.getD i []) (cs.getD i 0)).wrong = some w := hw
      unfold stepE at hw
      cases u : usedE n (redE S (elimN n S m cs i) (m.getD i []) (cs.getD i 0)) with
      | cons l us =>
        rw [u] at hw
        have hw : (elimN n S m cs i).wrong = some w := hw
        rw [c] at hw
        cases hw
      | nil =>
        rw [u] at hw hu
        dsimp only at hw
        by_cases c1 : (redE S (elimN n S m cs i) (m.getD i []) (cs.getD i 0)).getD n 0 ≠ 0 ∧ (elimN n S m cs i).wrong = none
        · rw [if_pos c1] at hw
          have hw : some i = some w := hw
          cases hw
          exact ⟨by omega, ⟨hu.symm, fun z => c1.1 ((e3 n (by omega)).mpr z)⟩, nw⟩
        · rw [if_neg c1, c] at hw
          cases hw
    · have hs : (elimN n S m cs (i + 1)).wrong = (elimN n S m cs i).wrong := by
        show (stepE n S i (elimN n S m cs i) (m.getD i []) (cs.getD i 0)).wrong = _
        unfold stepE
        split
        · rfl
        · rw [if_neg fun z => c z.2]
      rw [hs] at hw
      obtain ⟨a, b⟩ := h.wrong_at i (by omega) w hw
      exact ⟨by omega, b⟩
/-- no contradiction where there is a solution -/
theorem SysQ.no_wrong (h : SysQ n S M M2 m cs) {y : Nat → Rat} (hy : ∀ k < m.length, sumQ n (fun j => (m.getD k []).getD j 0 * y j) = cs.getD k 0) : (elimN n S m cs m.length).wrong = none := by
  have nw : ¬ Dg.Wr n (qsS S m cs) (qsS S m cs).length := Dg.no_wr (y := fun j => ((S : Int) : Rat) * y j) fun q hq => by
    obtain ⟨k, hk, rfl⟩ := List.mem_iff_getElem.mp hq
    have hk2 : k < m.length := by rw [← qsS_len S h.len]; exact hk
    have e : (qsS S m cs)[k] = vq (rowS S (m.getD k []) (cs.getD k 0)) := by
      have := qsS_at S h.len hk2
      rw [List.getElem?_eq_getElem hk] at this
      exact Option.some.inj this
    have w := h.wide _ (getD_mem (d := ([] : List Rat)) hk2)
    rw [e]
    have v3 : vq (rowS S (m.getD k []) (cs.getD k 0)) n = ((S : Int) : Rat) * cs.getD k 0 := rowS_last w.symm
    have := sumQ_mul n ((S : Int) : Rat) 0 (fun j => (m.getD k []).getD j 0 * y j) (fun _ => 0)
    have e3 : dotF n (fun j => ((S : Int) : Rat) * y j) (vq (rowS S (m.getD k []) (cs.getD k 0))) = ((S : Int) : Rat) * sumQ n (fun j => (m.getD k []).getD j 0 * y j) := by
      have e4 : ((S : Int) : Rat) * sumQ n (fun j => (m.getD k []).getD j 0 * y j) = sumQ n fun i => ((S : Int) : Rat) * ((m.getD k []).getD i 0 * y i) + 0 * 0 := by rw [this]; grind
      rw [e4]
      refine sumQ_congr fun j hj => ?_
      have v1 : vq (rowS S (m.getD k []) (cs.getD k 0)) j = (m.getD k []).getD j 0 := rowS_at (by omega)
      rw [v1]
      grind
    rw [e3, hy k hk2, v3]
  rw [qsS_len S h.len] at nw
  by_cases c : (elimN n S m cs m.length).wrong = none
  · exact c
  · exact absurd ((h.wrong_iff m.length (Nat.le_refl _)).mp c) nw
end
/-! #### a column that is no lead -/
theorem redF_below : ∀ (bs : List (Vc × Nat)) (d : Int) (v : Vc) (i : Nat), (∀ x ∈ bs, ∀ j < x.2, x.1 j = 0) → (∀ j < i, v j = 0) → ∀ j < i, redF d bs v j = 0
  | [], _, _, _, _, h, j, hj => h j hj
  | x :: r, d, v, i, hb, h, j, hj => by
    show redF (x.1 x.2) r (stepR d x v) j = 0
    refine redF_below r _ _ i (fun y hy => hb y (List.mem_cons_of_mem _ hy)) (fun k hk => ?_) j hj
    show (x.1 x.2 * v k - v x.2 * x.1 k).fdiv d = 0
    rw [h k hk]
    by_cases c : x.2 < i
    · rw [h x.2 c]
      simp
    · rw [hb x List.mem_cons_self k (by omega)]
      simp
section
variable {n S M M2 : Nat} {m : List (List Rat)} {cs : List Rat}
theorem SysQ.form_all (h : SysQ n S M M2 m cs) {f : Vc → Rat} (hf : Dg.LinF f) (zero : ∀ x ∈ (elimN n S m cs m.length).bs, f (vcI x.1) = 0) (h0 : ∀ v : Vc, (∀ j < n, v j = 0) → f v = 0) {k : Nat} (hk : k < m.length) : f (vcI (intR S (m.getD k []) (cs.getD k 0))) = 0 := by
  have g := Gi.all h k (by omega)
  obtain ⟨e1, e2, e3⟩ := g.left h hk
  have left0 : f (vcI (redE S (elimN n S m cs k) (m.getD k []) (cs.getD k 0))) = 0 := by
    cases c : usedE n (redE S (elimN n S m cs k) (m.getD k []) (cs.getD k 0)) with
    | cons l us =>
      refine zero (redE S (elimN n S m cs k) (m.getD k []) (cs.getD k 0), l) (bs_all h (k := k + 1) (by omega) _ ?_)
      show _ ∈ (stepE n S k (elimN n S m cs k) (m.getD k []) (cs.getD k 0)).bs
      have rl := g.rl
      unfold stepE
      rw [c]
      show _ ∈ List.zip (_ ++ [_]) (_ ++ [_])
      rw [zip_snoc rl]
      simp
    | nil =>
      refine h0 _ fun j hj => ?_
      unfold usedE at c
      have := List.filter_eq_nil_iff.mp c j (List.mem_range.mpr hj)
      show List.getD _ j 0 = 0
      by_cases z : (redE S (elimN n S m cs k) (m.getD k []) (cs.getD k 0)).getD j 0 = 0
      · exact z
      · exact absurd (decide_eq_true z) this
  have e4 := Dg.form_red hf g.lk (fun y hy => by
    obtain ⟨x, hx, rfl⟩ := List.mem_map.mp hy
    exact zero x (bs_all h (by omega) x hx)) (vcI (intR S (m.getD k []) (cs.getD k 0)))
  rw [← e1, left0] at e4
  have dn : (dv (bsV (elimN n S m cs k).bs) : Rat) ≠ 0 := int_ne (link g.lk).1.ne
  rcases Rat.mul_eq_zero.mp e4.symm with z | z
  · exact absurd z dn
  · exact z
theorem sumF_sumQ {R : Vc} {r : List Rat} {b : Rat} {n : Nat} (h : ∀ j < n, (R j : Rat) = b * r.getD j 0) (Y : Nat → Int) : ∀ k ≤ n, ((sumF k (fun i => R i * Y i) : Int) : Rat) = b * sumQ k fun j => r.getD j 0 * (Y j : Rat)
  | 0, _ => by show ((0 : Int) : Rat) = b * 0; simp
  | k + 1, hk => by
    rw [sumF_succ, sumQ_succ, Rat.intCast_add, sumF_sumQ h Y k (by omega), Rat.intCast_mul, h k (by omega)]
    grind
theorem SysQ.ker (h : SysQ n S M M2 m cs) {c : Nat} (hc : c < n) (hl : c ∉ (elimN n S m cs m.length).leads) :
    ∃ y : Nat → Rat, y c ≠ 0 ∧ (∀ i, c < i → i < n → y i = 0) ∧ ∀ k < m.length, sumQ n (fun j => (m.getD k []).getD j 0 * y j) = 0 := by
  have G := Gi.all h m.length (Nat.le_refl _)
  have memV : ∀ {y : Vc × Nat}, y ∈ bsV (elimN n S m cs m.length).bs → ∃ x ∈ (elimN n S m cs m.length).bs, (vcI x.1, x.2) = y := fun {y} hy => List.mem_map.mp hy
  have hn : ∀ y ∈ bsV (elimN n S m cs m.length).bs, y.2 ≠ n := fun y hy => by
    obtain ⟨x, hx, rfl⟩ := memV hy
    have := (G.ld x hx).1
    show x.2 ≠ n
    omega
  have hcl : ∀ y ∈ bsV (elimN n S m cs m.length).bs, y.2 ≠ c := fun y hy z => by
    obtain ⟨x, hx, rfl⟩ := memV hy
    exact hl (z ▸ (mem_lead hx).2)
  have dne := (link G.lk).1.ne
  refine ⟨fun i => (sol (bsV (elimN n S m cs m.length).bs) c i : Rat), ?_, fun i h1 h2 => ?_, fun k hk => ?_⟩
  · show (sol (bsV (elimN n S m cs m.length).bs) c c : Rat) ≠ 0
    rw [sol_off G.lk hcl, show unit c c = 1 from if_pos rfl]
    exact int_ne (by omega)
  · have : sol (bsV (elimN n S m cs m.length).bs) c i = 0 := by
      unfold sol
      have := redF_below (bsV (elimN n S m cs m.length).bs) 1 (unit i) i (fun y hy j hj => by
        obtain ⟨x, hx, rfl⟩ := memV hy
        exact (G.ld x hx).2 j hj) (fun j hj => if_neg (by omega)) c h1
      show - red _ _ _ = 0
      unfold red
      rw [this]
      rfl
    show (sol (bsV (elimN n S m cs m.length).bs) c i : Rat) = 0
    rw [this]
    rfl
  · have g := Gi.all h k (by omega)
    have zero : ∀ x ∈ (elimN n S m cs m.length).bs, formY n 0 (sol (bsV (elimN n S m cs m.length).bs) c) (vcI x.1) = 0 := fun x hx => by
      have e1 := sol_free G.lk hc hn (u := vcI x.1) (by
        rw [cut_row (G.ri.len x hx).1]
        exact Dg.red_self G.lk (vcI x.1, x.2) (List.mem_map.mpr ⟨x, hx, rfl⟩) c)
      unfold formY
      rw [e1]
      simp
    have q := h.form_all (f := formY n 0 (sol (bsV (elimN n S m cs m.length).bs) c)) (formY_lin n 0 _) zero (fun v hv => by
      unfold formY
      have e : sumF n (fun i => v i * sol (bsV (elimN n S m cs m.length).bs) c i) = sumF n fun i => 0 * (0 : Int) + 0 * 0 := sumF_congr fun i hi => by rw [hv i hi]; simp
      rw [e, sumF_mul]
      simp) hk
    have hr := getD_mem (d := ([] : List Rat)) hk
    have hcs := getD_mem (d := (0 : Rat)) (show k < cs.length by rw [h.len]; exact hk)
    have w := h.wide _ hr
    have sc := h.scaled hr hcs
    have bn := h.b_ne hr
    unfold formY at q
    rw [Int.zero_mul, Int.sub_zero, sumF_sumQ (r := m.getD k []) (b := ((botN (m.getD k []) : Int) : Rat)) (fun j hj => by
      rw [sc j (by omega)]
      have v1 : vq (rowS S (m.getD k []) (cs.getD k 0)) j = (m.getD k []).getD j 0 := rowS_at (by omega)
      rw [v1]) _ n (Nat.le_refl _)] at q
    rcases Rat.mul_eq_zero.mp q with z | z
    · exact absurd z (int_ne (by omega))
    · exact z
end
end Lq
/-! ### columns; the factors that show a contradiction -/
namespace Lq
open Dg (Vc Vq stepQ redQ redQ_snoc Lk2 red redF stepR dv Good link fnq fnq_some fnq_none fnq_congr stQ lbQ lbQ_snoc kept kept_lt kept_mem made_of sumQ sumQ_succ sumQ_congr sumQ_zero sumQ_mul lc2 lcs LinQ form_redQ form_lbQ dotF dotF_lin redQ_lcs lbQ_zero lbQ_kept)
theorem fnq_nil {n : Nat} {q : Vq} (h : ∀ j < n, q j = 0) : fnq n q = none := by
  cases c : fnq n q with
  | none => rfl
  | some l =>
    obtain ⟨h1, h2, _⟩ := fnq_some c
    exact absurd (h l h1) h2
def colsL (n : Nat) (m : List (List Rat)) : List (List Rat) := (List.range n).map fun j => m.map fun r => r.getD j 0
def colQ (m : List (List Rat)) (j : Nat) : Vq := fun k => (m.getD k []).getD j 0
theorem colQ_vq (m : List (List Rat)) (j : Nat) : vq (m.map fun r => r.getD j 0) = colQ m j := by
  funext k
  show (m.map fun r => r.getD j 0).getD k 0 = (m.getD k []).getD j 0
  by_cases c : k < m.length
  · rw [getD_map (d := []) c]
  · rw [getD_out (by rw [List.length_map]; omega), getD_out (r := m) (by omega)]
    rfl
theorem colsL_len (n : Nat) (m : List (List Rat)) : (colsL n m).length = n := by unfold colsL; rw [List.length_map, List.length_range]
theorem colsL_at {n : Nat} (m : List (List Rat)) {j : Nat} (h : j < n) : ((colsL n m).map vq).getD j (fun _ => 0) = colQ m j := by
  unfold colsL
  rw [List.map_map, getD_map (d := 0) (by rw [List.length_range]; exact h)]
  show vq (m.map fun r => r.getD ((List.range n).getD j 0) 0) = _
  rw [List.getD_eq_getElem?_getD, List.getElem?_range h]
  exact colQ_vq m j
theorem colsL_wide (n : Nat) (m : List (List Rat)) : ∀ r ∈ colsL n m, r.length = m.length := fun r hr => by
  unfold colsL at hr
  obtain ⟨j, _, rfl⟩ := List.mem_map.mp hr
  rw [List.length_map]
section
variable {n S M M2 : Nat} {m : List (List Rat)} {cs : List Rat}
/-- the columns that are no sums of those ahead are the leads -/
theorem SysQ.cols (h : SysQ n S M M2 m cs) {j : Nat} (hj : j < n) : j ∈ bidx m.length (colsL n m) n ↔ j ∈ (elimN n S m cs m.length).leads := by
  have lc := colsL_len n m
  rw [bidx_kept (colsL_wide n m) n (by omega), kept_mem, colsL_at m hj]
  have lq : ((colsL n m).map vq).length = n := by rw [List.length_map, lc]
  constructor
  · rintro ⟨_, h2⟩
    by_cases c : j ∈ (elimN n S m cs m.length).leads
    · exact c
    · exfalso
      obtain ⟨y, y1, y2, y3⟩ := h.ker hj c
      apply h2
      have e : colQ m j = lcs j (fun i => -(y i) / y j) (fun i => ((colsL n m).map vq).getD i fun _ => 0) := by
        funext k
        show _ = sumQ j _
        have e1 : sumQ j (fun i => -(y i) / y j * ((colsL n m).map vq).getD i (fun _ => 0) k) = sumQ j fun i => (-1 / y j) * ((m.getD k []).getD i 0 * y i) + 0 * 0 := sumQ_congr fun i hi => by
          rw [colsL_at m (by omega)]
          show -(y i) / y j * (m.getD k []).getD i 0 = _
          generalize y j = a at *
          grind
        rw [e1, sumQ_mul]
        show (m.getD k []).getD j 0 = _
        by_cases ck : k < m.length
        · have e2 := y3 k ck
          have e3 : ∀ d, j + 1 + d ≤ n → sumQ (j + 1 + d) (fun i => (m.getD k []).getD i 0 * y i) = sumQ (j + 1) fun i => (m.getD k []).getD i 0 * y i := by
            intro d
            induction d with
            | zero => intro _; rfl
            | succ d ih =>
              intro hd
              rw [← Nat.add_assoc, sumQ_succ, ih (by omega), y2 (j + 1 + d) (by omega) (by omega)]
              grind
          have e4 := e3 (n - (j + 1)) (by omega)
          rw [show j + 1 + (n - (j + 1)) = n by omega, e2, sumQ_succ] at e4
          generalize y j = a at *
          generalize (m.getD k []).getD j 0 = b at *
          generalize sumQ j _ = s at *
          grind
        · rw [getD_out (r := m) (by omega)]
          have e2 : sumQ j (fun i => ([] : List Rat).getD i 0 * y i) = 0 := sumQ_zero fun i _ => by show (0 : Rat) * _ = 0; grind
          rw [e2]
          show (0 : Rat) = _
          grind
      refine fnq_nil fun k hk => ?_
      rw [e, redQ_lcs]
      exact sumQ_zero fun i hi => by
        dsimp only
        rw [lbQ_zero ((colsL n m).map vq) j (by omega) i hi _ (getD_in (by omega)) k hk]
        grind
  · intro hl
    refine ⟨hj, fun hn => ?_⟩
    rw [h.leads_eq] at hl
    obtain ⟨x, hx, hxj⟩ := List.mem_map.mp hl
    have ql := qsS_len S h.len
    rw [← h.take_all] at hx
    obtain ⟨k, hk, f1, f2⟩ := lbQ_mem (qsS S m cs) m.length (by omega) x hx
    rw [hxj] at f1
    obtain ⟨_, g2, g3⟩ := fnq_some f1
    obtain ⟨κ, hκ⟩ := made_of (n := n) (qsS S m cs) k (by omega) ((qsS S m cs).getD k fun _ => 0)
    have hks := kept_lt n (qsS S m cs) k
    generalize kept n (qsS S m cs) k = ks at *
    have lin : LinQ fun c : Vq => c k - sumQ ks.length fun i => κ i * c (ks.getD i 0) := fun a b u w => by
      show (a * u k + b * w k) - _ = a * (u k - _) + b * (w k - _)
      have e : sumQ ks.length (fun i => κ i * lc2 a u b w (ks.getD i 0)) = a * sumQ ks.length (fun i => κ i * u (ks.getD i 0)) + b * sumQ ks.length (fun i => κ i * w (ks.getD i 0)) := by
        rw [← sumQ_mul]
        exact sumQ_congr fun i _ => by show κ i * (a * _ + b * _) = _; grind
      rw [e]
      grind
    have at_ : ∀ r < m.length, ∀ i < n, (qsS S m cs).getD r (fun _ => 0) i = (m.getD r []).getD i 0 := fun r hr i hi => by
      rw [h.qs_getD hr]
      exact rowS_at (by rw [h.wide _ (getD_mem hr)]; exact hi)
    have val : ∀ i < n, (colQ m i k - sumQ ks.length fun r => κ r * colQ m i (ks.getD r 0)) = redQ (lbQ n ((qsS S m cs).take k)) ((qsS S m cs).getD k fun _ => 0) i := fun i hi => by
      rw [hκ i]
      unfold lcs
      rw [at_ k hk i hi]
      congr 1
      refine sumQ_congr fun r hr => ?_
      have := hks _ (getD_mem (d := 0) hr)
      dsimp only
      rw [at_ _ (by omega) i hi]
      rfl
    have z := form_redQ lin (form_lbQ lin (n := m.length) ((colsL n m).map vq) j (by omega) fun u hu => by
      obtain ⟨i, hi, rfl⟩ := List.mem_iff_getElem.mp hu
      rw [List.length_take, lq] at hi
      have e : (((colsL n m).map vq).take j)[i] = colQ m i := by
        rw [List.getElem_take]
        have := colsL_at m (show i < n by omega)
        rw [List.getD_eq_getElem?_getD, List.getElem?_eq_getElem (by omega)] at this
        exact this
      rw [e]
      show colQ m i k - _ = 0
      rw [val i (by omega)]
      exact g3 i (by omega)) (colQ m j)
    have z : (redQ (lbQ m.length (((colsL n m).map vq).take j)) (colQ m j) k - sumQ ks.length fun i => κ i * redQ (lbQ m.length (((colsL n m).map vq).take j)) (colQ m j) (ks.getD i 0)) = colQ m j k - sumQ ks.length fun i => κ i * colQ m j (ks.getD i 0) := z
    rw [val j hj, fnq_none hn k hk, sumQ_zero fun i hi => by
      have := hks _ (getD_mem (d := 0) hi)
      rw [fnq_none hn _ (by omega)]
      grind] at z
    apply g2
    rw [← z]
    grind
theorem kept_sorted (n : Nat) (qs : List Vq) : ∀ i, (kept n qs i).Pairwise (· < ·)
  | 0 => .nil
  | i + 1 => by
    rw [kept_succ]
    split
    · exact List.pairwise_append.mpr ⟨kept_sorted n qs i, List.pairwise_singleton _ _, fun a ha b hb => by
        rw [List.mem_singleton.mp hb]
        exact kept_lt n qs i a ha⟩
    · exact kept_sorted n qs i
/-- the rows of the basis ahead of w, turned -/
def turnL (n : Nat) (b : List Nat) (m : List (List Rat)) : List (List Rat) := (List.range n).map fun c => b.map fun at_ => (m.getD at_ []).getD c 0
def negL (r : List Rat) : List Rat := r.map fun x => -x
theorem SmQ.neg {M B : Nat} {x : Rat} (h : SmQ M B x) : SmQ M B (-x) := by
  obtain ⟨k, rfl, hk⟩ := h
  refine ⟨-k, ?_, by rw [Int.natAbs_neg]; exact hk⟩
  rw [Rat.intCast_neg]
  grind
theorem turn_at {n : Nat} {b : List Nat} {m : List (List Rat)} {c i : Nat} (hc : c < n) (hi : i < b.length) : ((turnL n b m).getD c []).getD i 0 = (m.getD (b.getD i 0) []).getD c 0 := by
  unfold turnL
  rw [getD_map (d := 0) (by rw [List.length_range]; exact hc), getD_map (d := 0) hi]
  have : (List.range n).getD c 0 = c := by rw [List.getD_eq_getElem?_getD, List.getElem?_range hc]; rfl
  rw [this]
theorem neg_at {r : List Rat} {c : Nat} (hc : c < r.length) : (negL r).getD c 0 = -(r.getD c 0) := by
  unfold negL
  rw [getD_map (d := 0) hc]
theorem SysQ.turned (h : SysQ n S M M2 m cs) (hn : 1 ≤ n) (hs : ∀ r ∈ m, ∀ e ∈ r, SmQ M (2 ^ 49) e) {w : Nat} (hw : w < m.length) : SysQ (bidx n m w).length (botN (negL (m.getD w []))) M M (turnL n (bidx n m w) m) (negL (m.getD w [])) := by
  have f := h.few
  have hr := getD_mem (d := ([] : List Rat)) hw
  have m1 := h.m1
  have bl := bidx_len n m w (by omega)
  have bl2 := lbOf_le n (m.take w)
  rw [List.length_take] at bl2
  have tl : (turnL n (bidx n m w) m).length = n := by unfold turnL; rw [List.length_map, List.length_range]
  refine ⟨by unfold negL; rw [List.length_map, h.wide _ hr, tl], ⟨by omega, by omega⟩, fun r hr => ?_, fun z => ?_, rfl, m1, ⟨m1.1, by omega⟩, fun r hr e he => ?_, fun c hc => ?_⟩
  · unfold turnL at hr
    obtain ⟨c, _, rfl⟩ := List.mem_map.mp hr
    rw [List.length_map]
  · rw [z] at tl
    have tl : 0 = n := tl
    omega
  · unfold turnL at hr
    obtain ⟨c, _, rfl⟩ := List.mem_map.mp hr
    obtain ⟨a, ha, rfl⟩ := List.mem_map.mp he
    have := bidx_lt n m w a ha
    have hm := getD_mem (d := ([] : List Rat)) (show a < m.length by omega)
    by_cases q : c < (m.getD a []).length
    · exact h.rows _ hm _ (getD_mem q)
    · rw [getD_out (r := m.getD a []) (by omega)]; exact SmQ.zero
  · unfold negL at hc
    obtain ⟨x, hx, rfl⟩ := List.mem_map.mp hc
    exact (hs _ hr x hx).neg
theorem dotN_sumQ (r v : List Rat) : ∀ n, dotN r v n = sumQ n fun j => r.getD j 0 * v.getD j 0
  | 0 => rfl
  | n + 1 => by
    rw [sumQ_succ, ← dotN_sumQ r v n]
    rfl
theorem turn_len (n : Nat) (b : List Nat) (m : List (List Rat)) : (turnL n b m).length = n := by unfold turnL; rw [List.length_map, List.length_range]
/-- the row w is made of the rows of the basis ahead -/
theorem SysQ.turn_none (h : SysQ n S M M2 m cs) (hn : 1 ≤ n) (hs : ∀ r ∈ m, ∀ e ∈ r, SmQ M (2 ^ 49) e) {w : Nat} (hw : (elimN n S m cs m.length).wrong = some w) :
    (elimN (bidx n m w).length (botN (negL (m.getD w []))) (turnL n (bidx n m w) m) (negL (m.getD w [])) n).wrong = none := by
  obtain ⟨w1, ⟨w2, _⟩, _⟩ := h.wrong_at m.length (Nat.le_refl _) w hw
  have t := h.turned hn hs w1
  have wl := h.wide _ (getD_mem (d := ([] : List Rat)) w1)
  obtain ⟨κ, hκ⟩ := made_of (n := n) (qsS S m cs) w (by rw [qsS_len S h.len]; omega) (vq (rowS S (m.getD w []) (cs.getD w 0)))
  rw [h.kept_eq w (by omega)] at hκ
  have blt := bidx_lt n m w
  have q := t.no_wrong (y := fun i => -(κ i)) fun c hc => by
    rw [turn_len] at hc
    rw [neg_at (by omega)]
    have e := hκ c
    rw [fnq_none w2 c hc] at e
    have v : vq (rowS S (m.getD w []) (cs.getD w 0)) c = (m.getD w []).getD c 0 := rowS_at (by omega)
    rw [v] at e
    have e2 : lcs (bidx n m w).length κ (fun k => (qsS S m cs).getD ((bidx n m w).getD k 0) fun _ => 0) c = sumQ (bidx n m w).length fun i => κ i * ((turnL n (bidx n m w) m).getD c []).getD i 0 := sumQ_congr fun i hi => by
      have := blt _ (getD_mem (d := 0) hi)
      dsimp only
      rw [turn_at hc hi, h.qs_getD (by omega)]
      have v2 : vq (rowS S (m.getD ((bidx n m w).getD i 0) []) (cs.getD ((bidx n m w).getD i 0) 0)) c = (m.getD ((bidx n m w).getD i 0) []).getD c 0 := rowS_at (by rw [h.wide _ (getD_mem (by omega))]; exact hc)
      rw [v2]
    rw [e2] at e
    have e3 : sumQ (bidx n m w).length (fun j => ((turnL n (bidx n m w) m).getD c []).getD j 0 * -(κ j)) = (-1) * sumQ (bidx n m w).length (fun i => κ i * ((turnL n (bidx n m w) m).getD c []).getD i 0) + 0 * sumQ (bidx n m w).length (fun _ => 0) := by
      rw [← sumQ_mul]
      exact sumQ_congr fun i _ => by grind
    rw [e3]
    generalize sumQ (bidx n m w).length (fun i => κ i * ((turnL n (bidx n m w) m).getD c []).getD i 0) = a at *
    generalize (m.getD w []).getD c 0 = d at *
    grind
  rw [turn_len] at q
  exact q
/-- the rows of the basis are no sums of each other -/
theorem SysQ.turn_free (h : SysQ n S M M2 m cs) (hn : 1 ≤ n) (hs : ∀ r ∈ m, ∀ e ∈ r, SmQ M (2 ^ 49) e) {w : Nat} (w1 : w < m.length) :
    freeE (bidx n m w).length (elimN (bidx n m w).length (botN (negL (m.getD w []))) (turnL n (bidx n m w) m) (negL (m.getD w [])) n) = [] := by
  have t := h.turned hn hs w1
  have tl := turn_len n (bidx n m w) m
  unfold freeE
  rw [List.filter_eq_nil_iff]
  intro c hc
  have hc := List.mem_range.mp hc
  by_cases q : c ∈ (elimN (bidx n m w).length (botN (negL (m.getD w []))) (turnL n (bidx n m w) m) (negL (m.getD w [])) n).leads
  · exact fun z => (of_decide_eq_true z) q
  · exfalso
    obtain ⟨y, y1, y2, y3⟩ := t.ker hc (by rw [tl]; exact q)
    rw [tl] at y3
    have bk : bidx n m w = kept n (m.map vq) w := bidx_kept h.wide w (by omega)
    have so := kept_sorted n (m.map vq) w
    have hb := (kept_mem n (m.map vq) w ((bidx n m w).getD c 0)).mp (by rw [← bk]; exact getD_mem hc)
    rw [← bk] at so
    have ml : (m.map vq).length = m.length := List.length_map _
    have at_ : ∀ r < m.length, (m.map vq).getD r (fun _ => 0) = vq (m.getD r []) := fun r hr => getD_map hr
    have hbl : ∀ i < (bidx n m w).length, (bidx n m w).getD i 0 < m.length := fun i hi => by
      have := bidx_lt n m w _ (getD_mem (d := 0) hi)
      omega
    apply hb.2
    have e : (m.map vq).getD ((bidx n m w).getD c 0) (fun _ => 0) = lcs c (fun i => -(y i) / y c) (fun i => (m.map vq).getD ((bidx n m w).getD i 0) fun _ => 0) := by
      rw [at_ _ (hbl c hc)]
      funext k
      show (m.getD ((bidx n m w).getD c 0) []).getD k 0 = sumQ c _
      have e1 : sumQ c (fun i => -(y i) / y c * (m.map vq).getD ((bidx n m w).getD i 0) (fun _ => 0) k) = sumQ c fun i => (-1 / y c) * ((m.getD ((bidx n m w).getD i 0) []).getD k 0 * y i) + 0 * 0 := sumQ_congr fun i hi => by
        rw [at_ _ (hbl i (by omega))]
        show -(y i) / y c * (m.getD ((bidx n m w).getD i 0) []).getD k 0 = _
        generalize y c = a at *
        grind
      rw [e1, sumQ_mul]
      by_cases ck : k < n
      · have e2 := y3 k ck
        have e0 : sumQ (bidx n m w).length (fun j => ((turnL n (bidx n m w) m).getD k []).getD j 0 * y j) = sumQ (bidx n m w).length fun j => (m.getD ((bidx n m w).getD j 0) []).getD k 0 * y j := sumQ_congr fun i hi => by rw [turn_at ck hi]
        rw [e0] at e2
        have e3 : ∀ d, c + 1 + d ≤ (bidx n m w).length → sumQ (c + 1 + d) (fun i => (m.getD ((bidx n m w).getD i 0) []).getD k 0 * y i) = sumQ (c + 1) fun i => (m.getD ((bidx n m w).getD i 0) []).getD k 0 * y i := by
          intro d
          induction d with
          | zero => intro _; rfl
          | succ d ih =>
            intro hd
            rw [← Nat.add_assoc, sumQ_succ, ih (by omega), y2 (c + 1 + d) (by omega) (by omega)]
            grind
        have e4 := e3 ((bidx n m w).length - (c + 1)) (by omega)
        rw [show c + 1 + ((bidx n m w).length - (c + 1)) = (bidx n m w).length by omega, e2, sumQ_succ] at e4
        generalize y c = a at *
        generalize (m.getD ((bidx n m w).getD c 0) []).getD k 0 = b at *
        generalize sumQ c _ = s at *
        grind
      · have z : ∀ i ≤ c, (m.getD ((bidx n m w).getD i 0) []).getD k 0 = 0 := fun i hi => getD_out (by rw [h.wide _ (getD_mem (hbl i (by omega)))]; omega)
        rw [z c (Nat.le_refl _)]
        have e2 : sumQ c (fun i => (m.getD ((bidx n m w).getD i 0) []).getD k 0 * y i) = 0 := sumQ_zero fun i hi => by rw [z i (by omega)]; grind
        rw [e2]
        show (0 : Rat) = _
        grind
    refine fnq_nil fun k hk => ?_
    rw [e, redQ_lcs]
    exact sumQ_zero fun i hi => by
      dsimp only
      have lt : (bidx n m w).getD i 0 < (bidx n m w).getD c 0 := by
        have := List.pairwise_iff_getElem.mp so i c (by omega) hc hi
        rw [List.getD_eq_getElem?_getD, List.getD_eq_getElem?_getD, List.getElem?_eq_getElem hc, List.getElem?_eq_getElem (by omega)]
        exact this
      rw [lbQ_zero (m.map vq) ((bidx n m w).getD c 0) (by rw [ml]; exact Nat.le_of_lt (hbl c hc)) _ lt _ (getD_in (by rw [ml]; exact hbl i (by omega))) k hk]
      grind
/-- the constants do not fit -/
theorem SysQ.turn_ne (h : SysQ n S M M2 m cs) {w : Nat} (hw : (elimN n S m cs m.length).wrong = some w) {x : Nat → Rat} (hx : ∀ c < n, sumQ (bidx n m w).length (fun i => (m.getD ((bidx n m w).getD i 0) []).getD c 0 * x i) = -((m.getD w []).getD c 0)) :
    cs.getD w 0 + sumQ (bidx n m w).length (fun i => cs.getD ((bidx n m w).getD i 0) 0 * x i) ≠ 0 := by
  obtain ⟨w1, ⟨_, w3⟩, _⟩ := h.wrong_at m.length (Nat.le_refl _) w hw
  intro z
  apply w3
  have hbl : ∀ i < (bidx n m w).length, (bidx n m w).getD i 0 < w := fun i hi => bidx_lt n m w _ (getD_mem (d := 0) hi)
  have ql := qsS_len S h.len
  have e : vq (rowS S (m.getD w []) (cs.getD w 0)) = lcs (bidx n m w).length (fun i => -(x i)) (fun i => (qsS S m cs).getD ((bidx n m w).getD i 0) fun _ => 0) := by
    funext k
    show _ = sumQ _ _
    have e1 : sumQ (bidx n m w).length (fun i => -(x i) * (qsS S m cs).getD ((bidx n m w).getD i 0) (fun _ => 0) k) = sumQ (bidx n m w).length fun i => (-1) * (vq (rowS S (m.getD ((bidx n m w).getD i 0) []) (cs.getD ((bidx n m w).getD i 0) 0)) k * x i) + 0 * 0 := sumQ_congr fun i hi => by
      have := hbl i hi
      rw [h.qs_getD (by omega)]
      grind
    rw [e1, sumQ_mul]
    by_cases c : k < n
    · have v : ∀ r < m.length, vq (rowS S (m.getD r []) (cs.getD r 0)) k = (m.getD r []).getD k 0 := fun r hr => rowS_at (by rw [h.wide _ (getD_mem hr)]; exact c)
      have e2 : sumQ (bidx n m w).length (fun i => vq (rowS S (m.getD ((bidx n m w).getD i 0) []) (cs.getD ((bidx n m w).getD i 0) 0)) k * x i) = -((m.getD w []).getD k 0) := by
        rw [← hx k c]
        exact sumQ_congr fun i hi => by
          have := hbl i hi
          rw [v _ (by omega)]
      rw [e2, v w w1]
      grind
    · by_cases c2 : k = n
      · have v : ∀ r < m.length, vq (rowS S (m.getD r []) (cs.getD r 0)) k = ((S : Int) : Rat) * cs.getD r 0 := fun r hr => rowS_last (by rw [h.wide _ (getD_mem hr)]; exact c2)
        have e2 : sumQ (bidx n m w).length (fun i => vq (rowS S (m.getD ((bidx n m w).getD i 0) []) (cs.getD ((bidx n m w).getD i 0) 0)) k * x i) = sumQ (bidx n m w).length fun i => ((S : Int) : Rat) * (cs.getD ((bidx n m w).getD i 0) 0 * x i) + 0 * 0 := sumQ_congr fun i hi => by
          have := hbl i hi
          rw [v _ (by omega)]
          grind
        rw [e2, sumQ_mul, v w w1]
        generalize sumQ (bidx n m w).length (fun i => cs.getD ((bidx n m w).getD i 0) 0 * x i) = a at *
        generalize cs.getD w 0 = b at *
        grind
      · have v : ∀ r < m.length, vq (rowS S (m.getD r []) (cs.getD r 0)) k = 0 := fun r hr => getD_out (by unfold rowS; rw [List.length_append, h.wide _ (getD_mem hr), List.length_singleton]; omega)
        have e2 : sumQ (bidx n m w).length (fun i => vq (rowS S (m.getD ((bidx n m w).getD i 0) []) (cs.getD ((bidx n m w).getD i 0) 0)) k * x i) = 0 := sumQ_zero fun i hi => by
          have := hbl i hi
          rw [v _ (by omega)]
          grind
        rw [e2, v w w1]
        grind
  rw [e, redQ_lcs]
  exact sumQ_zero fun i hi => by
    dsimp only
    have lt := hbl i hi
    have km := (kept_mem n (qsS S m cs) w ((bidx n m w).getD i 0)).mp (by rw [h.kept_eq w (by omega)]; exact getD_mem hi)
    have q := lbQ_kept (n := n) (qsS S m cs) (getD_in (d := fun _ => 0) (show (bidx n m w).getD i 0 < (qsS S m cs).length by omega)) km.2 (w - ((bidx n m w).getD i 0 + 1)) (by omega)
    rw [show (bidx n m w).getD i 0 + 1 + (w - ((bidx n m w).getD i 0 + 1)) = w by omega] at q
    rw [q]
    grind
end
end Lq
namespace Lq
section
variable {P : Program} {w : World} {K : PySem.W.Frag} {mg : Str → Option Value} {base : Heap}
def wNeg : Wz := fun ds Nv _ => ∃ (q : Rat) (p : Nat), ds = [ratE q] ∧ BQ p q ∧ p ≤ 7990 ∧ Nv (ratE (-q)) false
theorem ok_Ratio___neg__ (T : Top w K mg) : FnOk P w K mg base CX0 4 (He.ma K (He.ga K ("Ratio" : Str)) ("__neg__" : Str)) (fdOf K d_Ratio___neg__) ["self"] (spZ K wNeg) := by
  obtain ⟨ds1, B1⟩ := T.b1_Ratio___init__
  refine (T.f_Ratio___neg__).ok sc_Ratio___neg__ (fun vs H Q E h => spz_len h (n := 1) fun ds Nv Ne hw => ?_) (fun cdv A outer s H vs Q E hr h => ?_)
  · obtain ⟨_, _, rfl, _⟩ := hw
    rfl
  · refine z_fn h (PSs.nox (pss_one (ps_ret (pe_make (C := He.ga K ("Ratio" : Str)) T.mk_Ratio (ok_Ratio___init__ (K := K) T) (hr.mono (by decide)) rfl T.g_Ratio (B1.2) (B1.1) passL (pa_cons (pe_un un_neg (pe_fldK (K := K) rfl (pv 0) rfl)) (pa_cons (pe_fldK (K := K) rfl (pv 0) rfl) pa_nil)))))) fun ds Nv Ne hw => ?_
    obtain ⟨q, p, rfl, bq, hp, k⟩ := hw
    walk_at "zz"
    refine ⟨_, _, .top _ _, T.cls_Ratio, T.na_Ratio_top, ?_⟩
    walk_at "zz"
    refine ⟨_, _, .bot _ _, T.cls_Ratio, T.na_Ratio_bottom, ?_⟩
    walk_at "zz"
    have lw : Low (-q).num ((-q).den : Int) := rat_low (-q)
    have e1 : (-q).num = -q.num := Rat.neg_num q
    have e2 : (-q).den = q.den := Rat.neg_den q
    rw [e1, e2] at lw
    refine ⟨_, _, .inl ⟨rfl, rfl⟩, den_neI q, Nat.lt_of_le_of_lt (sgc_abs (den_neI q)) (bq.2.mono (by omega)), ?_⟩
    rw [pn_low lw, pd_low lw]
    walk_at "zz"
    unfold ratE at k
    rw [e1, e2] at k
    exact k
def kerL (n : Nat) (m : List (List Rat)) : List (List Rat) := (freeE n (elimN n 1 m (zc m) m.length)).map fun c => solY 1 (elimN n 1 m (zc m) m.length) (yL (bsV (elimN n 1 m (zc m) m.length).bs) n 1 (some c))
def wKernel : Wz := fun ds Nv _ => ∃ (n M : Nat) (m : List (List Rat)), ds = [ratsD false false m] ∧ SysQ n 1 M 1 m (zc m) ∧ Nv (ratsD true true (kerL n m)) true
set_option maxHeartbeats 4000000 in
theorem ok_kernel (T : Top w K mg) : FnOk P w K mg base CX0 7 (He.ga K ("kernel" : Str)) (fdOf K d_kernel) ["rows"] (spZ K wKernel) := by
  refine (T.f_kernel).ok sc_kernel (fun vs H Q E h => spz_len h (n := 1) fun ds Nv Ne hw => ?_) (fun cdv A outer s H vs Q E hr h => ?_)
  · obtain ⟨_, _, _, rfl, _⟩ := hw
    rfl
  · refine z_fn h (PSs.nox (pss_cons (ps_set (i := 1) sc_kernel.nd rfl (Or.inr rfl) (pe_call (ok__without_constants (K := K) T) (hr.mono (by decide)) rfl T.g__without_constants T.f__without_constants.kp T.b__without_constants .nil pass0 (pa_cons (pv 0) pa_nil)))
    (pss_one (ps_ret (pe_lockL (pe_lc (own := [(("column" : Str), 2)]) (g := (gName 2)) (tt := tYes) rfl sc_kernel.nd (pi_listK (K := K) rfl (pe_meth0 (pv 1) T.cls_Elimination T.m_Elimination_free_columns (ok_Elimination_free_columns (K := K) T) (hr.mono (by decide)) T.b_Elimination_free_columns .nil pass0)) (blkOk_by (N := ["rows", "elimination", "column"]) (sc := defScope s_kernel) (by decide +kernel)) (fun _ _ _ _ _ => (pg_name (i := 2) sc_kernel.nd rfl (Or.inl rfl))) (fun _ _ _ _ _ => pts_nil) (fun _ _ _ _ _ => (pe_meth (pv 1) T.cls_Elimination T.m_Elimination_solution (ok_Elimination_solution (K := K) T) (hr.mono (by decide)) T.b_Elimination_solution .nil pass0 (pa_cons (pe_disp (pps_cons (pv 2) pe_int pps_nil) rfl rfl (List.cons_ne_nil _ _) (by decide)) pa_nil))))))))) fun ds Nv Ne hw => ?_
    obtain ⟨n, M, m, rfl, sy, k⟩ := hw
    walk_at "zz"
    refine ⟨n, m, by show [(ratsD false false m).old] = _; rw [ratsD_old], sy.ok, ?_⟩
    walk_at "zz"
    unfold kerL at k
    have ok := sy.ok
    have few := ok.few
    have sol := fun c (hc : c < n) => sy.sol_ok (some c) (fun d q => by cases q; exact hc)
    obtain ⟨okr1, okr2⟩ := ok.rows m.length (Nat.le_refl _)
    generalize elimN n 1 m (zc m) m.length = e at *
    refine ze_lcM (freeE n e) (fun c : Nat => .int (c : Int)) (fun c => some (ratL true (solY 1 e (yL (bsV e.bs) n 1 (some c))))) (zi_list (ze_meth ?_))
    walk_at "zz"
    refine ⟨elN, _, rfl, by decide, ?_⟩
    walk_at "zz"
    refine ⟨n, 1, e.basis, e.rows, e.leads, e.wrong, ?_, by omega, ?_⟩
    · show [Dt.old (elD K true true true n 1 e.basis e.rows e.leads e.wrong)] = _
      rw [elD_old]
    have fl : (freeE n e).length ≤ n := by
      unfold freeE
      have := List.length_filter_le (fun c => decide (c ∉ e.leads)) (List.range n)
      rw [List.length_range] at this
      exact this
    refine ⟨_, _, rfl, rfl, trivial, rfl, by omega, fun c hc => ?_, ?_⟩
    · unfold freeE at hc
      obtain ⟨hc, _⟩ := List.mem_filter.mp hc
      have hc := List.mem_range.mp hc
      refine zgw_name (by decide) ?_
      walk_at "zz"
      refine ⟨elN, _, rfl, by decide, ?_⟩
      walk_at "zz"
      refine ⟨.inl (c : Int), rfl, ?_⟩
      walk_at "zz"
      refine ⟨rfl, by simp, by simp, ?_⟩
      walk_at "zz"
      have so := sol c hc
      refine ⟨n, 1, e.basis, e.rows, e.leads, e.wrong, some c, _, ?_, okr2, by omega, okr1, so.lt, so.nd, so.len, so.ne, by unfold Bits; decide, so.free, so.row, so.bits, ?_⟩
      · show [Dt.old (elD K true true true n 1 e.basis e.rows e.leads e.wrong), _] = _
        rw [elD_old]
        rfl
      · exact ⟨rfl, rfl⟩
    · rw [map_some]
      have er : Dt.lst true ((freeE n e).map fun c => ratL true (solY 1 e (yL (bsV e.bs) n 1 (some c)))) = ratsD true true ((freeE n e).map fun c => solY 1 e (yL (bsV e.bs) n 1 (some c))) := by
        unfold ratsD
        rw [List.map_map]
        rfl
      rw [er]
      exact k
end
end Lq
namespace Lq
theorem passL0 {X : Cx} : Passes CX0 X E0 := pass0
theorem zs_at56 {z : Cz} {t : TS} {ρ ρ' : List Sl} {D : Zn} (e : ρ = ρ') (h : ZS z t ρ' D) : ZS z t ρ D := e ▸ h
theorem zip2_map {α β : Type} (f : α → Dt) (g : β → Dt) : ∀ (xs : List α) (ys : List β), zip2 (xs.map f) (ys.map g) = (xs.zip ys).map fun p => .tup [f p.1, g p.2]
  | [], _ => rfl
  | _ :: _, [] => rfl
  | x :: xs, y :: ys => by
    have ih := zip2_map f g xs ys
    unfold zip2 at ih ⊢
    rw [List.map_cons, List.map_cons, List.zipWith_cons_cons, ih]
    rfl
def facL (many w : Nat) (ps : List (Nat × Rat)) : List Rat := ps.foldl (fun F p => F.set p.1 p.2) ((List.replicate many 0).set w 1)
def solT (n : Nat) (m : List (List Rat)) (w : Nat) : List Rat :=
  solY (botN (negL (m.getD w []))) (elimN (bidx n m w).length (botN (negL (m.getD w []))) (turnL n (bidx n m w) m) (negL (m.getD w [])) n)
    (yL (bsV (elimN (bidx n m w).length (botN (negL (m.getD w []))) (turnL n (bidx n m w) m) (negL (m.getD w [])) n).bs) (bidx n m w).length (botN (negL (m.getD w []))) none)
theorem facL_len (many w : Nat) (ps : List (Nat × Rat)) : (facL many w ps).length = many := by
  unfold facL
  have : ∀ (ps : List (Nat × Rat)) (F : List Rat), (ps.foldl (fun F p => F.set p.1 p.2) F).length = F.length := by
    intro ps
    induction ps with
    | nil => intro F; rfl
    | cons p ps ih => intro F; rw [List.foldl_cons, ih, List.length_set]
  rw [this, List.length_set, List.length_replicate]
theorem facL_snoc (many w : Nat) (ps : List (Nat × Rat)) (p : Nat × Rat) : facL many w (ps ++ [p]) = (facL many w ps).set p.1 p.2 := by
  unfold facL
  rw [List.foldl_append]
  rfl
section
variable {P : Program} {w : World} {K : PySem.W.Frag} {mg : Str → Option Value} {base : Heap}
def wContr : Wz := fun ds Nv _ => ∃ (n S M M2 : Nat) (m : List (List Rat)) (cs : List Rat), ds = [ratsD false false m, ratL false cs] ∧ SysQ n S M M2 m cs ∧ 1 ≤ n ∧ (∀ r ∈ m, ∀ e ∈ r, SmQ M (2 ^ 49) e) ∧
  ((elimN n S m cs m.length).wrong = none → Nv .non false) ∧ ∀ at_, (elimN n S m cs m.length).wrong = some at_ → Nv (ratL true (facL m.length at_ ((bidx n m at_).zip (solT n m at_)))) true
set_option maxHeartbeats 8000000 in
theorem ok_contradiction (T : Top w K mg) : FnOk P w K mg base CX0 8 (He.ga K ("contradiction" : Str)) (fdOf K d_contradiction) ["rows", "constants"] (spZ K wContr) := by
  obtain ⟨ds0, B0⟩ := T.b0_Ratio___init__
  refine (T.f_contradiction).ok sc_contradiction (fun vs H Q E h => spz_len h (n := 2) fun ds Nv Ne hw => ?_) (fun cdv A outer s H vs Q E hr h => ?_)
  · obtain ⟨_, _, _, _, _, _, rfl, _⟩ := hw
    rfl
  · refine z_fn h (PSs.nox (pss_cons (ps_set (i := 2) sc_contradiction.nd rfl (Or.inl rfl) (pe_make (C := He.ga K ("Elimination" : Str)) T.mk_Elimination (ok_Elimination___init__ (K := K) T) (hr.mono (by decide)) rfl T.g_Elimination T.b_Elimination___init__ .nil pass0 (pa_cons (pv 0) (pa_cons (pv 1) pa_nil))))
    (pss_cons (ps_set (i := 3) sc_contradiction.nd rfl (Or.inr rfl) (pe_fldK (K := K) rfl (pv 2) rfl))
    (pss_cons (ps_if (pt_cmpR op_isN (pv 3) pe_non (nomark _))
    (pss_one (ps_ret pe_non))
    pss_nil)
    (pss_cons (ps_set (i := 4) sc_contradiction.nd rfl (Or.inr rfl) (pe_lockL (pe_lc (own := [(("at" : Str), 5)]) (g := (gName 5)) rfl sc_contradiction.nd (pi_listK (K := K) rfl (pe_fldK (K := K) rfl (pv 2) rfl)) (blkOk_by (N := ["rows", "constants", "elimination", "wrong", "basis", "at", "turned", "column", "factors", "_", "factor", "number"]) (sc := defScope s_contradiction) (by decide +kernel)) (fun _ _ _ _ _ => (pg_name (i := 5) sc_contradiction.nd rfl (Or.inl rfl))) (fun _ _ _ _ _ => pts_one (pt_cmpR op_lt (pv 5) (pv 3) (nomark _))) (fun _ _ _ _ _ => (pv 5)))))
    (pss_cons (ps_lockL (ps_setLc (i := 6) (own := [(("column" : Str), 7)]) (g := (gName 7)) (tt := tYes) rfl sc_contradiction.nd rfl rfl (by rfl) (pi_range1 rfl T.n_range (pa_cons (pe_fldK (K := K) rfl (pv 2) rfl) pa_nil)) (blkOk_by (N := ["rows", "constants", "elimination", "wrong", "basis", "at", "turned", "column", "factors", "_", "factor", "number"]) (sc := defScope s_contradiction) (by decide +kernel)) (fun _ _ _ _ _ => (pg_name (i := 7) sc_contradiction.nd rfl (Or.inr rfl))) (fun _ _ _ _ _ => pts_nil) (fun _ _ _ _ _ => (pe_lockL (pe_lc (own := [(("at" : Str), 5)]) (g := (gName 5)) (tt := tYes) rfl sc_contradiction.nd (pi_listK (K := K) rfl (pv 4)) (blkOk_by (N := ["rows", "constants", "elimination", "wrong", "basis", "at", "turned", "column", "factors", "_", "factor", "number"]) (by first | decide +kernel | kernel_rfl)) (fun _ _ _ _ _ => (pg_name (i := 5) sc_contradiction.nd rfl (Or.inl rfl))) (fun _ _ _ _ _ => pts_nil) (fun _ _ _ _ _ => (pe_ix (ix_listK (K := K) rfl) (pe_ix (ix_listK (K := K) rfl) (pv 0) (pv 5) (fun _ _ => rfl)) (pv 7) (fun _ _ => rfl))))))))
    (pss_cons (ps_lockL (ps_setLc (i := 8) (own := [(("_" : Str), 9)]) (g := (gName 9)) (tt := tYes) rfl sc_contradiction.nd rfl rfl (by rfl) (pi_listK (K := K) rfl (pv 0)) (blkOk_by (N := ["rows", "constants", "elimination", "wrong", "basis", "at", "turned", "column", "factors", "_", "factor", "number"]) (sc := defScope s_contradiction) (by decide +kernel)) (fun _ _ _ _ _ => (pg_name (i := 9) sc_contradiction.nd rfl (Or.inl rfl))) (fun _ _ _ _ _ => pts_nil) (fun _ _ _ _ _ => (pe_make (C := He.ga K ("Ratio" : Str)) T.mk_Ratio (ok_Ratio___init__ (K := K) T) (hr.mono (by decide)) rfl T.g_Ratio (B0.2) (B0.1) passL (pa_cons pe_int pa_nil)))))
    (pss_cons (ps_asg (pe_make (C := He.ga K ("Ratio" : Str)) T.mk_Ratio (ok_Ratio___init__ (K := K) T) (hr.mono (by decide)) rfl T.g_Ratio (B0.2) (B0.1) passL (pa_cons pe_int pa_nil)) (pg_sub (pv 8) (pv 3) set_list))
    (pss_cons (ps_lockL (ps_for PassesOwn.never rfl (pi_zip rfl T.n_zip (pa_cons (pv 4) (pa_cons (pe_call (ok_solve_linear (K := K) T) (hr.mono (by decide)) rfl T.g_solve_linear T.f_solve_linear.kp T.b_solve_linear .nil passL (pa_cons (pv 6) (pa_cons (pe_lockL (pe_lc (own := [(("number" : Str), 11)]) (g := (gName 11)) (tt := tYes) rfl sc_contradiction.nd (pi_listK (K := K) rfl (pe_ix (ix_listK (K := K) rfl) (pv 0) (pv 3) (fun _ _ => rfl))) (blkOk_by (N := ["rows", "constants", "elimination", "wrong", "basis", "at", "turned", "column", "factors", "_", "factor", "number"]) (sc := defScope s_contradiction) (by decide +kernel)) (fun _ _ _ _ _ => (pg_name (i := 11) sc_contradiction.nd rfl (Or.inl rfl))) (fun _ _ _ _ _ => pts_nil) (fun _ _ _ _ _ => (pe_un (un_negO T.m_Ratio___neg__ (ok_Ratio___neg__ (K := K) T) T.b_Ratio___neg__ (hr.mono (by decide)) passL0) (pv 11))))) pa_nil))) pa_nil))) (pg_tup (by rfl) (pgs_cons (pg_name (i := 5) sc_contradiction.nd rfl (Or.inl rfl)) (pgs_cons (pg_name (i := 10) sc_contradiction.nd rfl (Or.inl rfl)) pgs_nil)))
    (pss_one (ps_asg (pv 10) (pg_sub (pv 8) (pv 5) set_list)))))
    (pss_one (ps_ret (pv 8)))))))))))) fun ds Nv Ne hw => ?_
    obtain ⟨n, S, M, M2, m, cs, rfl, sy, hn, hs, k1, k2⟩ := hw
    walk_at "zz"
    refine ⟨false, false, false, m, cs, n, S, rfl, sy.ok, ?_⟩
    have few := sy.few
    have wat := sy.wrong_at m.length (Nat.le_refl _)
    have bse := sy.basis_eq m.length (Nat.le_refl _)
    have tn := fun a (h : (elimN n S m cs m.length).wrong = some a) => sy.turn_none hn hs h
    rw [sy.kept_eq m.length (Nat.le_refl _)] at bse
    generalize elimN n S m cs m.length = e at *
    walk_at "zz"
    refine ⟨_, _, .ins rfl, T.cls_Elimination, T.na_Elimination_wrong, ?_⟩
    walk_at "zz"
    refine ze_isN ?_
    walk_at "zz"
    cases hw : e.wrong with
    | none =>
      refine ⟨true, .non, _, rfl, ?_⟩
      refine iteBT rfl ?_
      walk_at "zz"
      exact k1 hw
    | some a =>
      refine ⟨false, .int _, _, rfl, ?_⟩
      refine iteBF rfl ?_
      obtain ⟨w1, _, _⟩ := wat a hw
      have bl := bidx_lt n m m.length
      walk_at "zz"
      refine ze_lcM e.basis (fun k : Nat => .int (k : Int)) (fun k => if decide (k < a) then some (.int (k : Int)) else none) (zi_list ?_)
      walk_at "zz"
      refine ⟨_, _, .ins rfl, T.cls_Elimination, T.na_Elimination_basis, ?_⟩
      have bln : (bidx n m m.length).length ≤ 6 := by
        have := lbOf_le n m
        have := bidx_len n m m.length (Nat.le_refl _)
        rw [List.take_length] at this
        omega
      have bta : (bidx n m m.length).filter (fun k => decide (k < a)) = bidx n m a := by
        rw [bidx_kept sy.wide m.length (Nat.le_refl _), bidx_kept sy.wide a (by omega)]
        exact Dg.kept_take n (m.map vq) a m.length (by omega)
      refine ⟨_, _, rfl, rfl, trivial, rfl, by rw [bse]; omega, fun k hk => ?_, ?_⟩
      · refine zgw_name (by decide) ?_
        walk_at "zz"
        by_cases c : k < a
        · refine iteBT (decide_eq_true (by omega)) ?_
          walk_at "zz"
          exact ⟨rfl, by rw [if_pos (decide_eq_true c)]⟩
        · refine iteBF (decide_eq_false (by omega)) ?_
          exact ⟨rfl, by rw [if_neg (by simpa using c)]⟩
      rw [map_if (fun k : Nat => Dt.int (k : Int)) (fun k => decide (k < a)) e.basis, bse, bta]
      have bla : (bidx n m a).length ≤ 6 := by
        rw [← bta]
        have := List.length_filter_le (fun k => decide (k < a)) (bidx n m m.length)
        omega
      have bka := bidx_lt n m a
      have nda : (bidx n m a).Nodup := by
        rw [bidx_kept sy.wide a (by omega)]
        exact (kept_sorted n (m.map vq) a).imp fun {x y} h => by omega
      walk_at "zz"
      refine Tr.ze_frzM (i := 4) rfl ?_
      refine ze_lcM (List.range n) (fun c : Nat => .int (c : Int)) (fun c => some (ratL true ((bidx n m a).map fun k => (m.getD k []).getD c 0))) (zi_range1 ?_)
      walk_at "zz"
      refine ⟨_, _, .ins rfl, T.cls_Elimination, T.na_Elimination_columns, ?_⟩
      walk_at "zz"
      refine ⟨by omega, by omega, rfl, trivial, rfl, by rw [List.length_range]; omega, fun c hc => ?_, ?_⟩
      · have hc := List.mem_range.mp hc
        refine zgw_name (by decide) ?_
        walk_at "zz"
        refine ze_lcM (bidx n m a) (fun k : Nat => .int (k : Int)) (fun k => some (ratE ((m.getD k []).getD c 0))) (zi_list ?_)
        walk_at "zz"
        refine ⟨trivial, rfl, by omega, fun k hk => ?_, ?_⟩
        · have hk := bka k hk
          have hrk := getD_mem (d := ([] : List Rat)) (show k < m.length by omega)
          have am : atI (m.map (ratL false)) (k : Int) = some (ratL false (m.getD k [])) := atI_D (by omega)
          have ac : atI ((m.getD k []).map ratE) (c : Int) = some (ratE ((m.getD k []).getD c 0)) := atI_D (by rw [sy.wide _ hrk]; exact hc)
          refine zgw_name (by decide) ?_
          walk_at "zz"
          refine ⟨_, _, _, _, _, rfl, .inl rfl, rfl, am, ?_⟩
          walk_at "zz"
          refine ⟨_, _, _, _, rfl, rfl, ac, ?_⟩
          exact ⟨rfl, rfl⟩
        · refine ⟨rfl, ?_⟩
          rw [map_some]
          unfold ratL
          rw [List.map_map]
          rfl
      · rw [map_some]
        have er : Dt.lst true ((List.range n).map fun c => ratL true ((bidx n m a).map fun k => (m.getD k []).getD c 0)) = ratsD true true (turnL n (bidx n m a) m) := by
          unfold ratsD turnL
          rw [List.map_map]
          rfl
        rw [er]
        walk_at "zz"
        refine ze_lcM m (ratL false) (fun _ => some (ratE 0)) (zi_list ?_)
        walk_at "zz"
        refine ⟨trivial, rfl, by omega, fun r hrm => ?_, ?_⟩
        · refine zgw_name (by decide) ?_
          walk_at "zz"
          exact ⟨0, 1, .inr ⟨rfl, rfl⟩, by decide, by unfold Bits; decide +kernel, rfl, rfl⟩
        · rw [map_some]
          walk_at "zz"
          refine ⟨1, 1, .inr ⟨rfl, rfl⟩, by decide, by unfold Bits; decide +kernel, ?_⟩
          refine zg_setL rfl ?_
          walk_at "zz"
          have e1 : (m.map fun _ => ratE 0).set a (ratE 1) = ((List.replicate m.length (0 : Rat)).set a 1).map ratE := by
            rw [List.map_set, List.map_replicate, List.map_const']
          refine ⟨(a : Int), a, m.map fun _ => ratE 0, rfl, rfl, ?_, ?_⟩
          · rw [List.length_map]
            unfold ixN
            rw [if_pos (by omega), if_pos (by omega), Int.toNat_natCast]
          refine zs_at56 (ρ' := [.v (ratsD false false m), .v (ratL false cs), .v (elR K n S e), .v (wrD (some a)), .v (.lst true ((bidx n m a).map fun k : Nat => Dt.int (k : Int))), .un, .o (ratsD true true (turnL n (bidx n m a) m)), .un, .o (ratL true (facL m.length a [])), .un, .un, .un]) ?_ ?_
          · exact congrArg (fun l => [Sl.v (ratsD false false m), .v (ratL false cs), .v (elR K n S e), .v (wrD (some a)), .v (.lst true ((bidx n m a).map fun k : Nat => Dt.int (k : Int))), .un, .o (ratsD true true (turnL n (bidx n m a) m)), .un, .o (.lst true l), .un, .un, .un]) e1
          have ss := sy.turned hn hs w1
          have tno := tn a hw
          have tfr := sy.turn_free hn hs w1
          have tl := turn_len n (bidx n m a) m
          have hra := getD_mem (d := ([] : List Rat)) w1
          walk_at "zz"
          refine zs_forL (zi_zip rfl ?_)
          walk_at "zz"
          refine ze_lcM (m.getD a []) ratE (fun x => some (ratE (-x))) (zi_list ?_)
          walk_at "zz"
          have am : atI (m.map (ratL false)) (a : Int) = some (ratL false (m.getD a [])) := atI_D w1
          refine ⟨_, _, _, _, _, rfl, .inl rfl, rfl, am, ?_⟩
          refine ⟨_, _, rfl, rfl, trivial, rfl, by rw [sy.wide _ hra]; omega, fun x hx => ?_, ?_⟩
          · have bx := (hs _ hra x hx).bits (p := 60) sy.m1.1 (Nat.lt_of_lt_of_le sy.m1.2 (by decide)) (by decide)
            refine zgw_name (by decide) ?_
            walk_at "zz"
            exact ⟨rfl, x, 60, rfl, bx, by decide, rfl, rfl⟩
          · rw [map_some]
            have er : Dt.lst true ((m.getD a []).map fun x => ratE (-x)) = ratL true (negL (m.getD a [])) := by
              unfold ratL negL
              rw [List.map_map]
              rfl
            rw [er]
            walk_at "zz"
            refine ⟨(bidx n m a).length, _, turnL n (bidx n m a) m, negL (m.getD a []), by show [(ratsD true true _).old, (ratL true _).old] = _; rw [ratsD_old, ratL_old], ss.ok, fun z => absurd (by rw [tl]; exact tno) z, fun _ z => absurd (by rw [tl]; exact tfr) z, fun _ _ => ⟨_, ss.sol_ok none (fun c q => nomatch q), ?_⟩⟩
            rw [tl]
            walk_at "zz"
            have hsol : solY (botN (negL (m.getD a []))) (elimN (bidx n m a).length (botN (negL (m.getD a []))) (turnL n (bidx n m a) m) (negL (m.getD a [])) n) (yL (bsV (elimN (bidx n m a).length (botN (negL (m.getD a []))) (turnL n (bidx n m a) m) (negL (m.getD a [])) n).bs) (bidx n m a).length (botN (negL (m.getD a []))) none) = solT n m a := rfl
            rw [hsol]
            have kk := k2 a hw
            generalize solT n m a = sol at *
            refine ⟨_, _, _, _, rfl, fun i ρ => ∃ p5 p10 : Sl, ρ = [.v (ratsD false false m), .v (ratL false cs), .v (elR K n S e), .v (wrD (some a)), .v (.lst true ((bidx n m a).map fun k : Nat => Dt.int (k : Int))), p5, .v (ratsD true true (turnL n (bidx n m a) m)), .un, .o (ratL true (facL m.length a (((bidx n m a).zip sol).take i))), .un, p10, .un], ⟨_, _, rfl⟩, ?_, ?_⟩
            · rintro ρ ⟨p5, p10, rfl⟩
              rw [zip2_map, List.length_map, List.take_length]
              refine ⟨trivial, ?_⟩
              dsimp only [bI]
              walk_at "zz"
              exact kk
            · rw [zip2_map]
              rintro i d ρ hd ⟨p5, p10, rfl⟩
              obtain ⟨p, hp, rfl⟩ := map_at hd
              have hpm := List.of_mem_zip (List.mem_of_getElem? hp)
              have hpa := bka _ hpm.1
              refine zg_tup rfl ?_
              walk_at "zz"
              refine zg_setL rfl ?_
              walk_at "zz"
              refine ⟨_, p.1, _, rfl, rfl, ?_, ?_⟩
              · unfold ixN
                rw [List.length_map, facL_len, if_pos (by omega), if_pos (by omega), Int.toNat_natCast]
              · refine ⟨.v (.int (p.1 : Int)), .v (ratE p.2), ?_⟩
                rw [take_snoc hp, facL_snoc]
                unfold ratL
                rw [List.map_set]
                rfl
end
end Lq
/-! ### the factors, put in -/
namespace Lq
open Dg (Vc Vq redQ stQ lbQ kept sumQ sumQ_succ sumQ_congr sumQ_zero sumQ_mul fnq)
theorem sumQ_one {n a : Nat} (ha : a < n) (x : Rat) : sumQ n (fun k => if k = a then x else 0) = x := by
  induction n with
  | zero => omega
  | succ n ih =>
    rw [sumQ_succ]
    by_cases c : n = a
    · subst c
      rw [if_pos rfl, sumQ_zero fun i hi => if_neg (by omega)]
      grind
    · rw [if_neg c, ih (by omega)]
      grind
theorem set_at {F : List Rat} {a k : Nat} {x : Rat} (ha : a < F.length) : (F.set a x).getD k 0 = if k = a then x else F.getD k 0 := by
  by_cases c : k = a
  · subst c
    rw [if_pos rfl, List.getD_eq_getElem?_getD, List.getElem?_set_self ha]
    rfl
  · rw [if_neg c, List.getD_eq_getElem?_getD, List.getElem?_set_ne (fun z => c z.symm), List.getD_eq_getElem?_getD]
theorem sum_set {n : Nat} {F : List Rat} {a : Nat} {x : Rat} (g : Nat → Rat) (hn : F.length = n) (ha : a < n) (h0 : F.getD a 0 = 0) : sumQ n (fun k => g k * (F.set a x).getD k 0) = sumQ n (fun k => g k * F.getD k 0) + g a * x := by
  have e := sumQ_mul n 1 1 (fun k => g k * F.getD k 0) (fun k => if k = a then g a * x else 0)
  rw [sumQ_one ha] at e
  have e2 : sumQ n (fun k => g k * (F.set a x).getD k 0) = sumQ n fun k => 1 * (g k * F.getD k 0) + 1 * (if k = a then g a * x else 0) := sumQ_congr fun k hk => by
    rw [set_at (by omega)]
    by_cases c : k = a
    · subst c
      rw [if_pos rfl, if_pos rfl, h0]
      grind
    · rw [if_neg c, if_neg c]
      grind
  rw [e2, e]
  grind
def pairSum (g : Nat → Rat) : List (Nat × Rat) → Rat
  | [] => 0
  | p :: ps => g p.1 * p.2 + pairSum g ps
theorem sum_fold {n : Nat} (g : Nat → Rat) : ∀ (ps : List (Nat × Rat)) (F : List Rat), F.length = n → (∀ p ∈ ps, p.1 < n ∧ F.getD p.1 0 = 0) → (ps.map Prod.fst).Nodup → sumQ n (fun k => g k * (ps.foldl (fun F p => F.set p.1 p.2) F).getD k 0) = sumQ n (fun k => g k * F.getD k 0) + pairSum g ps
  | [], F, _, _, _ => by show _ = _ + (0 : Rat); rw [List.foldl_nil]; grind
  | p :: ps, F, hF, h, nd => by
    obtain ⟨h1, h2⟩ := h p List.mem_cons_self
    rw [List.map_cons] at nd
    obtain ⟨n1, n2⟩ := List.nodup_cons.mp nd
    rw [List.foldl_cons, sum_fold g ps (F.set p.1 p.2) (by rw [List.length_set, hF]) (fun q hq => ?_) n2, sum_set g hF h1 h2]
    · show _ = _ + (g p.1 * p.2 + pairSum g ps)
      grind
    · obtain ⟨q1, q2⟩ := h q (List.mem_cons_of_mem _ hq)
      refine ⟨q1, ?_⟩
      rw [set_at (by omega), if_neg fun z => n1 (by rw [← z]; exact List.mem_map.mpr ⟨q, hq, rfl⟩)]
      exact q2
theorem sumQ_cons (n : Nat) (f : Nat → Rat) : sumQ (n + 1) f = f 0 + sumQ n fun i => f (i + 1) := by
  induction n with
  | zero => rw [sumQ_succ]; show (0 : Rat) + f 0 = f 0 + 0; grind
  | succ n ih => rw [sumQ_succ, ih, sumQ_succ]; grind
theorem pairSum_zip (g : Nat → Rat) : ∀ (b : List Nat) (s : List Rat), s.length = b.length → pairSum g (b.zip s) = sumQ b.length fun i => g (b.getD i 0) * s.getD i 0
  | [], _, _ => rfl
  | _ :: _, [], h => nomatch h
  | a :: b, x :: s, h => by
    rw [List.zip_cons_cons, List.length_cons, sumQ_cons]
    show g a * x + pairSum g (b.zip s) = _
    rw [pairSum_zip g b s (Nat.succ.inj h)]
    rfl
theorem rep_at (n k : Nat) : (List.replicate n (0 : Rat)).getD k 0 = 0 := by
  rw [List.getD_eq_getElem?_getD, List.getElem?_replicate]
  split <;> rfl
theorem facL_sum {many w : Nat} {b : List Nat} {s : List Rat} (g : Nat → Rat) (hw : w < many) (hl : s.length = b.length) (nd : b.Nodup) (hb : ∀ k ∈ b, k < w) : sumQ many (fun k => g k * (facL many w (b.zip s)).getD k 0) = g w + sumQ b.length fun i => g (b.getD i 0) * s.getD i 0 := by
  unfold facL
  have e0 : ((List.replicate many (0 : Rat)).set w 1).length = many := by rw [List.length_set, List.length_replicate]
  rw [sum_fold g (b.zip s) _ e0 (fun p hp => ?_) (by rw [List.map_fst_zip (by omega)]; exact nd), sum_set g (List.length_replicate) hw (rep_at many w), pairSum_zip g b s hl]
  · have : sumQ many (fun k => g k * (List.replicate many (0 : Rat)).getD k 0) = 0 := sumQ_zero fun k _ => by rw [rep_at]; grind
    rw [this]
    grind
  · have := hb _ (List.of_mem_zip hp).1
    refine ⟨by omega, ?_⟩
    rw [set_at (by rw [List.length_replicate]; exact hw), if_neg (by omega), rep_at]
theorem fold_off : ∀ (ps : List (Nat × Rat)) (F : List Rat) (k : Nat), (∀ p ∈ ps, p.1 < F.length) → k ∉ ps.map Prod.fst → (ps.foldl (fun F p => F.set p.1 p.2) F).getD k 0 = F.getD k 0
  | [], _, _, _, _ => rfl
  | p :: ps, F, k, h, hk => by
    rw [List.map_cons, List.mem_cons, not_or] at hk
    rw [List.foldl_cons, fold_off ps _ k (fun q hq => by rw [List.length_set]; exact h q (List.mem_cons_of_mem _ hq)) hk.2, set_at (h p List.mem_cons_self), if_neg hk.1]
theorem facL_off {many w : Nat} {b : List Nat} {s : List Rat} (hw : w < many) (hb : ∀ k ∈ b, k < w) {k : Nat} (hk : k ∉ b) : (facL many w (b.zip s)).getD k 0 = if k = w then 1 else 0 := by
  unfold facL
  rw [fold_off _ _ _ (fun p hp => by have := hb _ (List.of_mem_zip hp).1; rw [List.length_set, List.length_replicate]; omega) (fun z => by
    obtain ⟨p, hp, rfl⟩ := List.mem_map.mp z
    exact hk (List.of_mem_zip hp).1), set_at (by rw [List.length_replicate]; exact hw), rep_at]
theorem facL_mem {many w : Nat} {ps : List (Nat × Rat)} : ∀ e ∈ facL many w ps, e = 0 ∨ e = 1 ∨ ∃ p ∈ ps, e = p.2 := by
  unfold facL
  have : ∀ (ps : List (Nat × Rat)) (F : List Rat), ∀ e ∈ ps.foldl (fun F p => F.set p.1 p.2) F, e ∈ F ∨ ∃ p ∈ ps, e = p.2 := by
    intro ps
    induction ps with
    | nil => intro F e h; exact .inl h
    | cons p ps ih =>
      intro F e h
      rcases ih _ e h with h | ⟨q, hq, rfl⟩
      · rcases List.mem_or_eq_of_mem_set h with h | rfl
        · exact .inl h
        · exact .inr ⟨p, List.mem_cons_self, rfl⟩
      · exact .inr ⟨q, List.mem_cons_of_mem _ hq, rfl⟩
  intro e h
  rcases this _ _ e h with h | h
  · rcases List.mem_or_eq_of_mem_set h with h | rfl
    · exact .inl (List.eq_of_mem_replicate h)
    · exact .inr (.inl rfl)
  · exact .inr (.inr h)
section
variable {n S M M2 : Nat} {m : List (List Rat)} {cs : List Rat}
theorem SysQ.prefix_rank (h : SysQ n S M M2 m cs) {i : Nat} (hi : i ≤ m.length) : (lbOf n (m.take i)).length < (lbOf (n + 1) ((augL m cs).take i)).length ↔ Dg.Wr n (qsS S m cs) i := by
  have a := Dg.aug (n := n) (qsS S m cs) i (by rw [qsS_len S h.len]; exact hi)
  have e1 : (lbQ n ((qsS S m cs).take i)).length = (lbOf n (m.take i)).length := by
    have e := Dg.lbQ_agree (n := n) (fun p : List Rat × Rat => vq (rowS S p.1 p.2)) (fun p : List Rat × Rat => vq p.1) ((m.zip cs).take i) fun p hp => qs_first h p (List.mem_of_mem_take hp)
    rw [lbOf_len fun r hr => h.wide r (List.mem_of_mem_take hr)]
    have e2 : ((m.zip cs).take i).map (fun p : List Rat × Rat => vq p.1) = (m.take i).map vq := by rw [List.map_take, zip_fst h, List.map_take]
    rw [e2, List.map_take] at e
    exact e.len
  have e2 : (lbQ (n + 1) ((qsS S m cs).take i)).length = (lbOf (n + 1) ((augL m cs).take i)).length := by
    rw [lbOf_len fun r hr => h.aug_len r (List.mem_of_mem_take hr), h.aug_sc, ← List.map_take, ← List.map_take, Dg.lbQ_sc (k := kS n S) (fun j => by
      unfold kS
      split
      · exact int_ne (by have := h.S_ne; omega)
      · grind)]
    unfold Dg.scb
    rw [List.length_map]
  rw [← e1, ← e2]
  rcases a with ⟨a1, a2⟩ | ⟨a1, a2⟩
  · rw [a2]
    exact ⟨fun c => absurd c (Nat.lt_irrefl _), fun c => absurd c a1⟩
  · exact ⟨fun _ => a1, fun _ => by rw [a2.len]; omega⟩
/-- the first contradiction, by ranks -/
theorem SysQ.first_at (h : SysQ n S M M2 m cs) {w : Nat} (hw : (elimN n S m cs m.length).wrong = some w) {k : Nat} (hk : k < m.length) : (lbOf n (m.take (k + 1))).length < (lbOf (n + 1) ((augL m cs).take (k + 1))).length ↔ w ≤ k := by
  rw [h.prefix_rank (by omega)]
  obtain ⟨w1, w2, w3⟩ := h.wrong_at m.length (Nat.le_refl _) w hw
  constructor
  · rintro ⟨i, hi, q, hq, wq⟩
    by_cases c : w ≤ k
    · exact c
    · exact absurd ⟨i, by omega, q, hq, wq⟩ w3
  · intro hk
    exact ⟨w, by omega, _, qsS_at S h.len w1, w2⟩
theorem solT_len (n : Nat) (m : List (List Rat)) (w : Nat) : (solT n m w).length = (bidx n m w).length := by
  unfold solT solY yL
  rw [List.length_map, List.length_map, List.length_range]
/-- the factors are nothing on each column -/
theorem SysQ.fac_col (h : SysQ n S M M2 m cs) (hn : 1 ≤ n) (hs : ∀ r ∈ m, ∀ e ∈ r, SmQ M (2 ^ 49) e) {w : Nat} (hw : (elimN n S m cs m.length).wrong = some w) {c : Nat} (hc : c < n) :
    sumQ (bidx n m w).length (fun i => (m.getD ((bidx n m w).getD i 0) []).getD c 0 * (solT n m w).getD i 0) = -((m.getD w []).getD c 0) := by
  obtain ⟨w1, _, _⟩ := h.wrong_at m.length (Nat.le_refl _) w hw
  have t := h.turned hn hs w1
  have tl := turn_len n (bidx n m w) m
  have tno := h.turn_none hn hs hw
  have q := t.solves (by rw [tl]; exact tno) (fr := none) (fun c q => nomatch q) (show c < (turnL n (bidx n m w) m).length by rw [tl]; exact hc)
  rw [tl, neg_at (by rw [h.wide _ (getD_mem w1)]; exact hc), dotN_sumQ] at q
  rw [← q]
  exact sumQ_congr fun i hi => by rw [turn_at hc hi]; rfl
theorem SysQ.fac_pts (h : SysQ n S M M2 m cs) (hn : 1 ≤ n) (hs : ∀ r ∈ m, ∀ e ∈ r, SmQ M (2 ^ 49) e) {w : Nat} (w1 : w < m.length) (many : Nat) : ∃ c : Int, c ≠ 0 ∧ Bits 3400 c ∧ ∀ e ∈ facL many w ((bidx n m w).zip (solT n m w)), PtQ c 7000 e := by
  have t := h.turned hn hs w1
  obtain ⟨c, c1, c2, c3⟩ := t.pts none
  rw [turn_len] at c3
  refine ⟨c, c1, c2, fun e he => ?_⟩
  rcases facL_mem e he with rfl | rfl | ⟨p, hp, rfl⟩
  · exact PtQ.zero
  · refine ⟨c, ?_, c2.mono (by decide)⟩
    have : (c : Rat) ≠ 0 := int_ne c1
    generalize (c : Rat) = d at *
    grind
  · exact c3 _ (List.of_mem_zip hp).2
end
end Lq
/-! ### texts and lists repeated, range with a step -/
section
variable {z : Cz} {ρ : List Sl} {N : Dt → Bool → List Sl → Prop} {ta tb te : TE} {t : TA} {i : Nat} {I : List Dt → List Sl → (List Sl → Prop) → (List Sl → List Sl) → Prop}
theorem ze_mulStr (h : ZE z ta ρ fun x _ ρ1 => ZE z tb ρ1 fun y _ ρ2 => ∃ s n, x = .str s ∧ y = .int n ∧ PySem.MulOk s n ∧ N (.str (PySem.Txt.mul s n)) false ρ2) : ZE z (tOp (fun x y H Q => ∃ z n, x = .str z ∧ y = .int n ∧ PySem.MulOk z n ∧ Q (.str (PySem.Txt.mul z n)) H) ta tb) ρ N :=
  ze_op2w (W := fun x y N ρ2 => ∃ s n, x = .str s ∧ y = .int n ∧ PySem.MulOk s n ∧ N (.str (PySem.Txt.mul s n)) false ρ2) (fun x y ρ2 N n2 m F H σ Q vx vy S r1 r2 k => by
    obtain ⟨s, n, rfl, rfl, hm, n⟩ := n2
    exact ⟨s, _, rz_s r1, rz_i r2, hm, k _ _ _ _ _ _ n (Same.refl F) S (rzF_f rzs)⟩) h
theorem rzl_rep {K : PySem.W.Frag} {B F : Hp} {ds : List Dt} {xs : List V} (r : Rzl K B F ds xs) : ∀ n : Nat, Rzl K B F (List.replicate n ds).flatten (List.replicate n xs).flatten
  | 0 => .nil
  | n + 1 => by
    rw [List.replicate_succ, List.replicate_succ, List.flatten_cons, List.flatten_cons]
    exact r.app (rzl_rep r n)
theorem ze_rep (h : ZE z ta ρ fun x _ ρ1 => ZE z tb ρ1 fun y _ ρ2 => ∃ u ds k, x = .lst u ds ∧ y = .int k ∧ 0 ≤ k ∧ k ≤ 1000 ∧ ds.length * k.toNat ≤ 100000 ∧ N (.lst true (List.replicate k.toNat ds).flatten) true ρ2) : ZE z (tOp rRep ta tb) ρ N :=
  ze_op2w (W := fun x y N ρ2 => ∃ u ds k, x = .lst u ds ∧ y = .int k ∧ 0 ≤ k ∧ k ≤ 1000 ∧ ds.length * k.toNat ≤ 100000 ∧ N (.lst true (List.replicate k.toNat ds).flatten) true ρ2) (fun x y ρ2 N n2 m F H σ Q vx vy S r1 r2 k => by
    obtain ⟨u, ds, j, rfl, rfl, h0, h1, hl, n⟩ := n2
    simp only [Rz] at r1
    obtain ⟨a, xs, rfl, e, _, r1⟩ := r1
    obtain rfl := rz_i r2
    exact ⟨a, j, xs, rfl, rfl, S.le.exact e rfl, by omega, by omega, Nat.le_trans (by rw [r1.len]; exact hl) (by rw [sizeLine_eq]; decide), fun p hp => k _ _ _ _ _ _ n (Same.refl F) (S.newO hp) (rzF_new S hp (.lst (rzl_rep r1 _)))⟩) h
theorem rgc2 {L : Nat} (h : 1 ≤ L) (hL : L ≤ 1000) : RgC 0 ((L : Int) - 1) 2 (L / 2) := by
  have e : Builtin.Range.rangeSize 0 ((L : Int) - 1) 2 = ((L / 2 : Nat) : Int) := by
    unfold Builtin.Range.rangeSize
    rw [if_pos (by decide)]
    split
    · omega
    · omega
  refine ⟨by decide, by decide, ?_, e⟩
  unfold Builtin.Range.small
  rw [e, if_pos (by decide)]
  have f : ∀ j : Int, -2000 ≤ j → j ≤ 2000 → Builtin.Range.rangeFitsLong j = true := fun j h1 h2 => by
    unfold Builtin.Range.rangeFitsLong
    simp only [Bool.and_eq_true, decide_eq_true_eq]
    exact ⟨by omega, by omega⟩
  rw [f _ (by omega) (by omega), f _ (by omega) (by omega), f _ (by omega) (by omega), f _ (by omega) (by omega), f _ (by omega) (by omega)]
  simp
theorem zi_range3 (h : ZA z t ρ fun ds ρ1 => ∃ (i j c : Int) (n : Nat), ds = [.int i, .int j, .int c] ∧ RgC i j c n ∧ I ((List.range n).map fun (k : Nat) => Dt.int (i + (k : Int) * c)) ρ1 bT bI) : ZI z (iRng3 t) ρ I := fun m F H σ R S k => by
  refine h m F H σ _ S fun ds ρ1 F1 H1 vs n1 s1 S1 r1 => ?_
  obtain ⟨a, b, c, n, rfl, hr, nn⟩ := n1
  obtain ⟨v, r, rfl, rv, rr⟩ := r1.inv
  obtain ⟨v2, r, rfl, rv2, rr⟩ := rr.inv
  obtain ⟨v3, r, rfl, rv3, rr⟩ := rr.inv
  obtain rfl := rr.inv0
  obtain rfl := rz_i rv
  obtain rfl := rz_i rv2
  obtain rfl := rz_i rv3
  refine ⟨a, b, c, n, rfl, hr, k _ _ _ _ _ _ _ _ _ nn s1 .id S1 ⟨n, _, _, walk_rangeC, by simp, fun _ _ _ _ _ => trivial, fun m2 i d F' H' H'' x σ ρ eb e f S y => ?_⟩⟩
  obtain ⟨rfl, rfl⟩ := y
  rw [List.getElem?_map] at e
  cases q : (List.range n)[i]? with
  | none => rw [q] at e; cases e
  | some k =>
    rw [q] at e
    cases e
    have e2 : k = i := by
      rw [List.getElem?_range] at q
      · exact (Option.some.inj q).symm
      · exact (List.getElem?_eq_some_iff.mp q).1 |> fun h => by simpa using h
    subst e2
    exact ⟨F', Same.refl F', S, rzi⟩
end
/-! ### for x in f(..): if isinstance(x[1], list): x[1].append(k): what f has made is changed, and never looked at again -/
namespace Md
def AppOk (e : Dt) : Prop := ∃ x, (∃ t, e = .tup [.str x, .tup t]) ∨ ∃ es, e = .tup [.str x, .lst true es] ∧ es.length ≤ 10000
def vOn (ρ : List Sl) : Prop := ∀ (k : Nat) (s : Sl), ρ[k]? = some s → s = .un ∨ ∃ d, s = .v d
/-- at the i-th turn: an inner list may have grown -/
structure Grow (H1 F2 H' : Hp) (a : Addr) (xs : List V) (i : Nat) : Prop where
  out : H' a = some (.lst xs)
  tup : ∀ b ys, F2 b = some (.tup ys) → H' b = some (.tup ys)
  lst : ∀ l ys, F2 l = some (.lst ys) → H1 l = none → ∃ ys', H' l = some (.lst ys') ∧ ys'.length ≤ ys.length + i
section
variable {z : Cz} {ρ : List Sl} {N : Zn} {m : Fm} {F1 F2 H1 H2 H' : Hp} {σ : L2.St}
theorem sm_app (S : Sm z m F1 H' σ ρ) (vo : vOn ρ) {l : Addr} {o : HO} (fl : F1 l = none) (jl : m.J l = none) (no : isFz o = false) : Sm z m F1 (upd H' l o) σ ρ := by
  have ne : ∀ {c : Addr} {o : HO} {G : Hp}, G l = none → G c = some o → c ≠ l := fun {c o G} e q z => by rw [z, e] at q; cases q
  have C : Sc z m F1 (upd H' l o) := ⟨fun c u q => by
      have n := ne fl q
      rw [upd_ne n]
      exact S.lk c u q, fun c u q => by
      rw [upd_ne (ne jl q)]
      exact S.base c u q, S.fr, fun c q => by
      by_cases n : c = l
      · rw [n, upd_same] at q; cases q
      · rw [upd_ne n] at q; exact S.dom c q, S.bj, S.er, S.hid, fun c ob u q => by
      by_cases n : c = l
      · rw [n, upd_same] at q
        cases q
        cases no
      · rw [upd_ne n] at q; exact S.fj c ob u q⟩
  refine { C with len := S.len, slot := fun k s ov a b => ?_, sep := fun k k' d e l' a b _ _ => ?_, psep := fun k k' q d e a b => ?_ }
  · have q := S.slot k s ov a b
    rcases vo k s a with rfl | ⟨d, rfl⟩
    · trivial
    · exact q
  · rcases vo k _ a with h | ⟨_, h⟩ <;> cases h
  · rcases vo k _ a with h | ⟨_, h⟩ <;> cases h
theorem sm_down (S1 : Sm z m F1 H1 σ ρ) (S2 : Sm z m F2 H2 σ ρ) (s : Same F1 F2) (vo : vOn ρ) : Sm z m F1 H2 σ ρ := by
  have C : Sc z m F1 H2 := ⟨fun c o q => S2.lk c o (s _ _ q), S2.base, S1.fr, S2.dom, S1.bj, S1.er, S1.hid, S2.fj⟩
  refine { C with len := S1.len, slot := fun k s ov a b => ?_, sep := fun k k' d e l' a b _ _ => ?_, psep := fun k k' q d e a b => ?_ }
  · have q := S1.slot k s ov a b
    rcases vo k s a with rfl | ⟨d, rfl⟩
    · trivial
    · exact q
  · rcases vo k _ a with h | ⟨_, h⟩ <;> cases h
  · rcases vo k _ a with h | ⟨_, h⟩ <;> cases h
theorem sm_un (S : Sm z m F1 H' σ ρ) (vo : vOn ρ) {i : Nat} (v : Option V) : Sm z m F1 H' (σ.set i v) (ρ.set i .un) := by
  have vo2 : vOn (ρ.set i .un) := fun k s q => by
    by_cases c : i = k
    · subst c
      by_cases hi : i < ρ.length
      · rw [List.getElem?_set_self hi] at q
        exact .inl (Option.some.inj q).symm
      · rw [List.getElem?_eq_none (by rw [List.length_set]; omega)] at q
        cases q
    · rw [List.getElem?_set_ne c] at q
      exact vo k s q
  have C : Sc z m F1 H' := S.toSc
  refine { C with len := by rw [List.length_set, List.length_set]; exact S.len, slot := fun k s ov a b => ?_, sep := fun k k' d e l' a b _ _ => ?_, psep := fun k k' q d e a b => ?_ }
  · by_cases c : i = k
    · subst c
      by_cases hi : i < ρ.length
      · rw [List.getElem?_set_self hi] at a
        cases a
        trivial
      · rw [List.getElem?_eq_none (by rw [List.length_set]; omega)] at a
        cases a
    · rw [List.getElem?_set_ne c] at a b
      exact S.slot k s ov a b
  · rcases vo2 k _ a with h | ⟨_, h⟩ <;> cases h
  · rcases vo2 k _ a with h | ⟨_, h⟩ <;> cases h
theorem vOn_un (vo : vOn ρ) (i : Nat) : vOn (ρ.set i .un) := fun k s q => by
  by_cases c : i = k
  · subst c
    by_cases hi : i < ρ.length
    · rw [List.getElem?_set_self hi] at q
      exact .inl (Option.some.inj q).symm
    · rw [List.getElem?_eq_none (by rw [List.length_set]; omega)] at q
      cases q
  · rw [List.getElem?_set_ne c] at q
    exact vo k s q
theorem un_un (i : Nat) : (ρ.set i .un).set i .un = ρ.set i .un := by rw [List.set_set]
theorem zs_forApp {w : Wz} {E : XK} {t : TA} {i : Nat} {j : Int} {K1 K3 K4 K5 : PySem.W.Frag} (kt : PySem.W.kitOne z.K (.type "tuple") (.type "list") = some false) (kl : PySem.W.kitOne z.K (.type "list") (.type "list") = some true)
    (h : ZA z t ρ fun ds ρ1 => vOn ρ1 ∧ i < ρ1.length ∧ w (Dt.olds ds) (fun d fr => ∃ es, fr = true ∧ d = .lst true es ∧ (∀ e ∈ es, AppOk e) ∧ es.length ≤ 10000 ∧ N.nx (ρ1.set i .un)) fun _ _ => False) :
    ZS z (tLockL (tFor (iList K1 (tCall (spZ z.K w) [] E t)) (gName i) (tIfS (tB (tCB (rIsi z.K) (tCons (tOp (rIxT K3) (tVar i) (tC (.int 1))) (tCons (tC (.ty "list")) tNil)))) (tDrop (tBM K4 "list" rAppend (tOp (rIxT K5) (tVar i) (tC (.int 1))) (tCons (tC (.int j)) tNil))) tNext))) ρ N := fun m F H σ D S kn kr kb kc => by
  refine h m F H σ _ S fun ds ρ1 F1 H1 vs n1 s1 S1 r1 => ?_
  obtain ⟨vo, hi, hw⟩ := n1
  rw [List.append_nil]
  refine ⟨F1, Dt.olds ds, _, _, S1.le, rzl_old _ _ r1, hw, fun d fr F2 H2 v nd g => ?_, fun _ _ _ _ f => f.elim⟩
  obtain ⟨es, rfl, rfl, hes, hle, hN⟩ := nd
  obtain ⟨S2, _⟩ := S1.got g
  have sF := g.1
  have raw := g.2.2.2.2.2
  rw [if_pos rfl] at raw
  obtain ⟨a, rfl, fa, ha, ho, h4, h5⟩ := raw
  cases h5 with
  | @lst xs _ rx =>
    have S3 : Sm z m F1 H2 σ (ρ1.set i .un) := by
      have q := sm_un (sm_down S1 S2 sF vo) vo (i := i) (σ[i]?.join)
      have e : σ.set i (σ[i]?.join) = σ := by
        apply List.ext_getElem?
        intro k
        by_cases c : i = k
        · subst c
          have hl : i < σ.length := by rw [S1.len]; exact hi
          rw [List.getElem?_set_self hl, List.getElem?_eq_getElem hl]
          rfl
        · rw [List.getElem?_set_ne c]
      rw [e] at q
      exact q
    have vo2 := vOn_un vo i
    refine ⟨a, rfl, ⟨xs, SqL.of h4⟩, ?_⟩
    refine for_it (walk_list (K := K1) (a := a) (xs := xs)) (D := ⟨unlN H D.nx, unlV H D.rt, unlN H D.bk, unlN H D.ct⟩) (fun k σ' H' => Sm z m F1 H' σ' (ρ1.set i .un) ∧ Grow H1 F2 H' a xs k)
      ⟨S3, h4, fun b ys q => S2.le.exact q rfl, fun l ys q _ => ⟨ys, S2.le.exact q rfl, Nat.le_refl _⟩⟩ (fun k σ' H' _ q => SqL.of q.2.out) ?_ fun σ' H' q => .inl (kn _ _ _ _ hN s1 q.1)
    rintro k x σ' H' H'' hk ⟨S4, G⟩ y
    obtain ⟨rfl, y⟩ := y
    have hk2 : k < es.length := by rw [← rx.len]; exact hk
    have he : es[k]? = some es[k] := List.getElem?_eq_getElem hk2
    obtain ⟨v, e2, r2⟩ := rx.at_ he
    rw [y] at e2
    cases e2
    obtain ⟨x0, hx0⟩ := hes _ (List.mem_of_getElem? he)
    generalize es[k] = e at r2 hx0
    have S5 : Sm z m F1 H'' (σ'.set i (some x)) (ρ1.set i .un) := by
      have q := sm_un S4 vo2 (i := i) (some x)
      rw [un_un] at q
      exact q
    have hσ : (σ'.set i (some x))[i]? = some (some x) := List.getElem?_set_self (by rw [S4.len, List.length_set]; exact hi)
    show tIfS _ _ _ _ (σ'.set i (some x)) H''
    rcases hx0 with ⟨t, rfl⟩ | ⟨es', rfl, hl⟩
    · simp only [Rz] at r2
      obtain ⟨b, ys, rfl, eb, r2⟩ := r2
      obtain ⟨v1, r, rfl, q1, r2⟩ := r2.inv
      obtain ⟨v2, r, rfl, q2, r2⟩ := r2.inv
      obtain rfl := r2.inv0
      simp only [Rz] at q2
      obtain ⟨q, zs, rfl, eq, _⟩ := q2
      refine ⟨_, hσ, b, [v1, .ref q], 1, .ref q, rfl, rfl, SqT.of (G.tup _ _ eb), atI_k (k := 1) rfl, .ref q, .ty "list", .type "tuple", .type "list", false, rfl, .ty "list", .base (.tup (G.tup _ _ eq)), kt, false, rfl, ?_⟩
      show (if (false = true) then _ else _)
      rw [if_neg (by decide)]
      exact ⟨S5, G.out, G.tup, fun l ys e1 e2 => (G.lst l ys e1 e2).elim fun ys' p => ⟨ys', p.1, by omega⟩⟩
    · simp only [Rz] at r2
      obtain ⟨b, ys, rfl, eb, r2⟩ := r2
      obtain ⟨v1, r, rfl, q1, r2⟩ := r2.inv
      obtain ⟨v2, r, rfl, q2, r2⟩ := r2.inv
      obtain rfl := r2.inv0
      simp only [Rz] at q2
      obtain ⟨q, zs, rfl, eq, hnew, rz⟩ := q2
      have hq1 : H1 q = none := hnew trivial
      obtain ⟨ys', hL, hlen⟩ := G.lst q zs eq hq1
      have hzl : zs.length ≤ 10000 := by rw [rz.len]; exact hl
      have hTb := G.tup _ _ eb
      refine ⟨_, hσ, b, [v1, .ref q], 1, .ref q, rfl, rfl, SqT.of hTb, atI_k (k := 1) rfl, .ref q, .ty "list", .type "list", .type "list", true, rfl, .ty "list", .base (.lst hL), kl, true, rfl, ?_⟩
      show (if (true = true) then _ else _)
      rw [if_pos rfl]
      refine ⟨_, hσ, b, [v1, .ref q], 1, .ref q, rfl, rfl, SqT.of hTb, atI_k (k := 1) rfl, .inl ⟨rfl, ys', SqL.of hL⟩, q, ys', .int j, rfl, rfl, hL, by rw [sizeLine_eq]; omega, ?_⟩
      have fq : F1 q = none := S1.le.free hq1
      have jq : m.J q = none := S1.j_none hq1
      refine ⟨sm_app S5 vo2 fq jq rfl, ?_, fun c us e => ?_, fun l us e1 e2 => ?_⟩
      · rw [upd_ne (fun z => by rw [z, eq] at fa; cases fa)]
        exact G.out
      · rw [upd_ne (fun z => by rw [z, eq] at e; cases e)]
        exact G.tup c us e
      · obtain ⟨us', p1, p2⟩ := G.lst l us e1 e2
        by_cases c : l = q
        · subst c
          rw [hL] at p1
          cases p1
          exact ⟨_, upd_same, by rw [List.length_append]; exact Nat.succ_le_succ p2⟩
        · exact ⟨us', by rw [upd_ne c]; exact p1, by omega⟩
end
end Md
/-! ### x = f(..); if test: return; for y in x: y.append(k); x.append(k): what f has made is looked at, then changed -/
namespace Md
section
variable {z : Cz} {ρ : List Sl} {N : Zn} {m : Fm} {F1 F2 H1 H2 H' : Hp} {σ : L2.St}
theorem sm_back (S1 : Sm z m F1 H1 σ ρ) (S2 : Sc z m F2 H2) (s : Same F1 F2) (vo : vOn ρ) : Sm z m F1 H2 σ ρ := by
  have C : Sc z m F1 H2 := ⟨fun c o q => S2.lk c o (s _ _ q), S2.base, S1.fr, S2.dom, S1.bj, S1.er, S1.hid, S2.fj⟩
  refine { C with len := S1.len, slot := fun k s ov a b => ?_, sep := fun k k' d e l' a b _ _ => ?_, psep := fun k k' q d e a b => ?_ }
  · have q := S1.slot k s ov a b
    rcases vo k s a with rfl | ⟨d, rfl⟩
    · trivial
    · exact q
  · rcases vo k _ a with h | ⟨_, h⟩ <;> cases h
  · rcases vo k _ a with h | ⟨_, h⟩ <;> cases h
theorem zs_scratch {w : Wz} {E : XK} {t : TA} {tt : TT} {tb u : TS} {i j : Nat} {k0 k1 : Int} {K1 K2 K3 : PySem.W.Frag}
    (h : ZA z t ρ fun ds ρ1 => vOn ρ1 ∧ i < ρ1.length ∧ j < ρ1.length ∧ i ≠ j ∧ w (Dt.olds ds) (fun d fr => ∃ rows : List (List Dt), fr = true ∧ d = .lst true (rows.map (Dt.lst true)) ∧ rows.length ≤ 10000 ∧ (∀ r ∈ rows, r.length ≤ 10000) ∧
      ZT z tt (ρ1.set i (.v d)) (fun b _ => b = false) ∧ ZS z u ((ρ1.set i .un).set j .un) N) fun _ _ => False) :
    ZS z (tSeq (tAsg (tCall (spZ z.K w) [] E t) (gName i)) (tSeq (tIfS tt tb tNext) (tSeq (tLockL (tFor (iList K1 (tVar i)) (gName j) (tDrop (tBM K2 "list" rAppend (tVar j) (tCons (tC (.int k0)) tNil))))) (tSeq (tDrop (tBM K3 "list" rAppend (tVar i) (tCons (tC (.int k1)) tNil))) u)))) ρ N := fun m F H σ D S kn kr kb kc => by
  refine h m F H σ _ S fun ds ρ1 F1 H1 vs n1 s1 S1 r1 => ?_
  obtain ⟨vo, hi, hj, ij, hw⟩ := n1
  rw [List.append_nil]
  refine ⟨F1, Dt.olds ds, _, _, S1.le, rzl_old _ _ r1, hw, fun d fr F2 H2 v nd g => ?_, fun _ _ _ _ f => f.elim⟩
  obtain ⟨rows, rfl, rfl, hle, hre, hT, hU⟩ := nd
  obtain ⟨S2, r2⟩ := S1.got g
  have sF := g.1
  have raw := g.2.2.2.2.2
  rw [if_pos rfl] at raw
  obtain ⟨a, rfl, fa, ha, ho, h4, h5⟩ := raw
  cases h5 with
  | @lst xs _ rx =>
    have S3 := S2.setF (i := i) r2
    obtain ⟨F3, s3, S4⟩ := Tr.frzVarM S3 (i := i) (d := .lst true (rows.map (Dt.lst true))) (List.getElem?_set_self hi)
    rw [List.set_set] at S4
    have q3 := S4.slot i (.v (.lst true (rows.map (Dt.lst true)))) (some (.ref a)) (List.getElem?_set_self hi) (List.getElem?_set_self (by rw [S1.len]; exact hi))
    obtain ⟨v3, e3, q3⟩ := q3
    obtain rfl : V.ref a = v3 := Option.some.inj e3
    simp only [Rz] at q3
    obtain ⟨a', xs', e4, f3, _, _⟩ := q3
    cases e4
    refine hT m F3 H2 _ _ S4 fun b ρ2 F4 H4 hb s4 S5 => ?_
    subst hb
    rw [if_neg (by decide)]
    show (tSeq (tLockL (tFor (iList K1 (tVar i)) (gName j) (tDrop (tBM K2 "list" rAppend (tVar j) (tCons (tC (.int k0)) tNil))))) (tSeq (tDrop (tBM K3 "list" rAppend (tVar i) (tCons (tC (.int k1)) tNil))) u)) D (σ.set i (some (V.ref a))) H4
    have hx4 : H4 a = some (.lst xs) := by
      have e1 := S5.le.exact (s4 _ _ f3) rfl
      have e2 := S4.le.exact f3 rfl
      rw [h4] at e2
      cases e2
      exact e1
    have sF4 : Same F2 F4 := s3.trans s4
    have S6 : Sm z m F1 H4 σ ρ1 := sm_back S1 S5.toSc (sF.trans sF4) vo
    have S7 : Sm z m F1 H4 (σ.set i (some (.ref a))) (ρ1.set i .un) := sm_un S6 vo (i := i) (some (.ref a))
    have vo2 := vOn_un vo i
    have S8 : Sm z m F1 H4 (σ.set i (some (.ref a))) ((ρ1.set i .un).set j .un) := by
      have q := sm_un S7 vo2 (i := j) ((σ.set i (some (.ref a)))[j]?.join)
      have e : (σ.set i (some (V.ref a))).set j ((σ.set i (some (V.ref a)))[j]?.join) = σ.set i (some (V.ref a)) := by
        apply List.ext_getElem?
        intro k
        by_cases c : j = k
        · subst c
          have hl : j < (σ.set i (some (V.ref a))).length := by rw [List.length_set, S1.len]; exact hj
          rw [List.getElem?_set_self hl, List.getElem?_eq_getElem hl]
          rfl
        · rw [List.getElem?_set_ne c]
      rw [e] at q
      exact q
    have vo3 := vOn_un vo2 j
    have hσ : (σ.set i (some (V.ref a)))[i]? = some (some (.ref a)) := List.getElem?_set_self (by rw [S1.len]; exact hi)
    refine ⟨_, hσ, a, rfl, ⟨xs, SqL.of hx4⟩, ?_⟩
    refine for_it (walk_list (K := K1) (a := a) (xs := xs)) (fun k σ' H' => Sm z m F1 H' σ' ((ρ1.set i .un).set j .un) ∧ Grow H1 F2 H' a xs k ∧ σ'[i]? = some (some (.ref a)))
      ⟨S8, ⟨hx4, fun b ys q => S5.le.exact (sF4 _ _ q) rfl, fun l ys q _ => ⟨ys, S5.le.exact (sF4 _ _ q) rfl, Nat.le_refl _⟩⟩, hσ⟩ (fun k σ' H' _ q => SqL.of q.2.1.out) ?_ fun σ' H' q => .inl ?_
    · rintro k x σ' H' H'' hk ⟨S9, G, hs⟩ y
      obtain ⟨rfl, y⟩ := y
      have hk2 : k < rows.length := by
        have := rx.len
        rw [List.length_map] at this
        rw [← this]
        exact hk
      have he : (rows.map (Dt.lst true))[k]? = some (.lst true rows[k]) := by rw [List.getElem?_map, List.getElem?_eq_getElem hk2]; rfl
      obtain ⟨v, e2, r2⟩ := rx.at_ he
      rw [y] at e2
      cases e2
      simp only [Rz] at r2
      obtain ⟨q, zs, rfl, eq, hnew, rz⟩ := r2
      have hq1 : H1 q = none := hnew trivial
      obtain ⟨ys', hL, hlen⟩ := G.lst q zs eq hq1
      have hzl : zs.length ≤ 10000 := by rw [rz.len]; exact hre _ (List.getElem_mem hk2)
      have S10 : Sm z m F1 H'' (σ'.set j (some (.ref q))) ((ρ1.set i .un).set j .un) := by
        have p := sm_un S9 vo3 (i := j) (some (.ref q))
        rw [un_un] at p
        exact p
      have hσj : (σ'.set j (some (V.ref q)))[j]? = some (some (.ref q)) := List.getElem?_set_self (by rw [S9.len, List.length_set, List.length_set]; exact hj)
      have fq : F1 q = none := S1.le.free hq1
      have jq : m.J q = none := S1.j_none hq1
      refine ⟨_, hσj, .inl ⟨rfl, ys', SqL.of hL⟩, q, ys', .int k0, rfl, rfl, hL, by rw [sizeLine_eq]; omega, ?_⟩
      refine ⟨sm_app S10 vo3 fq jq rfl, ⟨?_, fun c us e => ?_, fun l us e1 e2 => ?_⟩, by rw [List.getElem?_set_ne ij.symm]; exact hs⟩
      · rw [upd_ne (fun z => by rw [z, eq] at fa; cases fa)]
        exact G.out
      · rw [upd_ne (fun z => by rw [z, eq] at e; cases e)]
        exact G.tup c us e
      · obtain ⟨us', p1, p2⟩ := G.lst l us e1 e2
        by_cases c : l = q
        · subst c
          rw [hL] at p1
          cases p1
          exact ⟨_, upd_same, by rw [List.length_append]; exact Nat.succ_le_succ p2⟩
        · exact ⟨us', by rw [upd_ne c]; exact p1, by omega⟩
    · obtain ⟨S9, G, hs⟩ := q
      have fq : F1 a = none := S1.le.free ha
      have jq : m.J a = none := S1.j_none ha
      have hxl : xs.length ≤ 10000 := by
        have := rx.len
        rw [List.length_map] at this
        omega
      refine ⟨_, hs, .inl ⟨rfl, xs, SqL.of G.out⟩, a, xs, .int k1, rfl, rfl, G.out, by rw [sizeLine_eq]; omega, ?_⟩
      exact hU m F1 _ _ D (sm_app S9 vo3 fq jq rfl) (fun ρ' F' H' σ' n s => kn ρ' F' H' σ' n (s1.trans s)) (fun d fr F' H' v n s => kr d fr F' H' v n (s1.trans s)) (fun ρ' F' H' σ' n s => kb ρ' F' H' σ' n (s1.trans s)) fun ρ' F' H' σ' n s => kc ρ' F' H' σ' n (s1.trans s)
end
end Md
local macro_rules | `(tactic| walk_at "z1") => `(tactic| first | ((with_reducible apply ze_isivT); exact rfl))
section
variable {z : Cz} {ρ : List Sl} {N : Dt → Bool → List Sl → Prop} {ta : TE}
theorem ze_any {K' : PySem.W.Frag} (h : ZE z ta ρ fun x _ ρ1 => ∃ (t : Bool) (bs : List Bool), x = .lst t (bs.map Dt.bl) ∧ N (.bl (bs.any id)) false ρ1) : ZE z (tCB (rAny K') (tCons ta tNil)) ρ N :=
  ze_CB1 (W := fun x N ρ1 => ∃ (t : Bool) (bs : List Bool), x = .lst t (bs.map Dt.bl) ∧ N (.bl (bs.any id)) false ρ1) (fun x ρ2 N n1 m F H σ Q vx S r k => by
    obtain ⟨t, bs, rfl, q⟩ := n1
    simp only [Rz] at r
    obtain ⟨a, xs, rfl, e, _, r⟩ := r
    refine ⟨a, bs, rfl, ?_, k _ _ _ _ _ _ q (Same.refl F) S (rzF_f rzb)⟩
    rw [← rzl_bls r]
    exact SqL.of (S.le.exact e rfl)) h
end
namespace Lq
section
variable {P : Program} {w : World} {K : PySem.W.Frag} {mg : Str → Option Value} {base : Heap}
theorem zs_atK {z : Cz} {t : TS} {ρ ρ' : List Sl} {D : Zn} (e : ρ = ρ') (h : ZS z t ρ' D) : ZS z t ρ D := e ▸ h
theorem eqdsK {α : Type} {n : Nat} {f g : α → Dt} : ∀ (xs : List α), (∀ a ∈ xs, EqD n (f a) (g a)) → EqDs n (xs.map f) (xs.map g)
  | [], _ => .nil
  | x :: xs, h => .cons (h x List.mem_cons_self) (eqdsK xs fun a ha => h a (List.mem_cons_of_mem _ ha))
theorem solY_at {S : Nat} {e : El} {Y : List Int} {j : Nat} (h : j < Y.length) : (solY S e Y).getD j 0 = (Y.getD j 0 : Rat) / ((detI e.rows e.leads * (S : Int) : Int) : Rat) := by
  unfold solY
  rw [getD_map (d := 0) h]
def bitD (b : Bool) : Dt := .tup [.int (if b = true then 1 else 0), .int 1]
theorem eqd_bit (n : Nat) {q : Rat} {b : Bool} (h : q = if b = true then 1 else 0) : EqD (n + 1) (pq q) (bitD b) := by
  subst h
  cases b
  · exact .tup (.cons (.flat (u := .int 0) rfl) (.cons (.flat (u := .int 1) rfl) .nil))
  · exact .tup (.cons (.flat (u := .int 1) rfl) (.cons (.flat (u := .int 1) rfl) .nil))
def wIsKernel : Wz := fun ds Nv _ => ∃ (n M : Nat) (m : List (List Rat)), ds = [matD false false m, .int (n : Int), ratsD false false (kerL n m)] ∧ SysQ n 1 M 1 m (zc m) ∧ Nv (.bl true) false
set_option maxHeartbeats 8000000 in
theorem ok__law_is_kernel (T : Top w K mg) : FnOk P w K mg base CX0 20 (He.ga K ("_law_is_kernel" : Str)) (fdOf K d__law_is_kernel) ["rows", "wide", "found"] (spZ K wIsKernel) := by
  refine (T.f__law_is_kernel).ok sc__law_is_kernel (fun vs H Q E h => spz_len h (n := 3) fun ds Nv Ne hw => ?_) (fun cdv A outer s H vs Q E hr h => ?_)
  · obtain ⟨_, _, _, rfl, _⟩ := hw
    rfl
  · refine z_fn h (PSs.nox (pss_cons (ps_lockL (ps_setLc (i := 3) (own := [(("j" : Str), 5)]) (g := (gName 5)) (tt := tYes) rfl sc__law_is_kernel.nd rfl rfl (by rfl) (pi_range1 rfl T.n_range (pa_cons (pv 1) pa_nil)) (blkOk_by (N := ["rows", "wide", "found", "columns", "row", "j", "basis", "others", "k", "values"]) (sc := defScope s__law_is_kernel) (by decide +kernel)) (fun _ _ _ _ _ => (pg_name (i := 5) sc__law_is_kernel.nd rfl (Or.inr rfl))) (fun _ _ _ _ _ => pts_nil) (fun _ _ _ _ _ => (pe_lockL (pe_lc (own := [(("row" : Str), 4)]) (g := (gName 4)) (tt := tYes) rfl sc__law_is_kernel.nd (pi_listK (K := K) rfl (pv 0)) (blkOk_by (N := ["rows", "wide", "found", "columns", "row", "j", "basis", "others", "k", "values"]) (by first | decide +kernel | kernel_rfl)) (fun _ _ _ _ _ => (pg_name (i := 4) sc__law_is_kernel.nd rfl (Or.inl rfl))) (fun _ _ _ _ _ => pts_nil) (fun _ _ _ _ _ => (pe_ix (ix_listK (K := K) rfl) (pv 4) (pv 5) (fun _ _ => rfl))))))))
    (pss_cons (ps_set (i := 6) sc__law_is_kernel.nd rfl (Or.inr rfl) (pe_call (ok__law_basis (K := K) T) (hr.mono (by decide)) rfl T.g__law_basis T.f__law_basis.kp T.b__law_basis .nil pass0 (pa_cons (pv 3) (pa_cons (pe_callB (call_lenZ (K := K) rfl) (by rfl) T.n_len PySem.boot_len (pa_cons (pv 0) pa_nil)) pa_nil))))
    (pss_cons (ps_set (i := 7) sc__law_is_kernel.nd rfl (Or.inr rfl) (pe_lockL (pe_lc (own := [(("j" : Str), 5)]) (g := (gName 5)) rfl sc__law_is_kernel.nd (pi_range1 rfl T.n_range (pa_cons (pv 1) pa_nil)) (blkOk_by (N := ["rows", "wide", "found", "columns", "row", "j", "basis", "others", "k", "values"]) (sc := defScope s__law_is_kernel) (by decide +kernel)) (fun _ _ _ _ _ => (pg_name (i := 5) sc__law_is_kernel.nd rfl (Or.inl rfl))) (fun _ _ _ _ _ => pts_one (pt_cmpR (op_notInK (K := K) rfl) (pv 5) (pv 6) (by rfl))) (fun _ _ _ _ _ => (pv 5)))))
    (pss_cons (ps_if (PW.pt (pw_or (pt_not (pt_val (pe_callB (call_isiK' (K := K) rfl) (by rfl) T.n_isinstance (by decide +kernel) (pa_cons (pv 2) (pa_cons (pe_bltn (v := .ty "list") rfl T.n_list (by decide +kernel) rfl) pa_nil))))) (pw_or1 (pt_cmpR op_ne (pe_callB (call_lenZ (K := K) rfl) (by rfl) T.n_len PySem.boot_len (pa_cons (pv 2) pa_nil)) (pe_callB (call_lenZ (K := K) rfl) (by rfl) T.n_len PySem.boot_len (pa_cons (pv 7) pa_nil)) (nomark _)))))
    (pss_one (ps_ret pe_bl))
    pss_nil)
    (pss_cons (ps_lockL (ps_for PassesOwn.never rfl (pi_range1 rfl T.n_range (pa_cons (pe_callB (call_lenZ (K := K) rfl) (by rfl) T.n_len PySem.boot_len (pa_cons (pv 7) pa_nil)) pa_nil)) (pg_name (i := 8) sc__law_is_kernel.nd rfl (Or.inr rfl))
    (pss_cons (ps_set (i := 9) sc__law_is_kernel.nd rfl (Or.inr rfl) (pe_call (ok__law_pairs (K := K) T) (hr.mono (by decide)) rfl T.g__law_pairs T.f__law_pairs.kp T.b__law_pairs .nil pass0 (pa_cons (pe_ix (ix_listK (K := K) rfl) (pv 2) (pv 8) (fun _ _ => rfl)) pa_nil)))
    (pss_cons (ps_if (PW.pt (pw_or (pt_cmpR op_ne (pe_callB (call_lenZ (K := K) rfl) (by rfl) T.n_len PySem.boot_len (pa_cons (pv 9) pa_nil)) (pv 1) (nomark _)) (pw_or1 (pt_cmpR (op_neZZ T 8 hr.units (by exact hr.mono (by decide))) (pe_lockL (pe_lc (own := [(("j" : Str), 5)]) (g := (gName 5)) (tt := tYes) rfl sc__law_is_kernel.nd (pi_listK (K := K) rfl (pv 7)) (blkOk_by (N := ["rows", "wide", "found", "columns", "row", "j", "basis", "others", "k", "values"]) (sc := defScope s__law_is_kernel) (by decide +kernel)) (fun _ _ _ _ _ => (pg_name (i := 5) sc__law_is_kernel.nd rfl (Or.inl rfl))) (fun _ _ _ _ _ => pts_nil) (fun _ _ _ _ _ => (pe_ix (ix_listK (K := K) rfl) (pv 9) (pv 5) (fun _ _ => rfl))))) (pe_lockL (pe_lc (own := [(("j" : Str), 5)]) (g := (gName 5)) (tt := tYes) rfl sc__law_is_kernel.nd (pi_listK (K := K) rfl (pv 7)) (blkOk_by (N := ["rows", "wide", "found", "columns", "row", "j", "basis", "others", "k", "values"]) (sc := defScope s__law_is_kernel) (by decide +kernel)) (fun _ _ _ _ _ => (pg_name (i := 5) sc__law_is_kernel.nd rfl (Or.inl rfl))) (fun _ _ _ _ _ => pts_nil) (fun _ _ _ _ _ => (pe_tup (pa_cons (pe_callTy call_int1 (by rfl) T.n_int (by decide +kernel) (pa_cons (pe_cmpR op_eq (pv 5) (pe_ix (ix_listK (K := K) rfl) (pv 7) (pv 8) (fun _ _ => rfl)) (nomark _)) pa_nil)) (pa_cons pe_int pa_nil)))))) (nomark _)))))
    (pss_one (ps_ret pe_bl))
    pss_nil)
    (pss_one (ps_if (pt_val (pe_callB (cr_any rfl) (by rfl) T.n_any (by decide +kernel) (pa_cons (pe_lockL (pe_lc (own := [(("row" : Str), 4)]) (g := (gName 4)) (tt := tYes) rfl sc__law_is_kernel.nd (pi_listK (K := K) rfl (pv 0)) (blkOk_by (N := ["rows", "wide", "found", "columns", "row", "j", "basis", "others", "k", "values"]) (sc := defScope s__law_is_kernel) (by decide +kernel)) (fun _ _ _ _ _ => (pg_name (i := 4) sc__law_is_kernel.nd rfl (Or.inl rfl))) (fun _ _ _ _ _ => pts_nil) (fun _ _ _ _ _ => (pe_cmpR (op_neZZ T 8 hr.units (by exact hr.mono (by decide))) (pe_call (ok__law_dot (K := K) T) (hr.mono (by decide)) rfl T.g__law_dot T.f__law_dot.kp T.b__law_dot .nil pass0 (pa_cons (pv 4) (pa_cons (pv 9) pa_nil))) (pe_tup (pa_cons pe_int (pa_cons pe_int pa_nil))) (nomark _))))) pa_nil)))
    (pss_one (ps_ret pe_bl))
    pss_nil))))))
    (pss_one (ps_ret pe_bl)))))))) fun ds Nv Ne hw => ?_
    obtain ⟨n, M, m, rfl, sy, k⟩ := hw
    have few := sy.few
    walk_at "zz"
    refine ze_lcM (List.range n) (fun c : Nat => .int (c : Int)) (fun c => some (rowD true (m.map fun r => r.getD c 0))) (zi_range1 ?_)
    walk_at "zz"
    refine ⟨by omega, by omega, rfl, trivial, rfl, by rw [List.length_range]; omega, fun c hc => ?_, ?_⟩
    · have hc := List.mem_range.mp hc
      refine zgw_name (by decide) ?_
      walk_at "zz"
      refine ze_lcM m (rowD false) (fun r => some (pq (r.getD c 0))) (zi_list ?_)
      walk_at "zz"
      refine ⟨trivial, rfl, by omega, fun r hr => ?_, ?_⟩
      · have ac : atI (r.map pq) (c : Int) = some (pq (r.getD c 0)) := atI_D (by rw [sy.wide _ hr]; exact hc)
        refine zgw_name (by decide) ?_
        walk_at "zz"
        refine ⟨_, _, _, _, _, rfl, .inl rfl, rfl, ac, ?_⟩
        exact ⟨rfl, rfl⟩
      · refine ⟨rfl, ?_⟩
        rw [map_some]
        unfold rowD
        rw [List.map_map]
        rfl
    rw [map_some]
    have er : Dt.lst true ((List.range n).map fun c => rowD true (m.map fun r => r.getD c 0)) = matD true true (colsL n m) := by
      unfold matD colsL
      rw [List.map_map]
      rfl
    rw [er]
    walk_at "zz"
    have lc := colsL_len n m
    refine ⟨m.length, M, colsL n m, by show [(matD true true (colsL n m)).old, _] = _; rw [matD_old, List.length_map]; rfl, sy.m1.1, sy.m1.2, by omega, by omega, fun r hr => ⟨colsL_wide n m r hr, fun x hx => ?_⟩, ?_⟩
    · unfold colsL at hr
      obtain ⟨c, hc, rfl⟩ := List.mem_map.mp hr
      obtain ⟨r, hr, rfl⟩ := List.mem_map.mp hx
      have hc := List.mem_range.mp hc
      exact sy.rows r hr _ (getD_mem (by rw [sy.wide r hr]; exact hc))
    rw [lc]
    have hcol := fun j (hj : j < n) => sy.cols hj
    have okS := fun c (hc : c < n) => sy.sol_ok (some c) (fun d q => by cases q; exact hc)
    have pts := fun c => sy.pts (some c)
    have hyz : (elimN n 1 m (zc m) m.length).wrong = none := sy.no_wrong (y := fun _ => 0) fun k hk => by
      have e1 : Dg.sumQ n (fun j => (m.getD k []).getD j 0 * 0) = 0 := Dg.sumQ_zero fun j _ => by grind
      rw [e1]
      unfold zc
      rw [getD_map (d := []) hk]
    have slv := fun c (hc : c < n) k (hk : k < m.length) => sy.solves hyz (fr := some c) (fun d q => by cases q; exact hc) hk
    have dne : detI (elimN n 1 m (zc m) m.length).rows (elimN n 1 m (zc m) m.length).leads ≠ 0 := by
      have G := Gi.all sy m.length (Nat.le_refl _)
      rw [← dv_det G.rl]
      exact (Dg.link G.lk).1.ne
    unfold kerL
    generalize elimN n 1 m (zc m) m.length = e at *
    generalize bidx m.length (colsL n m) n = B at *
    walk_at "zz"
    refine Tr.ze_frzM (i := 6) rfl ?_
    refine ze_lcM (List.range n) (fun c : Nat => .int (c : Int)) (fun c => if decide (c ∉ B) then some (.int (c : Int)) else none) (zi_range1 ?_)
    walk_at "zz"
    refine ⟨by omega, by omega, rfl, trivial, rfl, by rw [List.length_range]; omega, fun c hc => ?_, ?_⟩
    · refine zgw_name (by decide) ?_
      walk_at "zz"
      refine ⟨_, _, _, rfl, .inl ⟨_, rfl⟩, flat_nats B, ?_⟩
      refine ⟨_, rfl, ?_⟩
      rw [if_pos rfl, inV_nats]
      by_cases q : c ∈ B
      · refine iteBF (by simp [q]) ?_
        exact ⟨rfl, by simp [q]⟩
      · refine iteBT (by simp [q]) ?_
        walk_at "zz"
        exact ⟨rfl, by simp [q]⟩
    rw [map_if (fun j : Nat => Dt.int (j : Int)) (fun j => decide (j ∉ B)) (List.range n)]
    have ef : (List.range n).filter (fun j => decide (j ∉ B)) = freeE n e := by
      unfold freeE
      refine List.filter_congr fun j hj => ?_
      have hj := List.mem_range.mp hj
      exact decide_eq_decide.mpr (not_congr (hcol j hj))
    rw [ef]
    have fl : (freeE n e).length ≤ n := by
      unfold freeE
      have := List.length_filter_le (fun c => decide (c ∉ e.leads)) (List.range n)
      rw [List.length_range] at this
      exact this
    have fm : ∀ c ∈ freeE n e, c < n ∧ c ∉ e.leads := fun c hc => by
      unfold freeE at hc
      obtain ⟨h1, h2⟩ := List.mem_filter.mp hc
      exact ⟨List.mem_range.mp h1, of_decide_eq_true h2⟩
    walk_at "zz"
    exact .ty "list"
    walk_at "zz"
    refine ⟨_, _, .lst _ _, of_decide_eq_true T.x_kit_t_list_t_list, _, rfl, ?_⟩
    refine iteBF rfl ?_
    walk_at "zz"
    refine iteBF (by simp) ?_
    walk_at "zz"
    refine Tr.zs_frzM (i := 7) rfl ?_
    generalize hfn : freeE n e = fn at *
    refine zs_atK (ρ' := [.v (matD false false m), .v (.int (n : Int)), .v (ratsD false false (fn.map fun c => solY 1 e (yL (bsV e.bs) n 1 (some c)))), .v (matD true true (colsL n m)), .un, .un, .v (idxD true B), .v (nLst true fn), .un, .un]) rfl ?_
    refine zs_forL (zi_range1 ?_)
    walk_at "zz"
    refine ⟨by rw [List.length_map]; omega, by rw [List.length_map]; omega, fun i ρ => ∃ p8 p9 : Sl, ρ = [.v (matD false false m), .v (.int (n : Int)), .v (ratsD false false (fn.map fun c => solY 1 e (yL (bsV e.bs) n 1 (some c)))), .v (matD true true (colsL n m)), .un, .un, .v (idxD true B), .v (nLst true fn), p8, p9], ⟨_, _, rfl⟩, ?_, ?_⟩
    · rintro ρ ⟨p8, p9, rfl⟩
      refine ⟨trivial, ?_⟩
      dsimp only [bI]
      walk_at "zz"
      exact k
    · rintro i d ρ hd ⟨p8, p9, rfl⟩
      obtain ⟨hi, rfl⟩ := rng2 hd
      rw [List.length_map] at hi
      have hci := getD_mem (d := 0) hi
      obtain ⟨c1, c2⟩ := fm _ hci
      have so := okS _ c1
      obtain ⟨pc, p1, p2, p3⟩ := pts (fn.getD i 0)
      have sv := slv _ c1
      have yl : (yL (bsV e.bs) n 1 (some (fn.getD i 0))).length = n := so.len
      have svl : (solY 1 e (yL (bsV e.bs) n 1 (some (fn.getD i 0)))).length = n := by unfold solY; rw [List.length_map, yl]
      have bit : ∀ j ∈ fn, (solY 1 e (yL (bsV e.bs) n 1 (some (fn.getD i 0)))).getD j 0 = if decide (j = fn.getD i 0) = true then 1 else 0 := fun j hj => by
        obtain ⟨j1, j2⟩ := fm j hj
        rw [solY_at (by omega), so.free j j1 j2]
        unfold frI
        have d0 : (detI e.rows e.leads : Rat) ≠ 0 := int_ne dne
        by_cases q : j = fn.getD i 0
        · rw [if_pos (by rw [q]), if_pos (decide_eq_true q), Int.one_mul, Int.natCast_one, Int.one_mul, Int.mul_one]
          generalize (detI e.rows e.leads : Rat) = d at *
          grind
        · rw [if_neg (fun z => q (Option.some.inj z).symm), if_neg (by simpa using q), Int.zero_mul, Int.zero_mul]
          show (0 : Rat) / _ = 0
          grind
      have af : atI ((fn.map fun c => solY 1 e (yL (bsV e.bs) n 1 (some c))).map (ratL false)) (i : Int) = some (ratL false (solY 1 e (yL (bsV e.bs) n 1 (some (fn.getD i 0))))) := atI_k (by rw [List.getElem?_map, List.getElem?_map, getD_in (d := 0) hi]; rfl)
      have ao : atI (fn.map fun k : Nat => Dt.int (k : Int)) (i : Int) = some (.int ((fn.getD i 0 : Nat) : Int)) := atI_D (f := fun k : Nat => Dt.int (k : Int)) hi
      generalize fn.getD i 0 = c at *
      generalize solY 1 e (yL (bsV e.bs) n 1 (some c)) = sol at *
      walk_at "zz"
      refine ⟨_, _, _, _, _, rfl, .inl rfl, rfl, af, ?_⟩
      walk_at "zz"
      refine ⟨sol, by show [(ratL false sol).old] = _; rw [ratL_old], by omega, ?_⟩
      walk_at "zz"
      refine iteBF (by rw [List.length_map, svl]; simp) ?_
      walk_at "zz"
      refine ze_neZ rfl ?_
      refine Tr.ze_frzM (i := 9) rfl ?_
      refine ze_lcM fn (fun j : Nat => .int (j : Int)) (fun j => some (pq (sol.getD j 0))) (zi_list ?_)
      walk_at "zz"
      refine ⟨trivial, rfl, by omega, fun j hj => ?_, ?_⟩
      · obtain ⟨j1, j2⟩ := fm j hj
        have aj : atI (sol.map pq) (j : Int) = some (pq (sol.getD j 0)) := atI_D (by omega)
        refine zgw_name (by decide) ?_
        walk_at "zz"
        refine ⟨_, _, _, _, _, rfl, .inl rfl, rfl, aj, ?_⟩
        exact ⟨rfl, rfl⟩
      refine ze_lcM fn (fun j : Nat => .int (j : Int)) (fun j => some (bitD (decide (j = c)))) (zi_list ?_)
      walk_at "zz"
      refine ⟨trivial, rfl, by omega, fun j hj => ?_, ?_⟩
      · refine zgw_name (by decide) ?_
        walk_at "zz"
        refine ⟨_, _, _, _, _, rfl, .inl rfl, rfl, ao, _, .ii _ _, .inr ⟨_, rfl, ?_⟩⟩
        walk_at "zz"
        refine ⟨rfl, ?_⟩
        have ec : decide ((j : Int) = (c : Int)) = decide (j = c) := decide_eq_decide.mpr ⟨fun q => by omega, fun q => by omega⟩
        rw [ec]
        rfl
      rw [map_some, map_some]
      refine ⟨.lst (eqdsK fn fun j hj => eqd_bit 7 (bit j hj)), rfl, (fun _ _ q => nomatch q), ?_⟩
      walk_at "zz"
      refine ze_any ?_
      refine ze_lcM m (rowD false) (fun _ => some (.bl false)) (zi_list ?_)
      walk_at "zz"
      refine ⟨trivial, rfl, by omega, fun r hr => ?_, ?_⟩
      · refine zgw_name (by decide) ?_
        walk_at "zz"
        refine ze_neZ rfl ?_
        walk_at "zz"
        obtain ⟨kr, hkr, rfl⟩ := List.mem_iff_getElem.mp hr
        have dz : dotN m[kr] sol m[kr].length = 0 := by
          have := sv kr hkr
          rw [List.getD_eq_getElem?_getD, List.getElem?_eq_getElem hkr] at this
          have wl := sy.wide _ hr
          rw [wl]
          have z : (zc m).getD kr 0 = 0 := by unfold zc; rw [getD_map (d := []) hkr]
          rw [z] at this
          exact this
        refine ⟨M, pc, m[kr], sol, ?_, by rw [sy.wide _ hr, svl], by rw [sy.wide _ hr]; omega, sy.m1.1, sy.m1.2, p1, p2, sy.rows _ hr, p3, ?_⟩
        · show [Dt.old _, Dt.old _] = _
          rw [rowD_old, rowD_old]
        rw [dz]
        walk_at "zz"
        refine ⟨eqd_bit 8 (b := false) rfl, rfl, (fun _ _ q => nomatch q), ?_⟩
        exact ⟨rfl, rfl⟩
      · rw [map_some]
        refine ⟨true, List.replicate m.length false, ?_, ?_⟩
        · rw [List.map_replicate, List.map_const']
        · have e0 : (List.replicate m.length false).any id = false := by
            rw [List.any_eq_false]
            intro x hx
            rw [List.eq_of_mem_replicate hx]
            decide
          rw [e0]
          walk_at "zz"
          exact ⟨_, _, rfl⟩
end
end Lq
/-! ### a Ratio != another of the same value -/
def rNeRat (K : PySem.W.Frag) : R2 := fun x y H Q => DIns (He.ga K "Ratio") (RatR K) x y H ∧ ∀ H', Ext H H' → NoFz H H' → Q (.bl false) H'
theorem ze_neRat {z : Cz} {ρ : List Sl} {N : Dt → Bool → List Sl → Prop} {ta tb : TE} {K' : PySem.W.Frag} (hK : K' = z.K) (h : ZE z ta ρ fun x _ ρ1 => ZE z tb ρ1 fun y _ ρ2 => ∃ n d, x = .rat n d ∧ y = .rat n d ∧ N (.bl false) false ρ2) : ZE z (tOp (rNeRat K') ta tb) ρ N :=
  ze_op2w (W := fun x y N ρ2 => ∃ n d, x = .rat n d ∧ y = .rat n d ∧ N (.bl false) false ρ2) (fun x y ρ2 N n2 m F H σ Q vx vy S r1 r2 k => by
    subst hK
    obtain ⟨n, d, rfl, rfl, nn⟩ := n2
    simp only [Rz] at r1 r2
    obtain ⟨a, dx, rfl, e1⟩ := r1
    obtain ⟨b, dy, rfl, e2⟩ := r2
    have h1 := S.le.exact e1 rfl
    have h2 := S.le.exact e2 rfl
    exact ⟨⟨a, b, dx, dy, _, _, rfl, rfl, h1, h2, n, d, ⟨dx, h1⟩, ⟨dy, h2⟩⟩, fun H' e nf => k _ _ _ _ _ _ nn (Same.refl F) (S.ext0 e nf) (rzF_f rzb)⟩) h
section
variable {P : Program} {w : World} {K : PySem.W.Frag} {mg : Str → Option Value}
theorem op_neRat (T : Top w K mg) {X : Cx} (hr : Room (1 + 1) X.A) (hp : X.prog = P := by rfl) (hw : X.w = w := by rfl) (hk : X.K = K := by rfl) (hm : X.mg = mg := by rfl) : OpR X (compareOp .NotEq) (rNeRat K) := by
  subst hp hw hk hm
  intro pins s σ H x y v u Q I rx ry hq
  obtain ⟨d, q⟩ := hq
  obtain ⟨a, b, dx, dy, fs, gs, rfl, rfl, h1, h2, r⟩ := d
  refine wpAny_mono ((op_neO (He.eqO_ok T.x_ne_Ratio) (of_decide_eq_true T.x_ob_Ratio) T.m_Ratio___eq__ (ok_Ratio___eq__ (base := X.base) T) T.b_Ratio___eq__ hr pass0) pins s σ H _ _ v u (fun z H' => z = .bl false ∧ Ext H H') I rx ry ⟨a, b, dx, dy, fs, gs, rfl, rfl, h1, h2, a, b, rfl, r, fun H' e => ⟨true, rfl, rfl, e⟩⟩) (fun r s' z => ?_) fun _ _ x => x
  obtain ⟨z, H', I', rz, rfl, e⟩ := z
  exact ⟨.bl false, _, inv_unFz I I' e, rz, q _ (fun a o w => unFz_old e w) unFz_noFz⟩
end
namespace Lq
theorem cut_to {ds : List Dt} {k : Nat} (h : k < ds.length) : cutD ds none (some ((k : Int) + 1)) = ds.take (k + 1) := by
  unfold cutD
  have e : (k : Int) + 1 = ((k + 1 : Nat) : Int) := rfl
  rw [e, HT.sIx_nat, HT.sIx_none, List.drop_zero, Nat.sub_zero, Nat.min_eq_left (by omega)]
section
variable {P : Program} {w : World} {K : PySem.W.Frag} {mg : Str → Option Value} {base : Heap}
def wIsShown : Wz := fun ds Nv _ => ∃ (n S M M2 MA : Nat) (m : List (List Rat)) (cs : List Rat) (w : Nat), ds = [matD false false m, rowD false cs, ratL false (facL m.length w ((bidx n m w).zip (solT n m w)))] ∧ SysQ n S M M2 m cs ∧ 1 ≤ n ∧ (∀ r ∈ m, ∀ e ∈ r, SmQ M (2 ^ 49) e) ∧ MA ≠ 0 ∧ MA < 2 ^ 40 ∧ RowsQ (n + 1) MA (augL m cs) ∧ (∀ c ∈ cs, SmQ MA (2 ^ 80) c) ∧ (elimN n S m cs m.length).wrong = some w ∧ Nv (.bl true) false
set_option maxHeartbeats 8000000 in
theorem ok__law_is_shown (T : Top w K mg) : FnOk P w K mg base CX0 20 (He.ga K ("_law_is_shown" : Str)) (fdOf K d__law_is_shown) ["rows", "constants", "factors"] (spZ K wIsShown) := by
  obtain ⟨ds0, B0⟩ := T.b0_Ratio___init__
  refine (T.f__law_is_shown).ok sc__law_is_shown (fun vs H Q E h => spz_len h (n := 3) fun ds Nv Ne hw => ?_) (fun cdv A outer s H vs Q E hr h => ?_)
  · obtain ⟨_, _, _, _, _, _, _, _, rfl, _⟩ := hw
    rfl
  · refine z_fn h (PSs.nox (pss_cons (ps_lockL (ps_setLc (i := 3) (own := [(("k" : Str), 4)]) (g := (gName 4)) (tt := tYes) rfl sc__law_is_shown.nd rfl rfl (by rfl) (pi_range1 rfl T.n_range (pa_cons (pe_callB (call_lenZ (K := K) rfl) (by rfl) T.n_len PySem.boot_len (pa_cons (pv 0) pa_nil)) pa_nil)) (blkOk_by (N := ["rows", "constants", "factors", "own", "k", "basis", "first", "pairs", "j", "row"]) (sc := defScope s__law_is_shown) (by decide +kernel)) (fun _ _ _ _ _ => (pg_name (i := 4) sc__law_is_shown.nd rfl (Or.inl rfl))) (fun _ _ _ _ _ => pts_nil) (fun _ _ _ _ _ => (pe_op op_cat (pe_ix (ix_listK (K := K) rfl) (pv 0) (pv 4) (fun _ _ => rfl)) (pe_lst (pa_cons (pe_ix (ix_listK (K := K) rfl) (pv 1) (pv 4) (fun _ _ => rfl)) pa_nil))))))
    (pss_cons (ps_set (i := 5) sc__law_is_shown.nd rfl (Or.inl rfl) (pe_call (ok__law_basis (K := K) T) (hr.mono (by decide)) rfl T.g__law_basis T.f__law_basis.kp T.b__law_basis .nil pass0 (pa_cons (pv 0) (pa_cons (pe_callB (call_lenZ (K := K) rfl) (by rfl) T.n_len PySem.boot_len (pa_cons (pe_ix (ix_listK (K := K) rfl) (pv 0) pe_int (fun _ _ => rfl)) pa_nil)) pa_nil))))
    (pss_cons (ps_set (i := 6) sc__law_is_shown.nd rfl (Or.inl rfl) (pe_callB (call_lenZ (K := K) rfl) (by rfl) T.n_len PySem.boot_len (pa_cons (pv 0) pa_nil)))
    (pss_cons (ps_lockL (ps_for PassesOwn.never rfl (pi_range3 rfl T.n_range (pa_cons (pe_op op_sub (pe_callB (call_lenZ (K := K) rfl) (by rfl) T.n_len PySem.boot_len (pa_cons (pv 0) pa_nil)) pe_int) (pa_cons (pe_un un_neg pe_int) (pa_cons (pe_un un_neg pe_int) pa_nil)))) (pg_name (i := 4) sc__law_is_shown.nd rfl (Or.inl rfl))
    (pss_one (ps_if (pt_cmpR op_gt (pe_call (ok__law_rank (K := K) T) (hr.mono (by decide)) rfl T.g__law_rank T.f__law_rank.kp T.b__law_rank .nil pass0 (pa_cons (pe_slice sl_list (pv 3) po_none (po_some (pe_op op_add (pv 4) pe_int))) pa_nil)) (pe_call (ok__law_rank (K := K) T) (hr.mono (by decide)) rfl T.g__law_rank T.f__law_rank.kp T.b__law_rank .nil pass0 (pa_cons (pe_slice sl_list (pv 0) po_none (po_some (pe_op op_add (pv 4) pe_int))) pa_nil)) (nomark _))
    (pss_one (ps_set (i := 6) sc__law_is_shown.nd rfl (Or.inl rfl) (pv 4)))
    pss_nil))))
    (pss_cons (ps_if (PW.pt (pw_or (pt_not (pt_val (pe_callB (call_isiK' (K := K) rfl) (by rfl) T.n_isinstance (by decide +kernel) (pa_cons (pv 2) (pa_cons (pe_bltn (v := .ty "list") rfl T.n_list (by decide +kernel) rfl) pa_nil))))) (pw_or (pt_cmpR op_ne (pe_callB (call_lenZ (K := K) rfl) (by rfl) T.n_len PySem.boot_len (pa_cons (pv 2) pa_nil)) (pe_callB (call_lenZ (K := K) rfl) (by rfl) T.n_len PySem.boot_len (pa_cons (pv 0) pa_nil)) (nomark _)) (pw_or1 (pt_cmpR (op_neRat T (hr.mono (by decide))) (pe_ix (ix_listK (K := K) rfl) (pv 2) (pv 6) (fun _ _ => rfl)) (pe_make (C := He.ga K ("Ratio" : Str)) T.mk_Ratio (ok_Ratio___init__ (K := K) T) (hr.mono (by decide)) rfl T.g_Ratio (B0.2) (B0.1) passL (pa_cons pe_int pa_nil)) (nomark _))))))
    (pss_one (ps_ret pe_bl))
    pss_nil)
    (pss_cons (ps_set (i := 7) sc__law_is_shown.nd rfl (Or.inl rfl) (pe_call (ok__law_pairs (K := K) T) (hr.mono (by decide)) rfl T.g__law_pairs T.f__law_pairs.kp T.b__law_pairs .nil pass0 (pa_cons (pv 2) pa_nil)))
    (pss_cons (ps_lockL (ps_for PassesOwn.never rfl (pi_range1 rfl T.n_range (pa_cons (pe_callB (call_lenZ (K := K) rfl) (by rfl) T.n_len PySem.boot_len (pa_cons (pv 0) pa_nil)) pa_nil)) (pg_name (i := 4) sc__law_is_shown.nd rfl (Or.inl rfl))
    (pss_one (ps_if (PW.pt (pw_and (pt_cmpR op_ne (pv 4) (pv 6) (nomark _)) (pw_and (pt_cmpR op_ne (pe_ix (ix_tupK (K := K) rfl) (pe_ix (ix_listK (K := K) rfl) (pv 7) (pv 4) (fun _ _ => rfl)) pe_int (fun _ _ => rfl)) pe_int (nomark _)) (pw_and1 (PW.pt (pw_or (pt_cmpR op_gt (pv 4) (pv 6) (nomark _)) (pw_or1 (pt_cmpR (op_notInK (K := K) rfl) (pv 4) (pv 5) (by rfl)))))))))
    (pss_one (ps_ret pe_bl))
    pss_nil))))
    (pss_cons (ps_lockL (ps_for PassesOwn.never rfl (pi_range1 rfl T.n_range (pa_cons (pe_callB (call_lenZ (K := K) rfl) (by rfl) T.n_len PySem.boot_len (pa_cons (pe_ix (ix_listK (K := K) rfl) (pv 0) pe_int (fun _ _ => rfl)) pa_nil)) pa_nil)) (pg_name (i := 8) sc__law_is_shown.nd rfl (Or.inr rfl))
    (pss_one (ps_if (pt_cmpR (op_neZZ T 8 hr.units (by exact hr.mono (by decide))) (pe_call (ok__law_dot (K := K) T) (hr.mono (by decide)) rfl T.g__law_dot T.f__law_dot.kp T.b__law_dot .nil pass0 (pa_cons (pe_lockL (pe_lc (own := [(("row" : Str), 9)]) (g := (gName 9)) (tt := tYes) rfl sc__law_is_shown.nd (pi_listK (K := K) rfl (pv 0)) (blkOk_by (N := ["rows", "constants", "factors", "own", "k", "basis", "first", "pairs", "j", "row"]) (sc := defScope s__law_is_shown) (by decide +kernel)) (fun _ _ _ _ _ => (pg_name (i := 9) sc__law_is_shown.nd rfl (Or.inl rfl))) (fun _ _ _ _ _ => pts_nil) (fun _ _ _ _ _ => (pe_ix (ix_listK (K := K) rfl) (pv 9) (pv 8) (fun _ _ => rfl))))) (pa_cons (pv 7) pa_nil))) (pe_tup (pa_cons pe_int (pa_cons pe_int pa_nil))) (nomark _))
    (pss_one (ps_ret pe_bl))
    pss_nil))))
    (pss_one (ps_ret (pe_cmpR op_ne (pe_ix (ix_tupK (K := K) rfl) (pe_call (ok__law_dot (K := K) T) (hr.mono (by decide)) rfl T.g__law_dot T.f__law_dot.kp T.b__law_dot .nil pass0 (pa_cons (pv 1) (pa_cons (pv 7) pa_nil))) pe_int (fun _ _ => rfl)) pe_int (nomark _))))))))))))) fun ds Nv Ne hw => ?_
    obtain ⟨n, S, M, M2, MA, m, cs, a, rfl, sy, hn, hs, hA1, hA2, hAR, hAc, hwr, k⟩ := hw
    have few := sy.few
    obtain ⟨w1, _, _⟩ := sy.wrong_at m.length (Nat.le_refl _) a hwr
    have cl := sy.len
    walk_at "zz"
    refine ze_lcM (List.range m.length) (fun k : Nat => .int (k : Int)) (fun k => some (rowD true (m.getD k [] ++ [cs.getD k 0]))) (zi_range1 ?_)
    walk_at "zz"
    refine ⟨by rw [List.length_map]; omega, by rw [List.length_map]; omega, by rw [List.length_map, Int.toNat_natCast], trivial, rfl, by rw [List.length_range]; omega, fun i hi => ?_, ?_⟩
    · have hi := List.mem_range.mp hi
      have am : atI (m.map (rowD false)) (i : Int) = some (rowD false (m.getD i [])) := atI_D hi
      have ac : atI (cs.map pq) (i : Int) = some (pq (cs.getD i 0)) := atI_D (by omega)
      refine zgw_name (by decide) ?_
      walk_at "zz"
      refine ⟨_, _, _, _, _, rfl, .inl rfl, rfl, am, ?_⟩
      walk_at "zz"
      refine ⟨_, _, _, _, _, rfl, .inl rfl, rfl, ac, ?_⟩
      walk_at "zz"
      refine ⟨_, _, _, _, rfl, rfl, ?_, rfl, ?_⟩
      · rw [List.length_map, sy.wide _ (getD_mem hi)]
        show n + 1 ≤ _
        omega
      · unfold rowD
        rw [List.map_append]
        rfl
    rw [map_some]
    have er : Dt.lst true ((List.range m.length).map fun k => rowD true (m.getD k [] ++ [cs.getD k 0])) = matD true true (augL m cs) := by
      have e0 : (List.range m.length).map (fun k => m.getD k [] ++ [cs.getD k 0]) = augL m cs := by
        refine List.ext_getElem? fun k => ?_
        unfold augL
        rw [List.getElem?_map, List.getElem?_map]
        by_cases c : k < m.length
        · have h3 : (m.zip cs)[k]? = some (m.getD k [], cs.getD k 0) := List.getElem?_zip_eq_some.mpr ⟨getD_in c, getD_in (by omega)⟩
          rw [h3, List.getElem?_range c]
          rfl
        · rw [List.getElem?_eq_none (l := List.range m.length) (by rw [List.length_range]; omega), List.getElem?_eq_none (l := m.zip cs) (by rw [List.length_zip]; omega)]
          rfl
      rw [← e0]
      unfold matD
      rw [List.map_map]
      rfl
    rw [er]
    have a0 : atI (m.map (rowD false)) 0 = some (rowD false (m.getD 0 [])) := atI_D (j := 0) (by omega)
    have h0 := sy.wide _ (getD_mem (d := ([] : List Rat)) (show 0 < m.length by omega))
    walk_at "zz"
    refine ⟨_, _, _, _, _, rfl, .inl rfl, rfl, a0, ?_⟩
    walk_at "zz"
    refine ⟨n, M, m, ?_, sy.m1.1, sy.m1.2, by omega, by omega, fun r hr => ⟨sy.wide r hr, sy.rows r hr⟩, ?_⟩
    · show [(matD false false m).old, _] = _
      rw [matD_old, List.length_map, h0]
      rfl
    walk_at "zz"
    have far := fun k (hk : k < m.length) => sy.first_at hwr hk
    have fsum := fun g => facL_sum (s := solT n m a) g w1 (solT_len n m a) (by
      rw [bidx_kept sy.wide a (by omega)]
      exact (kept_sorted n (m.map vq) a).imp fun {x y} h => by omega) (bidx_lt n m a)
    have foff := fun k (hk : k ∉ bidx n m a) => facL_off (many := m.length) (s := solT n m a) w1 (bidx_lt n m a) hk
    have fpts := sy.fac_pts hn hs w1 m.length
    have flen := facL_len m.length a ((bidx n m a).zip (solT n m a))
    have fcol := fun c (hc : c < n) => sy.fac_col hn hs hwr hc
    have fne := sy.turn_ne hwr (x := fun i => (solT n m a).getD i 0) fun c hc => fcol c hc
    generalize facL m.length a ((bidx n m a).zip (solT n m a)) = F at *
    refine Tr.zs_frzM (i := 3) rfl ?_
    refine zs_atK (ρ' := [.v (matD false false m), .v (rowD false cs), .v (ratL false F), .v (matD true true (augL m cs)), .un, .o (idxD true (bidx n m m.length)), .v (.int (m.length : Int)), .un, .un, .un]) ?_ ?_
    · exact congrArg (fun l : Nat => [Sl.v (matD false false m), .v (rowD false cs), .v (ratL false F), .v (matD true true (augL m cs)), .un, .o (idxD true (bidx n m m.length)), .v (.int (l : Int)), .un, .un, .un]) (List.length_map (as := m) (rowD false))
    refine zs_forL (zi_range3 ?_)
    walk_at "zz"
    refine ⟨(m.length : Int) - 1, -1, -1, m.length, by rw [List.length_map], ?_, ?_⟩
    · have := RgC.neg (i := (m.length : Int) - 1) (j := -1) (by omega) (by omega) (by omega) (by omega)
      rw [show ((m.length : Int) - 1 - -1).toNat = m.length by omega] at this
      exact this
    refine ⟨fun i ρ => ∃ p4 : Sl, ρ = [.v (matD false false m), .v (rowD false cs), .v (ratL false F), .v (matD true true (augL m cs)), p4, .o (idxD true (bidx n m m.length)), .v (.int ((max a (m.length - i) : Nat) : Int)), .un, .un, .un], ⟨.un, ?_⟩, ?_, ?_⟩
    · rw [show max a (m.length - 0) = m.length by omega]
    · rintro ρ ⟨p4, rfl⟩
      refine ⟨trivial, ?_⟩
      dsimp only [bI]
      rw [List.length_map, List.length_range, show max a (m.length - m.length) = a by omega]
      walk_at "zz"
      exact .ty "list"
      walk_at "zz"
      refine ⟨_, _, .lst _ _, of_decide_eq_true T.x_kit_t_list_t_list, _, rfl, ?_⟩
      refine iteBF rfl ?_
      walk_at "zz"
      refine iteBF (by rw [List.length_map, List.length_map, flen]; simp) ?_
      walk_at "zz"
      refine ze_neRat rfl ?_
      walk_at "zz"
      have af : atI (F.map ratE) (a : Int) = some (ratE (F.getD a 0)) := atI_D (by omega)
      have fa : F.getD a 0 = 1 := by
        rw [foff a (fun z => by have := bidx_lt n m a a z; omega), if_pos rfl]
      rw [fa] at af
      refine ⟨_, _, _, _, _, rfl, .inl rfl, rfl, af, ?_⟩
      walk_at "zz"
      refine ⟨1, 1, .inr ⟨rfl, rfl⟩, by decide, by unfold Bits; decide +kernel, 1, 1, rfl, rfl, ?_⟩
      walk_at "zz"
      refine ⟨F, by show [(ratL false F).old] = _; rw [ratL_old], by omega, ?_⟩
      walk_at "zz"
      refine Tr.zs_frzM (i := 5) rfl ?_
      refine Tr.zs_frzM (i := 7) rfl ?_
      refine zs_atK (ρ' := [.v (matD false false m), .v (rowD false cs), .v (ratL false F), .v (matD true true (augL m cs)), p4, .v (idxD true (bidx n m m.length)), .v (.int (a : Int)), .v (rowD true F), .un, .un]) rfl ?_
      refine zs_forL (zi_range1 ?_)
      walk_at "zz"
      refine ⟨by rw [List.length_map]; omega, by rw [List.length_map]; omega, fun i ρ => ∃ p4 : Sl, ρ = [.v (matD false false m), .v (rowD false cs), .v (ratL false F), .v (matD true true (augL m cs)), p4, .v (idxD true (bidx n m m.length)), .v (.int (a : Int)), .v (rowD true F), .un, .un], ⟨_, rfl⟩, ?_, ?_⟩
      · rintro ρ ⟨p4, rfl⟩
        refine ⟨trivial, ?_⟩
        dsimp only [bI]
        have h0 := sy.wide _ (getD_mem (d := ([] : List Rat)) (show 0 < m.length by omega))
        have a0 : atI (m.map (rowD false)) 0 = some (rowD false (m.getD 0 [])) := atI_D (j := 0) (by omega)
        walk_at "zz"
        refine zs_forL (zi_range1 ?_)
        walk_at "zz"
        refine ⟨_, _, _, _, _, rfl, .inl rfl, rfl, a0, ?_⟩
        walk_at "zz"
        refine ⟨by rw [List.length_map]; omega, by rw [List.length_map]; omega, fun i ρ => ∃ p8 : Sl, ρ = [.v (matD false false m), .v (rowD false cs), .v (ratL false F), .v (matD true true (augL m cs)), p4, .v (idxD true (bidx n m m.length)), .v (.int (a : Int)), .v (rowD true F), p8, .un], ⟨_, rfl⟩, ?_, ?_⟩
        · rintro ρ ⟨p8, rfl⟩
          refine ⟨trivial, ?_⟩
          dsimp only [bI]
          walk_at "zz"
          obtain ⟨pc, c1, c2, c3⟩ := fpts
          have nz : dotN cs F cs.length ≠ 0 := by
            rw [dotN_sumQ, cl, fsum fun k => cs.getD k 0]
            exact fne
          refine ⟨MA, pc, cs, F, by show [(rowD false cs).old, (rowD true F).old] = _; rw [rowD_old, rowD_old], by rw [flen, cl], by omega, hA1, hA2, c1, c2, hAc, c3, ?_⟩
          walk_at "zz"
          have zn : (dotN cs F cs.length).num ≠ 0 := fun q => nz (Lq.num_zero.mp q)
          rw [decide_eq_false zn]
          exact k
        · rintro i d ρ hd ⟨p8, rfl⟩
          obtain ⟨hi, rfl⟩ := rng2 hd
          rw [List.length_map, h0] at hi
          walk_at "zz"
          refine ze_neZ rfl ?_
          walk_at "zz"
          refine ze_lcM m (rowD false) (fun r => some (pq (r.getD i 0))) (zi_list ?_)
          walk_at "zz"
          refine ⟨trivial, rfl, by omega, fun r hr => ?_, ?_⟩
          · have ar : atI (r.map pq) (i : Int) = some (pq (r.getD i 0)) := atI_D (by rw [sy.wide _ hr]; exact hi)
            refine zgw_name (by decide) ?_
            walk_at "zz"
            refine ⟨_, _, _, _, _, rfl, .inl rfl, rfl, ar, ?_⟩
            exact ⟨rfl, rfl⟩
          rw [map_some]
          have er : Dt.lst true (m.map fun r => pq (r.getD i 0)) = rowD true (m.map fun r => r.getD i 0) := by
            unfold rowD
            rw [List.map_map]
            rfl
          rw [er]
          walk_at "zz"
          obtain ⟨pc, c1, c2, c3⟩ := fpts
          have dz : dotN (m.map fun r => r.getD i 0) F (m.map fun r => r.getD i 0).length = 0 := by
            rw [dotN_sumQ, List.length_map]
            have e1 : Dg.sumQ m.length (fun j => (m.map fun r => r.getD i 0).getD j 0 * F.getD j 0) = Dg.sumQ m.length fun j => (m.getD j []).getD i 0 * F.getD j 0 := Dg.sumQ_congr fun j hj => by rw [getD_map (d := []) hj]
            rw [e1, fsum fun k => (m.getD k []).getD i 0, fcol i hi]
            grind
          refine ⟨M, pc, m.map fun r => r.getD i 0, F, by show [(rowD true _).old, (rowD true F).old] = _; rw [rowD_old, rowD_old], by rw [flen, List.length_map], by rw [List.length_map]; omega, sy.m1.1, sy.m1.2, c1, c2, fun x hx => ?_, c3, ?_⟩
          · obtain ⟨r, hr, rfl⟩ := List.mem_map.mp hx
            exact sy.rows r hr _ (getD_mem (by rw [sy.wide r hr]; exact hi))
          rw [dz]
          walk_at "zz"
          refine ⟨eqd_bit 8 (b := false) rfl, rfl, (fun _ _ q => nomatch q), ?_⟩
          walk_at "zz"
          exact ⟨_, rfl⟩
      · rintro i d ρ hd ⟨p4, rfl⟩
        obtain ⟨hi, rfl⟩ := rng2 hd
        rw [List.length_map] at hi
        have afi : atI (F.map pq) (i : Int) = some (pq (F.getD i 0)) := atI_D (by omega)
        have end_ : ∃ p4' : Sl, [Sl.v (matD false false m), .v (rowD false cs), .v (ratL false F), .v (matD true true (augL m cs)), .v (.int (i : Int)), .v (idxD true (bidx n m m.length)), .v (.int (a : Int)), .v (rowD true F), .un, .un] = [.v (matD false false m), .v (rowD false cs), .v (ratL false F), .v (matD true true (augL m cs)), p4', .v (idxD true (bidx n m m.length)), .v (.int (a : Int)), .v (rowD true F), .un, .un] := ⟨_, rfl⟩
        walk_at "zz"
        by_cases c : i = a
        · refine iteBF (by simp [c]) ?_
          walk_at "zz"
          exact end_
        · refine iteBT (by simp; omega) ?_
          walk_at "zz"
          refine ⟨_, _, _, _, _, rfl, .inl rfl, rfl, afi, ?_⟩
          walk_at "zz"
          by_cases z : F.getD i 0 = 0
          · have zn : (F.getD i 0).num = 0 := by rw [z]; rfl
            refine iteBF (by rw [zn]; rfl) ?_
            walk_at "zz"
            exact end_
          · have zn : (F.getD i 0).num ≠ 0 := fun q => z (Lq.num_zero.mp q)
            refine iteBT (by simpa using zn) ?_
            have hb : i ∈ bidx n m a := by
              by_cases q : i ∈ bidx n m a
              · exact q
              · exact absurd (by rw [foff i q, if_neg c]) z
            have hb1 := bidx_lt n m a i hb
            have hb2 : i ∈ bidx n m m.length := by
              rw [bidx_kept sy.wide a (by omega)] at hb
              rw [bidx_kept sy.wide m.length (Nat.le_refl _)]
              have q := (Dg.kept_mem n (m.map vq) a i).mp hb
              exact (Dg.kept_mem n (m.map vq) m.length i).mpr ⟨hi, q.2⟩
            walk_at "zz"
            refine iteBF (decide_eq_false (by omega)) ?_
            walk_at "zz"
            refine ⟨_, _, _, rfl, .inl ⟨_, rfl⟩, flat_nats _, ?_⟩
            refine ⟨_, rfl, ?_⟩
            rw [if_pos rfl, inV_nats]
            refine iteBF (by simp [hb2]) ?_
            walk_at "zz"
            exact end_
    · rintro i d ρ hd ⟨p4, rfl⟩
      rw [List.getElem?_map] at hd
      have hi : i < m.length := by
        by_cases c : i < m.length
        · exact c
        · rw [List.getElem?_eq_none (by rw [List.length_range]; omega)] at hd
          cases hd
      rw [List.getElem?_range hi] at hd
      cases hd
      have ek : (m.length : Int) - 1 + ((i : Nat) : Int) * (-1) = ((m.length - 1 - i : Nat) : Int) := by omega
      dsimp only
      rw [ek]
      have fk := far (m.length - 1 - i) (by omega)
      have fin : (if a ≤ m.length - 1 - i then m.length - 1 - i else max a (m.length - i)) = max a (m.length - (i + 1)) := by
        split <;> omega
      have la : (augL m cs).length = m.length := by unfold augL; rw [List.length_map, List.length_zip, cl, Nat.min_self]
      generalize m.length - 1 - i = kk at *
      have hkk : kk < m.length := by omega
      walk_at "zz"
      refine ⟨_, _, rfl, ?_⟩
      rw [cut_to (by rw [List.length_map, la]; exact hkk), ← List.map_take]
      walk_at "zz"
      refine ⟨n + 1, MA, (augL m cs).take (kk + 1), ?_, hA1, hA2, by omega, by rw [List.length_take]; omega, fun r hr => hAR r (List.mem_of_mem_take hr), ?_⟩
      · show [(matD true true ((augL m cs).take (kk + 1))).old] = _
        rw [matD_old]
      walk_at "zz"
      refine ⟨_, _, rfl, ?_⟩
      rw [cut_to (by rw [List.length_map]; exact hkk), ← List.map_take]
      walk_at "zz"
      refine ⟨n, M, m.take (kk + 1), ?_, sy.m1.1, sy.m1.2, by omega, by rw [List.length_take]; omega, fun r hr => ⟨sy.wide r (List.mem_of_mem_take hr), sy.rows r (List.mem_of_mem_take hr)⟩, ?_⟩
      · show [(matD true false (m.take (kk + 1))).old] = _
        rw [matD_old]
      walk_at "zz"
      by_cases c : a ≤ kk
      · have := fk.mpr c
        refine iteBT (decide_eq_true (by omega)) ?_
        walk_at "zz"
        have e := fin
        rw [if_pos c] at e
        exact ⟨.v (.int (kk : Int)), by rw [← e] <;> rfl⟩
      · have : ¬ (lbOf n (m.take (kk + 1))).length < (lbOf (n + 1) ((augL m cs).take (kk + 1))).length := fun z => c (fk.mp z)
        refine iteBF (decide_eq_false (by omega)) ?_
        walk_at "zz"
        have e := fin
        rw [if_neg c] at e
        exact ⟨.v (.int (kk : Int)), by rw [← e] <;> rfl⟩
end
end Lq
namespace Lq
theorem z_rest55 {K : PySem.W.Frag} {E : XK} {t : TS} {N : List Str} {ds : List Dt} {vs : List V} {H : Hp} {D : Ends} (r : Rzl K H H ds vs)
    (go : ZS ⟨K, E, fun _ _ => False⟩ t (slots N ds) ⟨fun _ => False, fun d fr => d = .bl true ∧ fr = false, fun _ => False, fun _ => False⟩) (k : ∀ H', D.rt (.bl true) H') : t D (L2.start N vs) H :=
  go (fmE H H) H H _ D (Sm.start (Le.refl H) r fun _ _ _ _ f => f.elim) (fun _ _ _ _ f => f.elim) (fun d fr F' H' v n s R => by
    obtain ⟨rfl, rfl⟩ := n
    obtain ⟨_, r⟩ := R
    rw [if_neg (by decide)] at r
    rw [rz_b r]
    exact k _) (fun _ _ _ _ f => f.elim) fun _ _ _ _ f => f.elim
theorem zs_at55 {z : Cz} {t : TS} {ρ ρ' : List Sl} {D : Zn} (e : ρ = ρ') (h : ZS z t ρ' D) : ZS z t ρ D := e ▸ h
theorem zs_vo {z : Cz} {t : TS} {ρ : List Sl} {D : Zn} {i : Nat} {s : Sl} {d : Dt} (h : ρ[i]? = some s) (hs : s = .v d ∨ s = .o d) (n : ZS z t (ρ.set i (.v d)) D) : ZS z t ρ D := by
  rcases hs with rfl | rfl
  · have e : ρ.set i (.v d) = ρ := List.ext_getElem? fun k => by
      by_cases c : i = k
      · subst c
        rw [h, List.getElem?_set_self (by exact (List.getElem?_eq_some_iff.mp h).1)]
      · rw [List.getElem?_set_ne c]
    rw [e] at n
    exact n
  · exact Tr.zs_frzM h n
theorem eqds55 {α : Type} {n : Nat} {f g : α → Dt} (h : ∀ a, EqD n (f a) (g a)) : ∀ xs : List α, EqDs n (xs.map f) (xs.map g)
  | [] => .nil
  | x :: xs => .cons (h x) (eqds55 h xs)
theorem eqd_ratL (n : Nat) (t s : Bool) (r : List Rat) : EqD (n + 1) (ratL t r) (ratL s r) := .lst (eqds55 (fun _ => .rat _ _) r)
theorem eqd_ratsD (n : Nat) (t s t' s' : Bool) (m : List (List Rat)) : EqD (n + 2) (ratsD t t' m) (ratsD s s' m) := .lst (eqds55 (fun r => eqd_ratL n t' s' r) m)
/-! #### what is drawn -/
theorem SmQ.mul {M N B C : Nat} {x y : Rat} (hM : M ≠ 0) (hN : N ≠ 0) (hx : SmQ M B x) (hy : SmQ N C y) : SmQ (M * N) (B * C) (x * y) := by
  obtain ⟨a, rfl, ha⟩ := hx
  obtain ⟨b, rfl, hb⟩ := hy
  refine ⟨a * b, ?_, by rw [Int.natAbs_mul]; exact Nat.mul_le_mul ha hb⟩
  have h1 : ((M : Int) : Rat) ≠ 0 := int_ne (by omega)
  have h2 : ((N : Int) : Rat) ≠ 0 := int_ne (by omega)
  rw [Rat.intCast_mul, Int.natCast_mul, Rat.intCast_mul]
  generalize ((M : Int) : Rat) = m at *
  generalize ((N : Int) : Rat) = k at *
  generalize (a : Rat) = u
  generalize (b : Rat) = v
  grind
theorem SmQ.add {M B C : Nat} {x y : Rat} (hM : M ≠ 0) (hx : SmQ M B x) (hy : SmQ M C y) : SmQ M (B + C) (x + y) := by
  obtain ⟨a, rfl, ha⟩ := hx
  obtain ⟨b, rfl, hb⟩ := hy
  refine ⟨a + b, ?_, by have := Int.natAbs_add_le a b; omega⟩
  have h1 : ((M : Int) : Rat) ≠ 0 := int_ne (by omega)
  rw [Rat.intCast_add]
  generalize ((M : Int) : Rat) = m at *
  generalize (a : Rat) = u
  generalize (b : Rat) = v
  grind
theorem SmQ.mono {M B C : Nat} {x : Rat} (h : SmQ M B x) (l : B ≤ C) : SmQ M C x := by
  obtain ⟨a, e, b⟩ := h
  exact ⟨a, e, by omega⟩
theorem SmQ.getD {M B : Nat} {r : List Rat} (h : ∀ e ∈ r, SmQ M B e) (j : Nat) : SmQ M B (r.getD j 0) := by
  by_cases c : j < r.length
  · exact h _ (getD_mem c)
  · rw [getD_out (by omega)]; exact SmQ.zero
theorem dot_sm {M N B C : Nat} (hM : M ≠ 0) (hN : N ≠ 0) {r v : List Rat} (hr : ∀ e ∈ r, SmQ M B e) (hv : ∀ e ∈ v, SmQ N C e) : ∀ j, SmQ (M * N) (j * (B * C)) (dotN r v j)
  | 0 => SmQ.zero
  | j + 1 => by
    have h := dot_sm hM hN hr hv j
    have := h.add (Nat.mul_ne_zero hM hN) ((SmQ.getD hr j).mul hM hN (SmQ.getD hv j))
    rw [Nat.succ_mul]
    exact this
def M6 : Nat := ML 6
def MM6 : Nat := ML 6 * ML 6
/-- the constants that are drawn -/
def CsOk (many : Nat) (cs : List Rat) : Prop := cs.length = many ∧ ∀ c ∈ cs, SmQ MM6 (2 ^ 49) c
theorem cs_lv {many : Nat} {r : List Rat} (h : RowOk many 6 r) : CsOk many r := ⟨h.1, fun c hc => (h.2 c hc).up (ML 6) (ML_ne 6) (ML_ne 6) (by decide)⟩
theorem cs_dot {n : Nat} (hn : n ≤ 6) {r v : List Rat} (hr : RowOk n 6 r) (hv : RowOk n 6 v) : SmQ MM6 (2 ^ 49) (dotN r v r.length) := by
  refine (dot_sm (ML_ne 6) (ML_ne 6) hr.2 hv.2 r.length).mono ?_
  rw [hr.1]
  refine Nat.le_trans (Nat.mul_le_mul_right _ hn) (by decide)
theorem sys_of {many wide n : Nat} {m : List (List Rat)} {cs : List Rat} (h1 : many ≤ 6) (h2 : wide ≤ 6) (hm : m.length = many) (hr : ∀ r ∈ m, RowOk wide 6 r) (hc : CsOk many cs) (hn : n = if many = 0 then 0 else wide) : SysQ n (botN cs) M6 MM6 m cs := by
  refine ⟨by rw [hc.1, hm], ⟨by omega, by rw [hn]; split <;> omega⟩, fun r q => ?_, fun q => ?_, rfl, ⟨ML_ne 6, by decide⟩, ⟨by decide, by decide⟩, fun r q e he => SmQ.mono (M := M6) ((hr r q).2 e he) (by decide), hc.2⟩
  · rw [(hr r q).1, hn, if_neg]
    intro z
    rw [z] at hm
    rw [List.eq_nil_of_length_eq_zero hm] at q
    cases q
  · rw [hn, if_pos]
    rw [← hm, q]
    rfl
theorem aug_range {many : Nat} {m : List (List Rat)} {cs : List Rat} (h1 : m.length = many) (h2 : cs.length = many) : (List.range many).map (fun k => m.getD k [] ++ [cs.getD k 0]) = augL m cs := by
  refine List.ext_getElem? fun k => ?_
  unfold augL
  rw [List.getElem?_map, List.getElem?_map]
  by_cases c : k < many
  · have h3 : (m.zip cs)[k]? = some (m.getD k [], cs.getD k 0) := List.getElem?_zip_eq_some.mpr ⟨getD_in (by omega), getD_in (by omega)⟩
    rw [h3, List.getElem?_range c]
    rfl
  · rw [List.getElem?_eq_none (l := List.range many) (by rw [List.length_range]; omega), List.getElem?_eq_none (l := m.zip cs) (by rw [List.length_zip]; omega)]
    rfl
theorem aug_rows {many wide n S M M2 : Nat} {m : List (List Rat)} {cs : List Rat} (sy : SysQ n S M M2 m cs) (hr : ∀ r ∈ m, RowOk wide 6 r) (hc : CsOk many cs) : RowsQ (n + 1) MM6 (augL m cs) := fun r h => by
  refine ⟨sy.aug_len r h, fun e he => ?_⟩
  obtain ⟨p, hp, rfl⟩ := List.mem_map.mp h
  obtain ⟨p1, p2⟩ := List.of_mem_zip hp
  rcases List.mem_append.mp he with he | he
  · exact ((hr _ p1).2 e he).up (ML 6) (ML_ne 6) (ML_ne 6) (by decide)
  · rw [List.mem_singleton.mp he]
    exact (hc.2 _ p2).mono (by decide)
theorem sys_z {n S M M2 : Nat} {m : List (List Rat)} {cs : List Rat} (h : SysQ n S M M2 m cs) : SysQ n 1 M 1 m (zc m) := by
  have hz : ∀ c ∈ zc m, c = 0 := fun c hc => by
    unfold zc at hc
    obtain ⟨_, _, rfl⟩ := List.mem_map.mp hc
    rfl
  refine ⟨by unfold zc; rw [List.length_map], h.few, h.wide, h.none_, ?_, h.m1, ⟨by decide, by decide⟩, h.rows, fun c hc => by rw [hz c hc]; exact SmQ.zero⟩
  have : botN (zc m) ∣ 1 := botN_all fun c hc => by rw [hz c hc]; decide
  exact (Nat.dvd_one.mp this).symm
end Lq
namespace Lq
def vOb (ρ : List Sl) : Bool := ρ.all fun s => match s with
  | .un => true
  | .v _ => true
  | _ => false
theorem vOn_of {ρ : List Sl} (h : vOb ρ = true) : Md.vOn ρ := fun k s q => by
  have := List.all_eq_true.mp h s (List.mem_of_getElem? q)
  cases s with
  | un => exact .inl rfl
  | v d => exact .inr ⟨d, rfl⟩
  | o d => cases this
  | l a d => cases this
theorem SysQ.rank_same {n S M M2 : Nat} {m : List (List Rat)} {cs : List Rat} (h : SysQ n S M M2 m cs) (hw : (elimN n S m cs m.length).wrong = none) : (lbOf (n + 1) (augL m cs)).length = (lbOf n m).length := by
  have a := Dg.aug (n := n) (qsS S m cs) m.length (by rw [qsS_len S h.len]; exact Nat.le_refl _)
  rw [h.take_all] at a
  have e1 := h.lbq
  have e2 : (Dg.lbQ (n + 1) (qsS S m cs)).length = (lbOf (n + 1) (augL m cs)).length := by
    rw [lbOf_len h.aug_len, h.aug_sc, Dg.lbQ_sc (k := kS n S) (fun j => by
      unfold kS
      split
      · exact int_ne (by have := h.S_ne; omega)
      · grind)]
    unfold Dg.scb
    rw [List.length_map]
  rcases a with ⟨_, a2⟩ | ⟨a1, _⟩
  · rw [← e2, a2, e1]
  · exact absurd hw ((h.wrong_iff m.length (Nat.le_refl _)).mpr a1)
theorem sys_nil : SysQ 0 1 1 1 [] (zc []) := ⟨rfl, by decide, (fun r h => nomatch h), fun _ => rfl, rfl, by decide, by decide, (fun r h => nomatch h), (fun c h => nomatch h)⟩
theorem kerL_len {n : Nat} (m : List (List Rat)) : (kerL n m).length ≤ n ∧ ∀ r ∈ kerL n m, r.length = n := by
  unfold kerL freeE
  refine ⟨?_, fun r hr => ?_⟩
  · rw [List.length_map]
    have := List.length_filter_le (fun c => decide (c ∉ (elimN n 1 m (zc m) m.length).leads)) (List.range n)
    rw [List.length_range] at this
    exact this
  · obtain ⟨c, _, rfl⟩ := List.mem_map.mp hr
    unfold solY yL
    rw [List.length_map, List.length_map, List.length_range]
end Lq
section
open Lq
variable {P : Program} {w : World} {K : PySem.W.Frag} {mg : Str → Option Value} {base : Heap}
def spLaw (K : PySem.W.Frag) : Sp := fun vs H Q _ => ∃ (a : Addr) (ns : List Int), vs = [.ref a] ∧ SqL K H a (ns.map V.int) ∧ ns.length ≤ 63 ∧ ∀ H', Q (.bl true) H'
set_option maxHeartbeats 8000000 in
theorem ok_law (T : Top w K mg) : FnOk P w K mg base CX0 60 (He.ga K ("law" : Str)) (fdOf K d_law) ["script"] (spLaw K) := by
  refine (T.f_law).ok sc_law (fun vs H Q E h => ?_) (fun cdv A outer s H vs Q E hr h => ?_)
  · obtain ⟨a, ns, rfl, _⟩ := h
    rfl
  · obtain ⟨sa, ns, rfl, hS, h63, k⟩ := h
    refine ⟨_, PSs.nox (pss_cons (ps_set (i := 1) sc_law.nd rfl (Or.inl rfl) (pe_call (ok__law_stream (K := K) T) (hr.mono (by decide)) rfl T.g__law_stream T.f__law_stream.kp T.b__law_stream .nil pass0 (pa_cons (pv 0) pa_nil)))
    (pss_cons (ps_set (i := 2) sc_law.nd rfl (Or.inl rfl) (pe_op op_add pe_int (pe_call (ok__law_draw (K := K) T) (hr.mono (by decide)) rfl T.g__law_draw T.f__law_draw.kp T.b__law_draw .nil pass0 (pa_cons (pv 1) (pa_cons pe_int pa_nil)))))
    (pss_cons (ps_set (i := 3) sc_law.nd rfl (Or.inl rfl) (pe_op op_add pe_int (pe_call (ok__law_draw (K := K) T) (hr.mono (by decide)) rfl T.g__law_draw T.f__law_draw.kp T.b__law_draw .nil pass0 (pa_cons (pv 1) (pa_cons pe_int pa_nil)))))
    (pss_cons (ps_set (i := 4) sc_law.nd rfl (Or.inr rfl) (pe_call (ok__law_matrix (K := K) T) (hr.mono (by decide)) rfl T.g__law_matrix T.f__law_matrix.kp T.b__law_matrix .nil pass0 (pa_cons (pv 1) (pa_cons (pv 2) (pa_cons (pv 3) pa_nil)))))
    (pss_cons (ps_set (i := 5) sc_law.nd rfl (Or.inr rfl) (pe_ix (ix_listK (K := K) rfl) (pe_call (ok__law_matrix (K := K) T) (hr.mono (by decide)) rfl T.g__law_matrix T.f__law_matrix.kp T.b__law_matrix .nil pass0 (pa_cons (pv 1) (pa_cons pe_int (pa_cons (pv 2) pa_nil)))) pe_int (fun _ _ => rfl)))
    (C8.pss_cut (ps_if (pt_cmpR op_eq (pe_call (ok__law_draw (K := K) T) (hr.mono (by decide)) rfl T.g__law_draw T.f__law_draw.kp T.b__law_draw .nil pass0 (pa_cons (pv 1) (pa_cons pe_int pa_nil))) pe_int (nomark _))
    (pss_cons (ps_set (i := 6) sc_law.nd rfl (Or.inr rfl) (pe_ix (ix_listK (K := K) rfl) (pe_call (ok__law_matrix (K := K) T) (hr.mono (by decide)) rfl T.g__law_matrix T.f__law_matrix.kp T.b__law_matrix .nil pass0 (pa_cons (pv 1) (pa_cons pe_int (pa_cons (pv 3) pa_nil)))) pe_int (fun _ _ => rfl)))
    (pss_one (ps_set (i := 5) sc_law.nd rfl (Or.inr rfl) (pe_lockL (pe_lc (own := [(("row" : Str), 7)]) (g := (gName 7)) (tt := tYes) rfl sc_law.nd (pi_listK (K := K) rfl (pv 4)) (blkOk_by (N := ["script", "stream", "many", "wide", "rows", "constants", "point", "row", "given", "right", "told", "one", "found", "k"]) (sc := defScope s_law) (by decide +kernel)) (fun _ _ _ _ _ => (pg_name (i := 7) sc_law.nd rfl (Or.inl rfl))) (fun _ _ _ _ _ => pts_nil) (fun _ _ _ _ _ => (pe_call (ok__law_dot (K := K) T) (hr.mono (by decide)) rfl T.g__law_dot T.f__law_dot.kp T.b__law_dot .nil pass0 (pa_cons (pv 7) (pa_cons (pv 6) pa_nil)))))))))
    pss_nil)
    (pss_cons (ps_set (i := 8) sc_law.nd rfl (Or.inl rfl) (pe_call (ok__law_ratios (K := K) T) (hr.mono (by decide)) rfl T.g__law_ratios T.f__law_ratios.kp T.b__law_ratios .nil pass0 (pa_cons (pv 4) pa_nil)))
    (pss_cons (ps_set (i := 9) sc_law.nd rfl (Or.inl rfl) (pe_ix (ix_listK (K := K) rfl) (pe_call (ok__law_ratios (K := K) T) (hr.mono (by decide)) rfl T.g__law_ratios T.f__law_ratios.kp T.b__law_ratios .nil pass0 (pa_cons (pe_lst (pa_cons (pv 5) pa_nil)) pa_nil)) pe_int (fun _ _ => rfl)))
    (pss_cons (ps_set (i := 10) sc_law.nd rfl (Or.inl rfl) (pe_call (ok_kernel (K := K) T) (hr.mono (by decide)) rfl T.g_kernel T.f_kernel.kp T.b_kernel .nil pass0 (pa_cons (pv 8) pa_nil)))
    (pss_cons (ps_if (PW.pt (pw_or (pt_not (pt_val (pe_call (ok__law_is_kernel (K := K) T) (hr.mono (by decide)) rfl T.g__law_is_kernel T.f__law_is_kernel.kp T.b__law_is_kernel .nil pass0 (pa_cons (pv 4) (pa_cons (pv 3) (pa_cons (pv 10) pa_nil)))))) (pw_or1 (pt_cmpR (op_neZZ T 8 hr.units (by exact hr.mono (by decide))) (pe_call (ok_kernel (K := K) T) (hr.mono (by decide)) rfl T.g_kernel T.f_kernel.kp T.b_kernel .nil pass0 (pa_cons (pe_lst pa_nil) pa_nil)) (pe_lst pa_nil) (nomark _)))))
    (pss_one (ps_ret pe_bl))
    pss_nil)
    (pss_cons (ps_lockL (ps_for PassesOwn.never rfl (pi_listK (K := K) rfl (pv 10)) (pg_name (i := 11) sc_law.nd rfl (Or.inl rfl))
    (pss_one (ps_expr (pe_bm PySem.F.plainAttrs_list PySem.F.slot_list_append PySem.F.type_list_append mt_append (pv 11) (pa_cons pe_int pa_nil))))))
    (pss_cons (ps_expr (pe_bm PySem.F.plainAttrs_list PySem.F.slot_list_append PySem.F.type_list_append mt_append (pv 10) (pa_cons pe_int pa_nil)))
    (pss_cons (ps_if (pt_not (pt_val (pe_call (ok__law_is_kernel (K := K) T) (hr.mono (by decide)) rfl T.g__law_is_kernel T.f__law_is_kernel.kp T.b__law_is_kernel .nil pass0 (pa_cons (pv 4) (pa_cons (pv 3) (pa_cons (pe_call (ok_kernel (K := K) T) (hr.mono (by decide)) rfl T.g_kernel T.f_kernel.kp T.b_kernel .nil pass0 (pa_cons (pv 8) pa_nil)) pa_nil))))))
    (pss_one (ps_ret pe_bl))
    pss_nil)
    (C8.pss_cut (ps_set (i := 12) sc_law.nd rfl (Or.inl rfl) (pe_call (ok_contradiction (K := K) T) (hr.mono (by decide)) rfl T.g_contradiction T.f_contradiction.kp T.b_contradiction .nil pass0 (pa_cons (pv 8) (pa_cons (pv 9) pa_nil))))
    (pss_cons (ps_if (PW.pt (pw_or (pt_cmpR (op_neZZ T 8 hr.units (by exact hr.mono (by decide))) (pv 8) (pe_call (ok__law_ratios (K := K) T) (hr.mono (by decide)) rfl T.g__law_ratios T.f__law_ratios.kp T.b__law_ratios .nil pass0 (pa_cons (pv 4) pa_nil)) (nomark _)) (pw_or1 (pt_cmpR (op_neZZ T 8 hr.units (by exact hr.mono (by decide))) (pv 9) (pe_ix (ix_listK (K := K) rfl) (pe_call (ok__law_ratios (K := K) T) (hr.mono (by decide)) rfl T.g__law_ratios T.f__law_ratios.kp T.b__law_ratios .nil pass0 (pa_cons (pe_lst (pa_cons (pv 5) pa_nil)) pa_nil)) pe_int (fun _ _ => rfl)) (nomark _)))))
    (pss_one (ps_ret pe_bl))
    pss_nil)
    (pss_cons (ps_if (pt_cmpR op_eq (pe_call (ok__law_rank (K := K) T) (hr.mono (by decide)) rfl T.g__law_rank T.f__law_rank.kp T.b__law_rank .nil pass0 (pa_cons (pe_lockL (pe_lc (own := [(("k" : Str), 13)]) (g := (gName 13)) (tt := tYes) rfl sc_law.nd (pi_range1 rfl T.n_range (pa_cons (pv 2) pa_nil)) (blkOk_by (N := ["script", "stream", "many", "wide", "rows", "constants", "point", "row", "given", "right", "told", "one", "found", "k"]) (sc := defScope s_law) (by decide +kernel)) (fun _ _ _ _ _ => (pg_name (i := 13) sc_law.nd rfl (Or.inl rfl))) (fun _ _ _ _ _ => pts_nil) (fun _ _ _ _ _ => (pe_op op_cat (pe_ix (ix_listK (K := K) rfl) (pv 4) (pv 13) (fun _ _ => rfl)) (pe_lst (pa_cons (pe_ix (ix_listK (K := K) rfl) (pv 5) (pv 13) (fun _ _ => rfl)) pa_nil)))))) pa_nil)) (pe_call (ok__law_rank (K := K) T) (hr.mono (by decide)) rfl T.g__law_rank T.f__law_rank.kp T.b__law_rank .nil pass0 (pa_cons (pv 4) pa_nil)) (nomark _))
    (pss_one (ps_ret (pe_cmpR op_isN (pv 12) pe_non (nomark _))))
    pss_nil)
    (pss_one (ps_ret (pe_call (ok__law_is_shown (K := K) T) (hr.mono (by decide)) rfl T.g__law_is_shown T.f__law_is_shown.kp T.b__law_is_shown .nil pass0 (pa_cons (pv 4) (pa_cons (pv 5) (pa_cons (pv 12) pa_nil)))))))))))))))))))))), ?_⟩
    walk_at "go"
    refine ⟨sa, ns, rfl, hS, h63, fun s0 H1 e1 hS1 => ?_⟩
    refine z_rest55 (K := K) (E := E) (N := ["script", "stream", "many", "wide", "rows", "constants", "point", "row", "given", "right", "told", "one", "found", "k"]) (ds := [.adr sa, .strm]) (vs := [.ref sa, .ref s0])
      (.cons (by simp only [Rz]) (.cons (by simp only [Rz]; exact ⟨s0, rfl, hS1⟩) .nil)) ?_ k
    walk_at "zz"
    intro v v0 v1
    obtain ⟨many, hmy⟩ : ∃ n : Nat, 1 + v = (n : Int) := ⟨(1 + v).toNat, by omega⟩
    have my : many ≤ 6 := by omega
    have my1 : 1 ≤ many := by omega
    walk_at "zz"
    rw [hmy]
    walk_at "zz"
    intro v2 v3 v4
    obtain ⟨wide, hwd⟩ : ∃ n : Nat, 1 + v2 = (n : Int) := ⟨(1 + v2).toNat, by omega⟩
    have wd : wide ≤ 6 := by omega
    have wd1 : 1 ≤ wide := by omega
    walk_at "zz"
    rw [hwd]
    refine ⟨many, wide, by simp only [Dt.olds, Dt.old], my, wd, fun m hml hmr => ?_⟩
    walk_at "zz"
    refine ⟨1, many, by simp only [Dt.olds, Dt.old]; rfl, by decide, my, fun m1 hml1 hmr1 => ?_⟩
    obtain ⟨c1, rfl⟩ : ∃ c1, m1 = [c1] := by
      match m1, hml1 with
      | [c1], _ => exact ⟨c1, rfl⟩
    have hc1 := hmr1 c1 (by simp)
    clear hml1 hmr1
    walk_at "zz"
    refine ⟨_, _, 0, _, rfl, rfl, atI_k (k := 0) rfl, ?_⟩
    walk_at "zz"
    refine Tr.zs_frzM (i := 4) rfl ?_
    refine zs_at55 (ρ' := [.v (.adr sa), .v .strm, .v (.int (many : Int)), .v (.int (wide : Int)), .v (matD true true m), .v (rowD true c1), .un, .un, .un, .un, .un, .un, .un, .un]) rfl ?_
    refine zs_cut (fun ρ => ∃ (cs : List Rat) (s5 s6 : Sl), ρ = [.v (.adr sa), .v .strm, .v (.int (many : Int)), .v (.int (wide : Int)), .v (matD true true m), s5, s6, .un, .un, .un, .un, .un, .un, .un] ∧ CsOk many cs ∧ (s5 = .v (rowD true cs) ∨ s5 = .o (rowD true cs)) ∧ (s6 = .un ∨ ∃ d, s6 = .v d)) ?_ ?_
    · walk_at "zz"
      intro u u0 u1
      walk_at "zz"
      by_cases c : u = 0
      · refine zT (by simp [c]) ?_
        walk_at "zz"
        refine ⟨1, wide, by simp only [Dt.olds, Dt.old]; rfl, by decide, wd, fun m1 hml1 hmr1 => ?_⟩
        obtain ⟨pt, rfl⟩ : ∃ c1, m1 = [c1] := by
          match m1, hml1 with
          | [c1], _ => exact ⟨c1, rfl⟩
        have hpt := hmr1 pt (by simp)
        clear hml1 hmr1
        walk_at "zz"
        refine ⟨_, _, 0, _, rfl, rfl, atI_k (k := 0) rfl, ?_⟩
        walk_at "zz"
        refine ze_lcM m (rowD true) (fun r => some (pq (dotN r pt r.length))) (zi_list ?_)
        walk_at "zz"
        refine ⟨trivial, rfl, by omega, fun r hrm => ?_, ?_⟩
        · obtain ⟨hrl, hre⟩ := hmr r hrm
          refine zgw_name (by decide) ?_
          walk_at "zz"
          refine ⟨ML 6, (ML 6 : Nat), r, pt, ?_, by rw [hrl, hpt.1], by omega, ML_ne 6, by decide, by have := ML_ne 6; omega, Bits.mono (a := 13) (by unfold Bits; decide) (by decide), fun e he => SmQ.mono (M := ML 6) (hre e he) (by decide), fun e he => ((SmQ.mono (M := ML 6) (hpt.2 e he) (by decide)).pt).mono (by decide), ?_⟩
          · show [Dt.old _, Dt.old _] = _
            rw [rowD_old, rowD_old]
          · exact ⟨rfl, rfl⟩
        · rw [map_some]
          have er : Dt.lst true (m.map fun r => pq (dotN r pt r.length)) = rowD true (m.map fun r => dotN r pt r.length) := by
            unfold rowD
            rw [List.map_map]
            rfl
          rw [er]
          walk_at "zz"
          refine ⟨m.map fun r => dotN r pt r.length, _, _, rfl, ⟨by rw [List.length_map, hml], fun e he => ?_⟩, .inr rfl, .inr ⟨_, rfl⟩⟩
          obtain ⟨r, hr, rfl⟩ := List.mem_map.mp he
          exact cs_dot wd (hmr r hr) hpt
      · refine zF (by simp [c]) ?_
        walk_at "zz"
        exact ⟨c1, _, _, rfl, cs_lv hc1, .inl rfl, .inl rfl⟩
    · rintro ρ ⟨cs, s5, s6, rfl, hcs, h5, h6⟩
      have sy := sys_of my wd hml hmr hcs (n := wide) (by rw [if_neg (by omega)])
      generalize botN cs = S at sy
      have sz := sys_z sy
      have hs : ∀ r ∈ m, ∀ e ∈ r, SmQ M6 (2 ^ 49) e := fun r hr e he => SmQ.mono (M := M6) ((hmr r hr).2 e he) (by decide)
      have sm : ∀ r ∈ m, r.length ≤ 7 ∧ ∀ e ∈ r, BQ 4000 e := fun r hr => by
        obtain ⟨h1, h2⟩ := hmr r hr
        exact ⟨by omega, fun e he => (LvQ.bits (h2 e he) (Nat.le_refl _)).mono (by decide)⟩
      have cb : ∀ r ∈ [cs], r.length ≤ 7 ∧ ∀ e ∈ r, BQ 4000 e := fun r hr => by
        rw [List.mem_singleton.mp hr]
        exact ⟨by rw [hcs.1]; omega, fun e he => ((hcs.2 e he).bits (p := 60) (by decide) (by decide) (by decide)).mono (by decide)⟩
      have oldR : Dt.olds [.lst true [rowD true cs]] = [matD false false [cs]] := by
        show [Dt.old (matD true true [cs])] = _
        rw [matD_old]
      refine zs_vo (i := 5) rfl h5 ?_
      refine zs_at55 (ρ' := [.v (.adr sa), .v .strm, .v (.int (many : Int)), .v (.int (wide : Int)), .v (matD true true m), .v (rowD true cs), s6, .un, .un, .un, .un, .un, .un, .un]) rfl ?_
      walk_at "zz"
      refine ⟨m, by show [(matD true true m).old] = _; rw [matD_old], by omega, sm, ?_⟩
      walk_at "zz"
      refine ⟨[cs], oldR, by simp, cb, ?_⟩
      walk_at "zz"
      refine ⟨_, _, 0, _, rfl, rfl, atI_k (k := 0) rfl, ?_⟩
      refine zg_nameF ?_
      refine Tr.zs_frzM (i := 8) rfl ?_
      refine zs_at55 (ρ' := [.v (.adr sa), .v .strm, .v (.int (many : Int)), .v (.int (wide : Int)), .v (matD true true m), .v (rowD true cs), s6, .un, .v (ratsD true true m), .v (ratL true cs), .un, .un, .un, .un]) rfl ?_
      have kl := kerL_len (n := wide) m
      refine Md.zs_scratch ?_
      walk_at "zz"
      refine ⟨vOn_of (by rcases h6 with rfl | ⟨d, rfl⟩ <;> rfl), by simp, by simp, by decide, wide, M6, m, by show [(ratsD true true m).old] = _; rw [ratsD_old], sz, (kerL wide m).map (fun r => r.map ratE), rfl, ?_, by rw [List.length_map]; omega, fun r hr => ?_, ?_, ?_⟩
      · unfold ratsD ratL
        rw [List.map_map]
        rfl
      · obtain ⟨q, hq, rfl⟩ := List.mem_map.mp hr
        rw [List.length_map, kl.2 q hq]
        omega
      · walk_at "zz"
        refine ⟨wide, M6, m, by show [(matD true true m).old, _, (ratsD true true (kerL wide m)).old] = _; rw [matD_old, ratsD_old]; rfl, sz, true, rfl, iteBF rfl ?_⟩
        walk_at "zz"
        refine ze_neZ rfl ?_
        walk_at "zz"
        refine ⟨0, 1, [], rfl, sys_nil, ?_⟩
        walk_at "zz"
        refine ⟨.lst .nil, rfl, (fun _ _ q => nomatch q), ?_⟩
        exact ⟨_, rfl, rfl⟩
      · have wi := sy.wrong_rank
        have rsm := sy.rank_same
        refine zs_at55 (ρ' := [.v (.adr sa), .v .strm, .v (.int (many : Int)), .v (.int (wide : Int)), .v (matD true true m), .v (rowD true cs), s6, .un, .v (ratsD true true m), .v (ratL true cs), .un, .un, .un, .un]) rfl ?_
        walk_at "zz"
        refine ⟨wide, M6, m, by show [(ratsD true true m).old] = _; rw [ratsD_old], sz, ?_⟩
        walk_at "zz"
        refine ⟨wide, M6, m, by show [(matD true true m).old, _, (ratsD true true (kerL wide m)).old] = _; rw [matD_old, ratsD_old]; rfl, sz, true, rfl, iteBF rfl ?_⟩
        walk_at "zz"
        refine zs_cut (fun ρ => ∃ s12 : Sl, ρ = [.v (.adr sa), .v .strm, .v (.int (many : Int)), .v (.int (wide : Int)), .v (matD true true m), .v (rowD true cs), s6, .un, .v (ratsD true true m), .v (ratL true cs), .un, .un, s12, .un] ∧
          ((s12 = .v .non ∧ (elimN wide S m cs m.length).wrong = none) ∨ ∃ a, s12 = .o (ratL true (facL m.length a ((bidx wide m a).zip (solT wide m a)))) ∧ (elimN wide S m cs m.length).wrong = some a)) ?_ ?_
        · walk_at "zz"
          refine ⟨wide, S, M6, MM6, m, cs, by show [(ratsD true true m).old, (ratL true cs).old] = _; rw [ratsD_old, ratL_old], sy, wd1, hs, fun h => ?_, fun a h => ?_⟩
          · walk_at "zz"
            exact .inl ⟨rfl, h⟩
          · walk_at "zz"
            exact .inr ⟨a, rfl, h⟩
        · rintro ρ ⟨s12, rfl, hr⟩
          walk_at "zz"
          refine ze_neZ rfl ?_
          walk_at "zz"
          refine ⟨m, by show [(matD true true m).old] = _; rw [matD_old], by omega, sm, ?_⟩
          refine ⟨eqd_ratsD 7 true true true true m, rfl, (fun _ _ q => nomatch q), ?_⟩
          walk_at "zz"
          refine ze_neZ rfl ?_
          walk_at "zz"
          refine ⟨[cs], oldR, by simp, cb, ?_⟩
          walk_at "zz"
          refine ⟨_, _, 0, _, rfl, rfl, atI_k (k := 0) rfl, ?_⟩
          refine ⟨eqd_ratL 8 true true cs, rfl, (fun _ _ q => nomatch q), ?_⟩
          walk_at "zz"
          refine ze_lcM (List.range many) (fun k : Nat => .int (k : Int)) (fun k => some (rowD true (m.getD k [] ++ [cs.getD k 0]))) (zi_range1 ?_)
          walk_at "zz"
          refine ⟨by omega, by omega, rfl, trivial, rfl, by rw [List.length_range]; omega, fun k hk => ?_, ?_⟩
          · have hk := List.mem_range.mp hk
            have am : atI (m.map (rowD true)) (k : Int) = some (rowD true (m.getD k [])) := atI_D (by omega)
            have ac : atI (cs.map pq) (k : Int) = some (pq (cs.getD k 0)) := atI_D (by rw [hcs.1]; exact hk)
            refine zgw_name (by decide) ?_
            walk_at "zz"
            refine ⟨_, _, _, _, _, rfl, .inl rfl, rfl, am, ?_⟩
            walk_at "zz"
            refine ⟨_, _, _, _, _, rfl, .inl rfl, rfl, ac, ?_⟩
            walk_at "zz"
            refine ⟨_, _, _, _, rfl, rfl, ?_, rfl, ?_⟩
            · rw [List.length_map, (hmr _ (getD_mem (d := ([] : List Rat)) (show k < m.length by omega))).1]
              show wide + 1 ≤ _
              omega
            · unfold rowD
              rw [List.map_append]
              rfl
          · rw [map_some]
            have er : Dt.lst true ((List.range many).map fun k => rowD true (m.getD k [] ++ [cs.getD k 0])) = matD true true (augL m cs) := by
              rw [← aug_range hml hcs.1]
              unfold matD
              rw [List.map_map]
              rfl
            rw [er]
            have al : (augL m cs).length = many := by
              rw [← aug_range hml hcs.1, List.length_map, List.length_range]
            walk_at "zz"
            refine ⟨wide + 1, MM6, augL m cs, by show [(matD true true (augL m cs)).old] = _; rw [matD_old], by decide, by decide, by omega, by omega, aug_rows sy hmr hcs, ?_⟩
            walk_at "zz"
            refine ⟨wide, M6, m, by show [(matD true true m).old] = _; rw [matD_old], sy.m1.1, sy.m1.2, by omega, by omega, fun r hr => ⟨sy.wide r hr, sy.rows r hr⟩, ?_⟩
            walk_at "zz"
            rcases hr with ⟨rfl, hw⟩ | ⟨a, rfl, hw⟩
            · have := rsm hw
              refine iteBT (decide_eq_true (by omega)) ?_
              walk_at "zz"
              refine ze_isN ?_
              walk_at "zz"
              exact ⟨true, .non, rfl, rfl⟩
            · have := wi.mp (by rw [hw]; exact fun z => nomatch z)
              refine iteBF (decide_eq_false (by omega)) ?_
              walk_at "zz"
              refine ⟨wide, S, M6, MM6, MM6, m, cs, a, ?_, sy, wd1, hs, by decide, by decide, aug_rows sy hmr hcs, fun c hc => (hcs.2 c hc).mono (by decide), hw, rfl, rfl⟩
              show [(matD true true m).old, (rowD true cs).old, (ratL true _).old] = _
              rw [matD_old, rowD_old, ratL_old]
end
theorem facts {P : Program} {w : World} {K : PySem.W.Frag} {h : Heap} {mg : Str → Option Value} {f : Addr} (X : K.In h) (G : h.Ns mainGlobals mg) (hfa : mg ("law" : Str) = some (.ref f)) (c : SaysS faL fnL exB K) :
    ∃ fd : FuncData, (∀ (s : Shared) (v : Value), BindsTo s fd ⟨[v], []⟩ [("script", v)]) ∧ ∀ base : Heap, K.In base → base.Ns mainGlobals mg → FnOk P w K mg base CX0 60 f fd ["script"] (spLaw K) := by
  have T : Top w K mg := ⟨h, X, G, c⟩
  have e := hfa.symm.trans T.g_law
  cases e
  have b := FunD.bindsA (ps := ["script"]) (show FunD K "law" "law" (defArgs s_law) (defBody s_law) (defScope s_law) [] (d_law.kws K) (He.ga K "law") (fdOf K d_law) from T.f_law) fun _ _ _ _ _ _ us hl => match us, hl with | [_], _ => rfl
  exact ⟨fdOf K d_law, fun s v => b s [v] rfl, fun base _ _ => ok_law T⟩
end Lk
open PySem PySem.W PySem.Calls PyProof.Rows
set_option maxRecDepth 100000 in
set_option maxHeartbeats 0 in
theorem PySem.Challenge.cw_linkwork_k56_kernels_and_contradictions_holds : PySem.Challenge.rw_linkwork_k56_kernels_and_contradictions.Holds := by
  w_on; o_law
  refine HeadRun.head_imp (r := OpenLaw.row PySem.Challenge.rw_linkwork_k56_kernels_and_contradictions) (q := Lk.qv) (H := Lk.hk) (ob := Lk.ob) (M := 30000) (loose := Lk.looseL) (d := HandSHeadRun.topDef (OpenLaw.row PySem.Challenge.rw_linkwork_k56_kernels_and_contradictions).prog 32) (kwd := []) Lk.ob_eq Lk.run (by kernel_rfl) (by kernel_rfl) (by kernel_rfl) (by rfl) (by first | assumption | decide +kernel) (by decide +kernel) ⟨rfl, rfl, rfl, rfl, rfl, by decide +kernel⟩ ?hw ?hc
  case hw => w_witness2
  case hc =>
    refine L2.walk_ofE (l := PySem.Challenge.rw_linkwork_k56_kernels_and_contradictions) (n := 63) (k := 60) (x := "script") (CX := L2.CX0) rfl (by decide) (by kernel_rfl) ⟨rfl, by decide, by decide⟩ ?F (fun _ _ _ _ z => z)
    intro w mg fa h Y G hmg0
    obtain ⟨K, KX, c⟩ := Y
    have hmg : mg ("law" : PySem.Str) = some (.ref fa) := by
      have e : (HandSHeadRun.topDef (OpenLaw.row PySem.Challenge.rw_linkwork_k56_kernels_and_contradictions).prog 32).name = ("law" : PySem.Str) := by kernel_rfl
      rw [← e]
      exact hmg0
    obtain ⟨fd, hb, hF⟩ := Lk.facts (P := (PySem.Challenge.rw_linkwork_k56_kernels_and_contradictions).prog) (w := w) KX G hmg c
    exact ⟨K, fd, Lk.spLaw K, KX, hb, fun H a ns hl _ hS => ⟨a, ns, rfl, hS, hl, fun _ => rfl⟩, hF⟩

