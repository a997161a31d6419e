import PyProof.Rows.All
import Wide.All
import OpenK.AllK
import Wide.FinOn
import KE.KStateDown
import HandS.Base
import HandS.Call
import HandS.List
import HandS.Comp
import HandS.Ends
import HandS.Dict
import HandS.Iter
import HandS.Text
import HandS.StrMore
import HandS.More
import HandS.Words
import HandS.WordsList
import HandS.WordsExc
import HandS.Exc
import HandS.ExcOwn
import HandS.ExcIs
import HandS.TryOnly
import HandS.IsInst
import HandS.Codes
import HandS.Defaults
import HandS.Wide
import HandS.Gcd
import KE.KOpsOwn
import KE.HD0
import KE.HD1
import KE.HD2
import KE.HD3
import HandS.Head0
import HandS.Head1
import HandS.Head2
import HandS.HeadEnd
import HandS.HeadHook1
import HandS.HeadHook2
import HandS.HeadHook3
import HandS.HeadHook4
import Flt.Len
import PyProof.NoPylong
import HandS.ExcInit
import HandS.ExcField
import HandS.FStr
import HandS.Evl
import HandS.WideBits
import HandS.Style
import HandS.Walk
import HandS.OwnEq
import HandS.Finally
import HandS.DictComp
import HandS.MakeKw
import HandS.More
import HandS.Star
import HandS.Conv
import HandS.TupLen
import HandS.Deep
import HandS.Zip
import HandS.SetKeys
import HandS.DictTup
import KE.SortData
import KE.SortKeyHeap
import HandS.SortKw
import HandS.TryMany
import KE.DatumOrd
import PySem.Challenge.RW_linkwork_k09_texts_of_expressions
set_option Elab.async false
set_option linter.all false
set_option maxRecDepth 100000
namespace Lk
open PySem PySem.Spec L2
open PyProof.Rows hiding St
/-! ### the head's facts, the interpreter's own statics among what is written -/
def asS (g : Addr → Option Obj) (n : Nat) : List Addr := He.asD g n ++ [cStatics]
abbrev AlS : Type := He.AlD × Bool
def obsS (n : Nat) (fa : List He.Fa) (fn : List He.DefD) (ex : PySem.W.Frag → Bool) (g : Addr → Option Obj) : AlS := (He.obsD fa fn (He.frT g (asS g n)), ex (He.frT g (asS g n)))
structure SaysS (fa : List He.Fa) (fn : List He.DefD) (ex : PySem.W.Frag → Bool) (K : PySem.W.Frag) : Prop where
  d : He.SaysD fa fn K
  more : ex K = true
def hookS (n : Nat) (fa : List He.Fa) (fn : List He.DefD) (ex : PySem.W.Frag → Bool) : PySem.W.Hook where
  α := AlS
  obs := fun s => obsS n fa fn ex s.heap.get?
  val := fun _ => (He.valD fn, true)
  says := fun _ h => ∃ K : PySem.W.Frag, K.In h ∧ SaysS fa fn ex K
  of := fun _ _ e => ⟨_, He.frT_in, ⟨congrArg (fun z : AlS => z.1) e, congrArg (fun z : AlS => z.2) e⟩⟩
  keeps := fun _ _ _ z k => by
    obtain ⟨K, hK, c⟩ := z
    exact ⟨K, PySem.W.Frag.In.keeps hK k, c⟩
theorem obsS_eq {n : Nat} {fa : List He.Fa} {fn : List He.DefD} {ex : PySem.W.Frag → Bool} {g : Addr → Option Obj} {s : Shared} (h : ∀ a, g a = s.heap.get? a) : obsS n fa fn ex g = (hookS n fa fn ex).obs s := by
  have e : g = s.heap.get? := funext h
  rw [e] <;> rfl
/-! ### .. and tables of the top with text keys -/
abbrev TabS : Type := (PySem.W.Frag → Addr) × List Str
abbrev AlU : Type := AlS × List (Option (List (Option (Str × Int))))
def obsU (n : Nat) (fa : List He.Fa) (fn : List He.DefD) (ex : PySem.W.Frag → Bool) (ts : List TabS) (g : Addr → Option Obj) : AlU := (obsS n fa fn ex g, ts.map fun t => He.dicW (He.frT g (asS g n)) (t.1 (He.frT g (asS g n))))
structure SaysU (fa : List He.Fa) (fn : List He.DefD) (ex : PySem.W.Frag → Bool) (ts : List TabS) (w : World) (K : PySem.W.Frag) : Prop where
  d : He.SaysD fa fn K
  more : ex K = true
  tab : (ts.map fun t => He.dicW K (t.1 K)) = ts.map fun t => some (He.keysIn w.params t.2)
def hookU (n : Nat) (fa : List He.Fa) (fn : List He.DefD) (ex : PySem.W.Frag → Bool) (ts : List TabS) : PySem.W.Hook where
  α := AlU
  obs := fun s => obsU n fa fn ex ts s.heap.get?
  val := fun w => ((He.valD fn, true), ts.map fun t => some (He.keysIn w.params t.2))
  says := fun w h => ∃ K : PySem.W.Frag, K.In h ∧ SaysU fa fn ex ts w K
  of := fun w s e => by
    have e' : obsU n fa fn ex ts s.heap.get? = ((He.valD fn, true), ts.map fun t : TabS => some (He.keysIn w.params t.2)) := e
    have e1 : (obsU n fa fn ex ts s.heap.get?).1 = (He.valD fn, true) := by rw [e']
    have e2 : (obsU n fa fn ex ts s.heap.get?).2 = ts.map fun t : TabS => some (He.keysIn w.params t.2) := by rw [e']
    exact ⟨_, He.frT_in, ⟨congrArg (fun z : AlS => z.1) e1, congrArg (fun z : AlS => z.2) e1, e2⟩⟩
  keeps := fun _ _ _ z k => by
    obtain ⟨K, hK, c⟩ := z
    exact ⟨K, PySem.W.Frag.In.keeps hK k, c⟩
theorem obsU_eq {n : Nat} {fa : List He.Fa} {fn : List He.DefD} {ex : PySem.W.Frag → Bool} {ts : List TabS} {g : Addr → Option Obj} {s : Shared} (h : ∀ a, g a = s.heap.get? a) : obsU n fa fn ex ts g = (hookU n fa fn ex ts).obs s := by
  have e : g = s.heap.get? := funext h
  rw [e] <;> rfl
theorem SaysU.kd {fa : List He.Fa} {fn : List He.DefD} {ex : PySem.W.Frag → Bool} {ts : List TabS} {w : World} {K : PySem.W.Frag} (c : SaysU fa fn ex ts w K) (i : Nat) {t : TabS} (h : ts[i]? = some t) : ∃ es n, KDict K w (t.1 K) es n := by
  have e2 : (ts.map fun t => He.dicW K (t.1 K))[i]? = (ts.map fun t => some (He.keysIn w.params t.2))[i]? := by rw [c.tab]
  rw [List.getElem?_map, List.getElem?_map, h] at e2
  exact He.dicW_ok (Option.some.inj e2)
/-- whether a table holds a text -/
def inTab (K : PySem.W.Frag) (a : Addr) (x : Str) (b : Bool) : Bool := match PySem.W.nsIn K a x with
  | some r => r.isSome == b
  | none => false
theorem inTab_ok {K : PySem.W.Frag} {a : Addr} {x : Str} {b : Bool} (h : inTab K a x b = true) : ∃ r, PySem.W.nsIn K a x = some r ∧ r.isSome = b := by
  unfold inTab at h
  split at h
  · rename_i r e
    exact ⟨r, e, by simpa using h⟩
  · cases h
/-! ### steps of a reading, from the left -/
section
variable {σ : St} {H : Hp} {Q : VK} {ta tb te : TE} {i : Nat} {v x y : V} {nx : St → Hp → Prop} {rt : VK} {bk ct : St → Hp → Prop} {t u : TS} {c : TT}
theorem r_seq (h : t ⟨fun σ H => u ⟨nx, rt, bk, ct⟩ σ H, rt, bk, ct⟩ σ H) : tSeq t u ⟨nx, rt, bk, ct⟩ σ H := h
theorem r_set (h : te σ H fun x H1 => nx (σ.set i (some x)) H1) : tAsg te (gName i) ⟨nx, rt, bk, ct⟩ σ H := h
theorem r_ret (h : te σ H rt) : tRet te ⟨nx, rt, bk, ct⟩ σ H := h
theorem r_next (h : nx σ H) : tNext ⟨nx, rt, bk, ct⟩ σ H := h
theorem r_drop (h : te σ H fun _ H1 => nx σ H1) : tDrop te ⟨nx, rt, bk, ct⟩ σ H := h
theorem r_if (h : c σ H fun b H1 => if b = true then t ⟨nx, rt, bk, ct⟩ σ H1 else u ⟨nx, rt, bk, ct⟩ σ H1) : tIfS c t u ⟨nx, rt, bk, ct⟩ σ H := h
theorem r_brk (h : bk σ H) : tBreak ⟨nx, rt, bk, ct⟩ σ H := h
theorem r_cont (h : ct σ H) : tCont ⟨nx, rt, bk, ct⟩ σ H := h
theorem r_var (e : σ[i]? = some (some v)) (h : Q v H) : tVar i σ H Q := ⟨v, e, h⟩
theorem r_c (h : Q v H) : tC v σ H Q := h
theorem r_op {r : R2} (h : ta σ H fun x H1 => tb σ H1 fun y H2 => r x y H2 Q) : tOp r ta tb σ H Q := h
theorem r_un {r : V → Hp → VK → Prop} (h : ta σ H fun x H1 => r x H1 Q) : tUn r ta σ H Q := h
theorem r_I0 {g : Int → Int → V} {i j : Int} (h : Q (g i j) H) : rI0 g (.int i) (.int j) H Q := ⟨i, j, rfl, rfl, h⟩
theorem r_I {C : Int → Int → Prop} {g : Int → Int → V} {i j : Int} (hc : C i j) (h : Q (g i j) H) : rI C g (.int i) (.int j) H Q := ⟨i, j, rfl, rfl, hc, h⟩
theorem r_U {g : Int → V} {i : Int} (h : Q (g i) H) : rU g (.int i) H Q := ⟨i, rfl, h⟩
theorem r_eq (hs : scal x y = true) (h : Q (.bl (decide (x = y))) H) : rEq x y H Q := ⟨hs, h⟩
theorem r_ne (hs : scal x y = true) (h : Q (.bl (!decide (x = y))) H) : rNe x y H Q := ⟨hs, h⟩
theorem r_test {P : Bool → Hp → Prop} (h : te σ H fun x H' => ∃ k, x = .bl k ∧ P k H') : tTest te σ H P := h
theorem r_B {P : Bool → Hp → Prop} (h : te σ H fun x H' => ∃ k, x = .bl k ∧ P k H') : tB te σ H P := h
theorem r_bl {b : Bool} {P : Bool → Prop} (h : P b) : ∃ k, V.bl b = .bl k ∧ P k := ⟨b, rfl, h⟩
theorem r_nilA {P : List V → Hp → Prop} (h : P [] H) : tNil σ H P := h
theorem r_consA {tr : TA} {P : List V → Hp → Prop} (h : te σ H fun x H1 => tr σ H1 fun xs H2 => P (x :: xs) H2) : tCons te tr σ H P := h
theorem r_call {sp : Sp} {dvs : List V} {E : XK} {t : TA} (h : t σ H fun vs H1 => sp (vs ++ dvs) H1 Q E) : tCall sp dvs E t σ H Q := h
theorem r_callS {sp : Sp} {E : St → XK} {t : TA} (h : t σ H fun vs H1 => sp vs H1 Q (E σ)) : tCallS sp E t σ H Q := h
theorem r_CB {r : List V → Hp → VK → Prop} {t : TA} (h : t σ H fun vs H1 => r vs H1 Q) : tCB r t σ H Q := h
theorem r_tup {t : TA} (h : t σ H fun xs H1 => xs.length ≤ sizeLine ∧ ∀ p, H1 p = none → Q (.ref p) (upd H1 p (.tup xs))) : tTup t σ H Q := h
theorem r_lst {t : TA} (h : t σ H fun xs H1 => xs.length ≤ sizeLine ∧ ∀ p, H1 p = none → Q (.ref p) (upd H1 p (.lst xs))) : tLst t σ H Q := h
theorem r_and {u : TT} {P : Bool → Hp → Prop} (h : c σ H fun k H1 => if k = true then u σ H1 P else P false H1) : tAnd c u σ H P := h
theorem r_or {u : TT} {P : Bool → Hp → Prop} (h : c σ H fun k H1 => if k = true then P true H1 else u σ H1 P) : tOr c u σ H P := h
theorem r_not {P : Bool → Hp → Prop} (h : c σ H fun k H1 => P (!k) H1) : tNot c σ H P := h
theorem r_andV (h : ta σ H fun x H1 => ∃ k, x = .bl k ∧ if k = true then tb σ H1 Q else Q (.bl false) H1) : tAndV ta tb σ H Q := h
theorem r_orV (h : ta σ H fun x H1 => ∃ k, x = .bl k ∧ if k = true then Q (.bl true) H1 else tb σ H1 Q) : tOrV ta tb σ H Q := h
theorem r_notV (h : ta σ H fun x H1 => ∃ k, x = .bl k ∧ Q (.bl (!k)) H1) : tNotV ta σ H Q := h
theorem r_ifE (h : c σ H fun k H1 => if k = true then ta σ H1 Q else tb σ H1 Q) : tIf c ta tb σ H Q := h
theorem r_ixL {K : PySem.W.Frag} {p : Addr} {xs : List V} {i : Int} (hs : SqL K H p xs) (ha : atI xs i = some v) (h : Q v H) : rIxL K (.ref p) (.int i) H Q := ⟨p, xs, i, v, rfl, rfl, hs, ha, h⟩
theorem r_ixT {K : PySem.W.Frag} {p : Addr} {xs : List V} {i : Int} (hs : SqT K H p xs) (ha : atI xs i = some v) (h : Q v H) : rIxT K (.ref p) (.int i) H Q := ⟨p, xs, i, v, rfl, rfl, hs, ha, h⟩
theorem r_fld {K : PySem.W.Frag} {f : Str} (h : ta σ H fun x H1 => ∃ a C dx fs v, x = .ref a ∧ H1 a = some (.ins C dx fs) ∧ Cls K C ∧ NoAttr K C f ∧ fs.lookup f = some v ∧ Q v H1) : tFld K ta f σ H Q := h
theorem r_sub {to ti : TE} {ts : TSet} {D : St → Hp → Prop} (h : to σ H fun o H1 => ti σ H1 fun i H2 => ts o i v H2 fun H3 => D σ H3) : gSub to ti ts v σ H D := h
theorem r_asg {g : TG} (h : te σ H fun x H1 => g x σ H1 nx) : tAsg te g ⟨nx, rt, bk, ct⟩ σ H := h
theorem r_setL {D : Hp → Prop} {p : Addr} {xs : List V} {k : Int} {j : Nat} (hp : H p = some (.lst xs)) (hj : ixN xs.length k = some j) (h : D (upd H p (.lst (xs.set j v)))) : rSetL (.ref p) (.int k) v H D := ⟨p, xs, k, j, rfl, rfl, hp, hj, h⟩
theorem r_par {i j : Nat} {ta : TA} (h : ta σ H fun vs H1 => ∃ v w, vs = [v, w] ∧ nx ((σ.set i (some v)).set j (some w)) H1) : tPar i j ta ⟨nx, rt, bk, ct⟩ σ H := h
theorem r_par2 {v w : V} {P : V → V → Prop} (h : P v w) : ∃ a b, [v, w] = [a, b] ∧ P a b := ⟨v, w, rfl, h⟩
theorem ite_d {p A B : Prop} [Decidable p] (h1 : p → A) (h2 : ¬ p → B) : if decide p = true then A else B := by
  by_cases h : p
  · rw [if_pos (decide_eq_true h)]; exact h1 h
  · rw [if_neg (by simp [h])]; exact h2 h
theorem ite_nd {p A B : Prop} [Decidable p] (h1 : ¬ p → A) (h2 : p → B) : if (!decide p) = true then A else B := by
  by_cases h : p
  · rw [if_neg (by simp [h])]; exact h2 h
  · rw [if_pos (by simp [h])]; exact h1 h
theorem ite_b {b : Bool} {A B : Prop} (h1 : b = true → A) (h2 : b = false → B) : if b = true then A else B := by
  cases b with
  | true => exact if_pos rfl ▸ h1 rfl
  | false => exact if_neg Bool.false_ne_true ▸ h2 rfl
theorem vint_inj {i j : Int} (h : V.int i = V.int j) : i = j := V.int.inj h
theorem vint_ne {i j : Int} (h : ¬ V.int i = V.int j) : ¬ i = j := fun e => h (congrArg V.int e)
theorem vstr_inj {i j : Str} (h : V.str i = V.str j) : i = j := V.str.inj h
end
/-- a module's constant -/
theorem pe_globE {X : Cx} {x : Str} {v : V} {pos : Pos} (hg : Gl X x) (h : ∃ u, X.mg x = some u ∧ RelV v u) (hd : (x == ("__debug__" : Str)) = false := by decide) : PE X (.Name x pos) (tC v) := by
  obtain ⟨u, hm, r⟩ := h
  exact pe_glob hg hm r hd
/-- // of any divisor but 0 below 2 ^ 9000 -/
def CDivG (_ j : Int) : Prop := j ≠ 0 ∧ j.natAbs.log2 < 9000
theorem op_fdivG {X : Cx} : OpR X (binaryOp .FloorDiv) (rI CDivG fun i j => .int (i.fdiv j)) := opI fun i j _ _ _ _ _ hc q => floordiv_int hc.1 q (.inl (PyProof.noPylong_of_log2 hc.2))
theorem cdivG {i j : Int} {b : Nat} (h : j ≠ 0) (hb : j.natAbs < 2 ^ b) (h0 : 0 < b) (h9 : b ≤ 9000) : CDivG i j := ⟨h, Nat.lt_of_lt_of_le (PySem.Flt.log2_lt_of h0 hb) h9⟩
theorem r_int1 {H : Hp} {Q : VK} {i : Int} (h : Q (.int i) H) : (∃ j, [V.int i] = [.int j] ∧ Q (.int j) H) ∨ ∃ k, [V.int i] = [.bl k] ∧ Q (.int (if k then 1 else 0)) H := .inl ⟨i, rfl, h⟩
theorem r_intB {H : Hp} {Q : VK} {k : Bool} (h : Q (.int (if k then 1 else 0)) H) : (∃ j, [V.bl k] = [.int j] ∧ Q (.int j) H) ∨ ∃ k', [V.bl k] = [.bl k'] ∧ Q (.int (if k' then 1 else 0)) H := .inr ⟨k, rfl, h⟩
theorem r_abs {H : Hp} {Q : VK} {i : Int} (h : Q (.int (if i < 0 then -i else i)) H) : ∃ j, [V.int i] = [.int j] ∧ Q (.int (if j < 0 then -j else j)) H := ⟨i, rfl, h⟩
/-! ### one step, at the goal's head -/

theorem r_lenL {K : PySem.W.Frag} {H : Hp} {Q : VK} {p : Addr} {ys : List V} (hs : SqL K H p ys) (h : Q (.int ys.length) H) : ∃ q zs, [V.ref p] = [.ref q] ∧ (SqL K H q zs ∨ SqT K H q zs) ∧ Q (.int zs.length) H := ⟨p, ys, rfl, .inl hs, h⟩
theorem r_lenT {K : PySem.W.Frag} {H : Hp} {Q : VK} {p : Addr} {ys : List V} (hs : SqT K H p ys) (h : Q (.int ys.length) H) : ∃ q zs, [V.ref p] = [.ref q] ∧ (SqL K H q zs ∨ SqT K H q zs) ∧ Q (.int zs.length) H := ⟨p, ys, rfl, .inr hs, h⟩
theorem r_listL {K : PySem.W.Frag} {H : Hp} {Q : VK} {p : Addr} {ys : List V} (hs : SqL K H p ys) (h : ∀ l, H l = none → Q (.ref l) (upd H l (.lst ys))) : ∃ q zs, [V.ref p] = [.ref q] ∧ (SqL K H q zs ∨ SqT K H q zs) ∧ ∀ l, H l = none → Q (.ref l) (upd H l (.lst zs)) := ⟨p, ys, rfl, .inl hs, h⟩
theorem r_sfld {K : PySem.W.Frag} {ta tv : TE} {f : Str} {nx : St → Hp → Prop} {rt : VK} {bk ct : St → Hp → Prop} {σ : St} {H : Hp}
    (h : tv σ H fun y H1 => ta σ H1 fun x H2 => ∃ a C dx fs, x = .ref a ∧ H2 a = some (.ins C dx fs) ∧ Cls K C ∧ NoAttr K C f ∧ fs.length < 1000 ∧ nx σ (upd H2 a (.ins C dx (putF f y fs)))) : sFld K ta tv f ⟨nx, rt, bk, ct⟩ σ H := h
/-! ### how large an int is -/
def Bits (b : Nat) (i : Int) : Prop := i.natAbs < 2 ^ b
theorem Bits.mono {a b : Nat} {i : Int} (h : Bits a i) (l : a ≤ b) : Bits b i := Nat.lt_of_lt_of_le h (Nat.pow_le_pow_right (by decide) l)
theorem Bits.mul {a b : Nat} {i j : Int} (h : Bits a i) (g : Bits b j) : Bits (a + b) (i * j) := wide_lt h g
theorem Bits.add {a b c : Nat} {i j : Int} (h : Bits a i) (g : Bits b j) (l1 : a < c) (l2 : b < c) : Bits c (i + j) := by
  have h2 : i.natAbs < 2 ^ (c - 1) := Bits.mono (b := c - 1) h (by omega)
  have g2 : j.natAbs < 2 ^ (c - 1) := Bits.mono (b := c - 1) g (by omega)
  have e : 2 ^ c = 2 ^ (c - 1) + 2 ^ (c - 1) := by
    obtain ⟨k, rfl⟩ : ∃ k, c = k + 1 := ⟨c - 1, by omega⟩
    rw [Nat.add_sub_cancel, Nat.pow_succ]
    omega
  show (i + j).natAbs < 2 ^ c
  rw [e]
  have := Int.natAbs_add_le i j
  omega
theorem Bits.neg {a : Nat} {i : Int} (h : Bits a i) : Bits a (-i) := by
  show (-i).natAbs < _
  rw [Int.natAbs_neg]
  exact h
theorem Bits.sub {a b c : Nat} {i j : Int} (h : Bits a i) (g : Bits b j) (l1 : a < c) (l2 : b < c) : Bits c (i - j) := by
  rw [Int.sub_eq_add_neg]
  exact Bits.add h g.neg l1 l2
theorem Bits.small {i : Int} {b : Nat} (h : i.natAbs < 18446744073709551616) (l : 64 ≤ b) : Bits b i := Bits.mono (a := 64) (show i.natAbs < 2 ^ 64 from h) l
theorem Bits.mulW {a b : Nat} {i j : Int} (h : Bits a i) (g : Bits b j) (l : a + b + 2 ≤ 1000000) : CMulW i j := wide_mul (h.mono (Nat.le_succ a)) (g.mono (Nat.le_succ b)) (Nat.succ_pos _) (Nat.succ_pos _) (by omega)
theorem Bits.divG {b : Nat} {i j : Int} (h : j ≠ 0) (g : Bits b j) (l : b + 1 ≤ 9000) : CDivG i j := cdivG h (g.mono (Nat.le_succ b)) (Nat.succ_pos _) l
theorem Bits.of_le {b : Nat} {i j : Int} (h : i.natAbs ≤ j.natAbs) (g : Bits b j) : Bits b i := Nat.lt_of_le_of_lt h g
theorem ite_nt {A B : Prop} (h : B) : if (!true) = true then A else B := iteF h
theorem ite_nf {A B : Prop} (h : A) : if (!false) = true then A else B := iteT h
/-! ### the law's stream: a list of the script's copy and three ints; told as ONE thing, so that a draw leaves the abstract heap as it is -/
def okS (j k : Int) : Prop := 0 ≤ j ∧ 0 ≤ k ∧ k < 2147483648
def phiS (s l : Addr) : Heap → Prop := fun h => ∃ (i j k : Int) (t u v : Tok) (n : Nat), h.get? s = some { cls := .type "list", data := .seq #[.ref l, .int i t, .int j u, .int k v] n } ∧ okS j k
def Strm (H : Hp) (s : Addr) : Prop := ∃ (l : Addr) (ns : List Int), H s = some (.ext (phiS s l)) ∧ H l = some (.lst (ns.map V.int)) ∧ ns.length ≤ 63
theorem Strm.mono {H H' : Hp} {s : Addr} (h : Strm H s) (e : Same H H') : Strm H' s := by
  obtain ⟨l, ns, h1, h2, h3⟩ := h
  exact ⟨l, ns, e _ _ h1, e _ _ h2, h3⟩
def cellsV (l : Addr) (i j k : Int) : List V := [.ref l, .int i, .int j, .int k]
theorem Vals.cells {l : Addr} {i j k : Int} {us : List Value} (h : Vals (cellsV l i j k) us) : ∃ t u v, us = [.ref l, .int i t, .int j u, .int k v] := by
  unfold cellsV at h
  cases h with
  | cons r0 h => cases h with
    | cons r1 h => cases h with
      | cons r2 h => cases h with
        | cons r3 h =>
          cases h
          obtain ⟨t, rfl⟩ := r1
          obtain ⟨u, rfl⟩ := r2
          obtain ⟨v, rfl⟩ := r3
          cases (show _ = Value.ref l from r0)
          exact ⟨t, u, v, rfl⟩
section
variable {X : Cx} {pins : List (Addr × Obj)} {σ : St} {H : Hp} {s : Shared} {a l : Addr}
/-- the abstract heap is told otherwise at one address, the heap stays -/
theorem Inv.retell {o o' : HO} (I : Inv X pins σ H s) (ha : H a = some o) (m : Mut (some o)) (m' : Mut (some o')) (new : ObjOk X.prog X.w (upd H a o') s.heap a o') : Inv X pins σ (upd H a o') s := by
  have hx : ∀ b u, H b = some u → ¬ Mut (some u) → b ≠ a := fun b u e nm z => by
    rw [z, ha] at e
    cases e
    exact nm m
  have un : Un X.fs [] H (upd H a o') s.heap s.heap := ⟨fun _ _ e _ _ _ => e, fun b ob e _ _ _ => ⟨ob.slots, e⟩, fun b ob e n _ => by
      rw [upd_ne (show b ≠ a from fun z => by rw [z, ha] at n; cases n)]; exact n, fun b ob e _ => ⟨ob, e⟩,
    fun b xs e => by rw [upd_ne (hx b _ e fun z => z)]; exact e, fun b ob u e => by rw [upd_ne (hx b _ e fun z => z)]; exact e, fun b ps e => ⟨#[], by rw [upd_ne (hx b _ e fun z => z), e]; simp⟩⟩
  have mu : Mut (H a) := by rw [ha]; exact m
  have hk : HOk X.prog X.w (upd H a o') s.heap := by
    obtain ⟨u, hu⟩ := objOk_get (I.hok a _ ha)
    exact I.hok.write mu (.inl rfl) (fun _ _ _ e => e) ⟨u, hu⟩ new
  exact I.un (h' := s.heap) (t' := s.toks) un hk
theorem phi_open {h : Heap} (P : Program) (w : World) (H : Hp) (x : ObjOk P w H h a (.ext (phiS a l))) : ∃ i j k : Int, okS j k ∧ ObjOk P w (upd H a (.lst (cellsV l i j k))) h a (.lst (cellsV l i j k)) := by
  obtain ⟨⟨i, j, k, t, u, v, n, e, hj⟩, _⟩ := x
  exact ⟨i, j, k, hj, (by show 4 ≤ sizeLine; decide), _, n, .cons rfl (.cons ⟨t, rfl⟩ (.cons ⟨u, rfl⟩ (.cons ⟨v, rfl⟩ .nil))), e⟩
theorem phi_close {h : Heap} {P : Program} {w : World} {H H' : Hp} {i j k : Int} (x : ObjOk P w H h a (.lst (cellsV l i j k))) (hj : okS j k) : ObjOk P w H' h a (.ext (phiS a l)) := by
  obtain ⟨_, its, n, r, e⟩ := x
  obtain ⟨t, u, v, rfl⟩ := Vals.cells r
  refine ⟨⟨i, j, k, t, u, v, n, e, hj⟩, ⟨_, e⟩, fun h1 h2 ⟨i, j, k, t, u, v, n, e, hj⟩ st => ⟨i, j, k, t, u, v, n, st _ e, hj⟩⟩
/-- within: the stream's four cells are told; behind: one thing again -/
def shutS (a l : Addr) (N : St → Hp → Prop) : St → Hp → Prop := fun σ H => ∃ i j k : Int, H a = some (.lst (cellsV l i j k)) ∧ okS j k ∧ N σ (upd H a (.ext (phiS a l)))
def shutV (a l : Addr) (N : VK) : VK := fun v H => ∃ i j k : Int, H a = some (.lst (cellsV l i j k)) ∧ okS j k ∧ N v (upd H a (.ext (phiS a l)))
def tOpen (a l : Addr) (t : TS) : TS := fun D σ H => H a = some (.ext (phiS a l)) ∧ ∀ i j k : Int, okS j k → t ⟨shutS a l D.nx, shutV a l D.rt, shutS a l D.bk, shutS a l D.ct⟩ σ (upd H a (.lst (cellsV l i j k)))
theorem Inv.shut {i j k : Int} (I : Inv X pins σ H s) (ha : H a = some (.lst (cellsV l i j k))) (hj : okS j k) : Inv X pins σ (upd H a (.ext (phiS a l))) s :=
  Inv.retell I ha trivial trivial (phi_close (I.hok a _ ha) hj)
theorem r_open {t : TS} {nx : St → Hp → Prop} {rt : VK} {bk ct : St → Hp → Prop} (h : H a = some (.ext (phiS a l))) (k : ∀ i j k : Int, okS j k → t ⟨shutS a l nx, shutV a l rt, shutS a l bk, shutS a l ct⟩ σ (upd H a (.lst (cellsV l i j k)))) : tOpen a l t ⟨nx, rt, bk, ct⟩ σ H := ⟨h, k⟩
theorem pss_open {body : List Stmt} {t : TS} (a l : Addr) (h : PSs X body t) : PSs X body (tOpen a l t) := by
  refine ⟨fun pins s σ H D I q => ?_⟩
  obtain ⟨ha, q⟩ := q
  obtain ⟨i, j, k, hj, ok⟩ := phi_open (a := a) (l := l) X.prog X.w H (I.hok a _ ha)
  refine thn (h.run pins s σ _ _ (Inv.retell (o' := .lst (cellsV l i j k)) I ha trivial trivial ok) (q i j k hj)) fun f s1 z => ?_
  cases f with
  | next =>
    obtain ⟨σ', H', I', i, j, k, e, hj, n⟩ := z
    exact ⟨σ', _, Inv.shut I' e hj, n⟩
  | brk =>
    obtain ⟨σ', H', I', i, j, k, e, hj, n⟩ := z
    exact ⟨σ', _, Inv.shut I' e hj, n⟩
  | cont =>
    obtain ⟨σ', H', I', i, j, k, e, hj, n⟩ := z
    exact ⟨σ', _, Inv.shut I' e hj, n⟩
  | ret u =>
    obtain ⟨v, σ', H', I', r, i, j, k, e, hj, n⟩ := z
    exact ⟨v, σ', _, Inv.shut I' e hj, r, n⟩
/-- a list of four is told as a stream where it is handed back -/
def tShut (t : TS) : TS := fun D σ H => t ⟨D.nx, fun v H' => ∃ (a l : Addr) (i j k : Int), v = .ref a ∧ H' a = some (.lst (cellsV l i j k)) ∧ okS j k ∧ D.rt v (upd H' a (.ext (phiS a l))), D.bk, D.ct⟩ σ H
theorem r_shut {t : TS} {nx : St → Hp → Prop} {rt : VK} {bk ct : St → Hp → Prop} (h : t ⟨nx, fun v H' => ∃ (a l : Addr) (i j k : Int), v = .ref a ∧ H' a = some (.lst (cellsV l i j k)) ∧ okS j k ∧ rt v (upd H' a (.ext (phiS a l))), bk, ct⟩ σ H) : tShut t ⟨nx, rt, bk, ct⟩ σ H := h
theorem pss_shut {body : List Stmt} {t : TS} (h : PSs X body t) : PSs X body (tShut t) := by
  refine ⟨fun pins s σ H D I q => ?_⟩
  refine thn (h.run pins s σ _ _ I q) fun f s1 z => ?_
  cases f with
  | ret u =>
    obtain ⟨v, σ', H', I', r, a, l, i, j, k, rfl, e, hj, n⟩ := z
    exact ⟨_, σ', _, Inv.shut I' e hj, r, n⟩
  | next => exact z
  | brk => exact z
  | cont => exact z
end
/-- what the stream leaves behind is the heap ahead -/
theorem upd_back {H : Hp} {a : Addr} {o o' : HO} (h : H a = some o') : upd (upd H a o) a o' = H := by
  funext b
  by_cases e : b = a
  · rw [e, upd_same, h]
  · rw [upd_ne e, upd_ne e]
theorem upd_back2 {H : Hp} {a : Addr} {o o1 o' : HO} (h : H a = some o') : upd (upd (upd H a o) a o1) a o' = H := by
  rw [upd_upd, upd_back h]
theorem upd_back3 {H : Hp} {a : Addr} {o o1 o2 o' : HO} (h : H a = some o') : upd (upd (upd (upd H a o) a o1) a o2) a o' = H := by
  rw [upd_upd, upd_upd, upd_back h]
/-! ### C(..) where what its __init__ raises is wished for at the slots -/
section
variable {X : Cx} {CX : CXT} {k : Nat} {f C : Addr} {fd : FuncData} {ps : List Str} {sp : Sp} {dvs : List V} {ds : List Value} {E : St → XK} {x : Str} {p pos : Pos} {e : Expr} {es : List Expr} {t : TA}
def tMakeS (C : Addr) (sp : Sp) (dvs : List V) (E : St → XK) (t : TA) : TE := fun σ H Q => t σ H fun vs H1 => ∀ x dx, H1 x = none → H1 dx = none → dx ≠ x →
  sp (.ref x :: (vs ++ dvs)) (upd (upd H1 dx (.own x)) x (.ins C dx [])) (fun v H2 => v = .non ∧ Q (.ref x) H2) (E σ)
theorem make_atS {pins : List (Addr × Obj)} {σ : St} {H : Hp} {s : Shared} {Q : VK} {us : List Value} {vs : List V} (mk : Mk X.K C f) (ok : FnOk X.prog X.w X.K X.mg X.base CX k f fd ps sp) (room : Room (k + 1) X.A) (bd : Binds X.K fd ps ds) (dv : Vals dvs ds)
    (pass : PassesAt CX X σ (E σ)) (I : Inv X pins σ H s) (rel : Vals vs us)
    (ask : ∀ x dx, H x = none → H dx = none → dx ≠ x → sp (.ref x :: (vs ++ dvs)) (upd (upd H dx (.own x)) x (.ins C dx [])) (fun v H2 => v = .non ∧ Q (.ref x) H2) (E σ)) :
    wpAny (model X.prog X.w) X.A (call (.ref C) us) (EP X pins σ Q) X.xe s := by
  let n := s.heap.objs.size
  have want := ask (n + 1) n (I.hok.fresh (Nat.le_succ _)) (I.hok.fresh (Nat.le_refl _)) (by show n ≠ n + 1; omega)
  have J := Inv.made (C := C) I
  have relS : Vals (V.ref (n + 1) :: (vs ++ dvs)) (Value.ref (n + 1) :: (us ++ ds)) := .cons rfl (rel.append dv)
  have many : (Value.ref (n + 1) :: us ++ ds).length = ps.length := relS.length.symm.trans (ok.len _ _ _ _ want)
  have go := ok.run _ X.stack _ _ ⟨Value.ref (n + 1) :: us, []⟩ (Value.ref (n + 1) :: (us ++ ds)) _ _ (E σ) (room.make C us []) (J.env0.make C us []) (bd _ (Value.ref (n + 1) :: us) J.kIn many) relS want
  refine wpAny_call (make_map (f := f) I.kIn mk.makes mk.init (beq_iff_eq.mp mk.fn) (codeAny_mono go fun out s' end_ => ?_))
  match out, end_ with
  | .error e, end_ => exact pass pins _ _ e s' J end_
  | .ok (.ret u), end_ =>
    obtain ⟨v, H', I3, rv, ev, q3⟩ := J.after end_
    cases ev
    exact ⟨rv, V.ref (n + 1), H', I3, rfl, q3⟩
  | .ok .next, end_ => exact end_.elim
  | .ok .brk, end_ => exact end_.elim
  | .ok .cont, end_ => exact end_.elim
theorem pe_makeS (mk : Mk X.K C f) (ok : FnOk X.prog X.w X.K X.mg X.base CX k f fd ps sp) (room : Room (k + 1) X.A) (gl : Gl X x) (gm : X.mg x = some (.ref C)) (bd : Binds X.K fd ps ds) (dv : Vals dvs ds) (pass : ∀ σ, PassesAt CX X σ (E σ))
    (args : PA X (e :: es) t) (d1 : (x == ("__debug__" : Str)) = false := by decide) (d2 : starEach (e :: es) X.env = (false, eval e X.env) :: starEach es X.env := by rfl) (d3 : (backTo pos (starEach es X.env)).any (·.1) = false := by rfl) :
    PE X (.Call (.Name x p) (e :: es) [] pos) (tMakeS C sp dvs E t) :=
  ⟨fun pins s σ H Q I h => wpAny_Call_Name_kw (ld_glob I gl gm (PySem.W.callWith_K (h₀ := X.base) I.ok.mod.kin mk.kp (thn (args.run pos pins s σ H _ I h) fun us s1 ⟨vs, H1, I1, r, q⟩ => ⟨I1.kIn, make_atS mk ok room bd dv (pass σ) I1 r q⟩) d2 d3) d1)⟩
theorem passX {E : XK} (tk : Takes X (fun cls d _ H => E cls d H)) : Passes (L2.CX X.prog X.w) X E := fun pins σ H s e s' I c => passes_call tk (fun _ _ _ _ z => z) pins σ H s e s' I c
end
section
variable {σ : St} {H : Hp} {Q : VK} {C : Addr} {sp : Sp} {dvs : List V} {t : TA}
theorem r_make {E : XK} (h : t σ H fun vs H1 => ∀ x dx, H1 x = none → H1 dx = none → dx ≠ x → sp (.ref x :: (vs ++ dvs)) (upd (upd H1 dx (.own x)) x (.ins C dx [])) (fun v H2 => v = .non ∧ Q (.ref x) H2) E) : tMake C sp dvs E t σ H Q := h
theorem r_makeS {E : St → XK} (h : t σ H fun vs H1 => ∀ x dx, H1 x = none → H1 dx = none → dx ≠ x → sp (.ref x :: (vs ++ dvs)) (upd (upd H1 dx (.own x)) x (.ins C dx [])) (fun v H2 => v = .non ∧ Q (.ref x) H2) (E σ)) : tMakeS C sp dvs E t σ H Q := h
end
/-! ### loops -/
def forR (J : It) (g : TG) (tb : TS) (D : Ends) (σ : St) (H : Hp) : Prop := ∃ W : Nat → Nat → St → Hp → Prop, (∃ m, W 0 m σ H) ∧ ∀ i m σ H, W i m σ H →
  (J.stop i H ∧ D.nx σ H) ∨ (J.go i H ∧ ∃ N : St → Hp → Prop, (∀ σ' H', N σ' H' → ∃ m', m' < m ∧ W (i + 1) m' σ' H') ∧ ∀ x H', J.yld i H x H' → g x σ H' fun σ2 H2 => tb { D with nx := N, ct := N, bk := D.nx } σ2 H2)
section
variable {σ : St} {H : Hp} {wi : TI} {g : TG} {tb : TS} {nx : St → Hp → Prop} {rt : VK} {bk ct : St → Hp → Prop} {ta : TA} {tl : TE} {K : PySem.W.Frag} {a : Addr} {xs : List V} {k : Nat} {c : TT}
theorem r_for (h : wi σ H fun J H1 => forR J g tb ⟨nx, rt, bk, ct⟩ σ H1) : tFor wi g tb ⟨nx, rt, bk, ct⟩ σ H := h
theorem r_iRng1 {R : It → Hp → Prop} (h : ta σ H fun vs H1 => ∃ j : Int, vs = [.int j] ∧ -(2 ^ 62) ≤ j ∧ j < 2 ^ 62 ∧ R (Itr 0 j.toNat) H1) : iRng1 ta σ H R := h
theorem r_iList {R : It → Hp → Prop} (h : tl σ H fun x H1 => ∃ a, x = .ref a ∧ (∃ xs, SqL K H1 a xs) ∧ R (Itl K a) H1) : iList K tl σ H R := h
theorem r_rng1 {i : Int} {P : It → Prop} (h1 : -(2 ^ 62) ≤ i) (h2 : i < 2 ^ 62) (h : P (Itr 0 i.toNat)) : ∃ j : Int, [V.int i] = [.int j] ∧ -(2 ^ 62) ≤ j ∧ j < 2 ^ 62 ∧ P (Itr 0 j.toNat) := ⟨i, rfl, h1, h2, h⟩
theorem r_lstI {P : It → Prop} (hs : SqL K H a xs) (h : P (Itl K a)) : ∃ b, V.ref a = .ref b ∧ (∃ xs, SqL K H b xs) ∧ P (Itl K b) := ⟨a, rfl, ⟨xs, hs⟩, h⟩
theorem for_rng {lo : Int} {n : Nat} (Pv : Nat → St → Hp → Prop) (h0 : Pv 0 σ H) (hs : ∀ i σ H, i < n → Pv i σ H → tb ⟨Pv (i + 1), rt, nx, Pv (i + 1)⟩ (σ.set k (some (.int (lo + (i : Int))))) H) (hd : ∀ σ H, Pv n σ H → nx σ H) :
    forR (Itr lo n) (gName k) tb ⟨nx, rt, bk, ct⟩ σ H := for_range (D := ⟨nx, rt, bk, ct⟩) Pv h0 hs hd
theorem for_lst (Pv : Nat → St → Hp → Prop) (h0 : Pv 0 σ H) (hl : ∀ i σ H, i ≤ xs.length → Pv i σ H → SqL K H a xs) (hs : ∀ i x σ H, xs[i]? = some x → Pv i σ H → tb ⟨Pv (i + 1), rt, nx, Pv (i + 1)⟩ (σ.set k (some x)) H) (hd : ∀ σ H, Pv xs.length σ H → nx σ H) :
    forR (Itl K a) (gName k) tb ⟨nx, rt, bk, ct⟩ σ H := for_list (D := ⟨nx, rt, bk, ct⟩) Pv h0 hl hs hd
/-- a while by a word with a measure; behind the test: ⟨_, fun _ _ n => n, ..⟩ -/
theorem r_while (W : Nat → St → Hp → Prop) (m0 : Nat) (h0 : W m0 σ H) (hs : ∀ m σ H, W m σ H → c σ H fun b H1 => if b = true then ∃ N : St → Hp → Prop, (∀ σ' H', N σ' H' → ∃ m', m' < m ∧ W m' σ' H') ∧ tb ⟨N, rt, nx, N⟩ σ H1 else nx σ H1) :
    tWhile c tb ⟨nx, rt, bk, ct⟩ σ H := ⟨W, ⟨m0, h0⟩, hs⟩
theorem r_cut {t u : TS} (Mid : St → Hp → Prop) (h1 : t ⟨Mid, rt, bk, ct⟩ σ H) (h2 : ∀ σ H, Mid σ H → u ⟨nx, rt, bk, ct⟩ σ H) : C8.tCut t u ⟨nx, rt, bk, ct⟩ σ H := ⟨Mid, h1, h2⟩
end
theorem same_new {H : Hp} {p : Addr} {o : HO} (h : H p = none) : Same H (upd H p o) := fun b u e => by rw [upd_ne (ne_of_none e h)]; exact e
theorem same_mk {H : Hp} {x dx : Addr} {o u : HO} (h1 : H x = none) (h2 : H dx = none) : Same H (upd (upd H dx o) x u) := fun b v e => by
  rw [upd_ne (ne_of_none e h1), upd_ne (ne_of_none e h2)]
  exact e
/-! ### facts of the top that the head tells as Bools -/
def excCB (K : PySem.W.Frag) (D : Addr) : Bool := [He.eqO (PySem.W.findIn K (.ref D) "__getattribute__") (some (some (.builtin "BaseException.__getattribute__"))), He.eqO (PySem.W.findIn K (.ref D) "__getattr__") (some none), decide (PySem.W.subIn K (.ref D) (.type "BaseException") = some true),
  PySem.W.hasDictIn K D, He.eqO (PySem.W.findIn K (.ref D) "__class__") (some (some (.builtin "object.__class__"))), He.eqO (PySem.W.specialIn K (.builtin "object.__class__") "__get__") (some (some (.builtin "getset_descriptor.__get__"))),
  decide (PySem.W.takesIn K (.builtin "object.__class__") = some true), decide (PySem.W.mroIn K D (.type "object") = some true)].all id
theorem all8 {b1 b2 b3 b4 b5 b6 b7 b8 : Bool} (h : [b1, b2, b3, b4, b5, b6, b7, b8].all id = true) : b1 = true ∧ b2 = true ∧ b3 = true ∧ b4 = true ∧ b5 = true ∧ b6 = true ∧ b7 = true ∧ b8 = true := by
  simpa using h
theorem excCB_ok {K : PySem.W.Frag} {D : Addr} (h : excCB K D = true) : ExcC K D := by
  obtain ⟨h1, h2, h3, h4, h5, h6, h7, h8⟩ := all8 h
  exact ⟨He.eqO_ok h1, He.eqO_ok h2, of_decide_eq_true h3, h4, He.eqO_ok h5, He.eqO_ok h6, of_decide_eq_true h7, of_decide_eq_true h8⟩
def isiCB (K : PySem.W.Frag) (D : Addr) : Bool := [He.eqO (PySem.W.findIn K (.ref D) "__class__") (some (some (.builtin "object.__class__"))), He.eqO (PySem.W.specialIn K (.builtin "object.__class__") "__get__") (some (some (.builtin "getset_descriptor.__get__"))),
  decide (PySem.W.takesIn K (.builtin "object.__class__") = some true), decide (PySem.W.mroIn K D (.type "object") = some true), true, true, true, true].all id
theorem isi_ins {K : PySem.W.Frag} {H : Hp} {a D dx : Addr} {fs : List (Str × V)} (h : isiCB K D = true) (c : Cls K D) (e : H a = some (.ins D dx fs)) : TyX K H (.ref a) (.ref D) := by
  obtain ⟨h1, h2, h3, h4, _⟩ := all8 h
  exact .base (.ins e c (He.eqO_ok h1) (He.eqO_ok h2) (of_decide_eq_true h3) (of_decide_eq_true h4))
theorem pss_given {X : Cx} {body : List Stmt} {t : TS} {P : Prop} (h : P → PSs X body t) : PSs X body (fun D σ H => P ∧ t D σ H) := ⟨fun pins s σ H D I q => (h q.1).run pins s σ H D I q.2⟩
theorem r_isi {K : PySem.W.Frag} {H : Hp} {Q : VK} {x c : V} {t u : Value} {b : Bool} (hx : TyX K H x t) (hc : ClsV c u) (e : PySem.W.kitOne K t u = some b) (h : Q (.bl b) H) : rIsi K [x, c] H Q := ⟨x, c, t, u, b, rfl, hc, hx, e, h⟩
/-! ### operators that a class of the program's own defines -/
section
variable {X : Cx} {CX : CXT} {n : Nat} {C g : Addr} {fd : FuncData} {ps : List Str} {sp : Sp} {E : XK}
def rBin (C : Addr) (sp : Sp) (E : XK) : R2 := fun x y H Q => ∃ a b dx dy fs gs, x = .ref a ∧ y = .ref b ∧ H a = some (.ins C dx fs) ∧ H b = some (.ins C dy gs) ∧ sp [.ref a, .ref b] H Q E
theorem back_of {R : Value → Shared → Prop} {z : V} {v : Value} {s' : Shared} (r : RelV z v) (h : R v s') : PySem.W.CmpBack R v s' := by
  cases z with
  | non => cases (show v = Value.none from r); exact h
  | bl b => cases (show v = Value.bool b from r); exact h
  | int i => obtain ⟨t, rfl⟩ := (show ∃ t, v = Value.int i t from r); exact h
  | str i => obtain ⟨t, rfl⟩ := (show ∃ t, v = Value.str i t from r); exact h
  | byt i => obtain ⟨t, rfl⟩ := (show ∃ t, v = Value.bytes i t from r); exact h
  | flt i => obtain ⟨t, rfl⟩ := (show ∃ t, v = Value.float i t from r); exact h
  | ref i => cases (show v = Value.ref i from r); exact h
  | ty i => cases (show v = Value.type i from r); exact h
theorem ins_inst {pins : List (Addr × Obj)} {σ : St} {H : Hp} {s : Shared} {a dx : Addr} {fs : List (Str × V)} (I : Inv X pins σ H s) (h : H a = some (.ins C dx fs)) : ∃ od, PySem.W.InstAt s.heap a (PySem.W.instObj C dx) C (some od) := by
  obtain ⟨mA, J, _⟩ := ins_get I.hok h
  obtain ⟨od, J, _⟩ := J.look
  exact ⟨od, J⟩
theorem op_bin {op : Operator} (first : PySem.W.selfFirst X.K C = true) (m : Meth X.K C (PySem.dunder op.info.2) g) (F : FnOk X.prog X.w X.K X.mg X.base CX n g fd ps sp) (bd : Binds X.K fd ps []) (room : Room n X.A) (pass : Passes CX X E) : OpR X (binaryOp op) (rBin C sp E) := by
  intro pins s σ H x y v u Q I rx ry h
  obtain ⟨a, b, dx, dy, fs, gs, rfl, rfl, ha, hb, q⟩ := h
  cases (show v = Value.ref a from rx)
  cases (show u = Value.ref b from ry)
  obtain ⟨od, J⟩ := ins_inst I ha
  obtain ⟨od', J'⟩ := ins_inst I hb
  obtain ⟨mF, hF⟩ := I.fr
  refine PySem.W.binop_K hF I.ok.mod.kin J J'.type first m.at_ m.fn ?_
  refine wpAny_mono (run_fn (vs := [.ref a, .ref b]) (us := [.ref a, .ref b]) F room bd .nil pass I (.cons rfl (.cons rfl .nil)) (by rw [List.append_nil]; exact q)) (fun w s' z => ?_) fun _ _ e => e
  obtain ⟨z', H', I', rz, qz⟩ := z
  exact back_of rz ⟨z', H', I', rz, qz⟩
def rUnO (C : Addr) (sp : Sp) (E : XK) : V → Hp → VK → Prop := fun x H Q => ∃ a dx fs, x = .ref a ∧ H a = some (.ins C dx fs) ∧ sp [.ref a] H Q E
theorem un_negO (m : Meth X.K C "__neg__" g) (F : FnOk X.prog X.w X.K X.mg X.base CX n g fd ps sp) (bd : Binds X.K fd ps []) (room : Room n X.A) (pass : Passes CX X E) : UnR X (unaryOp .USub) (rUnO C sp E) := by
  intro pins s σ H x v Q I rx h
  obtain ⟨a, dx, fs, rfl, ha, q⟩ := h
  cases (show v = Value.ref a from rx)
  obtain ⟨od, J⟩ := ins_inst I ha
  obtain ⟨mF, hF⟩ := I.fr
  exact PySem.W.ksp_neg hF I.ok.mod.kin J m.at_ m.fn (run_fn (vs := [.ref a]) (us := [.ref a]) F room bd .nil pass I (.cons rfl .nil) (by rw [List.append_nil]; exact q))
/-- == by an own __eq__, both answers -/
theorem op_eqO (m : Meth X.K C "__eq__" g) (F : FnOk X.prog X.w X.K X.mg X.base CX n g fd ps sp) (bd : Binds X.K fd ps []) (room : Room n X.A) (pass : Passes CX X E) : OpR X (compareOp .Eq) (rBin C sp E) := by
  intro pins s σ H x y v u Q I rx ry h
  obtain ⟨a, b, dx, dy, fs, gs, rfl, rfl, ha, hb, q⟩ := h
  cases (show v = Value.ref a from rx)
  cases (show u = Value.ref b from ry)
  obtain ⟨od, J⟩ := ins_inst I ha
  obtain ⟨od', J'⟩ := ins_inst I hb
  obtain ⟨mF, hF⟩ := I.fr
  show wpAny (model X.prog X.w) X.A (richCompare .Eq (.ref a) (.ref b)) (EP X pins σ Q) X.xe s
  refine PySem.W.cmp_K (op := .Eq) (tb := .ref C) room.units0 hF I.ok.mod.kin J J'.type (by simp [PySem.W.notFirst]) m.at_ m.fn ?_
  refine wpAny_mono (run_fn (vs := [.ref a, .ref b]) (us := [.ref a, .ref b]) F room bd .nil pass I (.cons rfl (.cons rfl .nil)) (by rw [List.append_nil]; exact q)) (fun w s' z => ?_) fun _ _ e => e
  obtain ⟨z', H', I', rz, qz⟩ := z
  exact back_of rz ⟨z', H', I', rz, qz⟩
end
/-! ### the rules with the written part by its letter -/
section
variable {X : Cx} {K : PySem.W.Frag} {e o : Expr} {f : Str} {pos pos' : Pos} {ta tv : TE} {value : Expr} {tg : Expr} {tl : TE}
theorem ix_listK (h : X.K = K) : IxR X (rIxL K) := by subst h; exact ix_list
theorem ix_tupK (h : X.K = K) : IxR X (rIxT K) := by subst h; exact ix_tup
theorem call_isiK' (h : X.K = K) : CallR X (.builtin "isinstance") (rIsi K) := by subst h; exact call_isi
theorem call_lenK (h : X.K = K) : CallR X (.builtin "len") (fun xs H Q => ∃ p ys, xs = [.ref p] ∧ (SqL K H p ys ∨ SqT K H p ys) ∧ Q (.int ys.length) H) := by subst h; exact call_len_seq
theorem call_listK (h : X.K = K) : CallR X (.type "list") (fun xs H Q => ∃ p ys, xs = [.ref p] ∧ (SqL K H p ys ∨ SqT K H p ys) ∧ ∀ l, H l = none → Q (.ref l) (upd H l (.lst ys))) := by subst h; exact call_list_of
theorem pe_fldK (h : X.K = K) (he : PE X e ta) (hb : attributeBase e f X.env (eval e X.env) = eval e X.env) : PE X (.Attribute e f pos) (tFld K ta f) := by subst h; exact pe_fld he hb
theorem ps_fldK (h : X.K = K) (ha : PE X o ta) (hv : PE X value tv) (hs : swapsWith value (some (.Attribute o f pos')) pos.line X.env = pure false) : PS X (.Assign [.Attribute o f pos'] value pos) (sFld K ta tv f) := by subst h; exact ps_fld ha hv hs
theorem pi_listK (h : X.K = K) (hl : PE X e tl) : PI X tg e (iList K tl) := by subst h; exact pi_list hl
theorem pi_tupK (h : X.K = K) (hl : PE X e tl) : PI X tg e (iTup K tl) := by subst h; exact pi_tup hl
theorem op_eqDK (h : X.K = K) (hu : X.A.units + 64 < cLine) : OpR X (compareOp .Eq) (rEqD K) := by subst h; exact op_eqD hu
theorem op_neDK (h : X.K = K) (hu : X.A.units + 64 < cLine) : OpR X (compareOp .NotEq) (rNeD K) := by subst h; exact op_neD hu
theorem op_inK (h : X.K = K) : OpR X (compareOp .In) (rIn K false) := by subst h; exact op_in_seq
theorem op_notInK (h : X.K = K) : OpR X (compareOp .NotIn) (rIn K true) := by subst h; exact op_notIn_seq
end
/-! ### a tuple of texts that the module holds -/
def strOf : Value → Option Str
  | .str x _ => some x
  | _ => none
def tupStrs (K : PySem.W.Frag) (a : Addr) (xs : List Str) : Bool := match K.lookup a with
  | some ⟨.type "tuple", _, .seq its _, _⟩ => decide (its.toList.map strOf = xs.map some)
  | _ => false
theorem vals_strs : ∀ (us : List Value) (xs : List Str), us.map strOf = xs.map some → Vals (xs.map V.str) us
  | [], [], _ => .nil
  | [], _ :: _, h => by cases h
  | _ :: _, [], h => by cases h
  | u :: us, x :: xs, h => by
    have h1 := (List.cons.inj h).1
    have h2 := (List.cons.inj h).2
    refine .cons ?_ (vals_strs us xs h2)
    cases u with
    | str y t => exact ⟨t, by rw [Option.some.inj h1]⟩
    | _ => cases h1
theorem tupStrs_ok {K : PySem.W.Frag} {H : Hp} {a : Addr} {xs : List Str} (h : tupStrs K a xs = true) (hl : xs.length ≤ 1000) : SqT K H a (xs.map V.str) := by
  unfold tupStrs at h
  split at h
  · rename_i od its n sl hk
    have e := of_decide_eq_true h
    have l := congrArg List.length e
    rw [List.length_map, List.length_map, Array.length_toList] at l
    exact .inr ⟨_, its, n, hk, rfl, rfl, by rw [l, sizeLine_eq]; omega, vals_strs _ _ e⟩
  · cases h
/-! ### != of a class with an own __eq__ and no __ne__ -/
section
open PySem.W in
theorem special_ne {M : Model} {A : Around} {E : Value → Shared → Prop} {s : Shared} {K : PySem.W.Frag} {a b C : Addr} {ox : Obj} {od : Option Obj} {Q : Option Value → Shared → Prop} (KX : K.In s.heap) (J : PySem.W.InstAt s.heap a ox C od)
    (ne : PySem.W.findIn K (.ref C) "__ne__" = some (some (.builtin "object.__ne__")))
    (h : wpAny M A (call (.builtin "object.__ne__") [.ref a, .ref b]) (fun v => Q (some v)) E s) : wpAny M A (callSpecialIfBound? (.ref a) "__ne__" [.ref b]) Q E s := by
  simp only [callSpecialIfBound?, bindSpecialIfBound?]
  refine wpAny_holding (wpAny_bind (wpAny_bind (wpAny_bind (J.type.here ((PySem.W.looks_findIn KX ne).here ?_)))))
  simp only [PySem.F.cmp_object.ne.bind]
  refine wpAny_bind (wpAny_askSetting (wpAny_ite ?_))
  have fin : wpAny M A (call (.builtin "object.__ne__") ([.ref a] ++ [.ref b]) >>= fun v => pure (some v)) Q E s := wpAny_bind (wpAny_mono h (fun v s' z => wpAny_pure z) fun _ _ z => z)
  split
  · exact wpAny_bind (wpAny_pure (wpAny_pure fin))
  · exact wpAny_tryCatch (wpAny_bind (wpAny_pure (wpAny_pure fin)))
variable {X : Cx} {CX : CXT} {n : Nat} {C g : Addr} {fd : FuncData} {ps : List Str} {sp : Sp} {E : XK}
/-- a callee of a builtin -/
theorem run_in1 {pins : List (Addr × Obj)} {σ : St} {H : Hp} {s : Shared} {Q : VK} {us : List Value} {vs : List V} (F : FnOk X.prog X.w X.K X.mg X.base CX n g fd ps sp) (room : Room (n + 1) X.A) (bd : Binds X.K fd ps []) (pass : Passes CX X E)
    (I : Inv X pins σ H s) (r : Vals vs us) (h : sp vs H Q E) : wpAny (model X.prog X.w) X.A.in1 (call (.ref g) us) (EP X pins σ Q) X.xe s := by
  have hl : (us ++ []).length = ps.length := by rw [List.append_nil, ← r.length]; exact F.len _ _ _ _ h
  have b := bd s us I.kIn hl
  rw [List.append_nil] at b
  refine wpAny_call (codeAny_mono (F.run X.A.in1 X.stack s H ⟨us, []⟩ us vs Q E room.in1 I.env0.in1 b r h) fun r s' z => ?_)
  match r, z with
  | .error e, z => exact pass pins σ H s e s' I z
  | .ok (.ret u), z => exact I.after z
  | .ok .next, z => exact z.elim
  | .ok .brk, z => exact z.elim
  | .ok .cont, z => exact z.elim
def rNeO (C : Addr) (sp : Sp) (E : XK) : R2 := fun x y H Q => ∃ a b dx dy fs gs, x = .ref a ∧ y = .ref b ∧ H a = some (.ins C dx fs) ∧ H b = some (.ins C dy gs) ∧ sp [.ref a, .ref b] H (fun v H' => ∃ t, v = .bl t ∧ Q (.bl (!t)) H') E
theorem op_neO (ne : PySem.W.findIn X.K (.ref C) "__ne__" = some (some (.builtin "object.__ne__"))) (ob : PySem.W.subIn X.K (.ref C) (.type "object") = some true) (m : Meth X.K C "__eq__" g) (F : FnOk X.prog X.w X.K X.mg X.base CX n g fd ps sp) (bd : Binds X.K fd ps [])
    (room : Room (n + 1) X.A) (pass : Passes CX X E) : OpR X (compareOp .NotEq) (rNeO C sp E) := by
  intro pins s σ H x y v u Q I rx ry h
  obtain ⟨a, b, dx, dy, fs, gs, rfl, rfl, ha, hb, q⟩ := h
  cases (show v = Value.ref a from rx)
  cases (show u = Value.ref b from ry)
  obtain ⟨od, J⟩ := ins_inst I ha
  obtain ⟨od', J'⟩ := ins_inst I hb
  have KX := I.kIn
  have run : wpAny (model X.prog X.w) X.A.in1 (call (.ref g) [.ref a, .ref b]) (fun r s' => ∃ t, r = .bool t ∧ EP X pins σ Q (.bool (!t)) s') X.xe s := by
    refine wpAny_mono (run_in1 (vs := [.ref a, .ref b]) F room bd pass I (.cons rfl (.cons rfl .nil)) q) (fun r s' z => ?_) fun _ _ e => e
    obtain ⟨z', H', I', rz, t, rfl, qz⟩ := z
    exact ⟨t, rz, .bl (!t), H', I', rfl, qz⟩
  have body : wpAny (model X.prog X.w) X.A (call (.builtin "object.__ne__") [.ref a, .ref b]) (fun r s' => ∃ t, r = .bool t ∧ EP X pins σ Q (.bool t) s') X.xe s := by
    refine wpAny_call (codeAny_call_builtin PySem.F.cmp_object.ne.plain PySem.F.cmpEntry_ne (PySem.W.check_slot (i := "object.__ne__") (owner := "object") (n := "__ne__") PySem.F.cmpKind_ne PySem.F.cmpSplit_ne (J.type.andThen (PySem.W.looks_subIn KX ob)) (PySem.F.cmpArgs_ne _ _) ?_))
    unfold Builtin.«object.__ne__»
    repeat (first
      | with_reducible refine wpAny_cRoomFor room.in1.units0 ?_
      | (refine wpAny_bind (m := callSpecialIfBound? (.ref a) (Str.ofString "__eq__") [.ref b])
          (PySem.W.ifBound_K KX J m.at_ m.fn (wpAny_mono run (fun r s' z => ?_) fun _ _ e => e))
         obtain ⟨t, rfl, z⟩ := z)
      | (refine wpAny_bind (m := truthy (.bool _)) (wpAny_truthy_bool ?_))
      | exact wpAny_pure ⟨_, rfl, z⟩
      | exact ⟨_, rfl, z⟩
      | wp_step)
  have one : wpAny (model X.prog X.w) X.A (tryCompare (.ref a) "__ne__" (.ref b)) (fun r s' => ∃ v, r = some v ∧ EP X pins σ Q v s') X.xe s := by
    unfold tryCompare
    refine wpAny_bind (special_ne KX J ne (wpAny_mono body (fun r s' z => ?_) fun _ _ e => e))
    obtain ⟨t, rfl, z⟩ := z
    exact wpAny_pure ⟨_, rfl, z⟩
  show wpAny (model X.prog X.w) X.A (richCompare .NotEq (.ref a) (.ref b)) (EP X pins σ Q) X.xe s
  unfold richCompare
  simp only [oneThing_ref]
  refine wpAny_holding (wpAny_bind (wpAny_cRoomFor room.units0 ?_))
  rw [cmpInfo_NotEq]
  dsimp only
  refine wpAny_bind (J.type.here (wpAny_bind (J'.type.here ?_)))
  rw [show (Value.ref C != Value.ref C) = false from by simp]
  simp only [Bool.false_eq_true, if_false]
  refine wpAny_bind (wpAny_pure ?_)
  simp only [Bool.false_eq_true, if_false]
  refine wpAny_bind (wpAny_mono one (fun r s' z => ?_) fun _ _ e => e)
  obtain ⟨v, rfl, hq⟩ := z
  exact wpAny_pure hq
end
/-! ### an own exception whose __init__ calls its base's with a text, and keeps one field -/
def lwB (K : PySem.W.Frag) (L : Addr) : Bool := He.eqO (PySem.W.specialIn K (.ref L) "__getattribute__") (some (some (.builtin "type.__getattribute__"))) && (PySem.W.readsIn K L (.type "type") &&
  (match PySem.W.findCls K (.ref L) (.type "type") "__init__" with | some (.val v) => decide (v = .builtin "ValueError.__init__") | _ => false))
theorem lwB_ok {K : PySem.W.Frag} {L : Addr} (h : lwB K L = true) : PySem.W.specialIn K (.ref L) "__getattribute__" = some (some (.builtin "type.__getattribute__")) ∧ PySem.W.readsIn K L (.type "type") = true ∧
    PySem.W.findCls K (.ref L) (.type "type") "__init__" = some (.val (.builtin "ValueError.__init__")) := by
  unfold lwB at h
  obtain ⟨h1, h⟩ := Bool.and_eq_true_iff.mp h
  obtain ⟨h2, h3⟩ := Bool.and_eq_true_iff.mp h
  refine ⟨He.eqO_ok h1, h2, ?_⟩
  split at h3
  · rename_i v e
    rw [e, of_decide_eq_true h3]
  · cases h3
def oexB (K : PySem.W.Frag) (C fI : Addr) : Bool := [(match K.lookup C with
    | some ⟨.type "type", _, .cls cd, sl⟩ => (match cd.mro, sl.toList with
      | .ref D :: bm, [_, _, _, _, some (.builtin n), _] => [decide (D = C), decide (n = "ValueError.__new__"), !cd.hasDel, cd.hasDict, PySem.HandSPX.refsVE bm].all id
      | _, _ => false)
    | _ => false),
  He.eqO (PySem.W.findIn K (.ref C) "__setattr__") (some (some (.builtin "object.__setattr__"))), decide (PySem.W.subIn K (.ref C) (.type "BaseException") = some true), decide (PySem.W.typeIn K (.ref C) = some (.type "type")), PySem.W.keepIn K (.ref C),
  He.eqO (PySem.W.findIn K (.ref C) "__init__") (some (some (.ref fI))), decide (PySem.W.typeIn K (.ref fI) = some (.type "function")), true].all id
theorem oexB_ok {K : PySem.W.Frag} {C fI : Addr} (h : oexB K C fI = true) : OexC K C ∧ PySem.W.findIn K (.ref C) "__init__" = some (some (.ref fI)) ∧ PySem.W.typeIn K (.ref fI) = some (.type "function") := by
  obtain ⟨h1, h2, h3, h4, h5, h6, h7, _⟩ := all8 h
  refine ⟨⟨?_, He.eqO_ok h2, of_decide_eq_true h3, of_decide_eq_true h4, h5⟩, He.eqO_ok h6, of_decide_eq_true h7⟩
  split at h1
  · rename_i dd cd sl ho
    split at h1
    · rename_i D bm k0 k1 k2 k3 n k5 hm hs
      simp only [List.all_cons, List.all_nil, id_eq, Bool.and_true, Bool.and_eq_true, decide_eq_true_eq, Bool.not_eq_true'] at h1
      obtain ⟨rfl, rfl, hdel, hdct, hv⟩ := h1
      obtain ⟨nm, bs, mro, ns, qn, hd, sn, sub, ab, col, del⟩ := cd
      dsimp only at hm hdel hdct
      subst hm hdel hdct
      have hsl : sl = #[k0, k1, k2, k3, some (.builtin "ValueError.__new__"), k5] := by
        obtain ⟨l⟩ := sl
        simp only at hs
        rw [hs]
      subst hsl
      exact ⟨nm, qn, ns, bs, bm, sn, sub, ab, col, dd, k0, k1, k2, k3, k5, ho, hv⟩
    · cases h1
  · cases h1
section
variable {X : Cx} {e : Expr} {es : List Expr} {ta : TA} {x : Str} {L : Addr} {p1 p2 pos : Pos}
theorem pe_lwinit {pl : Sem Bool} (hB : lwB X.K L = true) (hg : Gl X x) (hm : X.mg x = some (.ref L)) (ha : PA X (e :: es) ta) (hdb : (x == ("__debug__" : Str)) = false := by decide)
    (hc : eval (.Call (.Attribute (.Name x p1) "__init__" p2) (e :: es) [] pos) X.env = (do
      let ov ← eval (.Name x p1) X.env
      standAt p2.atName
      let (f, first) ← holding [ov] (getMethod ov "__init__" pl)
      callWith pos f first (backTo pos (starEach (e :: es) X.env)) (backToKw pos (keywordEach [] X.env))) := by rfl)
    (he : starEach (e :: es) X.env = (false, eval e X.env) :: starEach es X.env := by rfl) (hpl : (backTo pos (starEach es X.env)).any (·.1) = false := by rfl) :
    PE X (.Call (.Attribute (.Name x p1) "__init__" p2) (e :: es) [] pos) (tVeI X.K ta) := by
  refine ⟨fun pins s σ H Q I h => ?_⟩
  obtain ⟨b1, b2, b3⟩ := lwB_ok hB
  refine PySem.W.methodCall_KW (ld_glob I hg hm ?_ hdb) hc
  obtain ⟨m, fr⟩ := I.fr
  refine PySem.W.method_of_cls fr I.ok.mod.kin b1 (PySem.W.cls_value (I.ok.mod.kin.keeps fr.keep) b2 b3 (by decide +kernel) ?_)
  show wpAny _ _ (callWith pos (Value.builtin "ValueError.__init__") [] (backTo pos (starEach (e :: es) X.env)) []) _ _ _
  refine PyProof.Rows.callWith_method1 (thn (ha.run pos pins _ σ H _ (I.tok _) h) fun us s1 hu => ?_) he hpl
  obtain ⟨vs, H1, I1, r1, a, C, ws, ev, hl, T, ea, q⟩ := hu
  subst ev
  cases r1 with
  | @cons _ u0 _ ur ra rw' =>
    obtain rfl : u0 = Value.ref a := ra
    exact oinit_ok T I1 ea (by rw [← Paired.length rw', sizeLine_eq]; omega) fun s' J => ⟨.non, H1, J, rfl, q⟩
end
/-- C(i) leaves behind: the class, and its dict with the one field -/
theorem upd_raise {H : Hp} {a d dx : Addr} {o1 o2 o3 o4 : HO} (ha : H a = none) (hd : H d = none) (ne : dx ≠ a) (e : d = dx) : upd (del (upd (upd (upd H a o1) dx o2) a o3) a) d o4 = upd H d o4 := by
  subst e
  funext b
  by_cases h1 : b = d
  · rw [h1, upd_same, upd_same]
  · rw [upd_ne h1, upd_ne h1]
    by_cases h2 : b = a
    · rw [h2, del_same, ha]
    · rw [del_ne h2, upd_ne h2, upd_ne h1, upd_ne h2]
def spExc (K : PySem.W.Frag) (C : Addr) (f : Str) (ok : V → Prop) : Sp := fun vs H Q _ => ∃ (a : Addr) (v : V), vs = [.ref a, v] ∧ H a = some (exo a C none) ∧ ok v ∧ ∀ dx, H dx = none → dx ≠ a → Q .non (upd (upd H dx (exd dx [(f, v)])) a (exo a C (some dx)))
theorem exd_inj {d e : Addr} {fs gs : List (Str × V)} (h : exd d fs = exd d gs) : True := trivial
/-- raise C(v), C's __init__ keeping spExc -/
theorem r_raiseE {K : PySem.W.Frag} {C : Addr} {f : Str} {ok : V → Prop} {t : TA} {σ : St} {H : Hp} {Q : XK}
    (h : t σ H fun vs H1 => ∃ v, vs = [v] ∧ ok v ∧ ∀ d, H1 d = none → Q (.ref C) (some d) (upd H1 d (.xd [(f, v)]))) (mono : ∀ P P' : List V → Hp → Prop, (∀ vs H1, P vs H1 → P' vs H1) → t σ H P → t σ H P') : tMkO C (spExc K C f ok) [] t σ H Q := by
  refine mono _ _ (fun vs H1 q => ?_) h
  obtain ⟨v, rfl, hv, k⟩ := q
  refine ⟨by show 1 ≤ 1000; decide, fun a ha => ⟨a, v, rfl, upd_same, hv, fun dx hdx ne => ⟨rfl, dx, [(f, v)], upd_same, by rw [upd_ne ne, upd_same], ?_, ?_⟩⟩⟩
  · rw [upd_ne ne] at hdx
    exact hdx
  · have hd : H1 dx = none := by
      rw [upd_ne ne] at hdx
      exact hdx
    rw [upd_raise ha hd ne rfl]
    exact k dx hd
theorem op_mul_str {X : Cx} : OpR X (binaryOp .Mult) (fun x y H Q => ∃ z n, x = .str z ∧ y = .int n ∧ MulOk z n ∧ Q (.str (Txt.mul z n)) H) := by
  intro pins s σ H x y v u Q I rx ry h
  obtain ⟨z, n, rfl, rfl, hz, q⟩ := h
  obtain ⟨t, rfl⟩ := rx
  obtain ⟨t', rfl⟩ := ry
  exact PySem.SB.mul hz fun t' tk => ⟨.str (Txt.mul z n), H, I.tok _, ⟨_, rfl⟩, q⟩
section
variable {σ : St} {H : Hp} {g : TG} {tb : TS} {nx : St → Hp → Prop} {rt : VK} {bk ct : St → Hp → Prop} {tl : TE} {K : PySem.W.Frag} {a : Addr} {xs : List V} {k : Nat}
theorem r_iTup {R : It → Hp → Prop} (h : tl σ H fun x H1 => ∃ a, x = .ref a ∧ (∃ xs, SqT K H1 a xs) ∧ R (Itt K a) H1) : iTup K tl σ H R := h
theorem r_tupI {P : It → Prop} (hs : SqT K H a xs) (h : P (Itt K a)) : ∃ b, V.ref a = .ref b ∧ (∃ xs, SqT K H b xs) ∧ P (Itt K b) := ⟨a, rfl, ⟨xs, hs⟩, h⟩
theorem for_tpl (Pv : Nat → St → Hp → Prop) (h0 : Pv 0 σ H) (hl : ∀ i σ H, i ≤ xs.length → Pv i σ H → SqT K H a xs) (hs : ∀ i x σ H, xs[i]? = some x → Pv i σ H → tb ⟨Pv (i + 1), rt, nx, Pv (i + 1)⟩ (σ.set k (some x)) H) (hd : ∀ σ H, Pv xs.length σ H → nx σ H) :
    forR (Itt K a) (gName k) tb ⟨nx, rt, bk, ct⟩ σ H := for_tup (D := ⟨nx, rt, bk, ct⟩) Pv h0 hl hs hd
theorem r_tXf {x : V} {cls : Value} {d : Option Addr} {C : Addr} {f : Str} {te : TE} {Q : VK} (h : te σ H fun x H1 => x = .ref a ∧ cls = .ref C ∧ ∃ (dd : Addr) (fs : List (Str × V)) (v : V), d = some dd ∧ H1 dd = some (.xd fs) ∧ fs.lookup f = some v ∧ Q v H1) : tXf a cls d C f te σ H Q := h
end
/-! ### isinstance of a caught error that has a dict of its own -/
namespace Xd
open PySem.W PySem.Calls
section
variable {prog : Program} {w : World} {A : Around} {E : Value → Shared → Prop} {s : Shared} {K : Frag} {x D : Addr} {ox : Obj}
theorem find_cls {od : Option Obj} (C : ExcC K D) : findObj K D od "__class__" = some (.bind (.builtin "getset_descriptor.__get__") (.builtin "object.__class__")) := by
  obtain ⟨cd, hc, _⟩ := any_some C.hd
  unfold findObj
  rw [hc, Option.bind_some, C.ha, Option.bind_some]
  simp [C.hn, C.ht]
theorem cls_of {Q : Option Value → Shared → Prop} {od : Option Obj} (C : ExcC K D) (X : K.In s.heap) (I : PySem.W.InstAt s.heap x ox D od) (h : Q (some (.ref D)) { s with toks := s.toks + 1 }) : wpAny (model prog w) A (getAttr? (.ref x) "__class__") Q E s := by
  have hf := find_cls (od := od) C
  obtain ⟨hp, g, d, t, os⟩ := s
  have T0 := I.type (M := model prog w)
  have T1 := looks_findIn (M := model prog w) X C.hg
  have T2 := looks_findIn (M := model prog w) X C.hk
  have T3 := looks_find (M := model prog w) X I hf
  have sub : Looks (model prog w) hp (isInstance (.ref x) (.type "BaseException")) true := T0.andThen (looks_subIn X C.hs)
  have n2 : (Value.builtin "BaseException.__getattribute__" == Value.builtin "object.__getattribute__") = false := by decide +kernel
  unfold getAttr? getAttrBy? getAttrBy
  refine wpAny_bind (wpAny_mkText (wpAny_bind (wpAny_attempt (wpAny_holding (wpAny_bind (T0.at (wpAny_bind (T1.at ?_))))))))
  show wpAny _ _ (if (onTheHeap (Value.ref D) && Value.builtin "BaseException.__getattribute__" == Value.builtin "object.__getattribute__") = true then _ else _) _ _ _
  rw [n2, Bool.and_false, if_neg Bool.false_ne_true]
  (unfold getAttrByItsOwn hookBefore; refine wpAny_bind ?_; rw [if_pos (show onTheHeap (Value.ref D) = true from rfl)])
  refine T2.at (wpAny_bind (wpAny_attempt (wpAny_holding ?_)))
  (unfold callGetattribute; rw [show (false && onTheHeap (Value.builtin "BaseException.__getattribute__")) = false from rfl, if_neg Bool.false_ne_true])
  (unfold boundAndCalled; rw [PySem.F.excAttr_ValueError.ga.bind (.ref x)])
  refine wpAny_bind (wpAny_pure ?_)
  show wpAny _ _ (call (.builtin "BaseException.__getattribute__") [.ref x, .str "__class__" t]) _ _ _
  refine wpAny_call (codeAny_call_builtin PySem.F.excAttr_ValueError.ga.plain PySem.F.entry_bexc_ga (@check_slot (model prog w) _ _ ⟨hp, g, d, t + 1, os⟩ "BaseException.__getattribute__" "BaseException" "__getattribute__" (.ref x) [.str "__class__" t] [] _ (by decide +kernel) (by decide +kernel) sub (PySem.F.args_bexc_ga (.ref x) (.str "__class__" t)) ?_))
  (unfold Builtin.«object.__getattribute__»; refine wpAny_bind (wpAny_of_eq (a := ((Value.ref x : Value), [Value.str "__class__" t])) (by first | rfl | (simp only [slotArgs]; rfl)) ?_))
  refine wpAny_bind (wpAny_pure (wpAny_bind (T0.at (wpAny_bind (T3.at ?_)))))
  show wpAny _ _ (holding [Value.builtin "object.__class__"] (call (.builtin "getset_descriptor.__get__") [.builtin "object.__class__", .ref x, .ref D]) >>= ret) _ _ _
  refine wpAny_bind (wpAny_holding (wpAny_call (class_get (s := ⟨hp, g, d, t + 1, os⟩) (ox := ox) (od := od) X I C.hm (wpAny_pure ?_))))
  (show wpAny _ _ (handedOut (.ref D)) _ _ _; rw [handedOut_of (v := .ref D) rfl])
  first
    | exact wpAny_pure (wpAny_pure h)
    | exact wpAny_pure (wpAny_bind (wpAny_pure (wpAny_pure h)))
theorem not_cls {h : Heap} {o : Obj} {D' : Addr} (hd : hasDictIn K D = true) (X : K.In h) (e : h.get? D' = some o) (hs : ∀ cd, o.data ≠ .cls cd) : D ≠ D' := fun z => by
  obtain ⟨cdD, hcD, _⟩ := any_some hd
  unfold clsIn at hcD
  split at hcD
  · rename_i c' d' cd' sl' ho
    rw [← z, X _ _ ho] at e
    cases e
    exact hs cd' rfl
  · cases hcD
theorem kit (C : ExcC K D) : KitX K (.ref x) (.ref D) (fun h => ∃ od, PySem.W.InstAt h x ox D od) where
  ty := fun M h X I => by
    obtain ⟨od, I⟩ := I
    exact I.type
  it := fun M h X _ => (handS_kitx_exc (x := x) (ox := ox) C.hg C.hk C.hs C.hd C.ha C.hn C.ht C.hm).it M h X |> fun f => by
    obtain ⟨cdD, hcD, _⟩ := any_some C.hd
    unfold clsIn at hcD
    split at hcD
    · rename_i c' d' cd' sl' ho
      intro A' Q' E' s' k q
      (unfold isType loadHead; exact wpAny_bind (wpAny_loadPart (k _ _ (X _ _ ho)) (wpAny_pure q)))
    · cases hcD
  ne := fun h tp dd its n sl X htp => Bool.eq_false_iff.mpr fun q => not_cls C.hd X htp (fun cd z => by cases z) (Value.ref.inj (beq_iff_eq.mp q))
  ca := fun X I k => by
    obtain ⟨od, I⟩ := I
    exact cls_of C X I k
end
end Xd
def rIsD (K : PySem.W.Frag) (D a : Addr) (d : Option Addr) : List V → Hp → VK → Prop := fun xs H Q => ∃ (c : V) (cv : Value) (b : Bool) (dd : Addr) (fs : List (Str × V)), xs = [.ref a, c] ∧ (∀ u, RelV c u → u = cv) ∧ PySem.W.kitOne K (.ref D) cv = some b ∧ d = some dd ∧ H dd = some (.xd fs) ∧ Q (.bl b) H
theorem call_isD {X : Cx} {a D : Addr} {d : Option Addr} {oe : Obj} {pn : List (Addr × Obj)} {cls : Value} (ec : cls = .ref D) (C : ExcC X.K D) (hz : Zc cls d oe) (hf : ∃ vs, oe.data = .fields vs) : CallR (X.suite a ((a, oe) :: pn)) (.builtin "isinstance") (rIsD X.K D a d) := by
  intro pins s σ H xs us Q I r h
  subst ec
  obtain ⟨c, cv, b, dd, fs, rfl, hcv, e, rfl, hdd, q⟩ := h
  cases r with
  | cons rx rr =>
    cases rr with
    | cons rt rr =>
      cases rr
      cases rx
      obtain rfl := hcv _ rt
      obtain ⟨hget, _⟩ := I.pin (a, oe) (List.mem_append.mpr (.inl List.mem_cons_self))
      obtain ⟨vs, hv⟩ := hf
      obtain ⟨od, hod⟩ := objOk_get (I.hok dd _ hdd)
      have J : PySem.W.InstAt s.heap a oe D (some od) := by
        obtain ⟨oc, ob, oda, osl⟩ := oe
        obtain ⟨h1, h2⟩ := hz
        (dsimp only at h1 h2 hv; subst h1 h2 hv)
        exact ⟨hget, rfl, rfl, hod⟩
      exact PySem.W.kia_one (Xd.kit C) I.kIn ⟨_, J⟩ e (fun z => nomatch z) fun tk => ⟨.bl b, H, I.kept (t' := tk) fun _ _ z => z, rfl, q⟩
/-! ### what reads as data; sorted of such -/
mutual
inductive DatV (K : PySem.W.Frag) (H : Hp) : V → PyData → Prop
  | non : DatV K H .non .none
  | bl (b : Bool) : DatV K H (.bl b) (.bool b)
  | int (i : Int) : DatV K H (.int i) (.int i)
  | str (x : Str) : DatV K H (.str x) (.str x)
  | tup {a : Addr} {xs : List V} {ds : List PyData} : SqT K H a xs → DatsV K H xs ds → DatV K H (.ref a) (.tuple ds)
inductive DatsV (K : PySem.W.Frag) (H : Hp) : List V → List PyData → Prop
  | nil : DatsV K H [] []
  | cons {x : V} {d : PyData} {xs : List V} {ds : List PyData} : DatV K H x d → DatsV K H xs ds → DatsV K H (x :: xs) (d :: ds)
end
section
variable {X : Cx} {pins : List (Addr × Obj)} {σ : St} {H : Hp} {s : Shared}
mutual
theorem DatV.reads (I : Inv X pins σ H s) : ∀ (x : V) (d : PyData) (u : Value), DatV X.K H x d → RelV x u → ∃ as, Reads s.heap u d as
  | _, _, u, h, r => by
    cases h with
    | non => cases r; exact ⟨_, .none⟩
    | bl b => cases r; exact ⟨_, .bool b⟩
    | int i => obtain ⟨t, rfl⟩ := r; exact ⟨_, .int i t⟩
    | str z => obtain ⟨t, rfl⟩ := r; exact ⟨_, .str z t⟩
    | tup hs hd =>
      cases r
      obtain ⟨its, rv, l1, _⟩ := I.tuple hs
      obtain ⟨o, h1, h2, n, h3⟩ := l1
      obtain ⟨as, ra⟩ := DatsV.reads I _ _ _ hd rv
      exact ⟨_, .tuple h1 h2 h3 (by simpa using ra)⟩
theorem DatsV.reads (I : Inv X pins σ H s) : ∀ (xs : List V) (ds : List PyData) (us : List Value), DatsV X.K H xs ds → Vals xs us → ∃ as, ReadsAll s.heap us ds as
  | _, _, us, h, r => by
    cases h with
    | nil => cases r; exact ⟨_, .nil⟩
    | cons h1 h2 =>
      cases r with
      | cons r1 r2 =>
        obtain ⟨as, q1⟩ := DatV.reads I _ _ _ h1 r1
        obtain ⟨bs, q2⟩ := DatsV.reads I _ _ _ h2 r2
        exact ⟨_, .cons q1 q2⟩
end
end
abbrev VD : Type := V × PyData
def sortD (bs : List VD) : List VD := bs.mergeSort (PySem.W.dataLe false (fun b : VD => b.2))
theorem sortD_perm (bs : List VD) : (sortD bs).Perm bs := List.mergeSort_perm _ _
def rSortedD (K : PySem.W.Frag) : List V → Hp → VK → Prop := fun vs H Q => ∃ (a : Addr) (bs : List VD), vs = [.ref a] ∧ SqL K H a (bs.map (·.1)) ∧ (∀ b ∈ bs, DatV K H b.1 b.2 ∧ b.2.depth ≤ 8) ∧ PySem.W.AllAlike (bs.map (·.2)) ∧ PySem.W.Sortable (bs.map (·.2)) ∧
  ∀ p, H p = none → Q (.ref p) (upd H p (.lst ((sortD bs).map (·.1))))
theorem each_vals : ∀ {bs : List VD} {us : List Value}, Vals (bs.map (·.1)) us → PySem.W.EachIs (fun u (b : VD) => RelV b.1 u) us bs
  | [], _, h => by cases h; exact .nil
  | _ :: _, _, h => by
    cases h with
    | cons r rs => exact .cons r (each_vals rs)
theorem vals_each : ∀ {bs : List VD} {us : List Value}, PySem.W.EachIs (fun u (b : VD) => RelV b.1 u) us bs → Vals (bs.map (·.1)) us
  | [], _, h => by cases h; exact .nil
  | _ :: _, _, h => by
    cases h with
    | cons r rs => exact .cons r (vals_each rs)
theorem each_and {R S : Value → VD → Prop} : ∀ {bs : List VD} {us : List Value}, PySem.W.EachIs R us bs → (∀ b ∈ bs, ∀ u, R u b → S u b) → PySem.W.EachIs S us bs
  | [], _, h, _ => by cases h; exact .nil
  | b :: _, _, h, f => by
    cases h with
    | cons r rs => exact .cons (f b List.mem_cons_self _ r) (each_and rs fun b hb => f b (List.mem_cons_of_mem _ hb))
theorem cr_sortedD {X : Cx} (hu : X.A.units + 64 < cLine) : CallR X (.builtin "sorted") (rSortedD X.K) := by
  intro pins s σ H vs us Q I r h
  obtain ⟨a, bs, rfl, hs, hd, hal, hk, q⟩ := h
  obtain ⟨its, rv, hl, hz⟩ := I.list hs
  rw [Vals.ref1 r]
  have e := each_vals rv
  have hL : bs.length ≤ sizeLine := by rw [List.length_map] at hz; exact hz
  refine PySem.W.sorted_data (enc := fun b : VD => b.2) hl.isList e (each_and e fun b hb u ru => DatV.reads I _ _ _ (hd b hb).1 ru) hal hk hL (fun b hb => by have := (hd b hb).2; omega) fun out hlen ho => ?_
  obtain ⟨ep, he'⟩ := PyProof.Rows.sortedAll_at s.heap its out.toArray
  have lo : ((sortD bs).map (·.1)).length ≤ sizeLine := by
    rw [List.length_map, (sortD_perm bs).length_eq]
    exact hL
  exact ⟨.ref _, upd H (s.heap.objs.size + 1) (.lst ((sortD bs).map (·.1))), I.laid (t' := s.toks) (fun _ _ => PyProof.Rows.sortedAll_old) (Nat.le_succ _) ⟨lo, out, ep, vals_each ho, he'⟩, rfl, q _ (I.hok.fresh (Nat.le_succ _))⟩
/-! ### != of equal lists and tuples, == and != of equal dicts, where own ==s are asked on the way -/
namespace NeG
open PySem.SeqAt AutoSeq1 MeetsSeq MeetsSeq2 MeetsSeq3 SeqRoads2 GQ
section
variable {prog : Program} {w : World} {A : Around} {R : Result → Shared → Prop}
theorem nloop (p q : Addr) (N : Nat) (J : Nat → Shared → Prop) (each : ListI prog w A (fun e s' => R (.error e) s') p q N J) (done : ∀ s, J N s → R (.ok (.ret (.bool false))) s) (m : Nat) :
    ∀ j : Nat, N - j = m → j ≤ N → ∀ s, J j s → wpAny (model prog w) A.in1 (Builtin.«list.__eq__.loop» ⟨[.ref p, .ref q, rawInt j, rawInt 3], []⟩) (FinOf prog w A R) (fun e s' => R (.error e) s') s := by
  induction m with
  | zero =>
    intro j hm hj s h
    obtain ⟨xs, ys, n1, n2, gp, gq, zx, zy, _⟩ := each _ _ h
    obtain rfl : j = N := by omega
    have fin := done s h
    obtain ⟨hp, g, d, tk, os⟩ := s
    (wp_walk using wpAny_loadPart' gp, wpAny_loadPart' gq)
    rw [show xs[((j : Nat) : Int).toNat]? = none from by simp; omega, show ys[((j : Nat) : Int).toNat]? = none from by simp; omega]
    (wp_walk using wpAny_loadPart' gp, wpAny_loadPart' gq)
    show R (.ok (.ret (.bool (xs.size != ys.size)))) _
    rw [zx, zy]
    simpa using fin
  | succ m ih =>
    intro j hm hj s h
    obtain ⟨xs, ys, n1, n2, gp, gq, zx, zy, t⟩ := each _ _ h
    have l1 : j < xs.size := by omega
    have l2 : j < ys.size := by omega
    have t := t l1 l2
    obtain ⟨hp, g, d, tk, os⟩ := s
    (wp_walk using wpAny_loadPart' gp, wpAny_loadPart' gq)
    have up : ((j : Int) + 1) = ((j + 1 : Nat) : Int) := by omega
    rw [show xs[((j : Nat) : Int).toNat]? = some xs[j] from by simp [l1], show ys[((j : Nat) : Int).toNat]? = some ys[j] from by simp [l2]]
    refine wpAny_bind (wpAny_mono t (fun r s2 k2 => ?_) fun _ _ z => z)
    obtain ⟨rfl, k2⟩ := k2
    have more := ih (j + 1) (by omega) (by omega) s2 k2
    obtain ⟨hp2, g2, d2, tk2, os2⟩ := s2
    wp_walk
    rw [up]
    exact ⟨plainId_quiet plain_eq_loop _, codeAny_builtin entry_eq_loop (by rw [Around.under_plainId plain_eq_loop _]; exact more)⟩
theorem nlist (p q : Addr) (N : Nat) (J : Nat → Shared → Prop) (each : ListI prog w A (fun e s' => R (.error e) s') p q N J) (done : ∀ s, J N s → R (.ok (.ret (.bool false))) s) {s : Shared} (h : J 0 s) :
    wpAny (model prog w) A.in1 (Builtin.«list.__ne__» ⟨[.ref p, .ref q], []⟩) (FinOf prog w A R) (fun e s' => R (.error e) s') s := by
  obtain ⟨xs, ys, n1, n2, gp, gq, zx, zy, _⟩ := each _ _ h
  have more := nloop (A := A) (R := R) p q N J each done _ 0 rfl (Nat.zero_le _) s h
  obtain ⟨hp, g, d, tk, os⟩ := s
  have sub := AutoSeq1.sub_list_list
  have same : ¬ (xs.size != ys.size) = true := by simp [zx, zy]
  (wp_walk using wpAny_loadPart' gp, wpAny_loadPart' gq)
  exact ⟨plainId_quiet plain_eq_loop _, codeAny_builtin entry_eq_loop (by rw [Around.under_plainId plain_eq_loop _]; exact more)⟩
theorem ntup (p q : Addr) (xs ys : Array Value) (n1 n2 : Nat) (d1 d2 : Option Addr) (sl1 sl2 : Array (Option Value)) (hz : xs.size = ys.size) (J : Nat → Shared → Prop)
    (each : ∀ j (h1 : j < xs.size) (h2 : j < ys.size) s, J j s → wpAny (model prog w) A.in1 (eqBool xs[j] ys[j]) (fun r s' => r = true ∧ J (j + 1) s') (fun e s' => R (.error e) s') s)
    (done : ∀ s, J xs.size s → R (.ok (.ret (.bool false))) s) {s : Shared} (gp : s.heap.get? p = some { cls := .type "tuple", dict := d1, data := .seq xs n1, slots := sl1 }) (gq : s.heap.get? q = some { cls := .type "tuple", dict := d2, data := .seq ys n2, slots := sl2 }) (h : J 0 s) :
    wpAny (model prog w) A.in1 (Builtin.«tuple.__ne__» ⟨[.ref p, .ref q], []⟩) (FinOf prog w A R) (fun e s' => R (.error e) s') s := by
  have sub := AutoSeq1.sub_tuple_tuple
  have zl : (xs.toList.zip ys.toList).length = xs.size := by simp [hz]
  have start := h
  obtain ⟨hp, g, d, tk, os⟩ := s
  (wp_walk using wpAny_loadPart' gp, wpAny_loadPart' gq, wpAny_forIn_list _ (fun rest b s' => b.1 = none ∧ ∃ j, rest = (xs.toList.zip ys.toList).drop j ∧ j ≤ xs.size ∧ J j s') _)
  case turn =>
    rintro ⟨y, x⟩ rest b s' ⟨hb, j, ez, hj, k⟩
    have lj : j < (xs.toList.zip ys.toList).length := Nat.lt_of_not_le fun z => by rw [List.drop_of_length_le z] at ez; cases ez
    have l1 : j < xs.size := zl ▸ lj
    have l2 : j < ys.size := hz ▸ l1
    rw [List.drop_eq_getElem_cons lj] at ez
    injection ez with e1 e2
    obtain rfl : y = xs[j] := by simpa using congrArg Prod.fst e1
    obtain rfl : x = ys[j] := by simpa using congrArg Prod.snd e1
    refine wpAny_bind (wpAny_mono (each j l1 l2 s' k) (fun r s2 k2 => ?_) fun _ _ z => z)
    obtain ⟨rfl, k2⟩ := k2
    wp_walk
    exact ⟨rfl, j + 1, e2, l1, k2⟩
  case fin =>
    rintro ⟨b1, b2⟩ s' ⟨hb, j, ez, hj, k⟩
    (simp only at hb; subst hb)
    have ge : xs.size ≤ j := Nat.le_of_not_lt fun z => by rw [List.drop_eq_getElem_cons (zl.symm ▸ z)] at ez; cases ez
    have fin := done s' ((show j = xs.size from by omega) ▸ k)
    wp_walk
    simpa [Builtin.Tuple.tupleCompareSizes, hz] using fin
  case h => exact ⟨rfl, 0, rfl, Nat.zero_le _, start⟩
end
section
variable {prog : Program} {w : World} {A : Around} {E : Value → Shared → Prop} {s : Shared}
theorem rc_nlist {p q : Addr} {N : Nat} {Q : Value → Shared → Prop} (hu : A.units < cLine) (J : Nat → Shared → Prop) (each : ListI prog w A E p q N J) (done : ∀ s, J N s → Q (.bool false) s) (h : J 0 s) :
    wpAny (model prog w) A (richCompare .NotEq (.ref p) (.ref q)) Q E s := by
  obtain ⟨xs, ys, n1, n2, gp, gq, _, _, _⟩ := each _ _ h
  refine wpAny_richCompare_same_room (op := .NotEq) ⟨_, gp, rfl⟩ ⟨_, gq, rfl⟩ PySem.F.slot_list_ne (call_here PySem.F.slot_list_ne ⟨_, gp, rfl⟩ PySem.F.entry_list_ne (PySem.F.args_list_ne_2 _ _) ?_) hu
  exact nlist (R := wants (fun v s' => v ≠ .notImplemented ∧ Q v s') E) p q N J each (fun s' z => ⟨(fun x => nomatch x), done s' z⟩) h
theorem rc_ntup {p q : Addr} {xs ys : Array Value} {Q : Value → Shared → Prop} (hz : xs.size = ys.size) (hu : A.units < cLine) (J : Nat → Shared → Prop) (gp : s.heap.IsTuple p xs) (gq : s.heap.IsTuple q ys)
    (each : ∀ j (h1 : j < xs.size) (h2 : j < ys.size) s, J j s → wpAny (model prog w) A.in1 (eqBool xs[j] ys[j]) (fun r s' => r = true ∧ J (j + 1) s') E s) (done : ∀ s, J xs.size s → Q (.bool false) s) (h : J 0 s) :
    wpAny (model prog w) A (richCompare .NotEq (.ref p) (.ref q)) Q E s := by
  obtain ⟨⟨c1, d1, t1, sl1⟩, ho, hc, n1, hd⟩ := id gp
  obtain ⟨⟨c2, d2, t2, sl2⟩, ho2, hc2, n2, hd2⟩ := id gq
  (simp only at hc hd hc2 hd2; subst hc hd hc2 hd2)
  refine wpAny_richCompare_same_room (op := .NotEq) ⟨_, ho, rfl⟩ ⟨_, ho2, rfl⟩ PySem.F.slot_tuple_ne (call_here PySem.F.slot_tuple_ne ⟨_, ho, rfl⟩ PySem.F.entry_tuple_ne (PySem.F.args_tuple_ne_2 _ _) ?_) hu
  exact ntup (R := wants (fun v s' => v ≠ .notImplemented ∧ Q v s') E) p q xs ys n1 n2 d1 d2 sl1 sl2 hz J each (fun s' z => ⟨(fun x => nomatch x), done s' z⟩) ho ho2 h
end
end NeG
/-- != gives False for what D says, and only makes objects -/
def RnG (X : Cx) (n : Nat) (D : Eqv) : Prop :=
  ∀ (A : Around) (pins : List (Addr × Obj)) (s : Shared) (σ : St) (H : Hp) (x y : V) (u v : Value), Sub X n A → Inv X pins σ H s → RelV x u → RelV y v → D x y H →
    wpAny (model X.prog X.w) A (richCompare .NotEq u v) (fun r s' => r = .bool false ∧ ∃ H', Inv X pins σ H' s' ∧ Ext H H') X.xe s
section
variable {X : Cx} {n : Nat} {D : Eqv}
theorem rnG_list (hD : Mon D) (h : EqG X n D) : RnG X (n + 1) (DList D) := by
  intro A pins s σ H x y u v sb I rx ry d
  obtain ⟨a, b, xs, ys, rfl, rfl, ha, hb, p⟩ := d
  (cases rx; cases ry)
  refine NeG.rc_nlist (N := xs.length) sb.room.units0 (fun _ s' => LoopI X pins σ H s') (fun i s' q => ?_) (fun s' q => ⟨rfl, q⟩) ⟨H, I, Ext.rfl'⟩
  obtain ⟨H1, I1, e1⟩ := id q
  obtain ⟨_, us, k, r, e⟩ := I1.hok a _ (e1 _ _ ha)
  obtain ⟨_, vs, k2, r2, e2⟩ := I1.hok b _ (e1 _ _ hb)
  exact ⟨us.toArray, vs.toArray, k, k2, e, e2, by rw [List.size_toArray, ← r.length], by rw [List.size_toArray, ← r2.length, ← p.1], fun h1 h2 => turnG hD h sb p r r2 i h1 h2 s' q⟩
theorem rnG_tup (hD : Mon D) (h : EqG X n D) : RnG X (n + 1) (DTup X.K D) := by
  intro A pins s σ H x y u v sb I rx ry d
  obtain ⟨a, b, xs, ys, rfl, rfl, ha, hb, p⟩ := d
  (cases rx; cases ry)
  obtain ⟨us, r, e, _⟩ := I.tuple ha
  obtain ⟨vs, r2, e2, _⟩ := I.tuple hb
  have hz : us.toArray.size = vs.toArray.size := by rw [List.size_toArray, List.size_toArray, ← r.length, ← r2.length]; exact p.1
  exact NeG.rc_ntup hz sb.room.units0 (fun _ s' => LoopI X pins σ H s') e e2 (fun i h1 h2 s' q => turnG hD h sb p r r2 i h1 h2 s' q) (fun s' q => ⟨rfl, q⟩) ⟨H, I, Ext.rfl'⟩
def rNeG (D : Eqv) : R2 := fun x y H Q => D x y H ∧ ∀ H', Ext H H' → Q (.bl false) H'
theorem op_neG (h : RnG X n D) (hr : Room n X.A) : OpR X (compareOp .NotEq) (rNeG D) := by
  intro pins s σ H x y v u Q I rx ry hq
  obtain ⟨d, q⟩ := hq
  show wpAny (model X.prog X.w) X.A (richCompare .NotEq v u) (EP X pins σ Q) X.xe s
  refine wpAny_mono (h X.A pins s σ H x y v u ⟨hr, rfl⟩ I rx ry d) (fun r s' z => ?_) fun _ _ z => z
  obtain ⟨rfl, H', I', e⟩ := z
  exact ⟨.bl false, H', I', rfl, q H' e⟩
end
/-! ### == and != of two dicts of the same keys, whose values are equal one by one, own ==s asked on the way -/
namespace DeG
open PySem.W PySem.Calls
section
variable {prog : Program} {w : World} {K : Type} [DecidableEq K] {knd : KeyKind prog w K} {A : Around} {E : Value → Shared → Prop} {s : Shared}
theorem pairs {nm : String} {a b : Addr} {oa ob : Obj} {es et : Array DictEntry} {p1 p2 : Nat} {ka kb : List (K × Value)} {Q : Bool → Shared → Prop} (na : (a == sysModules) = false) (nb : (b == sysModules) = false)
    (da : oa.data = .dict es p1) (db : ob.data = .dict et p2) (ua : KeysOf knd es) (ub : KeysOf knd et) (va : Pairs knd es.toList ka) (vb : Pairs knd et.toList kb) (hl : ka.length = kb.length) (J : Nat → Shared → Prop)
    (at_ : ∀ i s, J i s → s.heap.get? a = some oa ∧ s.heap.get? b = some ob)
    (each : ∀ i k v s, ka[i]? = some (k, v) → J i s → ∃ y, valueAt kb k = some y ∧ wpAny (model prog w) A (eqBool v y) (fun r s' => r = true ∧ J (i + 1) s') E s)
    (start : J 0 s) (done : ∀ s, J ka.length s → Q true s) : wpAny (model prog w) A (Builtin.Dict.samePairs nm a b) Q E s := by
  have za : ka.length = es.size := (va.length.symm.trans Array.length_toList)
  have zb : kb.length = et.size := (vb.length.symm.trans Array.length_toList)
  have look : ∀ k, findBy knd.is et k = valueAt kb k := fun k => by
    rw [← vb.find k]
    (clear zb vb ub db; obtain ⟨l⟩ := et; simp [findBy])
  have sz : es.size = et.size := by omega
  obtain ⟨g1, g2⟩ := at_ _ _ start
  unfold Builtin.Dict.samePairs Builtin.Dict.showsAll
  rw [if_neg (by rw [na]; exact Bool.false_ne_true), if_neg (by rw [nb]; exact Bool.false_ne_true)]
  refine wpAny_bind (wpAny_pure (wpAny_bind (wpAny_pure (wpAny_bind (wpAny_dictEntries g1 da ?_)))))
  dsimp only
  refine wpAny_bind (wpAny_dictEntries g2 db ?_)
  rw [if_neg (by rw [sz]; simp)]
  refine wpAny_bind (wpAny_dictEpoch g1 da (wpAny_bind ?_))
  rw [Std.Legacy.Range.forIn_eq_forIn_range']
  simp only [Std.Legacy.Range.size, Nat.sub_zero, Nat.add_sub_cancel, Nat.div_one]
  refine wpAny_forIn_list _ (fun rest q s' => q = (none, ()) ∧ ∃ i, rest = List.range' i (es.size - i) ∧ i ≤ es.size ∧ J i s') _ ?_ ?_ _ _ ⟨rfl, 0, by simp, Nat.zero_le _, start⟩
  · rintro x rest q s' ⟨rfl, i, hr, hi, hj⟩
    have lt : i < es.size := Nat.lt_of_not_le fun z => by rw [Nat.sub_eq_zero_of_le z] at hr; simp at hr
    obtain ⟨rfl, hrest⟩ : x = i ∧ rest = List.range' (i + 1) (es.size - (i + 1)) := by
      rw [show es.size - i = (es.size - (i + 1)) + 1 by omega, List.range'_succ] at hr
      exact ⟨(List.cons.inj hr).1, (List.cons.inj hr).2⟩
    obtain ⟨g1, g2⟩ := at_ _ _ hj
    refine wpAny_bind (wpAny_dictEntries g1 da ?_)
    rw [Array.getElem?_eq_getElem lt]
    have lt' : x < ka.length := by rw [za]; exact lt
    obtain ⟨k, v, kv⟩ : ∃ k v, ka[x] = (k, v) := ⟨_, _, rfl⟩
    have kv' : ka[x]? = some (k, v) := by rw [List.getElem?_eq_getElem lt', kv]
    obtain ⟨isk, isv⟩ := va.get? (i := x) (e := es[x]) (k := k) (v := v) (by rw [Array.getElem?_toList]; exact Array.getElem?_eq_getElem lt) kv'
    obtain ⟨k', isk', hh⟩ := ua es[x] (Array.getElem_mem lt)
    rw [knd.inj _ _ _ isk' isk] at hh
    obtain ⟨y, hy, run⟩ := each x k v s' kv' hj
    show wpAny _ _ (holding [es[x].key, es[x].val] _ >>= _) _ _ _
    rw [hh]
    refine wpAny_bind (wpAny_holding (wpAny_bind (wpAny_dictFind_of isk g2 db ub ?_)))
    cases fj : et.findIdx? fun e => knd.is k e.key with
    | none =>
      rw [← look k, findBy_of_findIdx?, fj] at hy
      exact nomatch hy
    | some j =>
      obtain ⟨lj, _, _⟩ := Array.findIdx?_eq_some_iff_getElem.mp fj
      have ev : et[j].val = y := by
        rw [← look k, findBy_of_findIdx?, fj] at hy
        simpa [Array.getElem?_eq_getElem lj] using hy
      refine wpAny_bind (wpAny_dictEntries g2 db ?_)
      rw [Array.getElem?_eq_getElem lj]
      rw [← ev, ← isv] at run
      refine wpAny_holding (wpAny_mono run (fun r s2 z => ?_) fun _ _ z => z)
      obtain ⟨rfl, hj2⟩ := z
      obtain ⟨g1, g2⟩ := at_ _ _ hj2
      show wpAny _ _ (if (!true) = true then _ else _) _ _ _
      rw [if_neg (by decide)]
      refine wpAny_bind (wpAny_dictEpoch g1 da ?_)
      rw [if_neg (by simp)]
      exact wpAny_pure ⟨rfl, x + 1, hrest, lt, hj2⟩
  · rintro q s' ⟨rfl, i, hr, hi, hj⟩
    have e : i = es.size := Nat.le_antisymm hi (Nat.le_of_not_lt fun z => by
      rw [show es.size - i = (es.size - (i + 1)) + 1 by omega, List.range'_succ] at hr
      exact nomatch hr)
    exact wpAny_pure (done s' (by rw [za, ← e]; exact hj))
theorem eqd {a b : Addr} {Q : Value → Shared → Prop} (ta : s.TypeIs (.ref a) "dict") (tb : s.TypeIs (.ref b) "dict") (hu : A.units < cLine)
    (h : ∀ nm, wpAny (model prog w) A.in1 (Builtin.Dict.samePairs nm a b) (fun r s' => Q (.bool r) s') E s) : wpAny (model prog w) A (richCompare .Eq (.ref a) (.ref b)) Q E s := by
  refine wpAny_richCompare_same_room (op := .Eq) ta tb PySem.F.slot_dict_eq (wpAny_call_entry PySem.F.slot_dict_eq ta PySem.F.entry_dict_eq ?_ (PySem.F.args_dict_eq_2 _ _)) hu
  (show wpAny _ _ (Builtin.Dict.dictSlotArgs "__eq__" ⟨[.ref a, .ref b], []⟩ >>= _) _ _ s; refine wpAny_bind ?_; unfold Builtin.Dict.dictSlotArgs)
  refine wpAny_bind (wpAny_notOrdered_dict ta ?_)
  (show wpAny _ _ (pure (Value.ref a, Value.ref b)) _ _ s; refine wpAny_pure (wpAny_bind (wpAny_isInstance (T := "dict") tb PySem.F.sub_dict_dict ?_)))
  (simp only [Bool.not_true, Bool.false_eq_true, if_false]; refine wpAny_bind (wpAny_pure (wpAny_bind (wpAny_pure (wpAny_bind (wpAny_mono (h _) (fun r s' q => ?_) fun _ _ z => z))))))
  refine wpAny_pure ⟨_, rfl, (fun x => nomatch x), ?_⟩
  simpa using q
theorem ned {a b : Addr} {Q : Value → Shared → Prop} (ta : s.TypeIs (.ref a) "dict") (tb : s.TypeIs (.ref b) "dict") (hu : A.units < cLine)
    (h : ∀ nm, wpAny (model prog w) A.in1 (Builtin.Dict.samePairs nm a b) (fun r s' => Q (.bool (!r)) s') E s) : wpAny (model prog w) A (richCompare .NotEq (.ref a) (.ref b)) Q E s := by
  refine wpAny_richCompare_same_room (op := .NotEq) ta tb PySem.F.slot_dict_ne (wpAny_call_entry PySem.F.slot_dict_ne ta PySem.F.entry_dict_ne ?_ (PySem.F.args_dict_ne_2 _ _)) hu
  (show wpAny _ _ (Builtin.Dict.dictSlotArgs "__ne__" ⟨[.ref a, .ref b], []⟩ >>= _) _ _ s; refine wpAny_bind ?_; unfold Builtin.Dict.dictSlotArgs)
  refine wpAny_bind (wpAny_notOrdered_dict ta ?_)
  (show wpAny _ _ (pure (Value.ref a, Value.ref b)) _ _ s; refine wpAny_pure (wpAny_bind (wpAny_isInstance (T := "dict") tb PySem.F.sub_dict_dict ?_)))
  (simp only [Bool.not_true, Bool.false_eq_true, if_false]; refine wpAny_bind (wpAny_pure (wpAny_bind (wpAny_pure (wpAny_bind (wpAny_mono (h _) (fun r s' q => ?_) fun _ _ z => z))))))
  refine wpAny_pure ⟨_, rfl, (fun x => nomatch x), ?_⟩
  cases r <;> exact q
end
end DeG
theorem kv_get {ka : List (Key × V)} {va : List (Key × Value)} (r : KV ka va) : ∀ {i : Nat} {p : Key × V} {q : Key × Value}, ka[i]? = some p → va[i]? = some q → p.1 = q.1 ∧ RelV p.2 q.2 := by
  unfold KV at r
  induction r with
  | nil => intro i p q h; simp at h
  | cons h t ih =>
    intro i p q h1 h2
    cases i with
    | zero => simp at h1 h2; subst h1 h2; exact h
    | succ i => simp at h1 h2; exact ih h1 h2
/-- the abstract heap without two of its things -/
def hide2 (H : Hp) (a b : Addr) : Hp := fun c => if c = a ∨ c = b then none else H c
theorem ext_hide {H H' : Hp} {a b : Addr} (h : ∀ c, c ≠ a → c ≠ b → H' c = H c) : Ext (hide2 H a b) H' := fun c o e => by
  unfold hide2 at e
  split at e
  · cases e
  · rename_i q
    rw [h c (fun z => q (.inl z)) (fun z => q (.inr z))]
    exact e
def DDict (D : Eqv) : Eqv := fun x y H => ∃ (a b : Addr) (ka kb : List (Key × V)), x = .ref a ∧ y = .ref b ∧ a ≠ b ∧ H a = some (.dK ka) ∧ H b = some (.dK kb) ∧ ka.length = kb.length ∧ ∀ (i : Nat) (k : Key) (v : V), ka[i]? = some (k, v) → ∃ u, valV kb k = some u ∧ D v u (hide2 H a b)
section
variable {X : Cx} {n : Nat} {D : Eqv}
theorem dict_run (hD : Mon D) (h : EqG X n D) {A : Around} {pins : List (Addr × Obj)} {s : Shared} {σ : St} {H : Hp} {a b : Addr} {ka kb : List (Key × V)} (sb : Sub X (n + 1) A) (I : Inv X pins σ H s) (ne : a ≠ b) (ha : H a = some (.dK ka)) (hb : H b = some (.dK kb)) (hl : ka.length = kb.length)
    (hv : ∀ (i : Nat) (k : Key) (v : V), ka[i]? = some (k, v) → ∃ u, valV kb k = some u ∧ D v u (hide2 H a b)) (nm : String) :
    s.TypeIs (.ref a) "dict" ∧ s.TypeIs (.ref b) "dict" ∧ wpAny (model X.prog X.w) A.in1 (Builtin.Dict.samePairs nm a b) (fun r s' => r = true ∧ ∃ H', Inv X pins σ H' s' ∧ Ext H H') X.xe s := by
  obtain ⟨od, I1⟩ := I.lock ha trivial
  obtain ⟨ob, I2⟩ := I1.lock (show upd H a (.frz od (.dK ka)) b = some (.dK kb) by rw [upd_ne (Ne.symm ne)]; exact hb) trivial
  have ea : upd (upd H a (.frz od (.dK ka))) b (.frz ob (.dK kb)) a = some (.frz od (.dK ka)) := by rw [upd_ne ne, upd_same]
  have eb : upd (upd H a (.frz od (.dK ka))) b (.frz ob (.dK kb)) b = some (.frz ob (.dK kb)) := upd_same
  generalize hH : upd (upd H a (.frz od (.dK ka))) b (.frz ob (.dK kb)) = H0 at I2 ea eb
  obtain ⟨ga, xa⟩ := (show ObjOk X.prog X.w H0 s.heap a (.frz od (.dK ka)) from I2.hok a _ ea)
  obtain ⟨gb, xb⟩ := (show ObjOk X.prog X.w H0 s.heap b (.frz ob (.dK kb)) from I2.hok b _ eb)
  obtain ⟨_, na, va, ra, dA⟩ := (show ObjOk X.prog X.w H0 s.heap a (.dK ka) from xa)
  obtain ⟨_, nb, vb, rb, dB⟩ := (show ObjOk X.prog X.w H0 s.heap b (.dK kb) from xb)
  refine ⟨dA.typeIs, dB.typeIs, ?_⟩
  obtain ⟨o1, es, p1, g1, _, d1, u1, w1, _⟩ := dA
  obtain ⟨o2, et, p2, g2, _, d2, u2, w2, _⟩ := dB
  rw [ga] at g1
  rw [gb] at g2
  (cases g1; cases g2)
  have up : Ext (hide2 H a b) H0 := ext_hide fun c h1 h2 => by rw [← hH, upd_ne h2, upd_ne h1]
  refine DeG.pairs na nb d1 d2 u1 u2 w1 w2 (by rw [← ra.length, ← rb.length]; exact hl) (fun _ s' => LoopI X pins σ H0 s') (fun i s' ⟨H', I', e'⟩ => ?_) (fun i k v s' hi ⟨H', I', e'⟩ => ?_) ⟨H0, I2, Ext.rfl'⟩ (fun s' ⟨H', I', e'⟩ => ⟨rfl, ?_⟩)
  · exact ⟨(show ObjOk X.prog X.w H' s'.heap a (.frz od (.dK ka)) from I'.hok a _ (e' _ _ ea)).1, (show ObjOk X.prog X.w H' s'.heap b (.frz ob (.dK kb)) from I'.hok b _ (e' _ _ eb)).1⟩
  · have li : i < ka.length := by rw [ra.length]; exact (List.getElem?_eq_some_iff.mp hi).1
    obtain ⟨⟨k0, x⟩, hx⟩ : ∃ p, ka[i]? = some p := ⟨_, List.getElem?_eq_getElem li⟩
    obtain ⟨k1, r1⟩ := kv_get ra hx hi
    obtain rfl : k0 = k := k1
    obtain ⟨u, hu, hd⟩ := hv i k0 x hx
    have rr : RelO (some u) (valueAt vb k0) := by rw [← hu]; exact rb.val k0
    obtain ⟨y, hy, ry⟩ := rr.some_of
    refine ⟨y, hy, wpAny_mono (h A.in1 pins s' σ H' x u v y sb.in1 I' r1 ry (hD _ _ _ _ e' (hD _ _ _ _ up hd))) (fun r s2 z => ?_) fun _ _ z => z⟩
    obtain ⟨rfl, H2, I3, e2⟩ := z
    exact ⟨rfl, H2, I3, e'.trans e2⟩
  · have f1 : H' b = some (.frz ob (.dK kb)) := e' _ _ eb
    have f2 : upd H' b (.dK kb) a = some (.frz od (.dK ka)) := by rw [upd_ne ne]; exact e' _ _ ea
    refine ⟨_, (I'.unlock f1 (I.nofrz hb trivial)).unlock f2 (I.nofrz ha trivial), fun c o e => ?_⟩
    by_cases c1 : c = a
    · rw [c1, upd_same, ← ha, ← c1]; exact e
    · rw [upd_ne c1]
      by_cases c2 : c = b
      · rw [c2, upd_same, ← hb, ← c2]; exact e
      · rw [upd_ne c2]
        exact e' _ _ (by rw [← hH, upd_ne c2, upd_ne c1]; exact e)
theorem rcG_dict (hD : Mon D) (h : EqG X n D) : RcG X (n + 1) (DDict D) := by
  intro A pins s σ H x y u v sb I rx ry d
  obtain ⟨a, b, ka, kb, rfl, rfl, ne, ha, hb, hl, hv⟩ := d
  (cases rx; cases ry)
  obtain ⟨ta, tb, _⟩ := dict_run hD h sb I ne ha hb hl hv ""
  refine DeG.eqd ta tb sb.room.units0 fun nm => wpAny_mono (dict_run hD h sb I ne ha hb hl hv nm).2.2 (fun r s' z => ?_) fun _ _ z => z
  obtain ⟨rfl, q⟩ := z
  exact ⟨rfl, q⟩
theorem rnG_dict (hD : Mon D) (h : EqG X n D) : RnG X (n + 1) (DDict D) := by
  intro A pins s σ H x y u v sb I rx ry d
  obtain ⟨a, b, ka, kb, rfl, rfl, ne, ha, hb, hl, hv⟩ := d
  (cases rx; cases ry)
  obtain ⟨ta, tb, _⟩ := dict_run hD h sb I ne ha hb hl hv ""
  refine DeG.ned ta tb sb.room.units0 fun nm => wpAny_mono (dict_run hD h sb I ne ha hb hl hv nm).2.2 (fun r s' z => ?_) fun _ _ z => z
  obtain ⟨rfl, q⟩ := z
  exact ⟨rfl, q⟩
theorem mon_dict (hD : Mon D) : Mon (DDict D) := fun x y H H' e d => by
  obtain ⟨a, b, ka, kb, hx, hy, ne, ha, hb, hl, hv⟩ := d
  refine ⟨a, b, ka, kb, hx, hy, ne, e _ _ ha, e _ _ hb, hl, fun i k v hi => ?_⟩
  obtain ⟨u, hu, hd⟩ := hv i k v hi
  refine ⟨u, hu, hD _ _ _ _ (fun c o q => ?_) hd⟩
  unfold hide2 at q ⊢
  split at q
  · cases q
  · rename_i z
    rw [if_neg z]
    exact e _ _ q
theorem eqG_dict (hD : Mon D) (h : EqG X n D) : EqG X (n + 1) (DDict D) := (rcG_dict hD h).eqG fun _ _ _ d => let ⟨a, b, _, _, hx, hy, _⟩ := d; ⟨a, b, hx, hy⟩
end
/-! ### what stays: all but lists and dicts -/
def Soft : HO → Bool
  | .lst _ => true
  | .dK _ => true
  | .dT _ => true
  | _ => false
def Keep (H H' : Hp) : Prop := ∀ b o, H b = some o → Soft o = false → H' b = some o
theorem Keep.refl (H : Hp) : Keep H H := fun _ _ h _ => h
theorem Keep.trans {H H1 H2 : Hp} (a : Keep H H1) (b : Keep H1 H2) : Keep H H2 := fun c o h s => b c o (a c o h s) s
theorem Same.keep {H H' : Hp} (e : Same H H') : Keep H H' := fun b o h _ => e b o h
theorem keep_upd {H : Hp} {a : Addr} {o o' : HO} (h : H a = some o) (s : Soft o = true) : Keep H (upd H a o') := fun b u e su => by
  by_cases z : b = a
  · rw [z, h] at e
    cases e
    rw [s] at su
    cases su
  · rw [upd_ne z]
    exact e
theorem keep_hide {H : Hp} {a b : Addr} {o o' : HO} (h : H a = some o) (s : Soft o = true) (h' : H b = some o') (s' : Soft o' = true) : Keep H (hide2 H a b) := fun c u e su => by
  unfold hide2
  by_cases z : c = a ∨ c = b
  · rcases z with z | z
    · rw [z, h] at e
      cases e
      rw [s] at su
      cases su
    · rw [z, h'] at e
      cases e
      rw [s'] at su
      cases su
  · rw [if_neg z]
    exact e
theorem SqT.keep {K : PySem.W.Frag} {H H' : Hp} {a : Addr} {xs : List V} (h : SqT K H a xs) (e : Keep H H') : SqT K H' a xs :=
  h.elim (fun h => .inl (h.elim (fun h => .inl (e _ _ h rfl)) fun ⟨o, h⟩ => .inr ⟨o, e _ _ h rfl⟩)) fun h => .inr h
theorem SqT.same {K : PySem.W.Frag} {H H' : Hp} {a : Addr} {xs : List V} (h : SqT K H a xs) (e : Same H H') : SqT K H' a xs := SqT.keep h (Same.keep e)
theorem SqL.same {K : PySem.W.Frag} {H H' : Hp} {a : Addr} {xs : List V} (h : SqL K H a xs) (e : Same H H') : SqL K H' a xs :=
  h.elim (fun h => .inl (h.elim (fun h => .inl (e _ _ h)) fun ⟨o, h⟩ => .inr ⟨o, e _ _ h⟩)) fun h => .inr h
theorem same_upd {H H' : Hp} {a : Addr} {o : HO} (e : Same H H') (h : H a = none) : Same H (upd H' a o) := fun b u q => by
  rw [upd_ne (ne_of_none q h)]
  exact e b u q
theorem Paired.at_ {α β : Type} {F : α → β → Prop} : ∀ {xs : List α} {ys : List β} {i : Nat} {x : α} {y : β}, Paired F xs ys → xs[i]? = some x → ys[i]? = some y → F x y
  | _, _, _, _, _, .nil, h, _ => by simp at h
  | _, _, 0, _, _, .cons r _, h, h' => by simp at h h'; rw [← h, ← h']; exact r
  | _, _, i + 1, _, _, .cons _ t, h, h' => Paired.at_ (i := i) t (by simpa using h) (by simpa using h')
theorem Paired.some {α β : Type} {F : α → β → Prop} : ∀ {xs : List α} {ys : List β} {i : Nat} {x : α}, Paired F xs ys → xs[i]? = some x → ∃ y, ys[i]? = some y ∧ F x y
  | _, _, _, _, .nil, h => by simp at h
  | _, _, 0, _, .cons r _, h => by simp at h; exact ⟨_, rfl, h ▸ r⟩
  | _, _, i + 1, _, .cons _ t, h => by
    obtain ⟨y, h1, h2⟩ := Paired.some (i := i) t (by simpa using h)
    exact ⟨y, by simpa using h1, h2⟩
theorem Paired.take {α β : Type} {F : α → β → Prop} : ∀ {xs : List α} {ys : List β} (n : Nat), Paired F xs ys → Paired F (xs.take n) (ys.take n)
  | _, _, 0, _ => .nil
  | _, _, _ + 1, .nil => .nil
  | _, _, n + 1, .cons r t => .cons r (Paired.take n t)
theorem Paired.drop {α β : Type} {F : α → β → Prop} : ∀ {xs : List α} {ys : List β} (n : Nat), Paired F xs ys → Paired F (xs.drop n) (ys.drop n)
  | _, _, 0, r => r
  | _, _, _ + 1, .nil => .nil
  | _, _, n + 1, .cons _ t => Paired.drop n t
theorem Paired.app {α β : Type} {F : α → β → Prop} : ∀ {xs xs' : List α} {ys ys' : List β}, Paired F xs ys → Paired F xs' ys' → Paired F (xs ++ xs') (ys ++ ys')
  | _, _, _, _, .nil, s => s
  | _, _, _, _, .cons r t, s => .cons r (Paired.app t s)
theorem Paired.set {α β : Type} {F : α → β → Prop} {x : α} {y : β} (r : F x y) : ∀ {xs : List α} {ys : List β} (i : Nat), Paired F xs ys → Paired F (xs.set i x) (ys.set i y)
  | _, _, _, .nil => .nil
  | _, _, 0, .cons _ t => .cons r t
  | _, _, i + 1, .cons q t => .cons q (Paired.set r i t)
theorem Paired.imp {α β : Type} {F G : α → β → Prop} (h : ∀ a b, F a b → G a b) : ∀ {xs : List α} {ys : List β}, Paired F xs ys → Paired G xs ys
  | _, _, .nil => .nil
  | _, _, .cons r t => .cons (h _ _ r) (Paired.imp h t)
/-! ### a for over a list, any target; comprehensions over a list -/
section
variable {σ : St} {H H1 : Hp} {g : TG} {tb : TS} {nx : St → Hp → Prop} {rt : VK} {bk ct : St → Hp → Prop} {K : PySem.W.Frag} {a : Addr} {xs : List V} {wi : TI} {tt : TT} {te : TE} {vs : List Nat} {Q : VK}
theorem for_lstG (Pv : Nat → St → Hp → Prop) (h0 : Pv 0 σ H) (hl : ∀ i σ H, i ≤ xs.length → Pv i σ H → SqL K H a xs) (hs : ∀ i x σ H, xs[i]? = some x → Pv i σ H → g x σ H fun σ2 H2 => tb ⟨Pv (i + 1), rt, nx, Pv (i + 1)⟩ σ2 H2) (hd : ∀ σ H, Pv xs.length σ H → nx σ H) :
    forR (Itl K a) g tb ⟨nx, rt, bk, ct⟩ σ H := by
  refine ⟨fun i m σ H => m = xs.length - i ∧ i ≤ xs.length ∧ Pv i σ H, ⟨xs.length, by simp, Nat.zero_le _, h0⟩, ?_⟩
  rintro i m σ H ⟨rfl, hi, p⟩
  have q := hl i σ H hi p
  by_cases lt : i < xs.length
  · refine .inr ⟨⟨xs, xs[i], q, by simp [lt]⟩, Pv (i + 1), fun σ' H' p' => ⟨xs.length - (i + 1), by omega, rfl, lt, p'⟩, fun x H' y => ?_⟩
    obtain ⟨rfl, y⟩ := y
    exact hs i x σ H' (y xs q) p
  · obtain rfl : i = xs.length := by omega
    exact .inl ⟨⟨xs, q, Nat.le_refl _⟩, hd σ H p⟩
def lcR (J : It) (g : TG) (tt : TT) (te : TE) (vs : List Nat) (σ : St) (H1 : Hp) (Q : VK) : Prop := ∀ D, H1 D = none → ∃ W : Nat → Nat → Hp → Prop, (∃ m, W 0 m (upd H1 D (.lst []))) ∧ ∀ i m H, W i m H → (J.stop i H ∧ Q (.ref D) H) ∨
  (J.go i H ∧ ∃ N : Hp → Prop, (∀ H', N H' → ∃ m', m' < m ∧ W (i + 1) m' H') ∧ ∀ x H', J.yld i H x H' → g x (wipe σ vs) H' fun σ2 H2 => wipe σ2 vs = wipe σ vs ∧ tt σ2 H2 fun b H3 =>
    if b = true then te σ2 H3 fun y H4 => ∃ acc, H4 D = some (.lst acc) ∧ acc.length < sizeLine ∧ N (upd H4 D (.lst (acc ++ [y]))) else N H3)
theorem r_lc (h : wi σ H fun J H1 => lcR J g tt te vs σ H1 Q) : tLc wi g tt te vs σ H Q := h
/-- behind a turn of a comprehension -/
def LcN (H1 : Hp) (D : Addr) (Pv : Nat → List V → Hp → Prop) (i : Nat) (H : Hp) : Prop := Same H1 H ∧ ∃ acc, acc.length ≤ i ∧ H D = some (.lst acc) ∧ Pv i acc H
theorem lc_add {Pv : Nat → List V → Hp → Prop} {D : Addr} {i : Nat} {acc : List V} {y : V} {H4 : Hp} (hD : H1 D = none) (hS : Same H1 H) (s : Same H H4) (ha : H D = some (.lst acc)) (hl : acc.length ≤ i) (hi : i < 100000) (p : Pv (i + 1) (acc ++ [y]) (upd H4 D (.lst (acc ++ [y])))) :
    ∃ acc, H4 D = some (.lst acc) ∧ acc.length < sizeLine ∧ LcN H1 D Pv (i + 1) (upd H4 D (.lst (acc ++ [y]))) :=
  ⟨acc, s _ _ ha, by rw [sizeLine_eq]; omega, same_upd (hS.trans s) hD, _, by rw [List.length_append, List.length_singleton]; omega, upd_same, p⟩
theorem lc_skip {Pv : Nat → List V → Hp → Prop} {D : Addr} {i : Nat} {acc : List V} {H4 : Hp} (hS : Same H1 H) (s : Same H H4) (ha : H D = some (.lst acc)) (hl : acc.length ≤ i) (p : Pv (i + 1) acc H4) : LcN H1 D Pv (i + 1) H4 :=
  ⟨hS.trans s, acc, Nat.le_succ_of_le hl, s _ _ ha, p⟩
/-- [te for g in xs if tt]: what holds of the part taken -/
theorem lc_lst (hl : SqL K H1 a xs) (hz : xs.length ≤ 100000) (Pv : Nat → List V → Hp → Prop) (h0 : ∀ D, H1 D = none → Pv 0 [] (upd H1 D (.lst [])))
    (hs : ∀ D i x acc H, H1 D = none → xs[i]? = some x → i < 100000 → Same H1 H → H D = some (.lst acc) → acc.length ≤ i → Pv i acc H → g x (wipe σ vs) H fun σ2 H2 => wipe σ2 vs = wipe σ vs ∧ tt σ2 H2 fun b H3 =>
      if b = true then te σ2 H3 fun y H4 => ∃ acc, H4 D = some (.lst acc) ∧ acc.length < sizeLine ∧ LcN H1 D Pv (i + 1) (upd H4 D (.lst (acc ++ [y]))) else LcN H1 D Pv (i + 1) H3)
    (hd : ∀ D acc H, H1 D = none → Same H1 H → H D = some (.lst acc) → Pv xs.length acc H → Q (.ref D) H) : lcR (Itl K a) g tt te vs σ H1 Q := by
  intro D hD
  refine ⟨fun i m H => m = xs.length - i ∧ i ≤ xs.length ∧ LcN H1 D Pv i H, ⟨xs.length, by simp, Nat.zero_le _, same_new hD, [], Nat.le_refl _, upd_same, h0 D hD⟩, ?_⟩
  rintro i m H ⟨rfl, hi, hS, acc, ha, hD2, p⟩
  have q := SqL.same hl hS
  by_cases lt : i < xs.length
  · refine .inr ⟨⟨xs, xs[i], q, by simp [lt]⟩, LcN H1 D Pv (i + 1), fun H' p' => ⟨xs.length - (i + 1), by omega, rfl, lt, p'⟩, fun x H' y => ?_⟩
    obtain ⟨rfl, y⟩ := y
    exact hs D i x acc H' hD (y xs q) (by omega) hS hD2 ha p
  · obtain rfl : i = xs.length := by omega
    exact .inl ⟨⟨xs, q, Nat.le_refl _⟩, hd D acc H hD hS hD2 p⟩
end
/-! ### more steps of a reading -/
section
variable {σ : St} {H : Hp} {K : PySem.W.Frag} {a : Addr} {xs : List V} {g : TG} {gs : TGs} {N : St → Hp → Prop} {Q : VK} {v : V} {n i : Nat} {te : TE} {ts : List TE} {acc : Str} {J : Str → Hp → Prop}
theorem r_gname (h : N (σ.set i (some v)) H) : gName i v σ H N := h
theorem r_gnil (h : N σ H) : gNil [] σ H N := ⟨rfl, h⟩
theorem r_gcons {vs : List V} (h : g v σ H fun σ' H' => gs vs σ' H' N) : gCons g gs (v :: vs) σ H N := ⟨v, vs, rfl, h⟩
theorem r_gtup (hs : SqT K H a xs) (hn : xs.length = n) (h : gs xs σ H N) : gTup K n gs (.ref a) σ H N := ⟨a, xs, rfl, hs, hn, h⟩
theorem r_jnil (h : J acc H) : tJs [] acc σ H J := h
theorem r_jcons (h : te σ H fun x H1 => ∃ y : Str, x = .str y ∧ (acc ++ y).length ≤ sizeLine ∧ tJs ts (acc ++ y) σ H1 J) : tJs (te :: ts) acc σ H J := h
theorem r_jstr {y : Str} (hz : (acc ++ y).length ≤ sizeLine) (h : tJs ts (acc ++ y) σ H J) : tJs (tC (.str y) :: ts) acc σ H J := ⟨y, rfl, hz, h⟩
theorem r_jvar {y : Str} (e : σ[i]? = some (some (.str y))) (hy : y.length ≤ sizeLine) (hz : (acc ++ y).length ≤ sizeLine) (h : tJs ts (acc ++ y) σ H J) : tJs (tFmt (tVar i) :: ts) acc σ H J := ⟨_, e, .inl ⟨y, rfl, hy, y, rfl, hz, h⟩⟩
theorem r_fmt (h : te σ H fun x H1 => (∃ y : Str, x = .str y ∧ y.length ≤ sizeLine ∧ Q (.str y) H1) ∨ ∃ i : Int, x = .int i ∧ i.natAbs.log2 < 1920 ∧ Q (.str (toString i)) H1) : tFmt te σ H Q := h
theorem r_fmtS {y : Str} {R : V → Prop} (hy : y.length ≤ sizeLine) (h : R (.str y)) : (∃ z : Str, V.str y = .str z ∧ z.length ≤ sizeLine ∧ R (.str z)) ∨ ∃ i : Int, V.str y = .int i ∧ i.natAbs.log2 < 1920 ∧ R (.str (toString i)) := .inl ⟨y, rfl, hy, h⟩
theorem r_dnew (h : ∀ p, H p = none → Q (.ref p) (upd H p (.dK []))) : tDNewK σ H Q := h
theorem r_dput {td ty tv : TE} {nx : St → Hp → Prop} {rt : VK} {bk ct : St → Hp → Prop} (h : tv σ H fun v H1 => td σ H1 fun x H2 => ty σ H2 fun y H3 => ∃ a H4, x = .ref a ∧ DPut H3 a y v H4 ∧ nx σ H4) : sDPut td ty tv ⟨nx, rt, bk, ct⟩ σ H := h
theorem sapp_len (x y : Str) : (x ++ y).length = x.length + y.length := by simp [Str.length, Str.cps_append]
theorem sapp_nil (x : Str) : Str.empty ++ x = x := by
  show Str.mk (Str.empty.cps ++ x.cps) = x
  simp [Str.empty]
end
/-! ### sorted(xs, key=f) by an own def -/
def rSortK (K : PySem.W.Frag) (f : Addr) (sp : Sp) : List V → List V → Hp → VK → Prop := fun vs zs H Q => ∃ (a : Addr) (bs : List VD), vs = [.ref a] ∧ zs = [.ref f] ∧ SqL K H a (bs.map (·.1)) ∧ (∀ b ∈ bs, b.2.depth ≤ 8) ∧ PySem.W.AllAlike (bs.map (·.2)) ∧ PySem.W.Sortable (bs.map (·.2)) ∧
  ∃ J : Nat → List V → Hp → Prop, J 0 [] H ∧ (∀ i b ys H', bs[i]? = some b → J i ys H' → sp [b.1] H' (fun y H'' => J (i + 1) (ys ++ [y]) H'') fun _ _ _ => False) ∧
    ∀ ys H', J bs.length ys H' → DatsV K H' ys (bs.map (·.2)) ∧ ∀ p, H' p = none → Q (.ref p) (upd H' p (.lst ((sortD bs).map (·.1))))
section
open PySem.W PyProof.Rows
variable {X : Cx} {k : Nat} {f g : Addr} {fd : FuncData} {ps : List Str} {sp : Sp}
theorem run_in2 {pins : List (Addr × Obj)} {σ : L2.St} {H : Hp} {s : Shared} {Q : VK} {us : List Value} {vs : List V} {E : XK} (F : FnOk X.prog X.w X.K X.mg X.base CX0 k g fd ps sp) (room : Room (k + 2) X.A) (bd : Binds X.K fd ps [])
    (I : Inv X pins σ H s) (r : Vals vs us) (h : sp vs H Q E) : wpAny (model X.prog X.w) X.A.in1.in1 (call (.ref g) us) (EP X pins σ Q) (fun _ _ => False) s := by
  have hl : (us ++ []).length = ps.length := by rw [List.append_nil, ← r.length]; exact F.len _ _ _ _ h
  have b := bd s us I.kIn hl
  rw [List.append_nil] at b
  refine wpAny_call (codeAny_mono (F.run X.A.in1.in1 X.stack s H ⟨us, []⟩ us vs Q E (Room.in1 (Room.in1 room)) I.env0.in1.in1 b r h) fun r s' z => ?_)
  match r, z with
  | .error e, z => exact z.elim
  | .ok (.ret u), z => exact I.after z
  | .ok .next, z => exact z.elim
  | .ok .brk, z => exact z.elim
  | .ok .cont, z => exact z.elim
/-- a pinned record of our own is written -/
theorem inv_pinned {pins : List (Addr × Obj)} {σ : L2.St} {H : Hp} {s : Shared} {h' : Heap} {kS D : Addr} {o o' o2 : Obj} (I : Inv X (pins ++ [(kS, o), (D, o2)]) σ H s) (sb : Heap.SameBut kS s.heap h') (e : h'.get? kS = some o') (nc : ∀ v, o'.data ≠ .cell v)
    (hL : X.s_0.heap.objs.size ≤ kS) (hc : ∀ x c, X.env.cells.lookup x = some c → c ≠ kS) (hp : ∀ p ∈ X.pn ++ pins, p.1 ≠ kS) (hD : D ≠ kS) : Inv X (pins ++ [(kS, o'), (D, o2)]) σ H { s with heap := h' } := by
  have m1 : (kS, o) ∈ X.pn ++ (pins ++ [(kS, o), (D, o2)]) := List.mem_append_right _ (List.mem_append_right _ List.mem_cons_self)
  have m2 : (D, o2) ∈ X.pn ++ (pins ++ [(kS, o), (D, o2)]) := List.mem_append_right _ (List.mem_append_right _ (List.mem_cons_of_mem _ List.mem_cons_self))
  have q := I.pin _ m1
  have J : Inv X (pins ++ [(D, o2)]) σ H s := I.pins_of fun p hp => by
    rcases List.mem_append.mp hp with z | z
    · exact I.pin p (List.mem_append_right _ (List.mem_append_left _ z))
    · rw [List.mem_singleton] at z
      subst z
      exact I.pin _ m2
  have J2 := J.turned (it := kS) (h' := h') (t' := s.toks) (fun b ob hb e => (sb.2 b hb).trans e) q.2.1 q.2.2.1 (.inr hL) hc (fun p h => by
    rcases List.mem_append.mp h with z | z
    · exact hp p (List.mem_append_left _ z)
    · rcases List.mem_append.mp z with z | z
      · exact hp p (List.mem_append_right _ z)
      · rw [List.mem_singleton] at z
        subst z
        exact hD)
  refine J2.pins_of fun p hp => ?_
  rcases List.mem_append.mp hp with z | z
  · exact J2.pin p (List.mem_append_right _ (List.mem_append_left _ z))
  · rcases List.mem_cons.mp z with rfl | z
    · exact ⟨e, q.2.1, q.2.2.1, q.2.2.2.1, nc⟩
    · rw [List.mem_singleton] at z
      subst z
      exact J2.pin _ (List.mem_append_right _ (List.mem_append_right _ (List.mem_singleton.mpr rfl)))
theorem datsV_each {pins : List (Addr × Obj)} {σ : L2.St} {H : Hp} {s : Shared} (I : Inv X pins σ H s) : ∀ {ys : List V} {ds : List PyData} {us : List Value}, DatsV X.K H ys ds → Vals ys us → EachIs (fun u d => ∃ as, Reads s.heap u d as) us ds
  | [], _, _, h, r => by
    cases h
    cases r
    exact .nil
  | _ :: _, _, _, h, r => by
    cases h with
    | cons h1 h2 =>
      cases r with
      | cons r1 r2 => exact .cons (DatV.reads I _ _ _ h1 r1) (datsV_each I h2 r2)
theorem seq_nc {c : String} {xs : Array Value} {n : Nat} : ∀ v, (seqObj c xs n).data ≠ .cell v := fun v z => nomatch z
theorem cr_sortK (F : FnOk X.prog X.w X.K X.mg X.base CX0 k g fd ps sp) (room : Room (k + 2) X.A) (bd : Binds X.K fd ps []) : CallRK X (.builtin "sorted") [Str.ofString "key"] (rSortK X.K g sp) := by
  intro pins s σ H vs zs us ws Q I r rz h
  obtain ⟨a, bs, rfl, rfl, hs, hd, hal, hk, J, j0, js, jd⟩ := h
  obtain ⟨its, rv, hl, hz⟩ := I.list hs
  rw [Vals.ref1 r]
  obtain ⟨w1, rfl, e1⟩ := vals1 rz
  obtain rfl : w1 = Value.ref g := e1
  have hlen : its.length = bs.length := by rw [← rv.length, List.length_map]
  have hZ : its.length ≤ sizeLine := by rw [← rv.length]; exact hz
  refine sorted_of_sort hl.isList hZ (ksk_s1 _ _) (fun _ => ksk_l1 _ _) fun E' => ?_
  show wpAny _ _ (Builtin.«list.sort» ⟨[.ref (s.heap.objs.size + 1)], [(Str.ofString "key", .ref g)]⟩) _ _ _
  rw [ksk_t1]
  have ho := copyHeap_at s.heap its
  generalize hD : s.heap.objs.size + 1 = D at *
  have ltD : s.heap.objs.size < D := by omega
  generalize hh1 : copyHeap s.heap its = h1 at *
  have old1 : ∀ b o, s.heap.get? b = some o → h1.get? b = some o := fun b o e => by rw [← hh1]; exact copyHeap_old e
  have haD : D < h1.objs.size := Heap.lt_size ho
  obtain ⟨e1, ho1⟩ : ∃ e1, (h1.update D (Obj.mapSeq fun _ => (#[] : Array Value))).get? D = some (seqObj "list" #[] e1) := ⟨_, get?_update_seq ho fun _ => #[]⟩
  have hkS : ((h1.update D (Obj.mapSeq fun _ => (#[] : Array Value))).push (seqObj "tuple" its.toArray 0)).objs.size = h1.objs.size + 1 := by rw [size_push', Heap.size_update]
  unfold ksk_tree
  refine wpAny_bind (listItems_at ho rfl ?_)
  refine wpAny_bind (listUpdate_at ho rfl ?_ (by rw [List.size_toArray]; exact hZ) (Nat.zero_le _))
  refine wpAny_bind (seqEpoch_at ho1 rfl ?_)
  refine wpAny_bind (wpAny_newTuple ?_ (by show its.length ≤ _; exact hZ))
  refine wpAny_bind (wpAny_newList ?_ (Nat.zero_le _))
  refine wpAny_holding ?_
  have ltS : s.heap.objs.size < h1.objs.size + 1 := by omega
  have old3 : ∀ b o, s.heap.get? b = some o → (sortingHeap h1 D its).get? b = some o := fun b o e => sortingHeap_old (Nat.ne_of_lt (Nat.lt_trans (Heap.lt_size e) ltD)) (old1 b o e)
  have I3 : Inv X pins σ H { s with heap := sortingHeap h1 D its } := I.kept (t' := s.toks) old3
  have nk3 : (sortingHeap h1 D its).get? (h1.objs.size + 1) = some (seqObj "list" #[] 0) := by
    rw [← hkS]
    exact Heap.get?_push_size _ rfl
  have na3 : (sortingHeap h1 D its).get? D = some (seqObj "list" #[] e1) := Heap.get?_push_of_some _ (Heap.get?_push_of_some _ ho1)
  have new : ∀ b, s.heap.objs.size ≤ b → H b = none ∧ b ≠ X.env.locals ∧ b ∉ X.fs ∧ X.s_0.heap.objs.size ≤ b ∧ (∀ x c, X.env.cells.lookup x = some c → c ≠ b) ∧ ∀ p ∈ X.pn ++ pins, p.1 ≠ b := fun b hb =>
    ⟨I.hok.fresh hb, Nat.ne_of_gt (Nat.lt_of_lt_of_le I.lt hb), I.nofs hb, Nat.le_trans I.sz hb, fun x c e z => by
      obtain ⟨v, q⟩ := I.cell x c e
      exact absurd (Nat.lt_of_lt_of_le q.lt (by rw [z]; exact hb)) (Nat.lt_irrefl _), fun p hp z => absurd (Nat.lt_of_lt_of_le (Heap.lt_size (I.pin p hp).1) (by rw [z]; exact hb)) (Nat.lt_irrefl _)⟩
  obtain ⟨nD1, nD2, nD3, nD4, nD5, nD6⟩ := new D (Nat.le_of_lt ltD)
  obtain ⟨nS1, nS2, nS3, nS4, nS5, nS6⟩ := new (h1.objs.size + 1) (Nat.le_of_lt ltS)
  have hDS : D ≠ h1.objs.size + 1 := Nat.ne_of_lt (Nat.lt_succ_of_lt haD)
  have I4 : Inv X (pins ++ [(h1.objs.size + 1, seqObj "list" #[] 0), (D, seqObj "list" #[] e1)]) σ H { s with heap := sortingHeap h1 D its } := I3.pins_of fun p hp => by
    rcases List.mem_append.mp hp with z | z
    · exact I3.pin p (List.mem_append_right _ z)
    · rcases List.mem_cons.mp z with rfl | z
      · exact ⟨nk3, nS1, nS2, nS3, seq_nc⟩
      · rw [List.mem_singleton] at z
        subst z
        exact ⟨na3, nD1, nD2, nD3, seq_nc⟩
  rw [hkS]
  show wpAny _ _ (ksk_rest D (.ref g) false its.toArray e1 (.ref (h1.objs.size + 1))) _ _ { s with heap := sortingHeap h1 D its }
  generalize h1.objs.size + 1 = kS at *
  unfold ksk_rest
  refine wpAny_bind (wpAny_rule ?_)
  first
    | rw [List.forIn_toArray]
    | (rw [← Array.forIn_toList]; simp only [List.toList_toArray])
    | rw [← Array.forIn_toList]
  refine wpAny_bind (ksk_fold (fun i s' => ∃ kA e ys H', Inv X (pins ++ [(kS, seqObj "list" kA e), (D, seqObj "list" #[] e1)]) σ H' s' ∧ J i ys H' ∧ Vals ys kA.toList ∧ kA.size = i) its 0 _ ⟨#[], 0, [], H, I4, j0, .nil, rfl⟩ ?step ?done)
  case step =>
    rintro j x s' hx ⟨kA, e, ys, H', I', ji, rk, hsz⟩
    simp only [Nat.zero_add] at ji hsz ⊢
    have hj : j < bs.length := by rw [← hlen]; exact (List.getElem?_eq_some_iff.mp hx).1
    have hb : bs[j]? = some bs[j] := List.getElem?_eq_getElem hj
    have rx : RelV bs[j].1 x := by
      obtain ⟨u, e2, ru⟩ := rv.get (i := j) (x := bs[j].1) (by rw [List.getElem?_map, hb]; rfl)
      rw [hx] at e2
      cases e2
      exact ru
    refine wpAny_bind (wpAny_attempt (wpAny_mono (run_in2 (vs := [bs[j].1]) (us := [x]) F room bd I' (.cons rx .nil) (js j bs[j] ys H' hb ji)) (fun v s'' he => ?_) fun _ _ hF => hF.elim))
    obtain ⟨y, H'', I'', ry, jy⟩ := he
    try dsimp only
    have m1 : (kS, seqObj "list" kA e) ∈ X.pn ++ (pins ++ [(kS, seqObj "list" kA e), (D, seqObj "list" #[] e1)]) := List.mem_append_right _ (List.mem_append_right _ List.mem_cons_self)
    have nk2 := (I''.pin _ m1).1
    have s1 := Heap.SameBut.update s''.heap kS (Obj.mapSeq (·.push v))
    obtain ⟨c2, hc2⟩ : ∃ c2, (s''.heap.update kS (Obj.mapSeq (·.push v))).get? kS = some (seqObj "list" (kA.push v) c2) := ⟨_, get?_update_seq nk2 (·.push v)⟩
    have hz2 : kA.size ≤ sizeLine := by rw [hsz]; exact Nat.le_trans (Nat.le_of_lt (by rw [hlen]; exact hj)) hZ
    refine wpAny_bind (listUpdate_at nk2 rfl ?_ hz2 (Nat.le_trans (Nat.le_of_eq (Array.size_push ..)) (Nat.succ_le_succ hz2)))
    refine wpAny_pure ⟨rfl, kA.push v, c2, ys ++ [y], H'', inv_pinned I'' s1 hc2 seq_nc nS4 nS5 nS6 hDS, jy, ?_, by rw [Array.size_push, hsz]⟩
    rw [show (kA.push v).toList = kA.toList ++ [v] from by simp]
    exact rk.append (.cons ry .nil)
  case done =>
    rintro s' ⟨kA, e, ys, H', I', ji, rk, hsz⟩
    rw [Nat.zero_add, hlen] at ji hsz
    obtain ⟨jdat, jq⟩ := jd ys H' ji
    have m1 : (kS, seqObj "list" kA e) ∈ X.pn ++ (pins ++ [(kS, seqObj "list" kA e), (D, seqObj "list" #[] e1)]) := List.mem_append_right _ (List.mem_append_right _ List.mem_cons_self)
    have m2 : (D, seqObj "list" #[] e1) ∈ X.pn ++ (pins ++ [(kS, seqObj "list" kA e), (D, seqObj "list" #[] e1)]) := List.mem_append_right _ (List.mem_append_right _ (List.mem_cons_of_mem _ List.mem_cons_self))
    obtain ⟨nk, hkn, _⟩ := I'.pin _ m1
    obtain ⟨na, hDn, _⟩ := I'.pin _ m2
    have er := datsV_each I' jdat rk
    try dsimp only
    refine wpAny_bind (listItems_at nk rfl ?_)
    have hu : ∀ d, d ∈ bs.map (·.2) → X.A.in1.in1.units + d.depth < cLine := fun d hd2 => by
      obtain ⟨b, hb, rfl⟩ := List.mem_map.mp hd2
      have := hd b hb
      have := room.un
      show X.A.units + 1 + 1 + b.2.depth < _
      omega
    refine keyH_end (κ := dataKind s'.heap (bs.map (·.2))) (h₁ := hideAll s'.heap [kS]) (fun b o _ q => of_hideAll _ q) (hideAll_none _ List.mem_cons_self) nk na hDS.symm (SortsAt.data (s := s') er hal hk hu) (by rw [hsz, hlen]) hZ fun h' tk c k3 n3 => ⟨rfl, ?_⟩
    have ko : KeyedOut false (bs.map (·.2)) its (sortVals (dataKind s'.heap (bs.map (·.2))) false kA.toList its) := ⟨s'.heap, kA.toList, hal, rfl, er⟩
    have eo := keyedOut_each (R := fun u (b : VD) => RelV b.1 u) (fun b : VD => b.2) ko (each_vals rv)
    have kept : ∀ b o, b ≠ kS → b ≠ D → s'.heap.get? b = some o → h'.get? b = some o := fun b o h1 h2 q => k3 b o h2 (hideAll_get _ q (by simp [h1]))
    have lo : ((sortD bs).map (·.1)).length ≤ sizeLine := by
      rw [List.length_map, (sortD_perm bs).length_eq, ← hlen]
      exact hZ
    have trk : ∀ b u, H' b = some u → b ≠ kS ∧ b ≠ D := fun b u q => ⟨fun z => (by rw [z, hkn] at q; cases q), fun z => (by rw [z, hDn] at q; cases q)⟩
    have hP : ∀ p ∈ X.pn ++ pins, p.1 ≠ kS ∧ p.1 ≠ D := fun p hp => ⟨nS6 p hp, nD6 p hp⟩
    have I5 : Inv X pins σ H' s' := I'.pins_of fun p hp => I'.pin p (List.mem_append_right _ (List.mem_append_left _ hp))
    have gl : ∃ o, s'.heap.get? X.env.locals = some o := by
      obtain ⟨m, ⟨o, _, _, e, _⟩, _⟩ := I5.loc
      exact ⟨o, e⟩
    have fin := I5.step (g' := s'.gens) (d' := s'.drawn) (t' := tk) (h' := h') (H' := upd H' D (.lst ((sortD bs).map (·.1)))) (ch := [kS, D]) (fun b hb => by
        rcases List.mem_cons.mp hb with rfl | hb
        · exact ⟨.inr nS4, nS2, nS5, nS6⟩
        · rw [List.mem_singleton] at hb
          subst hb
          exact ⟨.inr nD4, nD2, nD5, nD6⟩)
      (fun b o _ _ hc q _ => kept b o (fun z => hc (by simp [z])) (fun z => hc (by simp [z])) q)
      (fun b o _ _ hc q _ => ⟨o.slots, kept b o (fun z => hc (by simp [z])) (fun z => hc (by simp [z])) q⟩)
      (fun b o hc q n => by rw [upd_ne (fun z => hc (by simp [z]))]; exact n)
      (fun b o hc q => ⟨o, kept b o (fun z => hc (by simp [z])) (fun z => hc (by simp [z])) q⟩)
      (fun b xs q => by rw [upd_ne (trk b _ q).2]; exact q) (fun b o u q => by rw [upd_ne (trk b _ q).2]; exact q) (fun b ps q => ⟨#[], by rw [upd_ne (trk b _ q).2, q]; simp⟩)
      (fun mm hm => by
        obtain ⟨o, es, ep, q, rest⟩ := hm
        exact ⟨o, es, ep, kept _ _ nS2.symm nD2.symm q, rest⟩)
      (fun b u q => by
        by_cases hb : b = D
        · rw [hb, upd_same] at q
          cases q
          rw [hb]
          exact ⟨lo, _, c, vals_each eo, n3⟩
        · rw [upd_ne hb] at q
          have st := I5.hok b u q
          refine st.stay (fun b2 v hb2 q2 => ?_) (fun b2 q2 => by rw [upd_ne (trk b2 _ q2).2]; exact q2) (fun b2 xs q2 => by rw [upd_ne (trk b2 _ q2).2]; exact q2)
          rcases hb2 with rfl | hb2
          · exact kept _ _ (trk _ _ q).1 (trk _ _ q).2 q2
          · exact kept _ _ (trk _ _ hb2).1 (trk _ _ hb2).2 q2) I5.bare
    exact ⟨.ref D, _, fin, rfl, jq D hDn⟩
end
theorem Room.units2 {k : Nat} {A : Around} (r : Room k A) : A.units + 65 < cLine := by have := r.un; omega
theorem op_inDK {X : Cx} {K : PySem.W.Frag} (h : X.K = K) (hu : X.A.units + 65 < cLine) : OpR X (compareOp .In) (rInD K) := by subst h; exact op_inD hu
theorem op_notInDK {X : Cx} {K : PySem.W.Frag} (h : X.K = K) (hu : X.A.units + 65 < cLine) : OpR X (compareOp .NotIn) (rNotInD K) := by subst h; exact op_notInD hu
/-! ### one step, at the goal's head -/
local macro_rules | `(tactic| walk_at "go1") => `(tactic| first
  | (with_reducible apply r_seq) | (with_reducible apply r_set) | (with_reducible apply r_if) | (with_reducible apply r_ret) | (with_reducible apply r_next)
  | (with_reducible apply r_op) | (with_reducible apply r_c) | ((with_reducible apply r_var); exact rfl) | (with_reducible apply r_consA) | (with_reducible apply r_nilA)
  | (with_reducible apply r_call) | (with_reducible apply r_callS) | (with_reducible apply r_CB) | (with_reducible apply r_I0) | (with_reducible apply r_test) | (with_reducible apply r_bl)
  | (with_reducible apply r_B) | (with_reducible apply r_un) | (with_reducible apply r_U) | ((with_reducible apply r_eq); exact rfl) | ((with_reducible apply r_ne); exact rfl)
  | (with_reducible apply r_and) | (with_reducible apply r_or) | (with_reducible apply r_not) | (with_reducible apply r_andV) | (with_reducible apply r_orV) | (with_reducible apply r_notV) | (with_reducible apply r_ifE)
  | (with_reducible apply r_asg) | (with_reducible apply r_sub) | (with_reducible apply r_par) | (with_reducible apply r_drop) | (with_reducible apply r_brk) | (with_reducible apply r_cont)
  | (with_reducible apply r_fld) | (with_reducible apply r_tup) | (with_reducible apply r_lst))
local macro_rules | `(tactic| walk_at "go") => `(tactic| repeat walk_at "go1")
local macro_rules | `(tactic| walk_at "go1") => `(tactic| first | (with_reducible apply r_make) | (with_reducible apply r_makeS))
local macro_rules | `(tactic| walk_at "go1") => `(tactic| first | (with_reducible apply r_for) | (with_reducible apply r_iRng1) | (with_reducible apply r_iList))
local macro_rules | `(tactic| walk_at "go1") => `(tactic| first | ((with_reducible apply r_ixL); exact SqL.of upd_same; exact rfl) | ((with_reducible apply r_ixT); exact SqT.of upd_same; exact rfl))
local macro_rules | `(tactic| walk_at "go2") => `(tactic| first | (refine Or.inl ⟨_, rfl, ?_⟩) | (refine ⟨_, rfl, ?_⟩) | (refine ⟨_, _, rfl, ?_⟩) | (refine ⟨_, _, rfl, rfl, ?_⟩))
local macro_rules | `(tactic| walk_at "go") => `(tactic| repeat first | walk_at "go1" | walk_at "go2")
local macro_rules | `(tactic| walk_at "go1") => `(tactic| ((with_reducible apply r_setL); exact upd_same; exact rfl))
local macro_rules | `(tactic| walk_at "go2") => `(tactic| (refine And.intro (by first | omega | (dsimp only; omega) | decide) ?_))
local macro_rules | `(tactic| walk_at "go1") => `(tactic| (with_reducible apply r_sfld))
local macro_rules | `(tactic| walk_at "go2") => `(tactic| (refine And.intro (show CPow _ _ from ⟨by decide, by decide, by decide⟩) ?_))
local macro_rules | `(tactic| walk_at "go2") => `(tactic| (refine And.intro (by assumption) ?_))
local macro_rules | `(tactic| walk_at "go1") => `(tactic| first | (with_reducible apply ite_nt) | (with_reducible apply ite_nf) | (with_reducible apply iteT) | (with_reducible apply iteF))
local macro_rules | `(tactic| walk_at "go1") => `(tactic| first | (with_reducible apply r_gname) | (with_reducible apply r_gcons) | (with_reducible apply r_gnil) | (with_reducible apply r_dput) | (with_reducible apply r_dnew) | (with_reducible apply r_lc) | (with_reducible apply r_fmt) | (with_reducible apply r_jnil) | (with_reducible apply r_jcons))
local macro_rules | `(tactic| walk_at "js") => `(tactic| repeat first | walk_at "go1" | (refine And.intro (by ((try dsimp only); (try simp only [sapp_nil, sapp_len]); omega)) ?_) | (refine ⟨_, rfl, (by ((try dsimp only); (try simp only [sapp_nil, sapp_len]); omega)), ?_⟩) | walk_at "go2")
/-! ### the text by places -/
def top (i : Nat) : Stmt := PySem.Challenge.pw_linkwork_k09_texts_of_expressions.main.body.getD i (.Pass ⟨0, 0, 0, 0⟩)
abbrev s_BadText___init__ : Stmt := inClass (top 5) 0
abbrev s_is_letter : Stmt := top 8
abbrev s_is_digit : Stmt := top 9
abbrev s_is_name : Stmt := top 10
abbrev s__may_follow : Stmt := top 11
abbrev s_Ratio___init__ : Stmt := inClass (top 15) 0
abbrev s_Ratio___eq__ : Stmt := inClass (top 15) 1
abbrev s_Ratio___add__ : Stmt := inClass (top 15) 2
abbrev s_Ratio___sub__ : Stmt := inClass (top 15) 3
abbrev s_Ratio___mul__ : Stmt := inClass (top 15) 4
abbrev s_Ratio___neg__ : Stmt := inClass (top 15) 5
abbrev s_ratio_text : Stmt := top 16
abbrev s_read_ratio : Stmt := top 17
abbrev s__integer_text : Stmt := top 18
abbrev s__read_integer : Stmt := top 19
abbrev s_parts_of : Stmt := top 24
abbrev s_is_well_formed : Stmt := top 25
abbrev s_kind_of : Stmt := top 26
abbrev s_joined_kind : Stmt := top 27
abbrev s__usual_kind : Stmt := top 28
abbrev s__fit : Stmt := top 29
abbrev s__is_single : Stmt := top 30
abbrev s__is_double : Stmt := top 31
abbrev s__is_order : Stmt := top 32
abbrev s_is_expression : Stmt := top 36
abbrev s_expression_text : Stmt := top 37
abbrev s_read_expression : Stmt := top 38
abbrev s__in_postfix : Stmt := top 39
abbrev s__built_leaf : Stmt := top 40
abbrev s__built_whole : Stmt := top 41
abbrev s__built_sample : Stmt := top 42
abbrev s__checked_leaf : Stmt := top 43
abbrev s__law_stream : Stmt := top 45
abbrev s__law_draw : Stmt := top 46
abbrev s__law_small_ratio : Stmt := top 47
abbrev s__law_number : Stmt := top 48
abbrev s__law_truth : Stmt := top 49
abbrev s__law_names : Stmt := top 50
abbrev s__law_any : Stmt := top 51
abbrev s__law_parts : Stmt := top 52
abbrev s__law_size : Stmt := top 53
abbrev s__law_number_text : Stmt := top 54
abbrev s__law_text : Stmt := top 55
abbrev s__law_truths : Stmt := top 56
abbrev s_law : Stmt := top 57
/-! ### the head's facts -/
def d_BadText___init__ : He.DefD := ⟨(("BadText" : Str), some ("__init__" : Str)), ("__init__" : Str), ("BadText.__init__" : Str), defArgs s_BadText___init__, defBody s_BadText___init__, defScope s_BadText___init__, [], []⟩
def d_is_letter : He.DefD := ⟨(("is_letter" : Str), none), ("is_letter" : Str), ("is_letter" : Str), defArgs s_is_letter, defBody s_is_letter, defScope s_is_letter, [], []⟩
def d_is_digit : He.DefD := ⟨(("is_digit" : Str), none), ("is_digit" : Str), ("is_digit" : Str), defArgs s_is_digit, defBody s_is_digit, defScope s_is_digit, [], []⟩
def d_is_name : He.DefD := ⟨(("is_name" : Str), none), ("is_name" : Str), ("is_name" : Str), defArgs s_is_name, defBody s_is_name, defScope s_is_name, [], []⟩
def d__may_follow : He.DefD := ⟨(("_may_follow" : Str), none), ("_may_follow" : Str), ("_may_follow" : Str), defArgs s__may_follow, defBody s__may_follow, defScope s__may_follow, [], []⟩
def d_Ratio___init__ : He.DefD := ⟨(("Ratio" : Str), some ("__init__" : Str)), ("__init__" : Str), ("Ratio.__init__" : Str), defArgs s_Ratio___init__, defBody s_Ratio___init__, defScope s_Ratio___init__, [(.int (1))], []⟩
def d_Ratio___eq__ : He.DefD := ⟨(("Ratio" : Str), some ("__eq__" : Str)), ("__eq__" : Str), ("Ratio.__eq__" : Str), defArgs s_Ratio___eq__, defBody s_Ratio___eq__, defScope s_Ratio___eq__, [], []⟩
def d_Ratio___add__ : He.DefD := ⟨(("Ratio" : Str), some ("__add__" : Str)), ("__add__" : Str), ("Ratio.__add__" : Str), defArgs s_Ratio___add__, defBody s_Ratio___add__, defScope s_Ratio___add__, [], []⟩
def d_Ratio___sub__ : He.DefD := ⟨(("Ratio" : Str), some ("__sub__" : Str)), ("__sub__" : Str), ("Ratio.__sub__" : Str), defArgs s_Ratio___sub__, defBody s_Ratio___sub__, defScope s_Ratio___sub__, [], []⟩
def d_Ratio___mul__ : He.DefD := ⟨(("Ratio" : Str), some ("__mul__" : Str)), ("__mul__" : Str), ("Ratio.__mul__" : Str), defArgs s_Ratio___mul__, defBody s_Ratio___mul__, defScope s_Ratio___mul__, [], []⟩
def d_Ratio___neg__ : He.DefD := ⟨(("Ratio" : Str), some ("__neg__" : Str)), ("__neg__" : Str), ("Ratio.__neg__" : Str), defArgs s_Ratio___neg__, defBody s_Ratio___neg__, defScope s_Ratio___neg__, [], []⟩
def d_ratio_text : He.DefD := ⟨(("ratio_text" : Str), none), ("ratio_text" : Str), ("ratio_text" : Str), defArgs s_ratio_text, defBody s_ratio_text, defScope s_ratio_text, [], []⟩
def d_read_ratio : He.DefD := ⟨(("read_ratio" : Str), none), ("read_ratio" : Str), ("read_ratio" : Str), defArgs s_read_ratio, defBody s_read_ratio, defScope s_read_ratio, [], []⟩
def d__integer_text : He.DefD := ⟨(("_integer_text" : Str), none), ("_integer_text" : Str), ("_integer_text" : Str), defArgs s__integer_text, defBody s__integer_text, defScope s__integer_text, [], []⟩
def d__read_integer : He.DefD := ⟨(("_read_integer" : Str), none), ("_read_integer" : Str), ("_read_integer" : Str), defArgs s__read_integer, defBody s__read_integer, defScope s__read_integer, [], []⟩
def d_parts_of : He.DefD := ⟨(("parts_of" : Str), none), ("parts_of" : Str), ("parts_of" : Str), defArgs s_parts_of, defBody s_parts_of, defScope s_parts_of, [], []⟩
def d_is_well_formed : He.DefD := ⟨(("is_well_formed" : Str), none), ("is_well_formed" : Str), ("is_well_formed" : Str), defArgs s_is_well_formed, defBody s_is_well_formed, defScope s_is_well_formed, [], []⟩
def d_kind_of : He.DefD := ⟨(("kind_of" : Str), none), ("kind_of" : Str), ("kind_of" : Str), defArgs s_kind_of, defBody s_kind_of, defScope s_kind_of, [], []⟩
def d_joined_kind : He.DefD := ⟨(("joined_kind" : Str), none), ("joined_kind" : Str), ("joined_kind" : Str), defArgs s_joined_kind, defBody s_joined_kind, defScope s_joined_kind, [], []⟩
def d__usual_kind : He.DefD := ⟨(("_usual_kind" : Str), none), ("_usual_kind" : Str), ("_usual_kind" : Str), defArgs s__usual_kind, defBody s__usual_kind, defScope s__usual_kind, [], []⟩
def d__fit : He.DefD := ⟨(("_fit" : Str), none), ("_fit" : Str), ("_fit" : Str), defArgs s__fit, defBody s__fit, defScope s__fit, [], []⟩
def d__is_single : He.DefD := ⟨(("_is_single" : Str), none), ("_is_single" : Str), ("_is_single" : Str), defArgs s__is_single, defBody s__is_single, defScope s__is_single, [], []⟩
def d__is_double : He.DefD := ⟨(("_is_double" : Str), none), ("_is_double" : Str), ("_is_double" : Str), defArgs s__is_double, defBody s__is_double, defScope s__is_double, [], []⟩
def d__is_order : He.DefD := ⟨(("_is_order" : Str), none), ("_is_order" : Str), ("_is_order" : Str), defArgs s__is_order, defBody s__is_order, defScope s__is_order, [], []⟩
def d_is_expression : He.DefD := ⟨(("is_expression" : Str), none), ("is_expression" : Str), ("is_expression" : Str), defArgs s_is_expression, defBody s_is_expression, defScope s_is_expression, [], []⟩
def d_expression_text : He.DefD := ⟨(("expression_text" : Str), none), ("expression_text" : Str), ("expression_text" : Str), defArgs s_expression_text, defBody s_expression_text, defScope s_expression_text, [], []⟩
def d_read_expression : He.DefD := ⟨(("read_expression" : Str), none), ("read_expression" : Str), ("read_expression" : Str), defArgs s_read_expression, defBody s_read_expression, defScope s_read_expression, [], []⟩
def d__in_postfix : He.DefD := ⟨(("_in_postfix" : Str), none), ("_in_postfix" : Str), ("_in_postfix" : Str), defArgs s__in_postfix, defBody s__in_postfix, defScope s__in_postfix, [], []⟩
def d__built_leaf : He.DefD := ⟨(("_built_leaf" : Str), none), ("_built_leaf" : Str), ("_built_leaf" : Str), defArgs s__built_leaf, defBody s__built_leaf, defScope s__built_leaf, [], []⟩
def d__built_whole : He.DefD := ⟨(("_built_whole" : Str), none), ("_built_whole" : Str), ("_built_whole" : Str), defArgs s__built_whole, defBody s__built_whole, defScope s__built_whole, [], []⟩
def d__built_sample : He.DefD := ⟨(("_built_sample" : Str), none), ("_built_sample" : Str), ("_built_sample" : Str), defArgs s__built_sample, defBody s__built_sample, defScope s__built_sample, [], []⟩
def d__checked_leaf : He.DefD := ⟨(("_checked_leaf" : Str), none), ("_checked_leaf" : Str), ("_checked_leaf" : Str), defArgs s__checked_leaf, defBody s__checked_leaf, defScope s__checked_leaf, [], []⟩
def d__law_stream : He.DefD := ⟨(("_law_stream" : Str), none), ("_law_stream" : Str), ("_law_stream" : Str), defArgs s__law_stream, defBody s__law_stream, defScope s__law_stream, [], []⟩
def d__law_draw : He.DefD := ⟨(("_law_draw" : Str), none), ("_law_draw" : Str), ("_law_draw" : Str), defArgs s__law_draw, defBody s__law_draw, defScope s__law_draw, [], []⟩
def d__law_small_ratio : He.DefD := ⟨(("_law_small_ratio" : Str), none), ("_law_small_ratio" : Str), ("_law_small_ratio" : Str), defArgs s__law_small_ratio, defBody s__law_small_ratio, defScope s__law_small_ratio, [], []⟩
def d__law_number : He.DefD := ⟨(("_law_number" : Str), none), ("_law_number" : Str), ("_law_number" : Str), defArgs s__law_number, defBody s__law_number, defScope s__law_number, [], []⟩
def d__law_truth : He.DefD := ⟨(("_law_truth" : Str), none), ("_law_truth" : Str), ("_law_truth" : Str), defArgs s__law_truth, defBody s__law_truth, defScope s__law_truth, [], []⟩
def d__law_names : He.DefD := ⟨(("_law_names" : Str), none), ("_law_names" : Str), ("_law_names" : Str), defArgs s__law_names, defBody s__law_names, defScope s__law_names, [], []⟩
def d__law_any : He.DefD := ⟨(("_law_any" : Str), none), ("_law_any" : Str), ("_law_any" : Str), defArgs s__law_any, defBody s__law_any, defScope s__law_any, [], []⟩
def d__law_parts : He.DefD := ⟨(("_law_parts" : Str), none), ("_law_parts" : Str), ("_law_parts" : Str), defArgs s__law_parts, defBody s__law_parts, defScope s__law_parts, [], []⟩
def d__law_size : He.DefD := ⟨(("_law_size" : Str), none), ("_law_size" : Str), ("_law_size" : Str), defArgs s__law_size, defBody s__law_size, defScope s__law_size, [], []⟩
def d__law_number_text : He.DefD := ⟨(("_law_number_text" : Str), none), ("_law_number_text" : Str), ("_law_number_text" : Str), defArgs s__law_number_text, defBody s__law_number_text, defScope s__law_number_text, [], []⟩
def d__law_text : He.DefD := ⟨(("_law_text" : Str), none), ("_law_text" : Str), ("_law_text" : Str), defArgs s__law_text, defBody s__law_text, defScope s__law_text, [], []⟩
def d__law_truths : He.DefD := ⟨(("_law_truths" : Str), none), ("_law_truths" : Str), ("_law_truths" : Str), defArgs s__law_truths, defBody s__law_truths, defScope s__law_truths, [], []⟩
def d_law : He.DefD := ⟨(("law" : Str), none), ("law" : Str), ("law" : Str), defArgs s_law, defBody s_law, defScope s_law, [], []⟩
def fnL : List He.DefD := [d_BadText___init__, d_is_letter, d_is_digit, d_is_name, d__may_follow, d_Ratio___init__, d_Ratio___eq__, d_Ratio___add__, d_Ratio___sub__, d_Ratio___mul__, d_Ratio___neg__, d_ratio_text, d_read_ratio, d__integer_text, d__read_integer, d_parts_of, d_is_well_formed, d_kind_of, d_joined_kind, d__usual_kind, d__fit, d__is_single, d__is_double, d__is_order, d_is_expression, d_expression_text, d_read_expression, d__in_postfix, d__built_leaf, d__built_whole, d__built_sample, d__checked_leaf, d__law_stream, d__law_draw, d__law_small_ratio, d__law_number, d__law_truth, d__law_names, d__law_any, d__law_parts, d__law_size, d__law_number_text, d__law_text, d__law_truths, d_law]
def faL : List He.Fa := [.glo ("is_letter" : Str), .glo ("is_digit" : Str), .glo ("is_name" : Str), .glo ("_may_follow" : Str), .glo ("ratio_text" : Str), .glo ("read_ratio" : Str), .glo ("_integer_text" : Str), .glo ("_read_integer" : Str), .glo ("parts_of" : Str), .glo ("is_well_formed" : Str), .glo ("kind_of" : Str), .glo ("joined_kind" : Str), .glo ("_usual_kind" : Str), .glo ("_fit" : Str), .glo ("_is_single" : Str), .glo ("_is_double" : Str), .glo ("_is_order" : Str), .glo ("is_expression" : Str), .glo ("expression_text" : Str), .glo ("read_expression" : Str), .glo ("_in_postfix" : Str), .glo ("_built_leaf" : Str), .glo ("_built_whole" : Str), .glo ("_built_sample" : Str), .glo ("_checked_leaf" : Str), .glo ("_law_stream" : Str), .glo ("_law_draw" : Str), .glo ("_law_small_ratio" : Str), .glo ("_law_number" : Str), .glo ("_law_truth" : Str), .glo ("_law_names" : Str), .glo ("_law_any" : Str), .glo ("_law_parts" : Str), .glo ("_law_size" : Str), .glo ("_law_number_text" : Str), .glo ("_law_text" : Str), .glo ("_law_truths" : Str), .glo ("law" : Str), .glo ("LinkworkError" : Str), .glo ("ByZero" : Str), .glo ("TooLarge" : Str), .glo ("BadText" : Str), .glo ("Ratio" : Str), .free ("abs" : Str), .free ("all" : Str), .free ("bool" : Str), .free ("divmod" : Str), .free ("enumerate" : Str), .free ("int" : Str), .free ("isinstance" : Str), .free ("len" : Str), .free ("list" : Str), .free ("max" : Str), .free ("range" : Str), .free ("str" : Str), .free ("sum" : Str), .free ("tuple" : Str), .free ("zip" : Str), .int ("MOST_CHARACTERS" : Str) (80), .int ("CHUNK_DIGITS" : Str) (64), .int ("CHUNK" : Str) (10000000000000000000000000000000000000000000000000000000000000000), .int ("MOST_ORDER" : Str) (4), .glo ("NEEDED_KINDS" : Str), .glo ("NUMBER_WORDS" : Str), .int ("MOST_SIZE" : Str) (200), .int ("MOST_DEPTH" : Str) (30), .exc ("LinkworkError" : Str), .exc ("ByZero" : Str), .exc ("TooLarge" : Str), .cls ("Ratio" : Str), .noat ("Ratio" : Str) ("top" : Str), .noat ("Ratio" : Str) ("bottom" : Str), .mkr ("Ratio" : Str), .meth ("Ratio" : Str) ("__eq__" : Str), .meth ("Ratio" : Str) ("__add__" : Str), .meth ("Ratio" : Str) ("__sub__" : Str), .meth ("Ratio" : Str) ("__mul__" : Str), .meth ("Ratio" : Str) ("__neg__" : Str), .exm ("ByZero" : Str) ("ByZero" : Str) true, .exm ("BadText" : Str) ("BadText" : Str) true]
def ex_needs (K : PySem.W.Frag) : Bool := ([("neg", ["number"]), ("add", ["number", "number"]), ("sub", ["number", "number"]), ("mul", ["number", "number"]), ("div", ["number", "number"]), ("not", ["truth"]), ("and", ["truth", "truth"]), ("or", ["truth", "truth"]), ("less", ["number", "number"]), ("atmost", ["number", "number"]), ("same", ["either", "either"]), ("if", ["truth", "either", "either"])] : List (Str × List Str)).all fun p => match PySem.W.nsIn K (He.ga K ("NEEDED_KINDS" : Str)) p.1 with | some (some (.ref a)) => tupStrs K a p.2 | _ => false
def ex_imp_gcd (K : PySem.W.Frag) : Bool := He.eqO (PySem.W.nsIn K mainGlobals ("gcd" : Str)) (some (some (.builtin "math.gcd")))
def ex_lw_LinkworkError (K : PySem.W.Frag) : Bool := lwB K (He.ga K ("LinkworkError" : Str))
def ex_excC_LinkworkError (K : PySem.W.Frag) : Bool := excCB K (He.ga K ("LinkworkError" : Str))
def ex_excC_ByZero (K : PySem.W.Frag) : Bool := excCB K (He.ga K ("ByZero" : Str))
def ex_excC_TooLarge (K : PySem.W.Frag) : Bool := excCB K (He.ga K ("TooLarge" : Str))
def ex_excC_BadText (K : PySem.W.Frag) : Bool := excCB K (He.ga K ("BadText" : Str))
def ex_oex_BadText (K : PySem.W.Frag) : Bool := oexB K (He.ga K ("BadText" : Str)) (He.ma K (He.ga K ("BadText" : Str)) "__init__")
def ex_xf_BadText_at (K : PySem.W.Frag) : Bool := He.eqO (PySem.W.findIn K (.ref (He.ga K ("BadText" : Str))) ("at" : Str)) (some none)
def ex_xfr_BadText (K : PySem.W.Frag) : Bool := xfB K (He.ga K ("BadText" : Str))
def ex_isi_Ratio (K : PySem.W.Frag) : Bool := isiCB K (He.ga K ("Ratio" : Str))
def ex_first_Ratio (K : PySem.W.Frag) : Bool := PySem.W.selfFirst K (He.ga K ("Ratio" : Str))
def ex_t_NUMBER_WORDS (K : PySem.W.Frag) : Bool := tupStrs K (He.ga K ("NUMBER_WORDS" : Str)) [("num" : Str), ("time" : Str), ("var" : Str), ("neg" : Str), ("add" : Str), ("sub" : Str), ("mul" : Str), ("div" : Str)]
def ex_tin_NEEDED_KINDS (K : PySem.W.Frag) : Bool := [("neg" : Str), ("add" : Str), ("sub" : Str), ("mul" : Str), ("div" : Str), ("not" : Str), ("and" : Str), ("or" : Str), ("less" : Str), ("atmost" : Str), ("same" : Str), ("if" : Str)].all fun x => inTab K (He.ga K ("NEEDED_KINDS" : Str)) x true
def ex_tout_NEEDED_KINDS (K : PySem.W.Frag) : Bool := [("var" : Str), ("pre" : Str), ("num" : Str), ("truth" : Str), ("time" : Str), ("initial" : Str), ("sample" : Str), ("times" : Str)].all fun x => inTab K (He.ga K ("NEEDED_KINDS" : Str)) x false
def ex_kit_ByZero_LinkworkError (K : PySem.W.Frag) : Bool := decide (PySem.W.kitOne K (.ref (He.ga K ("ByZero" : Str))) (.ref (He.ga K ("LinkworkError" : Str))) = some true)
def ex_kit_Ratio_Ratio (K : PySem.W.Frag) : Bool := decide (PySem.W.kitOne K (.ref (He.ga K ("Ratio" : Str))) (.ref (He.ga K ("Ratio" : Str))) = some true)
def ex_kit_t_list_Ratio (K : PySem.W.Frag) : Bool := decide (PySem.W.kitOne K (.type "list") (.ref (He.ga K ("Ratio" : Str))) = some false)
def ex_kit_t_tuple_Ratio (K : PySem.W.Frag) : Bool := decide (PySem.W.kitOne K (.type "tuple") (.ref (He.ga K ("Ratio" : Str))) = some false)
def ex_kit_t_str_Ratio (K : PySem.W.Frag) : Bool := decide (PySem.W.kitOne K (.type "str") (.ref (He.ga K ("Ratio" : Str))) = some false)
def ex_kit_t_int_Ratio (K : PySem.W.Frag) : Bool := decide (PySem.W.kitOne K (.type "int") (.ref (He.ga K ("Ratio" : Str))) = some false)
def ex_kit_t_bool_Ratio (K : PySem.W.Frag) : Bool := decide (PySem.W.kitOne K (.type "bool") (.ref (He.ga K ("Ratio" : Str))) = some false)
def ex_kit_t_NoneType_Ratio (K : PySem.W.Frag) : Bool := decide (PySem.W.kitOne K (.type "NoneType") (.ref (He.ga K ("Ratio" : Str))) = some false)
def ex_kit_t_list_t_list (K : PySem.W.Frag) : Bool := decide (PySem.W.kitOne K (.type "list") (.type "list") = some true)
def ex_kit_t_tuple_t_tuple (K : PySem.W.Frag) : Bool := decide (PySem.W.kitOne K (.type "tuple") (.type "tuple") = some true)
def ex_kit_t_str_t_tuple (K : PySem.W.Frag) : Bool := decide (PySem.W.kitOne K (.type "str") (.type "tuple") = some false)
def ex_kit_t_int_t_tuple (K : PySem.W.Frag) : Bool := decide (PySem.W.kitOne K (.type "int") (.type "tuple") = some false)
def ex_kit_t_bool_t_tuple (K : PySem.W.Frag) : Bool := decide (PySem.W.kitOne K (.type "bool") (.type "tuple") = some false)
def ex_kit_t_list_t_tuple (K : PySem.W.Frag) : Bool := decide (PySem.W.kitOne K (.type "list") (.type "tuple") = some false)
def ex_kit_t_NoneType_t_tuple (K : PySem.W.Frag) : Bool := decide (PySem.W.kitOne K (.type "NoneType") (.type "tuple") = some false)
def ex_kit_Ratio_t_tuple (K : PySem.W.Frag) : Bool := decide (PySem.W.kitOne K (.ref (He.ga K ("Ratio" : Str))) (.type "tuple") = some false)
def ex_kit_t_str_t_bool (K : PySem.W.Frag) : Bool := decide (PySem.W.kitOne K (.type "str") (.type "bool") = some false)
def ex_kit_t_int_t_bool (K : PySem.W.Frag) : Bool := decide (PySem.W.kitOne K (.type "int") (.type "bool") = some false)
def ex_kit_t_bool_t_bool (K : PySem.W.Frag) : Bool := decide (PySem.W.kitOne K (.type "bool") (.type "bool") = some true)
def ex_kit_t_tuple_t_bool (K : PySem.W.Frag) : Bool := decide (PySem.W.kitOne K (.type "tuple") (.type "bool") = some false)
def ex_kit_t_list_t_bool (K : PySem.W.Frag) : Bool := decide (PySem.W.kitOne K (.type "list") (.type "bool") = some false)
def ex_kit_t_NoneType_t_bool (K : PySem.W.Frag) : Bool := decide (PySem.W.kitOne K (.type "NoneType") (.type "bool") = some false)
def ex_kit_Ratio_t_bool (K : PySem.W.Frag) : Bool := decide (PySem.W.kitOne K (.ref (He.ga K ("Ratio" : Str))) (.type "bool") = some false)
def ex_kit_t_str_t_int (K : PySem.W.Frag) : Bool := decide (PySem.W.kitOne K (.type "str") (.type "int") = some false)
def ex_kit_t_int_t_int (K : PySem.W.Frag) : Bool := decide (PySem.W.kitOne K (.type "int") (.type "int") = some true)
def ex_kit_t_bool_t_int (K : PySem.W.Frag) : Bool := decide (PySem.W.kitOne K (.type "bool") (.type "int") = some true)
def ex_kit_t_tuple_t_int (K : PySem.W.Frag) : Bool := decide (PySem.W.kitOne K (.type "tuple") (.type "int") = some false)
def ex_kit_t_list_t_int (K : PySem.W.Frag) : Bool := decide (PySem.W.kitOne K (.type "list") (.type "int") = some false)
def ex_kit_t_NoneType_t_int (K : PySem.W.Frag) : Bool := decide (PySem.W.kitOne K (.type "NoneType") (.type "int") = some false)
def ex_kit_Ratio_t_int (K : PySem.W.Frag) : Bool := decide (PySem.W.kitOne K (.ref (He.ga K ("Ratio" : Str))) (.type "int") = some false)
def ex_kit_t_str_t_str (K : PySem.W.Frag) : Bool := decide (PySem.W.kitOne K (.type "str") (.type "str") = some true)
def ex_kit_t_int_t_str (K : PySem.W.Frag) : Bool := decide (PySem.W.kitOne K (.type "int") (.type "str") = some false)
def ex_kit_t_bool_t_str (K : PySem.W.Frag) : Bool := decide (PySem.W.kitOne K (.type "bool") (.type "str") = some false)
def ex_kit_t_tuple_t_str (K : PySem.W.Frag) : Bool := decide (PySem.W.kitOne K (.type "tuple") (.type "str") = some false)
def ex_kit_t_list_t_str (K : PySem.W.Frag) : Bool := decide (PySem.W.kitOne K (.type "list") (.type "str") = some false)
def ex_kit_t_NoneType_t_str (K : PySem.W.Frag) : Bool := decide (PySem.W.kitOne K (.type "NoneType") (.type "str") = some false)
def ex_kit_Ratio_t_str (K : PySem.W.Frag) : Bool := decide (PySem.W.kitOne K (.ref (He.ga K ("Ratio" : Str))) (.type "str") = some false)
def exL : List (PySem.W.Frag → Bool) := [ex_needs, ex_imp_gcd, ex_lw_LinkworkError, ex_excC_LinkworkError, ex_excC_ByZero, ex_excC_TooLarge, ex_excC_BadText, ex_oex_BadText, ex_xf_BadText_at, ex_xfr_BadText, ex_isi_Ratio, ex_first_Ratio, ex_t_NUMBER_WORDS, ex_tin_NEEDED_KINDS, ex_tout_NEEDED_KINDS, ex_kit_ByZero_LinkworkError, ex_kit_Ratio_Ratio, ex_kit_t_list_Ratio, ex_kit_t_tuple_Ratio, ex_kit_t_str_Ratio, ex_kit_t_int_Ratio, ex_kit_t_bool_Ratio, ex_kit_t_NoneType_Ratio, ex_kit_t_list_t_list, ex_kit_t_tuple_t_tuple, ex_kit_t_str_t_tuple, ex_kit_t_int_t_tuple, ex_kit_t_bool_t_tuple, ex_kit_t_list_t_tuple, ex_kit_t_NoneType_t_tuple, ex_kit_Ratio_t_tuple, ex_kit_t_str_t_bool, ex_kit_t_int_t_bool, ex_kit_t_bool_t_bool, ex_kit_t_tuple_t_bool, ex_kit_t_list_t_bool, ex_kit_t_NoneType_t_bool, ex_kit_Ratio_t_bool, ex_kit_t_str_t_int, ex_kit_t_int_t_int, ex_kit_t_bool_t_int, ex_kit_t_tuple_t_int, ex_kit_t_list_t_int, ex_kit_t_NoneType_t_int, ex_kit_Ratio_t_int, ex_kit_t_str_t_str, ex_kit_t_int_t_str, ex_kit_t_bool_t_str, ex_kit_t_tuple_t_str, ex_kit_t_list_t_str, ex_kit_t_NoneType_t_str, ex_kit_Ratio_t_str]
def exB (K : PySem.W.Frag) : Bool := exL.all fun f => f K
abbrev R : PySem.W.OpenRow := PySem.W.OpenLaw.row PySem.Challenge.rw_linkwork_k09_texts_of_expressions
def tabL : List TabS := [(fun K => He.ga K ("NEEDED_KINDS" : Str), [("neg" : Str), ("add" : Str), ("sub" : Str), ("mul" : Str), ("div" : Str), ("not" : Str), ("and" : Str), ("or" : Str), ("less" : Str), ("atmost" : Str), ("same" : Str), ("if" : Str)])]
abbrev hk : PySem.W.Hook := hookU 5 faL fnL exB tabL
def ob (s : PySem.W.SharedT) : AlU := obsU 5 faL fnL exB tabL (HeadRun.getT s)
theorem ob_eq (s : PySem.W.SharedT) : ob s = hk.obs s.abs := obsU_eq (HeadRun.getT_eq s)
def looseL : List PySem.Str := [("__name__" : Str), ("LinkworkError" : Str), ("ByZero" : Str), ("TooLarge" : Str), ("BadText" : Str), ("MOST_CHARACTERS" : Str), ("is_letter" : Str), ("is_digit" : Str), ("is_name" : Str), ("_may_follow" : Str), ("CHUNK_DIGITS" : Str), ("CHUNK" : Str), ("Ratio" : Str), ("ratio_text" : Str), ("read_ratio" : Str), ("_integer_text" : Str), ("_read_integer" : Str), ("MOST_ORDER" : Str), ("NEEDED_KINDS" : Str), ("NUMBER_WORDS" : Str), ("parts_of" : Str), ("is_well_formed" : Str), ("kind_of" : Str), ("joined_kind" : Str), ("_usual_kind" : Str), ("_fit" : Str), ("_is_single" : Str), ("_is_double" : Str), ("_is_order" : Str), ("MOST_SIZE" : Str), ("MOST_DEPTH" : Str), ("is_expression" : Str), ("expression_text" : Str), ("read_expression" : Str), ("_in_postfix" : Str), ("_built_leaf" : Str), ("_built_whole" : Str), ("_built_sample" : Str), ("_checked_leaf" : Str), ("_law_stream" : Str), ("_law_draw" : Str), ("_law_small_ratio" : Str), ("_law_number" : Str), ("_law_truth" : Str), ("_law_names" : Str), ("_law_any" : Str), ("_law_parts" : Str), ("_law_size" : Str), ("_law_number_text" : Str), ("_law_text" : Str), ("_law_truths" : Str)]
abbrev qv : Program := PySem.W.view R.prog [0, 57]
theorem run_false (w : World) : HeadRun.RunEqI R qv hk ob 30000 looseL (w.withFollow "special-get-raises" false) := by
  unfold HeadRun.RunEqI
  kernel_rfl
theorem run_true (w : World) : HeadRun.RunEqI R qv hk ob 30000 looseL (w.withFollow "special-get-raises" true) := by
  unfold HeadRun.RunEqI
  kernel_rfl
theorem run (w : World) : HeadRun.RunEqI R qv hk ob 30000 looseL w := PySem.W.byRow2 "special-get-raises" (P := fun w => HeadRun.RunEqI R qv hk ob 30000 looseL w) run_false run_true w
/-! ### the facts by names -/
def Top (w : World) (K : PySem.W.Frag) (mg : Str → Option Value) : Prop := ∃ h : Heap, K.In h ∧ h.Ns mainGlobals mg ∧ SaysU faL fnL exB tabL w K
noncomputable def fdOf (K : PySem.W.Frag) (d : He.DefD) : FuncData := @Classical.epsilon FuncData ⟨PySem.W.fnOf d.name d.qual d.params d.body d.scope .none .none .none .none none .none .none⟩ fun fd => FunD K d.name d.qual d.params d.body d.scope (d.dvs K) (d.kws K) (He.fAd K d.at_) fd
section
variable {w : World} {K : PySem.W.Frag} {mg : Str → Option Value}
theorem Top.fun_ (T : Top w K mg) (i : Nat) {d : He.DefD} (h : fnL[i]? = some d) : FunD K d.name d.qual d.params d.body d.scope (d.dvs K) (d.kws K) (He.fAd K d.at_) (fdOf K d) := by
  obtain ⟨_, _, _, c⟩ := T
  exact Classical.epsilon_spec (c.d.def_ i h)
theorem Top.fact (T : Top w K mg) (i : Nat) {f : He.Fa} (h : faL[i]? = some f) : f.ok K = true := by
  obtain ⟨_, _, _, c⟩ := T
  exact c.d.fact i h
theorem Top.ex (T : Top w K mg) (i : Nat) {f : PySem.W.Frag → Bool} (h : exL[i]? = some f) : f K = true := by
  obtain ⟨_, _, _, c⟩ := T
  exact List.all_eq_true.mp (show (exL.all fun f => f K) = true from c.more) f (List.mem_of_getElem? h)
theorem Top.g_is_letter (T : Top w K mg) : mg ("is_letter" : Str) = some (.ref (He.ga K ("is_letter" : Str))) := by obtain ⟨h, X, G, c⟩ := T; exact He.glo_ok X G (c.d.fact 0 rfl)
theorem Top.g_is_digit (T : Top w K mg) : mg ("is_digit" : Str) = some (.ref (He.ga K ("is_digit" : Str))) := by obtain ⟨h, X, G, c⟩ := T; exact He.glo_ok X G (c.d.fact 1 rfl)
theorem Top.g_is_name (T : Top w K mg) : mg ("is_name" : Str) = some (.ref (He.ga K ("is_name" : Str))) := by obtain ⟨h, X, G, c⟩ := T; exact He.glo_ok X G (c.d.fact 2 rfl)
theorem Top.g__may_follow (T : Top w K mg) : mg ("_may_follow" : Str) = some (.ref (He.ga K ("_may_follow" : Str))) := by obtain ⟨h, X, G, c⟩ := T; exact He.glo_ok X G (c.d.fact 3 rfl)
theorem Top.g_ratio_text (T : Top w K mg) : mg ("ratio_text" : Str) = some (.ref (He.ga K ("ratio_text" : Str))) := by obtain ⟨h, X, G, c⟩ := T; exact He.glo_ok X G (c.d.fact 4 rfl)
theorem Top.g_read_ratio (T : Top w K mg) : mg ("read_ratio" : Str) = some (.ref (He.ga K ("read_ratio" : Str))) := by obtain ⟨h, X, G, c⟩ := T; exact He.glo_ok X G (c.d.fact 5 rfl)
theorem Top.g__integer_text (T : Top w K mg) : mg ("_integer_text" : Str) = some (.ref (He.ga K ("_integer_text" : Str))) := by obtain ⟨h, X, G, c⟩ := T; exact He.glo_ok X G (c.d.fact 6 rfl)
theorem Top.g__read_integer (T : Top w K mg) : mg ("_read_integer" : Str) = some (.ref (He.ga K ("_read_integer" : Str))) := by obtain ⟨h, X, G, c⟩ := T; exact He.glo_ok X G (c.d.fact 7 rfl)
theorem Top.g_parts_of (T : Top w K mg) : mg ("parts_of" : Str) = some (.ref (He.ga K ("parts_of" : Str))) := by obtain ⟨h, X, G, c⟩ := T; exact He.glo_ok X G (c.d.fact 8 rfl)
theorem Top.g_is_well_formed (T : Top w K mg) : mg ("is_well_formed" : Str) = some (.ref (He.ga K ("is_well_formed" : Str))) := by obtain ⟨h, X, G, c⟩ := T; exact He.glo_ok X G (c.d.fact 9 rfl)
theorem Top.g_kind_of (T : Top w K mg) : mg ("kind_of" : Str) = some (.ref (He.ga K ("kind_of" : Str))) := by obtain ⟨h, X, G, c⟩ := T; exact He.glo_ok X G (c.d.fact 10 rfl)
theorem Top.g_joined_kind (T : Top w K mg) : mg ("joined_kind" : Str) = some (.ref (He.ga K ("joined_kind" : Str))) := by obtain ⟨h, X, G, c⟩ := T; exact He.glo_ok X G (c.d.fact 11 rfl)
theorem Top.g__usual_kind (T : Top w K mg) : mg ("_usual_kind" : Str) = some (.ref (He.ga K ("_usual_kind" : Str))) := by obtain ⟨h, X, G, c⟩ := T; exact He.glo_ok X G (c.d.fact 12 rfl)
theorem Top.g__fit (T : Top w K mg) : mg ("_fit" : Str) = some (.ref (He.ga K ("_fit" : Str))) := by obtain ⟨h, X, G, c⟩ := T; exact He.glo_ok X G (c.d.fact 13 rfl)
theorem Top.g__is_single (T : Top w K mg) : mg ("_is_single" : Str) = some (.ref (He.ga K ("_is_single" : Str))) := by obtain ⟨h, X, G, c⟩ := T; exact He.glo_ok X G (c.d.fact 14 rfl)
theorem Top.g__is_double (T : Top w K mg) : mg ("_is_double" : Str) = some (.ref (He.ga K ("_is_double" : Str))) := by obtain ⟨h, X, G, c⟩ := T; exact He.glo_ok X G (c.d.fact 15 rfl)
theorem Top.g__is_order (T : Top w K mg) : mg ("_is_order" : Str) = some (.ref (He.ga K ("_is_order" : Str))) := by obtain ⟨h, X, G, c⟩ := T; exact He.glo_ok X G (c.d.fact 16 rfl)
theorem Top.g_is_expression (T : Top w K mg) : mg ("is_expression" : Str) = some (.ref (He.ga K ("is_expression" : Str))) := by obtain ⟨h, X, G, c⟩ := T; exact He.glo_ok X G (c.d.fact 17 rfl)
theorem Top.g_expression_text (T : Top w K mg) : mg ("expression_text" : Str) = some (.ref (He.ga K ("expression_text" : Str))) := by obtain ⟨h, X, G, c⟩ := T; exact He.glo_ok X G (c.d.fact 18 rfl)
theorem Top.g_read_expression (T : Top w K mg) : mg ("read_expression" : Str) = some (.ref (He.ga K ("read_expression" : Str))) := by obtain ⟨h, X, G, c⟩ := T; exact He.glo_ok X G (c.d.fact 19 rfl)
theorem Top.g__in_postfix (T : Top w K mg) : mg ("_in_postfix" : Str) = some (.ref (He.ga K ("_in_postfix" : Str))) := by obtain ⟨h, X, G, c⟩ := T; exact He.glo_ok X G (c.d.fact 20 rfl)
theorem Top.g__built_leaf (T : Top w K mg) : mg ("_built_leaf" : Str) = some (.ref (He.ga K ("_built_leaf" : Str))) := by obtain ⟨h, X, G, c⟩ := T; exact He.glo_ok X G (c.d.fact 21 rfl)
theorem Top.g__built_whole (T : Top w K mg) : mg ("_built_whole" : Str) = some (.ref (He.ga K ("_built_whole" : Str))) := by obtain ⟨h, X, G, c⟩ := T; exact He.glo_ok X G (c.d.fact 22 rfl)
theorem Top.g__built_sample (T : Top w K mg) : mg ("_built_sample" : Str) = some (.ref (He.ga K ("_built_sample" : Str))) := by obtain ⟨h, X, G, c⟩ := T; exact He.glo_ok X G (c.d.fact 23 rfl)
theorem Top.g__checked_leaf (T : Top w K mg) : mg ("_checked_leaf" : Str) = some (.ref (He.ga K ("_checked_leaf" : Str))) := by obtain ⟨h, X, G, c⟩ := T; exact He.glo_ok X G (c.d.fact 24 rfl)
theorem Top.g__law_stream (T : Top w K mg) : mg ("_law_stream" : Str) = some (.ref (He.ga K ("_law_stream" : Str))) := by obtain ⟨h, X, G, c⟩ := T; exact He.glo_ok X G (c.d.fact 25 rfl)
theorem Top.g__law_draw (T : Top w K mg) : mg ("_law_draw" : Str) = some (.ref (He.ga K ("_law_draw" : Str))) := by obtain ⟨h, X, G, c⟩ := T; exact He.glo_ok X G (c.d.fact 26 rfl)
theorem Top.g__law_small_ratio (T : Top w K mg) : mg ("_law_small_ratio" : Str) = some (.ref (He.ga K ("_law_small_ratio" : Str))) := by obtain ⟨h, X, G, c⟩ := T; exact He.glo_ok X G (c.d.fact 27 rfl)
theorem Top.g__law_number (T : Top w K mg) : mg ("_law_number" : Str) = some (.ref (He.ga K ("_law_number" : Str))) := by obtain ⟨h, X, G, c⟩ := T; exact He.glo_ok X G (c.d.fact 28 rfl)
theorem Top.g__law_truth (T : Top w K mg) : mg ("_law_truth" : Str) = some (.ref (He.ga K ("_law_truth" : Str))) := by obtain ⟨h, X, G, c⟩ := T; exact He.glo_ok X G (c.d.fact 29 rfl)
theorem Top.g__law_names (T : Top w K mg) : mg ("_law_names" : Str) = some (.ref (He.ga K ("_law_names" : Str))) := by obtain ⟨h, X, G, c⟩ := T; exact He.glo_ok X G (c.d.fact 30 rfl)
theorem Top.g__law_any (T : Top w K mg) : mg ("_law_any" : Str) = some (.ref (He.ga K ("_law_any" : Str))) := by obtain ⟨h, X, G, c⟩ := T; exact He.glo_ok X G (c.d.fact 31 rfl)
theorem Top.g__law_parts (T : Top w K mg) : mg ("_law_parts" : Str) = some (.ref (He.ga K ("_law_parts" : Str))) := by obtain ⟨h, X, G, c⟩ := T; exact He.glo_ok X G (c.d.fact 32 rfl)
theorem Top.g__law_size (T : Top w K mg) : mg ("_law_size" : Str) = some (.ref (He.ga K ("_law_size" : Str))) := by obtain ⟨h, X, G, c⟩ := T; exact He.glo_ok X G (c.d.fact 33 rfl)
theorem Top.g__law_number_text (T : Top w K mg) : mg ("_law_number_text" : Str) = some (.ref (He.ga K ("_law_number_text" : Str))) := by obtain ⟨h, X, G, c⟩ := T; exact He.glo_ok X G (c.d.fact 34 rfl)
theorem Top.g__law_text (T : Top w K mg) : mg ("_law_text" : Str) = some (.ref (He.ga K ("_law_text" : Str))) := by obtain ⟨h, X, G, c⟩ := T; exact He.glo_ok X G (c.d.fact 35 rfl)
theorem Top.g__law_truths (T : Top w K mg) : mg ("_law_truths" : Str) = some (.ref (He.ga K ("_law_truths" : Str))) := by obtain ⟨h, X, G, c⟩ := T; exact He.glo_ok X G (c.d.fact 36 rfl)
theorem Top.g_law (T : Top w K mg) : mg ("law" : Str) = some (.ref (He.ga K ("law" : Str))) := by obtain ⟨h, X, G, c⟩ := T; exact He.glo_ok X G (c.d.fact 37 rfl)
theorem Top.g_LinkworkError (T : Top w K mg) : mg ("LinkworkError" : Str) = some (.ref (He.ga K ("LinkworkError" : Str))) := by obtain ⟨h, X, G, c⟩ := T; exact He.glo_ok X G (c.d.fact 38 rfl)
theorem Top.g_ByZero (T : Top w K mg) : mg ("ByZero" : Str) = some (.ref (He.ga K ("ByZero" : Str))) := by obtain ⟨h, X, G, c⟩ := T; exact He.glo_ok X G (c.d.fact 39 rfl)
theorem Top.g_TooLarge (T : Top w K mg) : mg ("TooLarge" : Str) = some (.ref (He.ga K ("TooLarge" : Str))) := by obtain ⟨h, X, G, c⟩ := T; exact He.glo_ok X G (c.d.fact 40 rfl)
theorem Top.g_BadText (T : Top w K mg) : mg ("BadText" : Str) = some (.ref (He.ga K ("BadText" : Str))) := by obtain ⟨h, X, G, c⟩ := T; exact He.glo_ok X G (c.d.fact 41 rfl)
theorem Top.g_Ratio (T : Top w K mg) : mg ("Ratio" : Str) = some (.ref (He.ga K ("Ratio" : Str))) := by obtain ⟨h, X, G, c⟩ := T; exact He.glo_ok X G (c.d.fact 42 rfl)
theorem Top.n_abs (T : Top w K mg) : mg ("abs" : Str) = none := by obtain ⟨h, X, G, c⟩ := T; exact He.free_ok X G (c.d.fact 43 rfl)
theorem Top.n_all (T : Top w K mg) : mg ("all" : Str) = none := by obtain ⟨h, X, G, c⟩ := T; exact He.free_ok X G (c.d.fact 44 rfl)
theorem Top.n_bool (T : Top w K mg) : mg ("bool" : Str) = none := by obtain ⟨h, X, G, c⟩ := T; exact He.free_ok X G (c.d.fact 45 rfl)
theorem Top.n_divmod (T : Top w K mg) : mg ("divmod" : Str) = none := by obtain ⟨h, X, G, c⟩ := T; exact He.free_ok X G (c.d.fact 46 rfl)
theorem Top.n_enumerate (T : Top w K mg) : mg ("enumerate" : Str) = none := by obtain ⟨h, X, G, c⟩ := T; exact He.free_ok X G (c.d.fact 47 rfl)
theorem Top.n_int (T : Top w K mg) : mg ("int" : Str) = none := by obtain ⟨h, X, G, c⟩ := T; exact He.free_ok X G (c.d.fact 48 rfl)
theorem Top.n_isinstance (T : Top w K mg) : mg ("isinstance" : Str) = none := by obtain ⟨h, X, G, c⟩ := T; exact He.free_ok X G (c.d.fact 49 rfl)
theorem Top.n_len (T : Top w K mg) : mg ("len" : Str) = none := by obtain ⟨h, X, G, c⟩ := T; exact He.free_ok X G (c.d.fact 50 rfl)
theorem Top.n_list (T : Top w K mg) : mg ("list" : Str) = none := by obtain ⟨h, X, G, c⟩ := T; exact He.free_ok X G (c.d.fact 51 rfl)
theorem Top.n_max (T : Top w K mg) : mg ("max" : Str) = none := by obtain ⟨h, X, G, c⟩ := T; exact He.free_ok X G (c.d.fact 52 rfl)
theorem Top.n_range (T : Top w K mg) : mg ("range" : Str) = none := by obtain ⟨h, X, G, c⟩ := T; exact He.free_ok X G (c.d.fact 53 rfl)
theorem Top.n_str (T : Top w K mg) : mg ("str" : Str) = none := by obtain ⟨h, X, G, c⟩ := T; exact He.free_ok X G (c.d.fact 54 rfl)
theorem Top.n_sum (T : Top w K mg) : mg ("sum" : Str) = none := by obtain ⟨h, X, G, c⟩ := T; exact He.free_ok X G (c.d.fact 55 rfl)
theorem Top.n_tuple (T : Top w K mg) : mg ("tuple" : Str) = none := by obtain ⟨h, X, G, c⟩ := T; exact He.free_ok X G (c.d.fact 56 rfl)
theorem Top.n_zip (T : Top w K mg) : mg ("zip" : Str) = none := by obtain ⟨h, X, G, c⟩ := T; exact He.free_ok X G (c.d.fact 57 rfl)
theorem Top.i_MOST_CHARACTERS (T : Top w K mg) : ∃ u, mg ("MOST_CHARACTERS" : Str) = some u ∧ RelV (.int (80)) u := by obtain ⟨h, X, G, c⟩ := T; obtain ⟨t, e⟩ := He.int_ok X G (c.d.fact 58 rfl); exact ⟨_, e, t, rfl⟩
theorem Top.i_CHUNK_DIGITS (T : Top w K mg) : ∃ u, mg ("CHUNK_DIGITS" : Str) = some u ∧ RelV (.int (64)) u := by obtain ⟨h, X, G, c⟩ := T; obtain ⟨t, e⟩ := He.int_ok X G (c.d.fact 59 rfl); exact ⟨_, e, t, rfl⟩
theorem Top.i_CHUNK (T : Top w K mg) : ∃ u, mg ("CHUNK" : Str) = some u ∧ RelV (.int (10000000000000000000000000000000000000000000000000000000000000000)) u := by obtain ⟨h, X, G, c⟩ := T; obtain ⟨t, e⟩ := He.int_ok X G (c.d.fact 60 rfl); exact ⟨_, e, t, rfl⟩
theorem Top.i_MOST_ORDER (T : Top w K mg) : ∃ u, mg ("MOST_ORDER" : Str) = some u ∧ RelV (.int (4)) u := by obtain ⟨h, X, G, c⟩ := T; obtain ⟨t, e⟩ := He.int_ok X G (c.d.fact 61 rfl); exact ⟨_, e, t, rfl⟩
theorem Top.g_NEEDED_KINDS (T : Top w K mg) : mg ("NEEDED_KINDS" : Str) = some (.ref (He.ga K ("NEEDED_KINDS" : Str))) := by obtain ⟨h, X, G, c⟩ := T; exact He.glo_ok X G (c.d.fact 62 rfl)
theorem Top.g_NUMBER_WORDS (T : Top w K mg) : mg ("NUMBER_WORDS" : Str) = some (.ref (He.ga K ("NUMBER_WORDS" : Str))) := by obtain ⟨h, X, G, c⟩ := T; exact He.glo_ok X G (c.d.fact 63 rfl)
theorem Top.i_MOST_SIZE (T : Top w K mg) : ∃ u, mg ("MOST_SIZE" : Str) = some u ∧ RelV (.int (200)) u := by obtain ⟨h, X, G, c⟩ := T; obtain ⟨t, e⟩ := He.int_ok X G (c.d.fact 64 rfl); exact ⟨_, e, t, rfl⟩
theorem Top.i_MOST_DEPTH (T : Top w K mg) : ∃ u, mg ("MOST_DEPTH" : Str) = some u ∧ RelV (.int (30)) u := by obtain ⟨h, X, G, c⟩ := T; obtain ⟨t, e⟩ := He.int_ok X G (c.d.fact 65 rfl); exact ⟨_, e, t, rfl⟩
theorem Top.exc_LinkworkError (T : Top w K mg) : PySem.W.excIn K (He.ga K ("LinkworkError" : Str)) He.veBase "ValueError.__new__" = true ∧ PySem.W.keepIn K (.ref (He.ga K ("LinkworkError" : Str))) = true ∧ PySem.W.subIn K (.ref (He.ga K ("LinkworkError" : Str))) (.type "BaseException") = some true ∧ PySem.W.typeIn K (.ref (He.ga K ("LinkworkError" : Str))) = some (.type "type") := He.exc_ok (T.fact 66 rfl)
theorem Top.exc_ByZero (T : Top w K mg) : PySem.W.excIn K (He.ga K ("ByZero" : Str)) He.veBase "ValueError.__new__" = true ∧ PySem.W.keepIn K (.ref (He.ga K ("ByZero" : Str))) = true ∧ PySem.W.subIn K (.ref (He.ga K ("ByZero" : Str))) (.type "BaseException") = some true ∧ PySem.W.typeIn K (.ref (He.ga K ("ByZero" : Str))) = some (.type "type") := He.exc_ok (T.fact 67 rfl)
theorem Top.exc_TooLarge (T : Top w K mg) : PySem.W.excIn K (He.ga K ("TooLarge" : Str)) He.veBase "ValueError.__new__" = true ∧ PySem.W.keepIn K (.ref (He.ga K ("TooLarge" : Str))) = true ∧ PySem.W.subIn K (.ref (He.ga K ("TooLarge" : Str))) (.type "BaseException") = some true ∧ PySem.W.typeIn K (.ref (He.ga K ("TooLarge" : Str))) = some (.type "type") := He.exc_ok (T.fact 68 rfl)
theorem Top.cls_Ratio (T : Top w K mg) : Cls K (He.ga K ("Ratio" : Str)) := He.cls_ok (T.fact 69 rfl)
theorem Top.na_Ratio_top (T : Top w K mg) : NoAttr K (He.ga K ("Ratio" : Str)) ("top" : Str) := He.noat_ok (T.fact 70 rfl)
theorem Top.na_Ratio_bottom (T : Top w K mg) : NoAttr K (He.ga K ("Ratio" : Str)) ("bottom" : Str) := He.noat_ok (T.fact 71 rfl)
theorem Top.mk_Ratio (T : Top w K mg) : Mk K (He.ga K ("Ratio" : Str)) (He.ma K (He.ga K ("Ratio" : Str)) "__init__") := He.mkr_ok (T.fact 72 rfl)
theorem Top.m_Ratio___eq__ (T : Top w K mg) : Meth K (He.ga K ("Ratio" : Str)) ("__eq__" : Str) (He.ma K (He.ga K ("Ratio" : Str)) ("__eq__" : Str)) := He.meth_ok (T.fact 73 rfl)
theorem Top.m_Ratio___add__ (T : Top w K mg) : Meth K (He.ga K ("Ratio" : Str)) ("__add__" : Str) (He.ma K (He.ga K ("Ratio" : Str)) ("__add__" : Str)) := He.meth_ok (T.fact 74 rfl)
theorem Top.m_Ratio___sub__ (T : Top w K mg) : Meth K (He.ga K ("Ratio" : Str)) ("__sub__" : Str) (He.ma K (He.ga K ("Ratio" : Str)) ("__sub__" : Str)) := He.meth_ok (T.fact 75 rfl)
theorem Top.m_Ratio___mul__ (T : Top w K mg) : Meth K (He.ga K ("Ratio" : Str)) ("__mul__" : Str) (He.ma K (He.ga K ("Ratio" : Str)) ("__mul__" : Str)) := He.meth_ok (T.fact 76 rfl)
theorem Top.m_Ratio___neg__ (T : Top w K mg) : Meth K (He.ga K ("Ratio" : Str)) ("__neg__" : Str) (He.ma K (He.ga K ("Ratio" : Str)) ("__neg__" : Str)) := He.meth_ok (T.fact 77 rfl)
theorem Top.exm_ByZero_ByZero (T : Top w K mg) : PySem.W.exmOne K (.ref (He.ga K ("ByZero" : Str))) (.ref (He.ga K ("ByZero" : Str))) = some true := He.exm_ok (T.fact 78 rfl)
theorem Top.exm_BadText_BadText (T : Top w K mg) : PySem.W.exmOne K (.ref (He.ga K ("BadText" : Str))) (.ref (He.ga K ("BadText" : Str))) = some true := He.exm_ok (T.fact 79 rfl)
theorem Top.k_NUMBER_WORDS (T : Top w K mg) : ∃ u, mg ("NUMBER_WORDS" : Str) = some u ∧ RelV (.ref (He.ga K ("NUMBER_WORDS" : Str))) u := ⟨_, T.g_NUMBER_WORDS, rfl⟩
theorem Top.x_needs (T : Top w K mg) : ex_needs K = true := T.ex 0 rfl
theorem Top.x_imp_gcd (T : Top w K mg) : ex_imp_gcd K = true := T.ex 1 rfl
theorem Top.x_lw_LinkworkError (T : Top w K mg) : ex_lw_LinkworkError K = true := T.ex 2 rfl
theorem Top.x_excC_LinkworkError (T : Top w K mg) : ex_excC_LinkworkError K = true := T.ex 3 rfl
theorem Top.x_excC_ByZero (T : Top w K mg) : ex_excC_ByZero K = true := T.ex 4 rfl
theorem Top.x_excC_TooLarge (T : Top w K mg) : ex_excC_TooLarge K = true := T.ex 5 rfl
theorem Top.x_excC_BadText (T : Top w K mg) : ex_excC_BadText K = true := T.ex 6 rfl
theorem Top.x_oex_BadText (T : Top w K mg) : ex_oex_BadText K = true := T.ex 7 rfl
theorem Top.x_xf_BadText_at (T : Top w K mg) : ex_xf_BadText_at K = true := T.ex 8 rfl
theorem Top.x_xfr_BadText (T : Top w K mg) : ex_xfr_BadText K = true := T.ex 9 rfl
theorem Top.x_isi_Ratio (T : Top w K mg) : ex_isi_Ratio K = true := T.ex 10 rfl
theorem Top.x_first_Ratio (T : Top w K mg) : ex_first_Ratio K = true := T.ex 11 rfl
theorem Top.x_t_NUMBER_WORDS (T : Top w K mg) : ex_t_NUMBER_WORDS K = true := T.ex 12 rfl
theorem Top.x_tin_NEEDED_KINDS (T : Top w K mg) : ex_tin_NEEDED_KINDS K = true := T.ex 13 rfl
theorem Top.x_tout_NEEDED_KINDS (T : Top w K mg) : ex_tout_NEEDED_KINDS K = true := T.ex 14 rfl
theorem Top.x_kit_ByZero_LinkworkError (T : Top w K mg) : ex_kit_ByZero_LinkworkError K = true := T.ex 15 rfl
theorem Top.x_kit_Ratio_Ratio (T : Top w K mg) : ex_kit_Ratio_Ratio K = true := T.ex 16 rfl
theorem Top.x_kit_t_list_Ratio (T : Top w K mg) : ex_kit_t_list_Ratio K = true := T.ex 17 rfl
theorem Top.x_kit_t_tuple_Ratio (T : Top w K mg) : ex_kit_t_tuple_Ratio K = true := T.ex 18 rfl
theorem Top.x_kit_t_str_Ratio (T : Top w K mg) : ex_kit_t_str_Ratio K = true := T.ex 19 rfl
theorem Top.x_kit_t_int_Ratio (T : Top w K mg) : ex_kit_t_int_Ratio K = true := T.ex 20 rfl
theorem Top.x_kit_t_bool_Ratio (T : Top w K mg) : ex_kit_t_bool_Ratio K = true := T.ex 21 rfl
theorem Top.x_kit_t_NoneType_Ratio (T : Top w K mg) : ex_kit_t_NoneType_Ratio K = true := T.ex 22 rfl
theorem Top.x_kit_t_list_t_list (T : Top w K mg) : ex_kit_t_list_t_list K = true := T.ex 23 rfl
theorem Top.x_kit_t_tuple_t_tuple (T : Top w K mg) : ex_kit_t_tuple_t_tuple K = true := T.ex 24 rfl
theorem Top.x_kit_t_str_t_tuple (T : Top w K mg) : ex_kit_t_str_t_tuple K = true := T.ex 25 rfl
theorem Top.x_kit_t_int_t_tuple (T : Top w K mg) : ex_kit_t_int_t_tuple K = true := T.ex 26 rfl
theorem Top.x_kit_t_bool_t_tuple (T : Top w K mg) : ex_kit_t_bool_t_tuple K = true := T.ex 27 rfl
theorem Top.x_kit_t_list_t_tuple (T : Top w K mg) : ex_kit_t_list_t_tuple K = true := T.ex 28 rfl
theorem Top.x_kit_t_NoneType_t_tuple (T : Top w K mg) : ex_kit_t_NoneType_t_tuple K = true := T.ex 29 rfl
theorem Top.x_kit_Ratio_t_tuple (T : Top w K mg) : ex_kit_Ratio_t_tuple K = true := T.ex 30 rfl
theorem Top.x_kit_t_str_t_bool (T : Top w K mg) : ex_kit_t_str_t_bool K = true := T.ex 31 rfl
theorem Top.x_kit_t_int_t_bool (T : Top w K mg) : ex_kit_t_int_t_bool K = true := T.ex 32 rfl
theorem Top.x_kit_t_bool_t_bool (T : Top w K mg) : ex_kit_t_bool_t_bool K = true := T.ex 33 rfl
theorem Top.x_kit_t_tuple_t_bool (T : Top w K mg) : ex_kit_t_tuple_t_bool K = true := T.ex 34 rfl
theorem Top.x_kit_t_list_t_bool (T : Top w K mg) : ex_kit_t_list_t_bool K = true := T.ex 35 rfl
theorem Top.x_kit_t_NoneType_t_bool (T : Top w K mg) : ex_kit_t_NoneType_t_bool K = true := T.ex 36 rfl
theorem Top.x_kit_Ratio_t_bool (T : Top w K mg) : ex_kit_Ratio_t_bool K = true := T.ex 37 rfl
theorem Top.x_kit_t_str_t_int (T : Top w K mg) : ex_kit_t_str_t_int K = true := T.ex 38 rfl
theorem Top.x_kit_t_int_t_int (T : Top w K mg) : ex_kit_t_int_t_int K = true := T.ex 39 rfl
theorem Top.x_kit_t_bool_t_int (T : Top w K mg) : ex_kit_t_bool_t_int K = true := T.ex 40 rfl
theorem Top.x_kit_t_tuple_t_int (T : Top w K mg) : ex_kit_t_tuple_t_int K = true := T.ex 41 rfl
theorem Top.x_kit_t_list_t_int (T : Top w K mg) : ex_kit_t_list_t_int K = true := T.ex 42 rfl
theorem Top.x_kit_t_NoneType_t_int (T : Top w K mg) : ex_kit_t_NoneType_t_int K = true := T.ex 43 rfl
theorem Top.x_kit_Ratio_t_int (T : Top w K mg) : ex_kit_Ratio_t_int K = true := T.ex 44 rfl
theorem Top.x_kit_t_str_t_str (T : Top w K mg) : ex_kit_t_str_t_str K = true := T.ex 45 rfl
theorem Top.x_kit_t_int_t_str (T : Top w K mg) : ex_kit_t_int_t_str K = true := T.ex 46 rfl
theorem Top.x_kit_t_bool_t_str (T : Top w K mg) : ex_kit_t_bool_t_str K = true := T.ex 47 rfl
theorem Top.x_kit_t_tuple_t_str (T : Top w K mg) : ex_kit_t_tuple_t_str K = true := T.ex 48 rfl
theorem Top.x_kit_t_list_t_str (T : Top w K mg) : ex_kit_t_list_t_str K = true := T.ex 49 rfl
theorem Top.x_kit_t_NoneType_t_str (T : Top w K mg) : ex_kit_t_NoneType_t_str K = true := T.ex 50 rfl
theorem Top.x_kit_Ratio_t_str (T : Top w K mg) : ex_kit_Ratio_t_str K = true := T.ex 51 rfl
theorem Top.tab_NEEDED_KINDS (T : Top w K mg) : ∃ es n, KDict K w (He.ga K ("NEEDED_KINDS" : Str)) es n := by obtain ⟨_, _, _, c⟩ := T; exact c.kd 0 rfl
theorem Top.k_NEEDED_KINDS (T : Top w K mg) : ∃ u, mg ("NEEDED_KINDS" : Str) = some u ∧ RelV (.ref (He.ga K ("NEEDED_KINDS" : Str))) u := ⟨_, T.g_NEEDED_KINDS, rfl⟩
theorem Top.gcdM (T : Top w K mg) : mg ("gcd" : Str) = some (.builtin "math.gcd") := by have e := T.x_imp_gcd; obtain ⟨h, X, G, c⟩ := T; exact PySem.W.mg_of X G (He.eqO_ok e)
theorem Top.f_BadText___init__ (T : Top w K mg) : FunD K ("__init__" : Str) ("BadText.__init__" : Str) (defArgs s_BadText___init__) (defBody s_BadText___init__) (defScope s_BadText___init__) (d_BadText___init__.dvs K) (d_BadText___init__.kws K) (He.ma K (He.ga K ("BadText" : Str)) ("__init__" : Str)) (fdOf K d_BadText___init__) := T.fun_ 0 rfl
theorem Top.b_BadText___init__ (T : Top w K mg) : Binds K (fdOf K d_BadText___init__) ["self", "at"] [] := (show FunD K ("__init__" : Str) ("BadText.__init__" : Str) (defArgs s_BadText___init__) (defBody s_BadText___init__) (defScope s_BadText___init__) [] (d_BadText___init__.kws K) (He.ma K (He.ga K ("BadText" : Str)) ("__init__" : Str)) (fdOf K d_BadText___init__) from T.f_BadText___init__).bindsN fun _ _ _ _ _ _ us hl => match us, hl with | [_, _], _ => rfl
theorem sc_BadText___init__ : FnScope ["self", "at"] ["self", "at"] (defScope s_BadText___init__) := ⟨rfl, rfl, rfl, by decide +kernel, rfl, by decide +kernel, by decide +kernel⟩
theorem Top.f_is_letter (T : Top w K mg) : FunD K ("is_letter" : Str) ("is_letter" : Str) (defArgs s_is_letter) (defBody s_is_letter) (defScope s_is_letter) (d_is_letter.dvs K) (d_is_letter.kws K) (He.ga K ("is_letter" : Str)) (fdOf K d_is_letter) := T.fun_ 1 rfl
theorem Top.b_is_letter (T : Top w K mg) : Binds K (fdOf K d_is_letter) ["character"] [] := (show FunD K ("is_letter" : Str) ("is_letter" : Str) (defArgs s_is_letter) (defBody s_is_letter) (defScope s_is_letter) [] (d_is_letter.kws K) (He.ga K ("is_letter" : Str)) (fdOf K d_is_letter) from T.f_is_letter).bindsN fun _ _ _ _ _ _ us hl => match us, hl with | [_], _ => rfl
theorem sc_is_letter : FnScope ["character"] ["character"] (defScope s_is_letter) := ⟨rfl, rfl, rfl, by decide +kernel, rfl, by decide +kernel, by decide +kernel⟩
theorem Top.f_is_digit (T : Top w K mg) : FunD K ("is_digit" : Str) ("is_digit" : Str) (defArgs s_is_digit) (defBody s_is_digit) (defScope s_is_digit) (d_is_digit.dvs K) (d_is_digit.kws K) (He.ga K ("is_digit" : Str)) (fdOf K d_is_digit) := T.fun_ 2 rfl
theorem Top.b_is_digit (T : Top w K mg) : Binds K (fdOf K d_is_digit) ["character"] [] := (show FunD K ("is_digit" : Str) ("is_digit" : Str) (defArgs s_is_digit) (defBody s_is_digit) (defScope s_is_digit) [] (d_is_digit.kws K) (He.ga K ("is_digit" : Str)) (fdOf K d_is_digit) from T.f_is_digit).bindsN fun _ _ _ _ _ _ us hl => match us, hl with | [_], _ => rfl
theorem sc_is_digit : FnScope ["character"] ["character"] (defScope s_is_digit) := ⟨rfl, rfl, rfl, by decide +kernel, rfl, by decide +kernel, by decide +kernel⟩
theorem Top.f_is_name (T : Top w K mg) : FunD K ("is_name" : Str) ("is_name" : Str) (defArgs s_is_name) (defBody s_is_name) (defScope s_is_name) (d_is_name.dvs K) (d_is_name.kws K) (He.ga K ("is_name" : Str)) (fdOf K d_is_name) := T.fun_ 3 rfl
theorem Top.b_is_name (T : Top w K mg) : Binds K (fdOf K d_is_name) ["value"] [] := (show FunD K ("is_name" : Str) ("is_name" : Str) (defArgs s_is_name) (defBody s_is_name) (defScope s_is_name) [] (d_is_name.kws K) (He.ga K ("is_name" : Str)) (fdOf K d_is_name) from T.f_is_name).bindsN fun _ _ _ _ _ _ us hl => match us, hl with | [_], _ => rfl
theorem sc_is_name : FnScope ["value", "character"] ["value"] (defScope s_is_name) := ⟨rfl, rfl, rfl, by decide +kernel, rfl, by decide +kernel, by decide +kernel⟩
theorem Top.f__may_follow (T : Top w K mg) : FunD K ("_may_follow" : Str) ("_may_follow" : Str) (defArgs s__may_follow) (defBody s__may_follow) (defScope s__may_follow) (d__may_follow.dvs K) (d__may_follow.kws K) (He.ga K ("_may_follow" : Str)) (fdOf K d__may_follow) := T.fun_ 4 rfl
theorem Top.b__may_follow (T : Top w K mg) : Binds K (fdOf K d__may_follow) ["character"] [] := (show FunD K ("_may_follow" : Str) ("_may_follow" : Str) (defArgs s__may_follow) (defBody s__may_follow) (defScope s__may_follow) [] (d__may_follow.kws K) (He.ga K ("_may_follow" : Str)) (fdOf K d__may_follow) from T.f__may_follow).bindsN fun _ _ _ _ _ _ us hl => match us, hl with | [_], _ => rfl
theorem sc__may_follow : FnScope ["character"] ["character"] (defScope s__may_follow) := ⟨rfl, rfl, rfl, by decide +kernel, rfl, by decide +kernel, by decide +kernel⟩
theorem Top.f_Ratio___init__ (T : Top w K mg) : FunD K ("__init__" : Str) ("Ratio.__init__" : Str) (defArgs s_Ratio___init__) (defBody s_Ratio___init__) (defScope s_Ratio___init__) (d_Ratio___init__.dvs K) (d_Ratio___init__.kws K) (He.ma K (He.ga K ("Ratio" : Str)) ("__init__" : Str)) (fdOf K d_Ratio___init__) := T.fun_ 5 rfl
theorem Top.b0_Ratio___init__ (T : Top w K mg) : ∃ ds, Vals ((d_Ratio___init__.dvs K).drop 0) ds ∧ Binds K (fdOf K d_Ratio___init__) ["self", "numerator", "denominator"] ds := T.f_Ratio___init__.binds1 2 0 (by intro z; cases z) rfl fun _ _ _ _ _ _ _ us its h1 h2 => match us, its, h1, h2 with | [_, _], [_], _, _ => ⟨_, rfl, rfl⟩
theorem Top.b1_Ratio___init__ (T : Top w K mg) : ∃ ds, Vals ((d_Ratio___init__.dvs K).drop 1) ds ∧ Binds K (fdOf K d_Ratio___init__) ["self", "numerator", "denominator"] ds := T.f_Ratio___init__.binds1 3 1 (by intro z; cases z) rfl fun _ _ _ _ _ _ _ us its h1 h2 => match us, its, h1, h2 with | [_, _, _], [_], _, _ => ⟨_, rfl, rfl⟩
theorem sc_Ratio___init__ : FnScope ["self", "numerator", "denominator", "divisor"] ["self", "numerator", "denominator"] (defScope s_Ratio___init__) := ⟨rfl, rfl, rfl, by decide +kernel, rfl, by decide +kernel, by decide +kernel⟩
theorem Top.f_Ratio___eq__ (T : Top w K mg) : FunD K ("__eq__" : Str) ("Ratio.__eq__" : Str) (defArgs s_Ratio___eq__) (defBody s_Ratio___eq__) (defScope s_Ratio___eq__) (d_Ratio___eq__.dvs K) (d_Ratio___eq__.kws K) (He.ma K (He.ga K ("Ratio" : Str)) ("__eq__" : Str)) (fdOf K d_Ratio___eq__) := T.fun_ 6 rfl
theorem Top.b_Ratio___eq__ (T : Top w K mg) : Binds K (fdOf K d_Ratio___eq__) ["self", "other"] [] := (show FunD K ("__eq__" : Str) ("Ratio.__eq__" : Str) (defArgs s_Ratio___eq__) (defBody s_Ratio___eq__) (defScope s_Ratio___eq__) [] (d_Ratio___eq__.kws K) (He.ma K (He.ga K ("Ratio" : Str)) ("__eq__" : Str)) (fdOf K d_Ratio___eq__) from T.f_Ratio___eq__).bindsN fun _ _ _ _ _ _ us hl => match us, hl with | [_, _], _ => rfl
theorem sc_Ratio___eq__ : FnScope ["self", "other"] ["self", "other"] (defScope s_Ratio___eq__) := ⟨rfl, rfl, rfl, by decide +kernel, rfl, by decide +kernel, by decide +kernel⟩
theorem Top.f_Ratio___add__ (T : Top w K mg) : FunD K ("__add__" : Str) ("Ratio.__add__" : Str) (defArgs s_Ratio___add__) (defBody s_Ratio___add__) (defScope s_Ratio___add__) (d_Ratio___add__.dvs K) (d_Ratio___add__.kws K) (He.ma K (He.ga K ("Ratio" : Str)) ("__add__" : Str)) (fdOf K d_Ratio___add__) := T.fun_ 7 rfl
theorem Top.b_Ratio___add__ (T : Top w K mg) : Binds K (fdOf K d_Ratio___add__) ["self", "other"] [] := (show FunD K ("__add__" : Str) ("Ratio.__add__" : Str) (defArgs s_Ratio___add__) (defBody s_Ratio___add__) (defScope s_Ratio___add__) [] (d_Ratio___add__.kws K) (He.ma K (He.ga K ("Ratio" : Str)) ("__add__" : Str)) (fdOf K d_Ratio___add__) from T.f_Ratio___add__).bindsN fun _ _ _ _ _ _ us hl => match us, hl with | [_, _], _ => rfl
theorem sc_Ratio___add__ : FnScope ["self", "other"] ["self", "other"] (defScope s_Ratio___add__) := ⟨rfl, rfl, rfl, by decide +kernel, rfl, by decide +kernel, by decide +kernel⟩
theorem Top.f_Ratio___sub__ (T : Top w K mg) : FunD K ("__sub__" : Str) ("Ratio.__sub__" : Str) (defArgs s_Ratio___sub__) (defBody s_Ratio___sub__) (defScope s_Ratio___sub__) (d_Ratio___sub__.dvs K) (d_Ratio___sub__.kws K) (He.ma K (He.ga K ("Ratio" : Str)) ("__sub__" : Str)) (fdOf K d_Ratio___sub__) := T.fun_ 8 rfl
theorem Top.b_Ratio___sub__ (T : Top w K mg) : Binds K (fdOf K d_Ratio___sub__) ["self", "other"] [] := (show FunD K ("__sub__" : Str) ("Ratio.__sub__" : Str) (defArgs s_Ratio___sub__) (defBody s_Ratio___sub__) (defScope s_Ratio___sub__) [] (d_Ratio___sub__.kws K) (He.ma K (He.ga K ("Ratio" : Str)) ("__sub__" : Str)) (fdOf K d_Ratio___sub__) from T.f_Ratio___sub__).bindsN fun _ _ _ _ _ _ us hl => match us, hl with | [_, _], _ => rfl
theorem sc_Ratio___sub__ : FnScope ["self", "other"] ["self", "other"] (defScope s_Ratio___sub__) := ⟨rfl, rfl, rfl, by decide +kernel, rfl, by decide +kernel, by decide +kernel⟩
theorem Top.f_Ratio___mul__ (T : Top w K mg) : FunD K ("__mul__" : Str) ("Ratio.__mul__" : Str) (defArgs s_Ratio___mul__) (defBody s_Ratio___mul__) (defScope s_Ratio___mul__) (d_Ratio___mul__.dvs K) (d_Ratio___mul__.kws K) (He.ma K (He.ga K ("Ratio" : Str)) ("__mul__" : Str)) (fdOf K d_Ratio___mul__) := T.fun_ 9 rfl
theorem Top.b_Ratio___mul__ (T : Top w K mg) : Binds K (fdOf K d_Ratio___mul__) ["self", "other"] [] := (show FunD K ("__mul__" : Str) ("Ratio.__mul__" : Str) (defArgs s_Ratio___mul__) (defBody s_Ratio___mul__) (defScope s_Ratio___mul__) [] (d_Ratio___mul__.kws K) (He.ma K (He.ga K ("Ratio" : Str)) ("__mul__" : Str)) (fdOf K d_Ratio___mul__) from T.f_Ratio___mul__).bindsN fun _ _ _ _ _ _ us hl => match us, hl with | [_, _], _ => rfl
theorem sc_Ratio___mul__ : FnScope ["self", "other"] ["self", "other"] (defScope s_Ratio___mul__) := ⟨rfl, rfl, rfl, by decide +kernel, rfl, by decide +kernel, by decide +kernel⟩
theorem Top.f_Ratio___neg__ (T : Top w K mg) : FunD K ("__neg__" : Str) ("Ratio.__neg__" : Str) (defArgs s_Ratio___neg__) (defBody s_Ratio___neg__) (defScope s_Ratio___neg__) (d_Ratio___neg__.dvs K) (d_Ratio___neg__.kws K) (He.ma K (He.ga K ("Ratio" : Str)) ("__neg__" : Str)) (fdOf K d_Ratio___neg__) := T.fun_ 10 rfl
theorem Top.b_Ratio___neg__ (T : Top w K mg) : Binds K (fdOf K d_Ratio___neg__) ["self"] [] := (show FunD K ("__neg__" : Str) ("Ratio.__neg__" : Str) (defArgs s_Ratio___neg__) (defBody s_Ratio___neg__) (defScope s_Ratio___neg__) [] (d_Ratio___neg__.kws K) (He.ma K (He.ga K ("Ratio" : Str)) ("__neg__" : Str)) (fdOf K d_Ratio___neg__) from T.f_Ratio___neg__).bindsN fun _ _ _ _ _ _ us hl => match us, hl with | [_], _ => rfl
theorem sc_Ratio___neg__ : FnScope ["self"] ["self"] (defScope s_Ratio___neg__) := ⟨rfl, rfl, rfl, by decide +kernel, rfl, by decide +kernel, by decide +kernel⟩
theorem Top.f_ratio_text (T : Top w K mg) : FunD K ("ratio_text" : Str) ("ratio_text" : Str) (defArgs s_ratio_text) (defBody s_ratio_text) (defScope s_ratio_text) (d_ratio_text.dvs K) (d_ratio_text.kws K) (He.ga K ("ratio_text" : Str)) (fdOf K d_ratio_text) := T.fun_ 11 rfl
theorem Top.b_ratio_text (T : Top w K mg) : Binds K (fdOf K d_ratio_text) ["value"] [] := (show FunD K ("ratio_text" : Str) ("ratio_text" : Str) (defArgs s_ratio_text) (defBody s_ratio_text) (defScope s_ratio_text) [] (d_ratio_text.kws K) (He.ga K ("ratio_text" : Str)) (fdOf K d_ratio_text) from T.f_ratio_text).bindsN fun _ _ _ _ _ _ us hl => match us, hl with | [_], _ => rfl
theorem sc_ratio_text : FnScope ["value"] ["value"] (defScope s_ratio_text) := ⟨rfl, rfl, rfl, by decide +kernel, rfl, by decide +kernel, by decide +kernel⟩
theorem Top.f_read_ratio (T : Top w K mg) : FunD K ("read_ratio" : Str) ("read_ratio" : Str) (defArgs s_read_ratio) (defBody s_read_ratio) (defScope s_read_ratio) (d_read_ratio.dvs K) (d_read_ratio.kws K) (He.ga K ("read_ratio" : Str)) (fdOf K d_read_ratio) := T.fun_ 12 rfl
theorem Top.b_read_ratio (T : Top w K mg) : Binds K (fdOf K d_read_ratio) ["line"] [] := (show FunD K ("read_ratio" : Str) ("read_ratio" : Str) (defArgs s_read_ratio) (defBody s_read_ratio) (defScope s_read_ratio) [] (d_read_ratio.kws K) (He.ga K ("read_ratio" : Str)) (fdOf K d_read_ratio) from T.f_read_ratio).bindsN fun _ _ _ _ _ _ us hl => match us, hl with | [_], _ => rfl
theorem sc_read_ratio : FnScope ["line", "top_text", "slash", "bottom_text", "top", "bottom"] ["line"] (defScope s_read_ratio) := ⟨rfl, rfl, rfl, by decide +kernel, rfl, by decide +kernel, by decide +kernel⟩
theorem Top.f__integer_text (T : Top w K mg) : FunD K ("_integer_text" : Str) ("_integer_text" : Str) (defArgs s__integer_text) (defBody s__integer_text) (defScope s__integer_text) (d__integer_text.dvs K) (d__integer_text.kws K) (He.ga K ("_integer_text" : Str)) (fdOf K d__integer_text) := T.fun_ 13 rfl
theorem Top.b__integer_text (T : Top w K mg) : Binds K (fdOf K d__integer_text) ["number"] [] := (show FunD K ("_integer_text" : Str) ("_integer_text" : Str) (defArgs s__integer_text) (defBody s__integer_text) (defScope s__integer_text) [] (d__integer_text.kws K) (He.ga K ("_integer_text" : Str)) (fdOf K d__integer_text) from T.f__integer_text).bindsN fun _ _ _ _ _ _ us hl => match us, hl with | [_], _ => rfl
theorem sc__integer_text : FnScope ["number", "sign", "rest", "chunks", "chunk"] ["number"] (defScope s__integer_text) := ⟨rfl, rfl, rfl, by decide +kernel, rfl, by decide +kernel, by decide +kernel⟩
theorem Top.f__read_integer (T : Top w K mg) : FunD K ("_read_integer" : Str) ("_read_integer" : Str) (defArgs s__read_integer) (defBody s__read_integer) (defScope s__read_integer) (d__read_integer.dvs K) (d__read_integer.kws K) (He.ga K ("_read_integer" : Str)) (fdOf K d__read_integer) := T.fun_ 14 rfl
theorem Top.b__read_integer (T : Top w K mg) : Binds K (fdOf K d__read_integer) ["text"] [] := (show FunD K ("_read_integer" : Str) ("_read_integer" : Str) (defArgs s__read_integer) (defBody s__read_integer) (defScope s__read_integer) [] (d__read_integer.kws K) (He.ga K ("_read_integer" : Str)) (fdOf K d__read_integer) from T.f__read_integer).bindsN fun _ _ _ _ _ _ us hl => match us, hl with | [_], _ => rfl
theorem sc__read_integer : FnScope ["text", "digits", "first", "number", "at"] ["text"] (defScope s__read_integer) := ⟨rfl, rfl, rfl, by decide +kernel, rfl, by decide +kernel, by decide +kernel⟩
theorem Top.f_parts_of (T : Top w K mg) : FunD K ("parts_of" : Str) ("parts_of" : Str) (defArgs s_parts_of) (defBody s_parts_of) (defScope s_parts_of) (d_parts_of.dvs K) (d_parts_of.kws K) (He.ga K ("parts_of" : Str)) (fdOf K d_parts_of) := T.fun_ 15 rfl
theorem Top.b_parts_of (T : Top w K mg) : Binds K (fdOf K d_parts_of) ["expression"] [] := (show FunD K ("parts_of" : Str) ("parts_of" : Str) (defArgs s_parts_of) (defBody s_parts_of) (defScope s_parts_of) [] (d_parts_of.kws K) (He.ga K ("parts_of" : Str)) (fdOf K d_parts_of) from T.f_parts_of).bindsN fun _ _ _ _ _ _ us hl => match us, hl with | [_], _ => rfl
theorem sc_parts_of : FnScope ["expression"] ["expression"] (defScope s_parts_of) := ⟨rfl, rfl, rfl, by decide +kernel, rfl, by decide +kernel, by decide +kernel⟩
theorem Top.f_is_well_formed (T : Top w K mg) : FunD K ("is_well_formed" : Str) ("is_well_formed" : Str) (defArgs s_is_well_formed) (defBody s_is_well_formed) (defScope s_is_well_formed) (d_is_well_formed.dvs K) (d_is_well_formed.kws K) (He.ga K ("is_well_formed" : Str)) (fdOf K d_is_well_formed) := T.fun_ 16 rfl
theorem Top.b_is_well_formed (T : Top w K mg) : Binds K (fdOf K d_is_well_formed) ["value"] [] := (show FunD K ("is_well_formed" : Str) ("is_well_formed" : Str) (defArgs s_is_well_formed) (defBody s_is_well_formed) (defScope s_is_well_formed) [] (d_is_well_formed.kws K) (He.ga K ("is_well_formed" : Str)) (fdOf K d_is_well_formed) from T.f_is_well_formed).bindsN fun _ _ _ _ _ _ us hl => match us, hl with | [_], _ => rfl
theorem sc_is_well_formed : FnScope ["value", "word"] ["value"] (defScope s_is_well_formed) := ⟨rfl, rfl, rfl, by decide +kernel, rfl, by decide +kernel, by decide +kernel⟩
theorem Top.f_kind_of (T : Top w K mg) : FunD K ("kind_of" : Str) ("kind_of" : Str) (defArgs s_kind_of) (defBody s_kind_of) (defScope s_kind_of) (d_kind_of.dvs K) (d_kind_of.kws K) (He.ga K ("kind_of" : Str)) (fdOf K d_kind_of) := T.fun_ 17 rfl
theorem Top.b_kind_of (T : Top w K mg) : Binds K (fdOf K d_kind_of) ["expression", "kinds"] [] := (show FunD K ("kind_of" : Str) ("kind_of" : Str) (defArgs s_kind_of) (defBody s_kind_of) (defScope s_kind_of) [] (d_kind_of.kws K) (He.ga K ("kind_of" : Str)) (fdOf K d_kind_of) from T.f_kind_of).bindsN fun _ _ _ _ _ _ us hl => match us, hl with | [_, _], _ => rfl
theorem sc_kind_of : FnScope ["expression", "kinds", "word", "part"] ["expression", "kinds"] (defScope s_kind_of) := ⟨rfl, rfl, rfl, by decide +kernel, rfl, by decide +kernel, by decide +kernel⟩
theorem Top.f_joined_kind (T : Top w K mg) : FunD K ("joined_kind" : Str) ("joined_kind" : Str) (defArgs s_joined_kind) (defBody s_joined_kind) (defScope s_joined_kind) (d_joined_kind.dvs K) (d_joined_kind.kws K) (He.ga K ("joined_kind" : Str)) (fdOf K d_joined_kind) := T.fun_ 18 rfl
theorem Top.b_joined_kind (T : Top w K mg) : Binds K (fdOf K d_joined_kind) ["word", "kinds"] [] := (show FunD K ("joined_kind" : Str) ("joined_kind" : Str) (defArgs s_joined_kind) (defBody s_joined_kind) (defScope s_joined_kind) [] (d_joined_kind.kws K) (He.ga K ("joined_kind" : Str)) (fdOf K d_joined_kind) from T.f_joined_kind).bindsN fun _ _ _ _ _ _ us hl => match us, hl with | [_, _], _ => rfl
theorem sc_joined_kind : FnScope ["word", "kinds", "kind", "needed"] ["word", "kinds"] (defScope s_joined_kind) := ⟨rfl, rfl, rfl, by decide +kernel, rfl, by decide +kernel, by decide +kernel⟩
theorem Top.f__usual_kind (T : Top w K mg) : FunD K ("_usual_kind" : Str) ("_usual_kind" : Str) (defArgs s__usual_kind) (defBody s__usual_kind) (defScope s__usual_kind) (d__usual_kind.dvs K) (d__usual_kind.kws K) (He.ga K ("_usual_kind" : Str)) (fdOf K d__usual_kind) := T.fun_ 19 rfl
theorem Top.b__usual_kind (T : Top w K mg) : Binds K (fdOf K d__usual_kind) ["word"] [] := (show FunD K ("_usual_kind" : Str) ("_usual_kind" : Str) (defArgs s__usual_kind) (defBody s__usual_kind) (defScope s__usual_kind) [] (d__usual_kind.kws K) (He.ga K ("_usual_kind" : Str)) (fdOf K d__usual_kind) from T.f__usual_kind).bindsN fun _ _ _ _ _ _ us hl => match us, hl with | [_], _ => rfl
theorem sc__usual_kind : FnScope ["word"] ["word"] (defScope s__usual_kind) := ⟨rfl, rfl, rfl, by decide +kernel, rfl, by decide +kernel, by decide +kernel⟩
theorem Top.f__fit (T : Top w K mg) : FunD K ("_fit" : Str) ("_fit" : Str) (defArgs s__fit) (defBody s__fit) (defScope s__fit) (d__fit.dvs K) (d__fit.kws K) (He.ga K ("_fit" : Str)) (fdOf K d__fit) := T.fun_ 20 rfl
theorem Top.b__fit (T : Top w K mg) : Binds K (fdOf K d__fit) ["kind", "other"] [] := (show FunD K ("_fit" : Str) ("_fit" : Str) (defArgs s__fit) (defBody s__fit) (defScope s__fit) [] (d__fit.kws K) (He.ga K ("_fit" : Str)) (fdOf K d__fit) from T.f__fit).bindsN fun _ _ _ _ _ _ us hl => match us, hl with | [_, _], _ => rfl
theorem sc__fit : FnScope ["kind", "other"] ["kind", "other"] (defScope s__fit) := ⟨rfl, rfl, rfl, by decide +kernel, rfl, by decide +kernel, by decide +kernel⟩
theorem Top.f__is_single (T : Top w K mg) : FunD K ("_is_single" : Str) ("_is_single" : Str) (defArgs s__is_single) (defBody s__is_single) (defScope s__is_single) (d__is_single.dvs K) (d__is_single.kws K) (He.ga K ("_is_single" : Str)) (fdOf K d__is_single) := T.fun_ 21 rfl
theorem Top.b__is_single (T : Top w K mg) : Binds K (fdOf K d__is_single) ["word", "given"] [] := (show FunD K ("_is_single" : Str) ("_is_single" : Str) (defArgs s__is_single) (defBody s__is_single) (defScope s__is_single) [] (d__is_single.kws K) (He.ga K ("_is_single" : Str)) (fdOf K d__is_single) from T.f__is_single).bindsN fun _ _ _ _ _ _ us hl => match us, hl with | [_, _], _ => rfl
theorem sc__is_single : FnScope ["word", "given"] ["word", "given"] (defScope s__is_single) := ⟨rfl, rfl, rfl, by decide +kernel, rfl, by decide +kernel, by decide +kernel⟩
theorem Top.f__is_double (T : Top w K mg) : FunD K ("_is_double" : Str) ("_is_double" : Str) (defArgs s__is_double) (defBody s__is_double) (defScope s__is_double) (d__is_double.dvs K) (d__is_double.kws K) (He.ga K ("_is_double" : Str)) (fdOf K d__is_double) := T.fun_ 22 rfl
theorem Top.b__is_double (T : Top w K mg) : Binds K (fdOf K d__is_double) ["word", "first", "second"] [] := (show FunD K ("_is_double" : Str) ("_is_double" : Str) (defArgs s__is_double) (defBody s__is_double) (defScope s__is_double) [] (d__is_double.kws K) (He.ga K ("_is_double" : Str)) (fdOf K d__is_double) from T.f__is_double).bindsN fun _ _ _ _ _ _ us hl => match us, hl with | [_, _, _], _ => rfl
theorem sc__is_double : FnScope ["word", "first", "second"] ["word", "first", "second"] (defScope s__is_double) := ⟨rfl, rfl, rfl, by decide +kernel, rfl, by decide +kernel, by decide +kernel⟩
theorem Top.f__is_order (T : Top w K mg) : FunD K ("_is_order" : Str) ("_is_order" : Str) (defArgs s__is_order) (defBody s__is_order) (defScope s__is_order) (d__is_order.dvs K) (d__is_order.kws K) (He.ga K ("_is_order" : Str)) (fdOf K d__is_order) := T.fun_ 23 rfl
theorem Top.b__is_order (T : Top w K mg) : Binds K (fdOf K d__is_order) ["value"] [] := (show FunD K ("_is_order" : Str) ("_is_order" : Str) (defArgs s__is_order) (defBody s__is_order) (defScope s__is_order) [] (d__is_order.kws K) (He.ga K ("_is_order" : Str)) (fdOf K d__is_order) from T.f__is_order).bindsN fun _ _ _ _ _ _ us hl => match us, hl with | [_], _ => rfl
theorem sc__is_order : FnScope ["value"] ["value"] (defScope s__is_order) := ⟨rfl, rfl, rfl, by decide +kernel, rfl, by decide +kernel, by decide +kernel⟩
theorem Top.f_is_expression (T : Top w K mg) : FunD K ("is_expression" : Str) ("is_expression" : Str) (defArgs s_is_expression) (defBody s_is_expression) (defScope s_is_expression) (d_is_expression.dvs K) (d_is_expression.kws K) (He.ga K ("is_expression" : Str)) (fdOf K d_is_expression) := T.fun_ 24 rfl
theorem Top.b_is_expression (T : Top w K mg) : Binds K (fdOf K d_is_expression) ["value"] [] := (show FunD K ("is_expression" : Str) ("is_expression" : Str) (defArgs s_is_expression) (defBody s_is_expression) (defScope s_is_expression) [] (d_is_expression.kws K) (He.ga K ("is_expression" : Str)) (fdOf K d_is_expression) from T.f_is_expression).bindsN fun _ _ _ _ _ _ us hl => match us, hl with | [_], _ => rfl
theorem sc_is_expression : FnScope ["value", "waiting", "seen", "part", "level", "inner"] ["value"] (defScope s_is_expression) := ⟨rfl, rfl, rfl, by decide +kernel, rfl, by decide +kernel, by decide +kernel⟩
theorem Top.f_expression_text (T : Top w K mg) : FunD K ("expression_text" : Str) ("expression_text" : Str) (defArgs s_expression_text) (defBody s_expression_text) (defScope s_expression_text) (d_expression_text.dvs K) (d_expression_text.kws K) (He.ga K ("expression_text" : Str)) (fdOf K d_expression_text) := T.fun_ 25 rfl
theorem Top.b_expression_text (T : Top w K mg) : Binds K (fdOf K d_expression_text) ["expression"] [] := (show FunD K ("expression_text" : Str) ("expression_text" : Str) (defArgs s_expression_text) (defBody s_expression_text) (defScope s_expression_text) [] (d_expression_text.kws K) (He.ga K ("expression_text" : Str)) (fdOf K d_expression_text) from T.f_expression_text).bindsN fun _ _ _ _ _ _ us hl => match us, hl with | [_], _ => rfl
theorem sc_expression_text : FnScope ["expression", "word", "inner", "part"] ["expression"] (defScope s_expression_text) := ⟨rfl, rfl, rfl, by decide +kernel, rfl, by decide +kernel, by decide +kernel⟩
theorem Top.f_read_expression (T : Top w K mg) : FunD K ("read_expression" : Str) ("read_expression" : Str) (defArgs s_read_expression) (defBody s_read_expression) (defScope s_read_expression) (d_read_expression.dvs K) (d_read_expression.kws K) (He.ga K ("read_expression" : Str)) (fdOf K d_read_expression) := T.fun_ 26 rfl
theorem Top.b_read_expression (T : Top w K mg) : Binds K (fdOf K d_read_expression) ["line"] [] := (show FunD K ("read_expression" : Str) ("read_expression" : Str) (defArgs s_read_expression) (defBody s_read_expression) (defScope s_read_expression) [] (d_read_expression.kws K) (He.ga K ("read_expression" : Str)) (fdOf K d_read_expression) from T.f_read_expression).bindsN fun _ _ _ _ _ _ us hl => match us, hl with | [_], _ => rfl
theorem sc_read_expression : FnScope ["line", "built", "text", "many", "expression", "_", "deepest"] ["line"] (defScope s_read_expression) := ⟨rfl, rfl, rfl, by decide +kernel, rfl, by decide +kernel, by decide +kernel⟩
theorem Top.f__in_postfix (T : Top w K mg) : FunD K ("_in_postfix" : Str) ("_in_postfix" : Str) (defArgs s__in_postfix) (defBody s__in_postfix) (defScope s__in_postfix) (d__in_postfix.dvs K) (d__in_postfix.kws K) (He.ga K ("_in_postfix" : Str)) (fdOf K d__in_postfix) := T.fun_ 27 rfl
theorem Top.b__in_postfix (T : Top w K mg) : Binds K (fdOf K d__in_postfix) ["line"] [] := (show FunD K ("_in_postfix" : Str) ("_in_postfix" : Str) (defArgs s__in_postfix) (defBody s__in_postfix) (defScope s__in_postfix) [] (d__in_postfix.kws K) (He.ga K ("_in_postfix" : Str)) (fdOf K d__in_postfix) from T.f__in_postfix).bindsN fun _ _ _ _ _ _ us hl => match us, hl with | [_], _ => rfl
theorem sc__in_postfix : FnScope ["line", "found", "open_words", "counts", "at", "piece", "words", "last", "leaf", "_"] ["line"] (defScope s__in_postfix) := ⟨rfl, rfl, rfl, by decide +kernel, rfl, by decide +kernel, by decide +kernel⟩
theorem Top.f__built_leaf (T : Top w K mg) : FunD K ("_built_leaf" : Str) ("_built_leaf" : Str) (defArgs s__built_leaf) (defBody s__built_leaf) (defScope s__built_leaf) (d__built_leaf.dvs K) (d__built_leaf.kws K) (He.ga K ("_built_leaf" : Str)) (fdOf K d__built_leaf) := T.fun_ 28 rfl
theorem Top.b__built_leaf (T : Top w K mg) : Binds K (fdOf K d__built_leaf) ["text"] [] := (show FunD K ("_built_leaf" : Str) ("_built_leaf" : Str) (defArgs s__built_leaf) (defBody s__built_leaf) (defScope s__built_leaf) [] (d__built_leaf.kws K) (He.ga K ("_built_leaf" : Str)) (fdOf K d__built_leaf) from T.f__built_leaf).bindsN fun _ _ _ _ _ _ us hl => match us, hl with | [_], _ => rfl
theorem sc__built_leaf : FnScope ["text", "leaf", "name"] ["text"] (defScope s__built_leaf) := ⟨rfl, rfl, rfl, by decide +kernel, rfl, by decide +kernel, by decide +kernel⟩
theorem Top.f__built_whole (T : Top w K mg) : FunD K ("_built_whole" : Str) ("_built_whole" : Str) (defArgs s__built_whole) (defBody s__built_whole) (defScope s__built_whole) (d__built_whole.dvs K) (d__built_whole.kws K) (He.ga K ("_built_whole" : Str)) (fdOf K d__built_whole) := T.fun_ 29 rfl
theorem Top.b__built_whole (T : Top w K mg) : Binds K (fdOf K d__built_whole) ["word", "parts"] [] := (show FunD K ("_built_whole" : Str) ("_built_whole" : Str) (defArgs s__built_whole) (defBody s__built_whole) (defScope s__built_whole) [] (d__built_whole.kws K) (He.ga K ("_built_whole" : Str)) (fdOf K d__built_whole) from T.f__built_whole).bindsN fun _ _ _ _ _ _ us hl => match us, hl with | [_, _], _ => rfl
theorem sc__built_whole : FnScope ["word", "parts", "expressions", "part", "kind", "many", "deepest"] ["word", "parts"] (defScope s__built_whole) := ⟨rfl, rfl, rfl, by decide +kernel, rfl, by decide +kernel, by decide +kernel⟩
theorem Top.f__built_sample (T : Top w K mg) : FunD K ("_built_sample" : Str) ("_built_sample" : Str) (defArgs s__built_sample) (defBody s__built_sample) (defScope s__built_sample) (d__built_sample.dvs K) (d__built_sample.kws K) (He.ga K ("_built_sample" : Str)) (fdOf K d__built_sample) := T.fun_ 30 rfl
theorem Top.b__built_sample (T : Top w K mg) : Binds K (fdOf K d__built_sample) ["numbers"] [] := (show FunD K ("_built_sample" : Str) ("_built_sample" : Str) (defArgs s__built_sample) (defBody s__built_sample) (defScope s__built_sample) [] (d__built_sample.kws K) (He.ga K ("_built_sample" : Str)) (fdOf K d__built_sample) from T.f__built_sample).bindsN fun _ _ _ _ _ _ us hl => match us, hl with | [_], _ => rfl
theorem sc__built_sample : FnScope ["numbers", "number"] ["numbers"] (defScope s__built_sample) := ⟨rfl, rfl, rfl, by decide +kernel, rfl, by decide +kernel, by decide +kernel⟩
theorem Top.f__checked_leaf (T : Top w K mg) : FunD K ("_checked_leaf" : Str) ("_checked_leaf" : Str) (defArgs s__checked_leaf) (defBody s__checked_leaf) (defScope s__checked_leaf) (d__checked_leaf.dvs K) (d__checked_leaf.kws K) (He.ga K ("_checked_leaf" : Str)) (fdOf K d__checked_leaf) := T.fun_ 31 rfl
theorem Top.b__checked_leaf (T : Top w K mg) : Binds K (fdOf K d__checked_leaf) ["leaf"] [] := (show FunD K ("_checked_leaf" : Str) ("_checked_leaf" : Str) (defArgs s__checked_leaf) (defBody s__checked_leaf) (defScope s__checked_leaf) [] (d__checked_leaf.kws K) (He.ga K ("_checked_leaf" : Str)) (fdOf K d__checked_leaf) from T.f__checked_leaf).bindsN fun _ _ _ _ _ _ us hl => match us, hl with | [_], _ => rfl
theorem sc__checked_leaf : FnScope ["leaf"] ["leaf"] (defScope s__checked_leaf) := ⟨rfl, rfl, rfl, by decide +kernel, rfl, by decide +kernel, by decide +kernel⟩
theorem Top.f__law_stream (T : Top w K mg) : FunD K ("_law_stream" : Str) ("_law_stream" : Str) (defArgs s__law_stream) (defBody s__law_stream) (defScope s__law_stream) (d__law_stream.dvs K) (d__law_stream.kws K) (He.ga K ("_law_stream" : Str)) (fdOf K d__law_stream) := T.fun_ 32 rfl
theorem Top.b__law_stream (T : Top w K mg) : Binds K (fdOf K d__law_stream) ["script"] [] := (show FunD K ("_law_stream" : Str) ("_law_stream" : Str) (defArgs s__law_stream) (defBody s__law_stream) (defScope s__law_stream) [] (d__law_stream.kws K) (He.ga K ("_law_stream" : Str)) (fdOf K d__law_stream) from T.f__law_stream).bindsN fun _ _ _ _ _ _ us hl => match us, hl with | [_], _ => rfl
theorem sc__law_stream : FnScope ["script", "mixed", "cell"] ["script"] (defScope s__law_stream) := ⟨rfl, rfl, rfl, by decide +kernel, rfl, by decide +kernel, by decide +kernel⟩
theorem Top.f__law_draw (T : Top w K mg) : FunD K ("_law_draw" : Str) ("_law_draw" : Str) (defArgs s__law_draw) (defBody s__law_draw) (defScope s__law_draw) (d__law_draw.dvs K) (d__law_draw.kws K) (He.ga K ("_law_draw" : Str)) (fdOf K d__law_draw) := T.fun_ 33 rfl
theorem Top.b__law_draw (T : Top w K mg) : Binds K (fdOf K d__law_draw) ["stream", "many"] [] := (show FunD K ("_law_draw" : Str) ("_law_draw" : Str) (defArgs s__law_draw) (defBody s__law_draw) (defScope s__law_draw) [] (d__law_draw.kws K) (He.ga K ("_law_draw" : Str)) (fdOf K d__law_draw) from T.f__law_draw).bindsN fun _ _ _ _ _ _ us hl => match us, hl with | [_, _], _ => rfl
theorem sc__law_draw : FnScope ["stream", "many", "value"] ["stream", "many"] (defScope s__law_draw) := ⟨rfl, rfl, rfl, by decide +kernel, rfl, by decide +kernel, by decide +kernel⟩
theorem Top.f__law_small_ratio (T : Top w K mg) : FunD K ("_law_small_ratio" : Str) ("_law_small_ratio" : Str) (defArgs s__law_small_ratio) (defBody s__law_small_ratio) (defScope s__law_small_ratio) (d__law_small_ratio.dvs K) (d__law_small_ratio.kws K) (He.ga K ("_law_small_ratio" : Str)) (fdOf K d__law_small_ratio) := T.fun_ 34 rfl
theorem Top.b__law_small_ratio (T : Top w K mg) : Binds K (fdOf K d__law_small_ratio) ["stream"] [] := (show FunD K ("_law_small_ratio" : Str) ("_law_small_ratio" : Str) (defArgs s__law_small_ratio) (defBody s__law_small_ratio) (defScope s__law_small_ratio) [] (d__law_small_ratio.kws K) (He.ga K ("_law_small_ratio" : Str)) (fdOf K d__law_small_ratio) from T.f__law_small_ratio).bindsN fun _ _ _ _ _ _ us hl => match us, hl with | [_], _ => rfl
theorem sc__law_small_ratio : FnScope ["stream"] ["stream"] (defScope s__law_small_ratio) := ⟨rfl, rfl, rfl, by decide +kernel, rfl, by decide +kernel, by decide +kernel⟩
theorem Top.f__law_number (T : Top w K mg) : FunD K ("_law_number" : Str) ("_law_number" : Str) (defArgs s__law_number) (defBody s__law_number) (defScope s__law_number) (d__law_number.dvs K) (d__law_number.kws K) (He.ga K ("_law_number" : Str)) (fdOf K d__law_number) := T.fun_ 35 rfl
theorem Top.b__law_number (T : Top w K mg) : Binds K (fdOf K d__law_number) ["stream", "deep", "names"] [] := (show FunD K ("_law_number" : Str) ("_law_number" : Str) (defArgs s__law_number) (defBody s__law_number) (defScope s__law_number) [] (d__law_number.kws K) (He.ga K ("_law_number" : Str)) (fdOf K d__law_number) from T.f__law_number).bindsN fun _ _ _ _ _ _ us hl => match us, hl with | [_, _, _], _ => rfl
theorem sc__law_number : FnScope ["stream", "deep", "names", "pick", "row", "part", "word"] ["stream", "deep", "names"] (defScope s__law_number) := ⟨rfl, rfl, rfl, by decide +kernel, rfl, by decide +kernel, by decide +kernel⟩
theorem Top.f__law_truth (T : Top w K mg) : FunD K ("_law_truth" : Str) ("_law_truth" : Str) (defArgs s__law_truth) (defBody s__law_truth) (defScope s__law_truth) (d__law_truth.dvs K) (d__law_truth.kws K) (He.ga K ("_law_truth" : Str)) (fdOf K d__law_truth) := T.fun_ 36 rfl
theorem Top.b__law_truth (T : Top w K mg) : Binds K (fdOf K d__law_truth) ["stream", "deep", "names"] [] := (show FunD K ("_law_truth" : Str) ("_law_truth" : Str) (defArgs s__law_truth) (defBody s__law_truth) (defScope s__law_truth) [] (d__law_truth.kws K) (He.ga K ("_law_truth" : Str)) (fdOf K d__law_truth) from T.f__law_truth).bindsN fun _ _ _ _ _ _ us hl => match us, hl with | [_, _, _], _ => rfl
theorem sc__law_truth : FnScope ["stream", "deep", "names", "pick", "part", "word"] ["stream", "deep", "names"] (defScope s__law_truth) := ⟨rfl, rfl, rfl, by decide +kernel, rfl, by decide +kernel, by decide +kernel⟩
theorem Top.f__law_names (T : Top w K mg) : FunD K ("_law_names" : Str) ("_law_names" : Str) (defArgs s__law_names) (defBody s__law_names) (defScope s__law_names) (d__law_names.dvs K) (d__law_names.kws K) (He.ga K ("_law_names" : Str)) (fdOf K d__law_names) := T.fun_ 37 rfl
theorem Top.b__law_names (T : Top w K mg) : Binds K (fdOf K d__law_names) [] [] := (show FunD K ("_law_names" : Str) ("_law_names" : Str) (defArgs s__law_names) (defBody s__law_names) (defScope s__law_names) [] (d__law_names.kws K) (He.ga K ("_law_names" : Str)) (fdOf K d__law_names) from T.f__law_names).bindsN fun _ _ _ _ _ _ us hl => match us, hl with | [], _ => rfl
theorem sc__law_names : FnScope ["rows"] [] (defScope s__law_names) := ⟨rfl, rfl, rfl, by decide +kernel, rfl, by decide +kernel, by decide +kernel⟩
theorem Top.f__law_any (T : Top w K mg) : FunD K ("_law_any" : Str) ("_law_any" : Str) (defArgs s__law_any) (defBody s__law_any) (defScope s__law_any) (d__law_any.dvs K) (d__law_any.kws K) (He.ga K ("_law_any" : Str)) (fdOf K d__law_any) := T.fun_ 38 rfl
theorem Top.b__law_any (T : Top w K mg) : Binds K (fdOf K d__law_any) ["stream", "deep"] [] := (show FunD K ("_law_any" : Str) ("_law_any" : Str) (defArgs s__law_any) (defBody s__law_any) (defScope s__law_any) [] (d__law_any.kws K) (He.ga K ("_law_any" : Str)) (fdOf K d__law_any) from T.f__law_any).bindsN fun _ _ _ _ _ _ us hl => match us, hl with | [_, _], _ => rfl
theorem sc__law_any : FnScope ["stream", "deep"] ["stream", "deep"] (defScope s__law_any) := ⟨rfl, rfl, rfl, by decide +kernel, rfl, by decide +kernel, by decide +kernel⟩
theorem Top.f__law_parts (T : Top w K mg) : FunD K ("_law_parts" : Str) ("_law_parts" : Str) (defArgs s__law_parts) (defBody s__law_parts) (defScope s__law_parts) (d__law_parts.dvs K) (d__law_parts.kws K) (He.ga K ("_law_parts" : Str)) (fdOf K d__law_parts) := T.fun_ 39 rfl
theorem Top.b__law_parts (T : Top w K mg) : Binds K (fdOf K d__law_parts) ["value"] [] := (show FunD K ("_law_parts" : Str) ("_law_parts" : Str) (defArgs s__law_parts) (defBody s__law_parts) (defScope s__law_parts) [] (d__law_parts.kws K) (He.ga K ("_law_parts" : Str)) (fdOf K d__law_parts) from T.f__law_parts).bindsN fun _ _ _ _ _ _ us hl => match us, hl with | [_], _ => rfl
theorem sc__law_parts : FnScope ["value"] ["value"] (defScope s__law_parts) := ⟨rfl, rfl, rfl, by decide +kernel, rfl, by decide +kernel, by decide +kernel⟩
theorem Top.f__law_size (T : Top w K mg) : FunD K ("_law_size" : Str) ("_law_size" : Str) (defArgs s__law_size) (defBody s__law_size) (defScope s__law_size) (d__law_size.dvs K) (d__law_size.kws K) (He.ga K ("_law_size" : Str)) (fdOf K d__law_size) := T.fun_ 40 rfl
theorem Top.b__law_size (T : Top w K mg) : Binds K (fdOf K d__law_size) ["value"] [] := (show FunD K ("_law_size" : Str) ("_law_size" : Str) (defArgs s__law_size) (defBody s__law_size) (defScope s__law_size) [] (d__law_size.kws K) (He.ga K ("_law_size" : Str)) (fdOf K d__law_size) from T.f__law_size).bindsN fun _ _ _ _ _ _ us hl => match us, hl with | [_], _ => rfl
theorem sc__law_size : FnScope ["value", "part"] ["value"] (defScope s__law_size) := ⟨rfl, rfl, rfl, by decide +kernel, rfl, by decide +kernel, by decide +kernel⟩
theorem Top.f__law_number_text (T : Top w K mg) : FunD K ("_law_number_text" : Str) ("_law_number_text" : Str) (defArgs s__law_number_text) (defBody s__law_number_text) (defScope s__law_number_text) (d__law_number_text.dvs K) (d__law_number_text.kws K) (He.ga K ("_law_number_text" : Str)) (fdOf K d__law_number_text) := T.fun_ 41 rfl
theorem Top.b__law_number_text (T : Top w K mg) : Binds K (fdOf K d__law_number_text) ["ratio"] [] := (show FunD K ("_law_number_text" : Str) ("_law_number_text" : Str) (defArgs s__law_number_text) (defBody s__law_number_text) (defScope s__law_number_text) [] (d__law_number_text.kws K) (He.ga K ("_law_number_text" : Str)) (fdOf K d__law_number_text) from T.f__law_number_text).bindsN fun _ _ _ _ _ _ us hl => match us, hl with | [_], _ => rfl
theorem sc__law_number_text : FnScope ["ratio"] ["ratio"] (defScope s__law_number_text) := ⟨rfl, rfl, rfl, by decide +kernel, rfl, by decide +kernel, by decide +kernel⟩
theorem Top.f__law_text (T : Top w K mg) : FunD K ("_law_text" : Str) ("_law_text" : Str) (defArgs s__law_text) (defBody s__law_text) (defScope s__law_text) (d__law_text.dvs K) (d__law_text.kws K) (He.ga K ("_law_text" : Str)) (fdOf K d__law_text) := T.fun_ 42 rfl
theorem Top.b__law_text (T : Top w K mg) : Binds K (fdOf K d__law_text) ["value"] [] := (show FunD K ("_law_text" : Str) ("_law_text" : Str) (defArgs s__law_text) (defBody s__law_text) (defScope s__law_text) [] (d__law_text.kws K) (He.ga K ("_law_text" : Str)) (fdOf K d__law_text) from T.f__law_text).bindsN fun _ _ _ _ _ _ us hl => match us, hl with | [_], _ => rfl
theorem sc__law_text : FnScope ["value", "word", "part"] ["value"] (defScope s__law_text) := ⟨rfl, rfl, rfl, by decide +kernel, rfl, by decide +kernel, by decide +kernel⟩
theorem Top.f__law_truths (T : Top w K mg) : FunD K ("_law_truths" : Str) ("_law_truths" : Str) (defArgs s__law_truths) (defBody s__law_truths) (defScope s__law_truths) (d__law_truths.dvs K) (d__law_truths.kws K) (He.ga K ("_law_truths" : Str)) (fdOf K d__law_truths) := T.fun_ 43 rfl
theorem Top.b__law_truths (T : Top w K mg) : Binds K (fdOf K d__law_truths) ["value"] [] := (show FunD K ("_law_truths" : Str) ("_law_truths" : Str) (defArgs s__law_truths) (defBody s__law_truths) (defScope s__law_truths) [] (d__law_truths.kws K) (He.ga K ("_law_truths" : Str)) (fdOf K d__law_truths) from T.f__law_truths).bindsN fun _ _ _ _ _ _ us hl => match us, hl with | [_], _ => rfl
theorem sc__law_truths : FnScope ["value", "part"] ["value"] (defScope s__law_truths) := ⟨rfl, rfl, rfl, by decide +kernel, rfl, by decide +kernel, by decide +kernel⟩
theorem Top.f_law (T : Top w K mg) : FunD K ("law" : Str) ("law" : Str) (defArgs s_law) (defBody s_law) (defScope s_law) (d_law.dvs K) (d_law.kws K) (He.ga K ("law" : Str)) (fdOf K d_law) := T.fun_ 44 rfl
theorem Top.b_law (T : Top w K mg) : Binds K (fdOf K d_law) ["script"] [] := (show FunD K ("law" : Str) ("law" : Str) (defArgs s_law) (defBody s_law) (defScope s_law) [] (d_law.kws K) (He.ga K ("law" : Str)) (fdOf K d_law) from T.f_law).bindsN fun _ _ _ _ _ _ us hl => match us, hl with | [_], _ => rfl
theorem sc_law : FnScope ["script", "stream", "one", "two", "found"] ["script"] (defScope s_law) := ⟨rfl, rfl, rfl, by decide +kernel, rfl, by decide +kernel, by decide +kernel⟩
end
/-! ### heap-free readings: data, how values read as data in a frozen part of the heap -/
inductive Dt where
  | non | bl (b : Bool) | int (i : Int) | str (x : Str) | ty (n : String) | adr (a : Addr) | strm
  | rat (n d : Int)
  | tup (ds : List Dt) | lst (t : Bool) (ds : List Dt)
  | dic (t : Bool) (ks : List Key) (ds : List Dt) | dit (t : Bool) (ks : List (List Key)) (ds : List Dt)
  | ins (C : Addr) (fs : List Str) (ds : List Dt)
deriving Inhabited
def ratF (n d : Int) : List (Str × V) := [("top", .int n), ("bottom", .int d)]
mutual
def Rz (K : PySem.W.Frag) (B F : Hp) : Dt → V → Prop
  | .non, v => v = .non
  | .bl b, v => v = .bl b
  | .int i, v => v = .int i
  | .str x, v => v = .str x
  | .ty n, v => v = .ty n
  | .adr a, v => v = .ref a
  | .strm, v => ∃ a, v = .ref a ∧ Strm F a
  | .rat n d, v => ∃ a dx, v = .ref a ∧ F a = some (.ins (He.ga K "Ratio") dx (ratF n d))
  | .tup ds, v => ∃ a xs, v = .ref a ∧ F a = some (.tup xs) ∧ Rzl K B F ds xs
  | .lst t ds, v => ∃ a xs, v = .ref a ∧ F a = some (.lst xs) ∧ (t = true → B a = none) ∧ Rzl K B F ds xs
  | .dic t ks ds, v => ∃ a kvs, v = .ref a ∧ F a = some (.dK kvs) ∧ (t = true → B a = none) ∧ kvs.map Prod.fst = ks ∧ Rzl K B F ds (kvs.map Prod.snd)
  | .dit t ks ds, v => ∃ a kvs, v = .ref a ∧ F a = some (.dT kvs) ∧ (t = true → B a = none) ∧ kvs.map Prod.fst = ks ∧ Rzl K B F ds (kvs.map Prod.snd)
  | .ins C fs ds, v => ∃ a dx kvs, v = .ref a ∧ F a = some (.ins C dx kvs) ∧ kvs.map Prod.fst = fs ∧ Rzl K B F ds (kvs.map Prod.snd)
def Rzl (K : PySem.W.Frag) (B F : Hp) : List Dt → List V → Prop
  | [], xs => xs = []
  | d :: ds, xs => ∃ x r, xs = x :: r ∧ Rz K B F d x ∧ Rzl K B F ds r
end
mutual
/-- seen by a callee: nothing is new -/
def Dt.old : Dt → Dt
  | .tup ds => .tup (Dt.olds ds)
  | .lst _ ds => .lst false (Dt.olds ds)
  | .dic _ ks ds => .dic false ks (Dt.olds ds)
  | .dit _ ks ds => .dit false ks (Dt.olds ds)
  | .ins C fs ds => .ins C fs (Dt.olds ds)
  | .non => .non | .bl b => .bl b | .int i => .int i | .str x => .str x | .ty n => .ty n | .adr a => .adr a | .strm => .strm | .rat n d => .rat n d
def Dt.olds : List Dt → List Dt
  | [] => []
  | d :: ds => d.old :: Dt.olds ds
end
theorem olds_map : ∀ ds : List Dt, Dt.olds ds = ds.map Dt.old
  | [] => rfl
  | d :: ds => by rw [Dt.olds, olds_map ds]; rfl
theorem rz_str {F F' : Hp} {a : Addr} (e : Same F F') (h : Strm F a) : Strm F' a := h.mono e
mutual
theorem rz_mono {K : PySem.W.Frag} {B F F' : Hp} (e : Same F F') : ∀ (d : Dt) (v : V), Rz K B F d v → Rz K B F' d v
  | .non, _, h | .bl _, _, h | .int _, _, h | .str _, _, h | .ty _, _, h | .adr _, _, h => by simpa only [Rz] using h
  | .strm, _, h => by
    simp only [Rz] at h ⊢
    obtain ⟨a, r, h⟩ := h
    exact ⟨a, r, h.mono e⟩
  | .rat _ _, _, h => by
    simp only [Rz] at h ⊢
    obtain ⟨a, dx, r, h⟩ := h
    exact ⟨a, dx, r, e _ _ h⟩
  | .tup ds, _, h => by
    simp only [Rz] at h ⊢
    obtain ⟨a, xs, r, h1, h2⟩ := h
    exact ⟨a, xs, r, e _ _ h1, rzl_mono e ds xs h2⟩
  | .lst _ ds, _, h => by
    simp only [Rz] at h ⊢
    obtain ⟨a, xs, r, h1, h3, h2⟩ := h
    exact ⟨a, xs, r, e _ _ h1, h3, rzl_mono e ds xs h2⟩
  | .dic _ _ ds, _, h => by
    simp only [Rz] at h ⊢
    obtain ⟨a, xs, r, h1, h3, h4, h2⟩ := h
    exact ⟨a, xs, r, e _ _ h1, h3, h4, rzl_mono e ds _ h2⟩
  | .dit _ _ ds, _, h => by
    simp only [Rz] at h ⊢
    obtain ⟨a, xs, r, h1, h3, h4, h2⟩ := h
    exact ⟨a, xs, r, e _ _ h1, h3, h4, rzl_mono e ds _ h2⟩
  | .ins _ _ ds, _, h => by
    simp only [Rz] at h ⊢
    obtain ⟨a, dx, xs, r, h1, h4, h2⟩ := h
    exact ⟨a, dx, xs, r, e _ _ h1, h4, rzl_mono e ds _ h2⟩
theorem rzl_mono {K : PySem.W.Frag} {B F F' : Hp} (e : Same F F') : ∀ (ds : List Dt) (vs : List V), Rzl K B F ds vs → Rzl K B F' ds vs
  | [], _, h => by simpa only [Rzl] using h
  | d :: ds, _, h => by
    simp only [Rzl] at h ⊢
    obtain ⟨x, r, e0, h1, h2⟩ := h
    exact ⟨x, r, e0, rz_mono e d x h1, rzl_mono e ds r h2⟩
end
mutual
theorem rz_old {K : PySem.W.Frag} {B B' F : Hp} : ∀ (d : Dt) (v : V), Rz K B F d v → Rz K B' F d.old v
  | .non, _, h | .bl _, _, h | .int _, _, h | .str _, _, h | .ty _, _, h | .adr _, _, h | .strm, _, h | .rat _ _, _, h => by simpa only [Rz, Dt.old] using h
  | .tup ds, _, h => by
    simp only [Rz, Dt.old] at h ⊢
    obtain ⟨a, xs, r, h1, h2⟩ := h
    exact ⟨a, xs, r, h1, rzl_old ds xs h2⟩
  | .lst _ ds, _, h => by
    simp only [Rz, Dt.old] at h ⊢
    obtain ⟨a, xs, r, h1, _, h2⟩ := h
    exact ⟨a, xs, r, h1, (fun z => nomatch z), rzl_old ds xs h2⟩
  | .dic _ _ ds, _, h => by
    simp only [Rz, Dt.old] at h ⊢
    obtain ⟨a, xs, r, h1, _, h4, h2⟩ := h
    exact ⟨a, xs, r, h1, (fun z => nomatch z), h4, rzl_old ds _ h2⟩
  | .dit _ _ ds, _, h => by
    simp only [Rz, Dt.old] at h ⊢
    obtain ⟨a, xs, r, h1, _, h4, h2⟩ := h
    exact ⟨a, xs, r, h1, (fun z => nomatch z), h4, rzl_old ds _ h2⟩
  | .ins _ _ ds, _, h => by
    simp only [Rz, Dt.old] at h ⊢
    obtain ⟨a, dx, xs, r, h1, h4, h2⟩ := h
    exact ⟨a, dx, xs, r, h1, h4, rzl_old ds _ h2⟩
theorem rzl_old {K : PySem.W.Frag} {B B' F : Hp} : ∀ (ds : List Dt) (vs : List V), Rzl K B F ds vs → Rzl K B' F (Dt.olds ds) vs
  | [], _, h => by simpa only [Rzl, Dt.olds] using h
  | d :: ds, _, h => by
    simp only [Rzl, Dt.olds] at h ⊢
    obtain ⟨x, r, e0, h1, h2⟩ := h
    exact ⟨x, r, e0, rz_old d x h1, rzl_old ds r h2⟩
end
mutual
theorem rz_base {K : PySem.W.Frag} {B B' F : Hp} (hb : ∀ a, B' a = none → B a = none) : ∀ (d : Dt) (v : V), Rz K B' F d v → Rz K B F d v
  | .non, _, h | .bl _, _, h | .int _, _, h | .str _, _, h | .ty _, _, h | .adr _, _, h | .strm, _, h | .rat _ _, _, h => by simpa only [Rz] using h
  | .tup ds, _, h => by
    simp only [Rz] at h ⊢
    obtain ⟨a, xs, r, h1, h2⟩ := h
    exact ⟨a, xs, r, h1, rzl_base hb ds xs h2⟩
  | .lst _ ds, _, h => by
    simp only [Rz] at h ⊢
    obtain ⟨a, xs, r, h1, t, h2⟩ := h
    exact ⟨a, xs, r, h1, fun z => hb _ (t z), rzl_base hb ds xs h2⟩
  | .dic _ _ ds, _, h => by
    simp only [Rz] at h ⊢
    obtain ⟨a, xs, r, h1, t, h4, h2⟩ := h
    exact ⟨a, xs, r, h1, fun z => hb _ (t z), h4, rzl_base hb ds _ h2⟩
  | .dit _ _ ds, _, h => by
    simp only [Rz] at h ⊢
    obtain ⟨a, xs, r, h1, t, h4, h2⟩ := h
    exact ⟨a, xs, r, h1, fun z => hb _ (t z), h4, rzl_base hb ds _ h2⟩
  | .ins _ _ ds, _, h => by
    simp only [Rz] at h ⊢
    obtain ⟨a, dx, xs, r, h1, h4, h2⟩ := h
    exact ⟨a, dx, xs, r, h1, h4, rzl_base hb ds _ h2⟩
theorem rzl_base {K : PySem.W.Frag} {B B' F : Hp} (hb : ∀ a, B' a = none → B a = none) : ∀ (ds : List Dt) (vs : List V), Rzl K B' F ds vs → Rzl K B F ds vs
  | [], _, h => by simpa only [Rzl] using h
  | d :: ds, _, h => by
    simp only [Rzl] at h ⊢
    obtain ⟨x, r, e0, h1, h2⟩ := h
    exact ⟨x, r, e0, rz_base hb d x h1, rzl_base hb ds r h2⟩
end
/-! ### lists of readings -/
section
variable {K : PySem.W.Frag} {B F : Hp}
theorem Rzl.nil : Rzl K B F [] [] := by simp only [Rzl]
theorem Rzl.cons {d : Dt} {ds : List Dt} {v : V} {vs : List V} (h : Rz K B F d v) (t : Rzl K B F ds vs) : Rzl K B F (d :: ds) (v :: vs) := by
  simp only [Rzl]
  exact ⟨v, vs, rfl, h, t⟩
theorem Rzl.inv {d : Dt} {ds : List Dt} {vs : List V} (h : Rzl K B F (d :: ds) vs) : ∃ v r, vs = v :: r ∧ Rz K B F d v ∧ Rzl K B F ds r := by
  simpa only [Rzl] using h
theorem Rzl.inv0 {vs : List V} (h : Rzl K B F [] vs) : vs = [] := by simpa only [Rzl] using h
theorem Rzl.len : ∀ {ds : List Dt} {vs : List V}, Rzl K B F ds vs → vs.length = ds.length
  | [], _, h => by rw [h.inv0]; rfl
  | d :: ds, _, h => by
    obtain ⟨v, r, rfl, _, t⟩ := h.inv
    rw [List.length_cons, List.length_cons, Rzl.len t]
theorem Rzl.app : ∀ {ds es : List Dt} {vs us : List V}, Rzl K B F ds vs → Rzl K B F es us → Rzl K B F (ds ++ es) (vs ++ us)
  | [], _, _, _, h, g => by rw [h.inv0]; exact g
  | d :: ds, _, _, _, h, g => by
    obtain ⟨v, r, rfl, h1, t⟩ := h.inv
    exact .cons h1 (Rzl.app t g)
theorem Rzl.at_ : ∀ {ds : List Dt} {vs : List V} {i : Nat} {d : Dt}, Rzl K B F ds vs → ds[i]? = some d → ∃ v, vs[i]? = some v ∧ Rz K B F d v
  | [], _, _, _, _, e => by simp at e
  | d :: ds, _, 0, _, h, e => by
    obtain ⟨v, r, rfl, h1, t⟩ := h.inv
    simp at e
    exact ⟨v, rfl, e ▸ h1⟩
  | d :: ds, _, i + 1, _, h, e => by
    obtain ⟨v, r, rfl, h1, t⟩ := h.inv
    obtain ⟨u, h2, h3⟩ := Rzl.at_ (i := i) t (by simpa using e)
    exact ⟨u, by simpa using h2, h3⟩
theorem Rzl.back : ∀ {ds : List Dt} {vs : List V} {i : Nat} {v : V}, Rzl K B F ds vs → vs[i]? = some v → ∃ d, ds[i]? = some d ∧ Rz K B F d v := fun {ds vs i v} h e => by
  have l := h.len
  have hi : i < vs.length := (List.getElem?_eq_some_iff.mp e).1
  obtain ⟨u, h1, h2⟩ := h.at_ (i := i) (d := ds[i]'(by omega)) (List.getElem?_eq_getElem (by omega))
  rw [e] at h1
  cases h1
  exact ⟨_, List.getElem?_eq_getElem (by omega), h2⟩
theorem Rzl.take : ∀ {ds : List Dt} {vs : List V} (n : Nat), Rzl K B F ds vs → Rzl K B F (ds.take n) (vs.take n)
  | _, _, 0, _ => by simp only [List.take_zero]; exact .nil
  | [], _, n + 1, h => by rw [h.inv0]; simp only [List.take_nil]; exact .nil
  | d :: ds, _, n + 1, h => by
    obtain ⟨v, r, rfl, h1, t⟩ := h.inv
    exact .cons h1 (Rzl.take n t)
theorem Rzl.drop : ∀ {ds : List Dt} {vs : List V} (n : Nat), Rzl K B F ds vs → Rzl K B F (ds.drop n) (vs.drop n)
  | _, _, 0, h => h
  | [], _, n + 1, h => by rw [h.inv0]; simp only [List.drop_nil]; exact .nil
  | d :: ds, _, n + 1, h => by
    obtain ⟨v, r, rfl, h1, t⟩ := h.inv
    exact Rzl.drop n t
theorem Rzl.set {e : Dt} {u : V} (he : Rz K B F e u) : ∀ {ds : List Dt} {vs : List V} (n : Nat), Rzl K B F ds vs → Rzl K B F (ds.set n e) (vs.set n u)
  | [], _, n, h => by rw [h.inv0]; exact .nil
  | d :: ds, _, 0, h => by
    obtain ⟨v, r, rfl, h1, t⟩ := h.inv
    exact .cons he t
  | d :: ds, _, n + 1, h => by
    obtain ⟨v, r, rfl, h1, t⟩ := h.inv
    exact .cons h1 (Rzl.set he n t)
theorem Rzl.rev : ∀ {ds : List Dt} {vs : List V}, Rzl K B F ds vs → Rzl K B F ds.reverse vs.reverse
  | [], _, h => by rw [h.inv0]; exact .nil
  | d :: ds, _, h => by
    obtain ⟨v, r, rfl, h1, t⟩ := h.inv
    rw [List.reverse_cons, List.reverse_cons]
    exact (Rzl.rev t).app (.cons h1 .nil)
end
/-! ### tables -/
section
variable {κ : Type} [DecidableEq κ] {α : Type}
def look : List κ → List α → κ → Option α
  | k :: ks, d :: ds, x => if k = x then some d else look ks ds x
  | _, _, _ => none
def putDs (ks : List κ) (ds : List α) (k : κ) (d : α) : List α := if k ∈ ks then List.zipWith (fun k' d' => if k' = k then d else d') ks ds else ds ++ [d]
def putKs (ks : List κ) (k : κ) : List κ := if k ∈ ks then ks else ks ++ [k]
theorem look_none {ks : List κ} {ds : List α} {k : κ} (hl : ds.length = ks.length) : look ks ds k = none ↔ k ∉ ks := by
  induction ks generalizing ds with
  | nil => simp [look]
  | cons a ks ih =>
    cases ds with
    | nil => cases hl
    | cons d ds =>
      by_cases e : a = k
      · simp [look, e]
      · simp only [look, if_neg e, List.mem_cons, not_or, ih (by simpa using hl)]
        exact ⟨fun h => ⟨fun z => e z.symm, h⟩, fun h => h.2⟩
end
section
variable {κ : Type} [DecidableEq κ] {K : PySem.W.Frag} {B F : Hp}
theorem tab_look {k : κ} : ∀ {kvs : List (κ × V)} {ds : List Dt}, Rzl K B F ds (kvs.map Prod.snd) → match look (kvs.map Prod.fst) ds k with | some d => ∃ v, valV kvs k = some v ∧ Rz K B F d v | none => valV kvs k = none
  | [], ds, h => by
    cases ds with
    | nil => rfl
    | cons d ds => obtain ⟨_, _, e, _⟩ := h.inv; cases e
  | p :: r, ds, h => by
    cases ds with
    | nil => cases h.inv0
    | cons d ds =>
      obtain ⟨v, r', e, h1, t⟩ := h.inv
      rw [List.map_cons] at e
      obtain ⟨rfl, rfl⟩ := List.cons.inj e
      rw [List.map_cons, look]
      by_cases c : p.1 = k
      · rw [if_pos c]
        exact ⟨_, valV_pos c, h1⟩
      · rw [if_neg c, valV_neg c]
        exact tab_look t
theorem any_mem (kvs : List (κ × V)) (k : κ) : ((kvs.any fun kv => decide (kv.1 = k)) = true) ↔ k ∈ kvs.map Prod.fst := by
  simp only [List.any_eq_true, decide_eq_true_eq, List.mem_map]
theorem tab_putK {kvs : List (κ × V)} {k : κ} {v : V} : (putK kvs k v).map Prod.fst = putKs (kvs.map Prod.fst) k := by
  unfold putK putKs
  by_cases c : k ∈ kvs.map Prod.fst
  · rw [if_pos ((any_mem _ _).mpr c), if_pos c, List.map_map]
    refine List.map_congr_left fun p _ => ?_
    show (if p.1 = k then (p.1, v) else p).1 = p.1
    split <;> rfl
  · rw [if_neg (fun z => c ((any_mem _ _).mp z)), if_neg c, List.map_append]
    rfl
theorem tab_repl {k : κ} {v : V} {d : Dt} (hv : Rz K B F d v) : ∀ {kvs : List (κ × V)} {ds : List Dt}, Rzl K B F ds (kvs.map Prod.snd) →
    Rzl K B F (List.zipWith (fun k' d' => if k' = k then d else d') (kvs.map Prod.fst) ds) ((kvs.map (fun kv => if kv.1 = k then (kv.1, v) else kv)).map Prod.snd)
  | [], ds, h => by
    cases ds with
    | nil => exact .nil
    | cons d ds => obtain ⟨_, _, e, _⟩ := h.inv; cases e
  | p :: r, ds, h => by
    cases ds with
    | nil => cases h.inv0
    | cons d' ds =>
      obtain ⟨u, r', e, h1, t⟩ := h.inv
      rw [List.map_cons] at e
      obtain ⟨rfl, rfl⟩ := List.cons.inj e
      rw [List.map_cons, List.map_cons, List.map_cons, List.zipWith_cons_cons]
      refine .cons ?_ (tab_repl hv t)
      by_cases c : p.1 = k
      · rw [if_pos c, if_pos c]; exact hv
      · rw [if_neg c, if_neg c]; exact h1
theorem tab_putD {kvs : List (κ × V)} {ds : List Dt} {k : κ} {v : V} {d : Dt} (h : Rzl K B F ds (kvs.map Prod.snd)) (hv : Rz K B F d v) : Rzl K B F (putDs (kvs.map Prod.fst) ds k d) ((putK kvs k v).map Prod.snd) := by
  unfold putK putDs
  by_cases c : k ∈ kvs.map Prod.fst
  · rw [if_pos ((any_mem _ _).mpr c), if_pos c]
    exact tab_repl hv h
  · rw [if_neg (fun z => c ((any_mem _ _).mp z)), if_neg c, List.map_append]
    exact h.app (.cons hv .nil)
end
/-! ### the frozen part, locks aside -/
def isDk : HO → Bool
  | .dK _ => true
  | .dT _ => true
  | _ => false
def Le (F H : Hp) : Prop := ∀ a o, F a = some o → H a = some o ∨ (isDk o = true ∧ ∃ ob, H a = some (.frz ob o))
theorem Le.refl (H : Hp) : Le H H := fun _ _ h => .inl h
theorem Le.same {F H H' : Hp} (l : Le F H) (s : Same H H') : Le F H' := fun a o e => (l a o e).elim (fun h => .inl (s _ _ h)) fun ⟨d, ob, h⟩ => .inr ⟨d, ob, s _ _ h⟩
theorem Le.of {F F' H : Hp} (s : Same F F') (l : Le F' H) : Le F H := fun a o e => l a o (s _ _ e)
theorem Le.exact {F H : Hp} (l : Le F H) {a : Addr} {o : HO} (e : F a = some o) (h : isDk o = false) : H a = some o := (l a o e).elim id fun ⟨d, _⟩ => by rw [h] at d; cases d
theorem Le.rd {F H : Hp} (l : Le F H) {a : Addr} {o : HO} (e : F a = some o) : L2.Rd H a o := (l a o e).elim .inl fun ⟨_, ob, h⟩ => .inr ⟨ob, h⟩
theorem Le.free {F H : Hp} (l : Le F H) {a : Addr} (e : H a = none) : F a = none := by
  cases z : F a with
  | none => rfl
  | some o => rcases l a o z with h | ⟨_, _, h⟩ <;> (rw [e] at h; cases h)
theorem Le.new {F H : Hp} (l : Le F H) {p : Addr} {o : HO} (e : H p = none) : Le (upd F p o) (upd H p o) := fun a u q => by
  by_cases c : a = p
  · rw [c, upd_same] at q
    rw [c, upd_same]
    exact .inl q
  · rw [upd_ne c] at q ⊢
    exact l a u q
/-- frozen: what is owned already stands in the heap -/
theorem Le.frz {F H : Hp} (l : Le F H) {p : Addr} {o : HO} (e : H p = some o) : Le (upd F p o) H := fun a u q => by
  by_cases c : a = p
  · rw [c, upd_same] at q
    rw [c, ← q]
    exact .inl e
  · rw [upd_ne c] at q
    exact l a u q
/-- written: an address outside of the frozen part -/
theorem Le.put {F H : Hp} (l : Le F H) {p : Addr} {o : HO} (e : F p = none) : Le F (upd H p o) := fun a u q => by
  rw [upd_ne (fun c => by rw [c, e] at q; cases q)]
  exact l a u q
/-- .. where each lock is one that is known -/
def Lk (J F H : Hp) : Prop := ∀ a o, F a = some o → H a = some o ∨ (isDk o = true ∧ ∃ ob, H a = some (.frz ob o) ∧ J a = some (.frz ob o))
theorem Lk.le {J F H : Hp} (l : Lk J F H) : Le F H := fun a o e => (l a o e).elim .inl fun ⟨d, ob, h, _⟩ => .inr ⟨d, ob, h⟩
theorem Le.lk {F H : Hp} (l : Le F H) : Lk H F H := fun a o e => (l a o e).elim .inl fun ⟨d, ob, h⟩ => .inr ⟨d, ob, h, h⟩
theorem Lk.same {J F H H' : Hp} (l : Lk J F H) (s : Same H H') : Lk J F H' := fun a o e => (l a o e).elim (fun h => .inl (s _ _ h)) fun ⟨d, ob, h, j⟩ => .inr ⟨d, ob, s _ _ h, j⟩
theorem Lk.new {J F H : Hp} (l : Lk J F H) {p : Addr} {o : HO} (e : H p = none) : Lk J (upd F p o) (upd H p o) := fun a u q => by
  by_cases c : a = p
  · rw [c, upd_same] at q
    rw [c, upd_same]
    exact .inl q
  · rw [upd_ne c] at q ⊢
    exact l a u q
theorem Lk.frz {J F H : Hp} (l : Lk J F H) {p : Addr} {o : HO} (e : H p = some o) : Lk J (upd F p o) H := fun a u q => by
  by_cases c : a = p
  · rw [c, upd_same] at q
    rw [c, ← q]
    exact .inl e
  · rw [upd_ne c] at q
    exact l a u q
theorem Lk.put {J F H : Hp} (l : Lk J F H) {p : Addr} {o : HO} (e : F p = none) : Lk J F (upd H p o) := fun a u q => by
  rw [upd_ne (fun c => by rw [c, e] at q; cases q)]
  exact l a u q
theorem same_new' {F : Hp} {p : Addr} {o : HO} (e : F p = none) : Same F (upd F p o) := same_new e
def isFz : HO → Bool
  | .frz _ _ => true
  | _ => false
def isTp : HO → Bool
  | .tup _ => true
  | _ => false
/-- what F' has more than F is new over H, or a tuple -/
def Nw (F H F' : Hp) : Prop := ∀ a o, F' a = some o → F a ≠ none ∨ H a = none ∨ isTp o = true
theorem Nw.refl (F H : Hp) : Nw F H F := fun _ _ e => .inl (by rw [e]; exact fun z => nomatch z)
theorem Nw.trans {F F' F'' H H' : Hp} (a : Nw F H F') (b : Nw F' H' F'') (s : ∀ a, H' a = none → H a = none) (m : Same F' F'') : Nw F H F'' := fun x o e => by
  rcases b x o e with h | h | h
  · cases z : F' x with
    | none => exact absurd z h
    | some u =>
      have := m _ _ z
      rw [e] at this
      cases this
      exact a x o z
  · exact .inr (.inl (s _ h))
  · exact .inr (.inr h)
structure Cz where
  K : PySem.W.Frag
  Er : XK
  Eh : Addr → List (Str × V) → Prop
/-- an error's object behind a call -/
def ErrR (B : Hp) (fs : List (Str × V)) (dd : Option Addr) (H : Hp) : Prop := Le B H ∧ match fs with
  | [] => dd = none
  | _ => ∃ x, dd = some x ∧ B x = none ∧ H x = some (.xd fs)
/-- what stays through a body: the heap at its entry, the frozen part there, what is held, what is hidden -/
structure Fm where
  B : Hp
  F0 : Hp
  J : Hp
  hd : Addr → Prop
structure Sc (z : Cz) (m : Fm) (F H : Hp) : Prop where
  lk : Lk m.J F H
  base : Same m.J H
  fr : Nw m.F0 m.B F
  dom : ∀ a, H a = none → m.B a = none
  bj : Le m.B m.J
  er : ∀ C fs dd H', z.Eh C fs → ErrR m.B fs dd H' → z.Er (.ref C) dd H'
  hid : ∀ a, m.hd a → F a = none ∧ ∃ o, m.J a = some o ∧ isTp o = false
  fj : ∀ a ob u, H a = some (.frz ob u) → m.J a = some (.frz ob u)
theorem Sc.le {z : Cz} {m : Fm} {F H : Hp} (S : Sc z m F H) : Le F H := S.lk.le
inductive Sl where
  | un | v (d : Dt) | o (d : Dt) | l (a : Addr) (d : Dt)
/-- the content of an object reads as d -/
inductive HoR (K : PySem.W.Frag) (B F : Hp) : HO → Dt → Prop
  | lst {xs : List V} {ds : List Dt} : Rzl K B F ds xs → HoR K B F (.lst xs) (.lst true ds)
  | dK {kvs : List (Key × V)} {ds : List Dt} : Rzl K B F ds (kvs.map Prod.snd) → HoR K B F (.dK kvs) (.dic true (kvs.map Prod.fst) ds)
  | dT {kvs : List (List Key × V)} {ds : List Dt} : Rzl K B F ds (kvs.map Prod.snd) → HoR K B F (.dT kvs) (.dit true (kvs.map Prod.fst) ds)
def OwnAt (K : PySem.W.Frag) (m : Fm) (F H : Hp) (l : Addr) (d : Dt) : Prop := F l = none ∧ m.B l = none ∧ m.J l = none ∧ ∃ ho, H l = some ho ∧ HoR K m.B F ho d
/-- held: as it stands now -/
def PinAt (K : PySem.W.Frag) (m : Fm) (F : Hp) (l : Addr) (d : Dt) : Prop := m.hd l ∧ m.B l = none ∧ ∃ ho, (m.J l = some ho ∨ isDk ho = true ∧ ∃ ob, m.J l = some (.frz ob ho)) ∧ HoR K m.B F ho d
def SlOk (K : PySem.W.Frag) (m : Fm) (F H : Hp) (ov : Option V) : Sl → Prop
  | .un => True
  | .v d => ∃ v, ov = some v ∧ Rz K m.B F d v
  | .o d => ∃ l, ov = some (.ref l) ∧ OwnAt K m F H l d
  | .l a d => ov = some (.ref a) ∧ PinAt K m F a d
structure Sm (z : Cz) (m : Fm) (F H : Hp) (σ : L2.St) (ρ : List Sl) : Prop extends Sc z m F H where
  len : σ.length = ρ.length
  slot : ∀ (i : Nat) (s : Sl) (ov : Option V), ρ[i]? = some s → σ[i]? = some ov → SlOk z.K m F H ov s
  sep : ∀ (i j : Nat) (d e : Dt) (l : Addr), ρ[i]? = some (.o d) → ρ[j]? = some (.o e) → σ[i]? = some (some (.ref l)) → σ[j]? = some (some (.ref l)) → i = j
  psep : ∀ (i j : Nat) (a : Addr) (d e : Dt), ρ[i]? = some (.l a d) → ρ[j]? = some (.l a e) → i = j
theorem HoR.mono {K : PySem.W.Frag} {B F F' : Hp} {ho : HO} {d : Dt} (h : HoR K B F ho d) (e : Same F F') : HoR K B F' ho d := by
  cases h with
  | lst h => exact .lst (rzl_mono e _ _ h)
  | dK h => exact .dK (rzl_mono e _ _ h)
  | dT h => exact .dT (rzl_mono e _ _ h)
theorem HoR.notFz {K : PySem.W.Frag} {B F : Hp} {ho : HO} {d : Dt} (h : HoR K B F ho d) : isFz ho = false := by
  cases h <;> rfl
theorem HoR.notTp {K : PySem.W.Frag} {B F : Hp} {ho : HO} {d : Dt} (h : HoR K B F ho d) : isTp ho = false := by
  cases h <;> rfl
theorem HoR.rz {K : PySem.W.Frag} {B F : Hp} {l : Addr} {ho : HO} {d : Dt} (h : HoR K B F ho d) (hb : B l = none) (hf : F l = none) : Rz K B (upd F l ho) d (.ref l) := by
  cases h with
  | lst h => simp only [Rz]; exact ⟨l, _, rfl, upd_same, fun _ => hb, rzl_mono (same_new hf) _ _ h⟩
  | dK h => simp only [Rz]; exact ⟨l, _, rfl, upd_same, fun _ => hb, rfl, rzl_mono (same_new hf) _ _ h⟩
  | dT h => simp only [Rz]; exact ⟨l, _, rfl, upd_same, fun _ => hb, rfl, rzl_mono (same_new hf) _ _ h⟩
section
variable {z : Cz} {m : Fm} {F F' H H' : Hp} {σ : L2.St} {ρ : List Sl}
theorem OwnAt.ext {K : PySem.W.Frag} {l : Addr} {d : Dt} (h : OwnAt K m F H l d) (f : Same F F') (s : Same H H') (le : Le F' H') (nw : Nw F H F') : OwnAt K m F' H' l d := by
  obtain ⟨h1, h2, h3, ho, h4, h5⟩ := h
  refine ⟨?_, h2, h3, ho, s _ _ h4, h5.mono f⟩
  cases e : F' l with
  | none => rfl
  | some u =>
    rcases nw l u e with q | q | q
    · exact absurd h1 q
    · rw [h4] at q; cases q
    · have := le.exact e (by cases u <;> first | rfl | cases q)
      rw [s _ _ h4] at this
      cases this
      rw [h5.notTp] at q
      cases q
theorem PinAt.ext {K : PySem.W.Frag} {l : Addr} {d : Dt} (h : PinAt K m F l d) (f : Same F F') : PinAt K m F' l d := by
  obtain ⟨h1, h2, ho, h4, h5⟩ := h
  exact ⟨h1, h2, ho, h4, h5.mono f⟩
theorem SlOk.ext {K : PySem.W.Frag} {ov : Option V} {s : Sl} (h : SlOk K m F H ov s) (f : Same F F') (e : Same H H') (le : Le F' H') (nw : Nw F H F') : SlOk K m F' H' ov s := by
  cases s with
  | un => trivial
  | v d => obtain ⟨v, q, h⟩ := h; exact ⟨v, q, rz_mono f _ _ h⟩
  | o d => obtain ⟨l, q, h⟩ := h; exact ⟨l, q, h.ext f e le nw⟩
  | l a d => exact ⟨h.1, h.2.ext f⟩
theorem Sc.ext (S : Sc z m F H) (f : Same F F') (e : Same H H') (lk : Lk m.J F' H') (nw : Nw F H F') (fz : ∀ a ob u, H' a = some (.frz ob u) → H a = some (.frz ob u)) : Sc z m F' H' :=
  ⟨lk, S.base.trans e, S.fr.trans nw S.dom f, fun a q => S.dom a (e.free q), S.bj, S.er, fun a ha => by
    obtain ⟨h1, o, h2, h3⟩ := S.hid a ha
    refine ⟨?_, o, h2, h3⟩
    cases q : F' a with
    | none => rfl
    | some u =>
      have hH := S.base _ _ h2
      rcases nw a u q with c | c | c
      · exact absurd h1 c
      · rw [hH] at c; cases c
      · have := lk.le.exact q (by cases u <;> first | rfl | cases c)
        rw [e _ _ hH] at this
        cases this
        rw [h3] at c
        exact absurd c Bool.false_ne_true, fun a ob u q => S.fj a ob u (fz a ob u q)⟩
theorem Sm.ext (S : Sm z m F H σ ρ) (f : Same F F') (e : Same H H') (lk : Lk m.J F' H') (nw : Nw F H F') (fz : ∀ a ob u, H' a = some (.frz ob u) → H a = some (.frz ob u)) : Sm z m F' H' σ ρ :=
  { S.toSc.ext f e lk nw fz with len := S.len, slot := fun i s ov a b => (S.slot i s ov a b).ext f e lk.le nw, sep := S.sep, psep := S.psep }
theorem nw_new {p : Addr} {o : HO} (e : H p = none) : Nw F H (upd F p o) := fun a u q => by
  by_cases c : a = p
  · exact .inr (.inl (c ▸ e))
  · rw [upd_ne c] at q
    exact .inl (by rw [q]; exact fun z => nomatch z)
/-- a new object, frozen at once -/
theorem fz_new {H : Hp} {p : Addr} {o : HO} (no : isFz o = false) : ∀ a ob u, upd H p o a = some (.frz ob u) → H a = some (.frz ob u) := fun a ob u q => by
  by_cases c : a = p
  · rw [c, upd_same] at q
    cases q
    cases no
  · rw [upd_ne c] at q
    exact q
theorem Sm.new (S : Sm z m F H σ ρ) {p : Addr} {o : HO} (e : H p = none) (no : isFz o = false := by rfl) : Same F (upd F p o) ∧ Sm z m (upd F p o) (upd H p o) σ ρ :=
  ⟨same_new (S.le.free e), S.ext (same_new (S.le.free e)) (same_new e) (S.lk.new e) (nw_new e) (fz_new no)⟩
/-- a new object, owned -/
theorem Sm.newO (S : Sm z m F H σ ρ) {p : Addr} {o : HO} (e : H p = none) (no : isFz o = false := by rfl) : Sm z m F (upd H p o) σ ρ :=
  S.ext (Same.refl F) (same_new e) (S.lk.same (same_new e)) (Nw.refl F H) (fz_new no)
theorem Sm.j_none (S : Sm z m F H σ ρ) {p : Addr} (e : H p = none) : m.J p = none := S.base.free e
/-- a tuple that stands is frozen -/
theorem Sm.tup (S : Sm z m F H σ ρ) {p : Addr} {xs : List V} (e : H p = some (.tup xs)) : ∃ F', Same F F' ∧ F' p = some (.tup xs) ∧ Sm z m F' H σ ρ := by
  by_cases c : F p = none
  · refine ⟨upd F p (.tup xs), same_new c, upd_same, S.ext (same_new c) (Same.refl H) (S.lk.frz e) (fun a u q => ?_) fun _ _ _ q => q⟩
    by_cases d : a = p
    · rw [d, upd_same] at q
      cases q
      exact .inr (.inr rfl)
    · rw [upd_ne d] at q
      exact .inl (by rw [q]; exact fun z => nomatch z)
  · obtain ⟨u, hu⟩ := Option.ne_none_iff_exists'.mp c
    refine ⟨F, Same.refl F, ?_, S⟩
    rcases S.le _ _ hu with h | ⟨_, ob, h⟩
    · rw [e] at h; cases h; exact hu
    · rw [e] at h; cases h
theorem Sm.get (S : Sm z m F H σ ρ) {i : Nat} {s : Sl} (h : ρ[i]? = some s) : ∃ ov, σ[i]? = some ov ∧ SlOk z.K m F H ov s := by
  have hi : i < σ.length := by rw [S.len]; exact (List.getElem?_eq_some_iff.mp h).1
  exact ⟨σ[i], List.getElem?_eq_getElem hi, S.slot i s _ h (List.getElem?_eq_getElem hi)⟩
theorem Sm.getv (S : Sm z m F H σ ρ) {i : Nat} {d : Dt} (h : ρ[i]? = some (.v d)) : ∃ v, σ[i]? = some (some v) ∧ Rz z.K m.B F d v := by
  obtain ⟨ov, e, v, rfl, r⟩ := S.get h
  exact ⟨v, e, r⟩
theorem Sm.geto (S : Sm z m F H σ ρ) {i : Nat} {d : Dt} (h : ρ[i]? = some (.o d)) : ∃ l, σ[i]? = some (some (.ref l)) ∧ OwnAt z.K m F H l d := by
  obtain ⟨ov, e, l, rfl, r⟩ := S.get h
  exact ⟨l, e, r⟩
theorem Sm.set (S : Sm z m F H σ ρ) {i : Nat} {s : Sl} {ov : Option V} (hs : SlOk z.K m F H ov s) (hp : ∀ d e l j, s = .o d → ov = some (.ref l) → ρ[j]? = some (.o e) → σ[j]? = some (some (.ref l)) → j = i) (hl : ∀ a d, s ≠ .l a d) : Sm z m F H (σ.set i ov) (ρ.set i s) := by
  refine { S.toSc with len := by rw [List.length_set, List.length_set]; exact S.len, slot := fun j s' ov' a b => ?_, sep := fun j k d e l a b c c' => ?_, psep := fun j k q d e a b => ?_ }
  · by_cases c : i = j
    · subst c
      have hi : i < ρ.length := by rw [← List.length_set (i := i) (a := s)]; exact (List.getElem?_eq_some_iff.mp a).1
      rw [List.getElem?_set_self hi] at a
      rw [List.getElem?_set_self (by rw [S.len]; exact hi)] at b
      cases a
      cases b
      exact hs
    · rw [List.getElem?_set_ne c] at a b
      exact S.slot j s' ov' a b
  · have key : ∀ {x : Nat} {u : Dt}, (ρ.set i s)[x]? = some (.o u) → (σ.set i ov)[x]? = some (some (.ref l)) → x ≠ i → ρ[x]? = some (.o u) ∧ σ[x]? = some (some (.ref l)) := fun {x u} p q n => by
      rw [List.getElem?_set_ne (Ne.symm n)] at p q
      exact ⟨p, q⟩
    have key2 : ∀ {x : Nat} {u : Dt}, (ρ.set i s)[x]? = some (.o u) → (σ.set i ov)[x]? = some (some (.ref l)) → x = i → s = .o u ∧ ov = some (.ref l) := fun {x u} p q n => by
      subst n
      have hi : x < ρ.length := by rw [← List.length_set (i := x) (a := s)]; exact (List.getElem?_eq_some_iff.mp p).1
      rw [List.getElem?_set_self hi] at p
      rw [List.getElem?_set_self (by rw [S.len]; exact hi)] at q
      exact ⟨Option.some.inj p, Option.some.inj q⟩
    by_cases hj : j = i
    · by_cases hk : k = i
      · exact hj.trans hk.symm
      · obtain ⟨p1, p2⟩ := key2 a c hj
        obtain ⟨q1, q2⟩ := key b c' hk
        exact absurd (hp _ _ _ _ p1 p2 q1 q2) hk
    · by_cases hk : k = i
      · obtain ⟨p1, p2⟩ := key2 b c' hk
        obtain ⟨q1, q2⟩ := key a c hj
        exact absurd (hp _ _ _ _ p1 p2 q1 q2) hj
      · obtain ⟨q1, q2⟩ := key a c hj
        obtain ⟨q3, q4⟩ := key b c' hk
        exact S.sep j k d e l q1 q3 q2 q4
  · have key : ∀ {x : Nat} {u : Dt}, (ρ.set i s)[x]? = some (.l q u) → ρ[x]? = some (.l q u) := fun {x u} p => by
      by_cases c : i = x
      · subst c
        have hi : i < ρ.length := by rw [← List.length_set (i := i) (a := s)]; exact (List.getElem?_eq_some_iff.mp p).1
        rw [List.getElem?_set_self hi] at p
        exact absurd (Option.some.inj p) (hl _ _)
      · rw [List.getElem?_set_ne c] at p
        exact p
    exact S.psep j k q d e (key a) (key b)
theorem Sm.setv (S : Sm z m F H σ ρ) {i : Nat} {d : Dt} {v : V} (h : Rz z.K m.B F d v) : Sm z m F H (σ.set i (some v)) (ρ.set i (.v d)) := S.set ⟨v, rfl, h⟩ (fun _ _ _ _ e => nomatch e) fun _ _ e => nomatch e
theorem Sm.setu (S : Sm z m F H σ ρ) {i : Nat} {ov : Option V} : Sm z m F H (σ.set i ov) (ρ.set i .un) := S.set trivial (fun _ _ _ _ e => nomatch e) fun _ _ e => nomatch e
theorem set_back {α : Type} {l : List α} {i : Nat} {x : α} (h : l[i]? = some x) : l.set i x = l := by
  obtain ⟨hi, e⟩ := List.getElem?_eq_some_iff.mp h
  rw [← e]
  exact List.set_getElem_self hi
/-- an owned thing is frozen -/
theorem Sm.frz (S : Sm z m F H σ ρ) {i : Nat} {d : Dt} (h : ρ[i]? = some (.o d)) : ∃ F' l, Same F F' ∧ σ[i]? = some (some (.ref l)) ∧ Rz z.K m.B F' d (.ref l) ∧ Sm z m F' H σ (ρ.set i (.v d)) := by
  obtain ⟨l, e, h1, h2, h3, ho, h4, h5⟩ := S.geto h
  have sf := same_new (o := ho) h1
  have rz := h5.rz h2 h1
  refine ⟨upd F l ho, l, sf, e, rz, ?_⟩
  have C : Sc z m (upd F l ho) H := ⟨S.lk.frz h4, S.base, fun a u q => by
    by_cases c : a = l
    · exact .inr (.inl (c ▸ h2))
    · rw [upd_ne c] at q; exact S.fr a u q, S.dom, S.bj, S.er, fun a ha => by
    obtain ⟨q1, q2⟩ := S.hid a ha
    refine ⟨?_, q2⟩
    obtain ⟨o, q3, _⟩ := q2
    rw [upd_ne (fun c => by rw [c, h3] at q3; cases q3)]
    exact q1, S.fj⟩
  refine { C with len := by rw [List.length_set]; exact S.len, slot := fun j s ov a b => ?_, sep := fun j k d1 d2 l' a b c c' => ?_, psep := fun j k q d1 d2 a b => ?_ }
  · by_cases c : i = j
    · subst c
      have hi : i < ρ.length := (List.getElem?_eq_some_iff.mp h).1
      rw [List.getElem?_set_self hi] at a
      cases a
      rw [e] at b
      cases b
      exact ⟨_, rfl, rz⟩
    · rw [List.getElem?_set_ne c] at a
      have q := S.slot j s ov a b
      cases s with
      | un => trivial
      | v d => obtain ⟨v, e', q⟩ := q; exact ⟨v, e', rz_mono sf _ _ q⟩
      | o d' =>
        obtain ⟨l', e', q1, q2, q3, ho', q4, q5⟩ := q
        subst e'
        refine ⟨l', rfl, ?_, q2, q3, ho', q4, q5.mono sf⟩
        rw [upd_ne (fun z => c (S.sep i j _ _ l h a e (by rw [b, z])))]
        exact q1
      | l a' d' => exact ⟨q.1, q.2.ext sf⟩
  · have key : ∀ {x : Nat} {u : Dt}, (ρ.set i (.v d))[x]? = some (.o u) → ρ[x]? = some (.o u) := fun {x u} p => by
      by_cases c : i = x
      · subst c
        have hi : i < ρ.length := (List.getElem?_eq_some_iff.mp h).1
        rw [List.getElem?_set_self hi] at p
        cases p
      · rw [List.getElem?_set_ne c] at p
        exact p
    exact S.sep j k d1 d2 l' (key a) (key b) c c'
  · have key : ∀ {x : Nat} {u : Dt}, (ρ.set i (.v d))[x]? = some (.l q u) → ρ[x]? = some (.l q u) := fun {x u} p => by
      by_cases c : i = x
      · subst c
        rw [List.getElem?_set_self (List.getElem?_eq_some_iff.mp h).1] at p
        cases p
      · rw [List.getElem?_set_ne c] at p
        exact p
    exact S.psep j k q d1 d2 (key a) (key b)
/-- an owned thing is written -/
theorem Sm.put (S : Sm z m F H σ ρ) {i : Nat} {d d' : Dt} {l : Addr} {ho : HO} (h : ρ[i]? = some (.o d)) (e : σ[i]? = some (some (.ref l))) (hr : HoR z.K m.B F ho d') : Sm z m F (upd H l ho) σ (ρ.set i (.o d')) := by
  obtain ⟨l', e', h1, h2, h3, ho', h4, h5⟩ := S.geto h
  rw [e] at e'
  cases e'
  have C : Sc z m F (upd H l ho) := ⟨S.lk.put h1, fun a u q => by rw [upd_ne (fun c => by rw [c, h3] at q; cases q)]; exact S.base a u q, S.fr, fun a q => by
    by_cases c : a = l
    · rw [c, upd_same] at q; cases q
    · rw [upd_ne c] at q; exact S.dom a q, S.bj, S.er, S.hid, fun a ob u q => S.fj a ob u (fz_new hr.notFz a ob u q)⟩
  have hi : i < ρ.length := (List.getElem?_eq_some_iff.mp h).1
  refine { C with len := by rw [List.length_set]; exact S.len, slot := fun j s ov a b => ?_, sep := fun j k d1 d2 l' a b c c' => ?_, psep := fun j k q d1 d2 a b => ?_ }
  · by_cases c : i = j
    · subst c
      rw [List.getElem?_set_self hi] at a
      cases a
      rw [e] at b
      cases b
      exact ⟨l, rfl, h1, h2, h3, ho, upd_same, hr⟩
    · rw [List.getElem?_set_ne c] at a
      have q := S.slot j s ov a b
      cases s with
      | un => trivial
      | v d => exact q
      | o d2 =>
        obtain ⟨l', e', q1, q2, q3, ho2, q4, q5⟩ := q
        subst e'
        refine ⟨l', rfl, q1, q2, q3, ho2, ?_, q5⟩
        rw [upd_ne (fun z => c (S.sep i j _ _ l h a e (by rw [b, z])))]
        exact q4
      | l a2 d2 => exact q
  · have key : ∀ {x : Nat} {u : Dt}, (ρ.set i (.o d'))[x]? = some (.o u) → ∃ u', ρ[x]? = some (.o u') := fun {x u} p => by
      by_cases c : i = x
      · subst c
        exact ⟨_, h⟩
      · rw [List.getElem?_set_ne c] at p
        exact ⟨_, p⟩
    obtain ⟨u1, a'⟩ := key a
    obtain ⟨u2, b'⟩ := key b
    exact S.sep j k u1 u2 l' a' b' c c'
  · have key : ∀ {x : Nat} {u : Dt}, (ρ.set i (.o d'))[x]? = some (.l q u) → ρ[x]? = some (.l q u) := fun {x u} p => by
      by_cases c : i = x
      · subst c
        rw [List.getElem?_set_self hi] at p
        cases p
      · rw [List.getElem?_set_ne c] at p
        exact p
    exact S.psep j k q d1 d2 (key a) (key b)
end
/-! ### the judgements -/
/-- a result: frozen, or a fresh thing of one's own -/
def RzF (z : Cz) (m : Fm) (F H : Hp) (σ : L2.St) (ρ : List Sl) (fr : Bool) (d : Dt) (v : V) : Prop :=
  if fr = true then ∃ l, v = .ref l ∧ OwnAt z.K m F H l d ∧ ∀ (j : Nat) (e : Dt), ρ[j]? = some (.o e) → σ[j]? ≠ some (some (.ref l)) else Rz z.K m.B F d v
def ZE (z : Cz) (t : TE) (ρ : List Sl) (N : Dt → Bool → List Sl → Prop) : Prop := ∀ m F H σ Q, Sm z m F H σ ρ →
  (∀ d fr ρ' F' H' v, N d fr ρ' → Same F F' → Sm z m F' H' σ ρ' → RzF z m F' H' σ ρ' fr d v → Q v H') → t σ H Q
def ZT (z : Cz) (t : TT) (ρ : List Sl) (N : Bool → List Sl → Prop) : Prop := ∀ m F H σ Q, Sm z m F H σ ρ →
  (∀ b ρ' F' H', N b ρ' → Same F F' → Sm z m F' H' σ ρ' → Q b H') → t σ H Q
def ZA (z : Cz) (t : TA) (ρ : List Sl) (N : List Dt → List Sl → Prop) : Prop := ∀ m F H σ Q, Sm z m F H σ ρ →
  (∀ ds ρ' F' H' vs, N ds ρ' → Same F F' → Sm z m F' H' σ ρ' → Rzl z.K m.B F' ds vs → Q vs H') → t σ H Q
structure Zn where
  nx : List Sl → Prop
  rt : Dt → Bool → Prop
  bk : List Sl → Prop := fun _ => False
  ct : List Sl → Prop := fun _ => False
/-- what is returned -/
def RtR (z : Cz) (m : Fm) (F H : Hp) (fr : Bool) (d : Dt) (v : V) : Prop := Sc z m F H ∧ if fr = true then ∃ l, v = .ref l ∧ OwnAt z.K m F H l d else Rz z.K m.B F d v
def ZS (z : Cz) (t : TS) (ρ : List Sl) (N : Zn) : Prop := ∀ m F H σ D, Sm z m F H σ ρ →
  (∀ ρ' F' H' σ', N.nx ρ' → Same F F' → Sm z m F' H' σ' ρ' → D.nx σ' H') → (∀ d fr F' H' v, N.rt d fr → Same F F' → RtR z m F' H' fr d v → D.rt v H') →
  (∀ ρ' F' H' σ', N.bk ρ' → Same F F' → Sm z m F' H' σ' ρ' → D.bk σ' H') → (∀ ρ' F' H' σ', N.ct ρ' → Same F F' → Sm z m F' H' σ' ρ' → D.ct σ' H') → t D σ H
/-- what is walked: ds, one by one -/
def ItZ (z : Cz) (m : Fm) (F : Hp) (Jt : It) (ds : List Dt) : Prop := ∃ (n : Nat) (G : Hp → Prop) (Y : Nat → Hp → V → Hp → Prop), Walk Jt n G Y ∧ n = ds.length ∧
  (∀ F' H', Same F F' → Le F' H' → Same m.J H' → G H') ∧
  ∀ m2 i d F' H' H'' x σ ρ, m2.B = m.B → ds[i]? = some d → Same F F' → Sm z m2 F' H' σ ρ → Y i H' x H'' → ∃ F'', Same F' F'' ∧ Sm z m2 F'' H'' σ ρ ∧ Rz z.K m.B F'' d x
/-- a target -/
def ZG (z : Cz) (g : TG) (d : Dt) (fr : Bool) (ρ : List Sl) (N : List Sl → Prop) : Prop := ∀ m F H σ v Q, Sm z m F H σ ρ → RzF z m F H σ ρ fr d v →
  (∀ ρ' F' H' σ', N ρ' → Same F F' → Sm z m F' H' σ' ρ' → Q σ' H') → g v σ H Q
def ZGs (z : Cz) (g : TGs) (ds : List Dt) (ρ : List Sl) (N : List Sl → Prop) : Prop := ∀ m F H σ vs Q, Sm z m F H σ ρ → Rzl z.K m.B F ds vs →
  (∀ ρ' F' H' σ', N ρ' → Same F F' → Sm z m F' H' σ' ρ' → Q σ' H') → g vs σ H Q
/-- a fresh thing frozen -/
theorem rzF_frz {z : Cz} {m : Fm} {F H : Hp} {σ : L2.St} {ρ : List Sl} {fr : Bool} {d : Dt} {v : V} (S : Sm z m F H σ ρ) (h : RzF z m F H σ ρ fr d v) : ∃ F', Same F F' ∧ Sm z m F' H σ ρ ∧ Rz z.K m.B F' d v := by
  cases fr with
  | false => exact ⟨F, Same.refl F, S, h⟩
  | true =>
    obtain ⟨l, rfl, ⟨h1, h2, h3, ho, h4, h5⟩, hs⟩ := h
    have sf := same_new (o := ho) h1
    have C : Sc z m (upd F l ho) H := ⟨S.lk.frz h4, S.base, fun a u q => by
      by_cases c : a = l
      · exact .inr (.inl (c ▸ h2))
      · rw [upd_ne c] at q; exact S.fr a u q, S.dom, S.bj, S.er, fun a ha => by
    obtain ⟨q1, q2⟩ := S.hid a ha
    refine ⟨?_, q2⟩
    obtain ⟨o, q3, _⟩ := q2
    rw [upd_ne (fun c => by rw [c, h3] at q3; cases q3)]
    exact q1, S.fj⟩
    refine ⟨upd F l ho, sf, { C with len := S.len, slot := fun j s ov a b => ?_, sep := S.sep, psep := S.psep }, h5.rz h2 h1⟩
    have q := S.slot j s ov a b
    cases s with
    | un => trivial
    | v d => obtain ⟨v, e', q⟩ := q; exact ⟨v, e', rz_mono sf _ _ q⟩
    | o d' =>
      obtain ⟨l', e', q1, q2, q3, ho', q4, q5⟩ := q
      subst e'
      refine ⟨l', rfl, ?_, q2, q3, ho', q4, q5.mono sf⟩
      rw [upd_ne (fun z => hs j _ a (by rw [b, z]))]
      exact q1
    | l a' d' => exact ⟨q.1, q.2.ext sf⟩
theorem rzF_f {z : Cz} {m : Fm} {F H : Hp} {σ : L2.St} {ρ : List Sl} {d : Dt} {v : V} (h : Rz z.K m.B F d v) : RzF z m F H σ ρ false d v := h
/-- a new thing of one's own -/
theorem rzF_new {z : Cz} {m : Fm} {F H : Hp} {σ : L2.St} {ρ : List Sl} {d : Dt} {p : Addr} {o : HO} (S : Sm z m F H σ ρ) (e : H p = none) (h : HoR z.K m.B F o d) : RzF z m F (upd H p o) σ ρ true d (.ref p) := by
  refine ⟨p, rfl, ⟨S.le.free e, S.dom p e, S.j_none e, o, upd_same, h⟩, fun j e' a b => ?_⟩
  obtain ⟨l, hl, _, _, _, ho, h4, _⟩ := S.geto a
  rw [b] at hl
  cases hl
  rw [e] at h4
  cases h4
/-! ### expressions -/
section
variable {z : Cz} {ρ : List Sl} {N : Dt → Bool → List Sl → Prop} {ta tb te : TE} {i : Nat} {d : Dt}
theorem ze_var (h : ρ[i]? = some (.v d)) (n : N d false ρ) : ZE z (tVar i) ρ N := fun m F H σ Q S k => by
  obtain ⟨v, e, r⟩ := S.getv h
  exact ⟨v, e, k _ _ _ _ _ _ n (Same.refl F) S (rzF_f r)⟩
/-- an owned thing used as a value: frozen from here on -/
theorem ze_varo (h : ρ[i]? = some (.o d)) (n : N d false (ρ.set i (.v d))) : ZE z (tVar i) ρ N := fun m F H σ Q S k => by
  obtain ⟨F', l, sf, e, r, S'⟩ := S.frz h
  exact ⟨.ref l, e, k _ _ _ _ _ _ n sf S' r⟩
theorem ze_k {v : V} (h : ∀ B F, Rz z.K B F d v) (n : N d false ρ) : ZE z (tC v) ρ N := fun m F H σ Q S k => k _ _ _ _ _ _ n (Same.refl F) S (rzF_f (h _ _))
theorem ze_int {i : Int} (n : N (.int i) false ρ) : ZE z (tC (.int i)) ρ N := ze_k (fun _ _ => by simp only [Rz]) n
theorem ze_str {x : Str} (n : N (.str x) false ρ) : ZE z (tC (.str x)) ρ N := ze_k (fun _ _ => by simp only [Rz]) n
theorem ze_bl {b : Bool} (n : N (.bl b) false ρ) : ZE z (tC (.bl b)) ρ N := ze_k (fun _ _ => by simp only [Rz]) n
theorem ze_non (n : N .non false ρ) : ZE z (tC .non) ρ N := ze_k (fun _ _ => by simp only [Rz]) n
theorem ze_adr {a : Addr} (n : N (.adr a) false ρ) : ZE z (tC (.ref a)) ρ N := ze_k (fun _ _ => by simp only [Rz]) n
theorem ze_ty {x : String} (n : N (.ty x) false ρ) : ZE z (tC (.ty x)) ρ N := ze_k (fun _ _ => by simp only [Rz]) n
/-- two operands, both frozen -/
theorem ze_op2 {r : R2} (h : ZE z ta ρ fun x _ ρ1 => ZE z tb ρ1 fun y _ ρ2 => ∀ m F H σ Q vx vy, Sm z m F H σ ρ2 → Rz z.K m.B F x vx → Rz z.K m.B F y vy →
    (∀ d fr ρ' F' H' v, N d fr ρ' → Same F F' → Sm z m F' H' σ ρ' → RzF z m F' H' σ ρ' fr d v → Q v H') → r vx vy H Q) : ZE z (tOp r ta tb) ρ N := fun m F H σ Q S k => by
  refine h m F H σ _ S fun x fx ρ1 F1 H1 vx n1 s1 S1 r1 => ?_
  obtain ⟨F2, s2, S2, rx⟩ := rzF_frz S1 r1
  refine n1 m F2 H1 σ _ S2 fun y fy ρ2 F3 H2 vy n2 s3 S3 r3 => ?_
  obtain ⟨F4, s4, S4, ry⟩ := rzF_frz S3 r3
  exact n2 m F4 H2 σ Q vx vy S4 (rz_mono (s3.trans s4) _ _ rx) ry fun d fr ρ' F' H' v n sf => k d fr ρ' F' H' v n (((s1.trans s2).trans (s3.trans s4)).trans sf)
theorem ze_un1 {r : V → Hp → VK → Prop} (h : ZE z ta ρ fun x _ ρ1 => ∀ m F H σ Q vx, Sm z m F H σ ρ1 → Rz z.K m.B F x vx →
    (∀ d fr ρ' F' H' v, N d fr ρ' → Same F F' → Sm z m F' H' σ ρ' → RzF z m F' H' σ ρ' fr d v → Q v H') → r vx H Q) : ZE z (tUn r ta) ρ N := fun m F H σ Q S k => by
  refine h m F H σ _ S fun x fx ρ1 F1 H1 vx n1 s1 S1 r1 => ?_
  obtain ⟨F2, s2, S2, rx⟩ := rzF_frz S1 r1
  exact n1 m F2 H1 σ Q vx S2 rx fun d fr ρ' F' H' v n sf => k d fr ρ' F' H' v n ((s1.trans s2).trans sf)
theorem rz_i {K : PySem.W.Frag} {B F : Hp} {i : Int} {v : V} (h : Rz K B F (.int i) v) : v = .int i := by simpa only [Rz] using h
theorem rz_s {K : PySem.W.Frag} {B F : Hp} {i : Str} {v : V} (h : Rz K B F (.str i) v) : v = .str i := by simpa only [Rz] using h
theorem rz_b {K : PySem.W.Frag} {B F : Hp} {i : Bool} {v : V} (h : Rz K B F (.bl i) v) : v = .bl i := by simpa only [Rz] using h
theorem rz_n {K : PySem.W.Frag} {B F : Hp} {v : V} (h : Rz K B F .non v) : v = .non := by simpa only [Rz] using h
theorem rz_a {K : PySem.W.Frag} {B F : Hp} {v : V} {a : Addr} (h : Rz K B F (.adr a) v) : v = .ref a := by simpa only [Rz] using h
theorem rzi {K : PySem.W.Frag} {B F : Hp} {i : Int} : Rz K B F (.int i) (.int i) := by simp only [Rz]
theorem rzs {K : PySem.W.Frag} {B F : Hp} {i : Str} : Rz K B F (.str i) (.str i) := by simp only [Rz]
theorem rzb {K : PySem.W.Frag} {B F : Hp} {i : Bool} : Rz K B F (.bl i) (.bl i) := by simp only [Rz]
theorem rzn {K : PySem.W.Frag} {B F : Hp} : Rz K B F .non .non := by simp only [Rz]
theorem ze_I0 {g : Int → Int → Int} (h : ZE z ta ρ fun x _ ρ1 => ZE z tb ρ1 fun y _ ρ2 => ∃ i j, x = .int i ∧ y = .int j ∧ N (.int (g i j)) false ρ2) : ZE z (tOp (rI0 fun i j => .int (g i j)) ta tb) ρ N :=
  ze_op2 fun m F H σ Q S k => h m F H σ Q S fun x fx ρ1 F1 H1 vx n1 s1 S1 r1 => k x fx ρ1 F1 H1 vx (fun m F H σ Q S k => n1 m F H σ Q S fun y fy ρ2 F2 H2 vy n2 s2 S2 r2 => k y fy ρ2 F2 H2 vy (by
    obtain ⟨i, j, rfl, rfl, n⟩ := n2
    intro m F H σ Q vx vy S r1 r2 k
    exact ⟨i, j, rz_i r1, rz_i r2, k _ _ _ _ _ _ n (Same.refl F) S (rzF_f rzi)⟩) s2 S2 r2) s1 S1 r1
/-- the premise of two operands from what is wanted of their data -/
theorem ze_op2w {r : R2} {W : Dt → Dt → (Dt → Bool → List Sl → Prop) → List Sl → Prop}
    (w : ∀ x y ρ2 N, W x y N ρ2 → ∀ m F H σ Q vx vy, Sm z m F H σ ρ2 → Rz z.K m.B F x vx → Rz z.K m.B F y vy → (∀ d fr ρ' F' H' v, N d fr ρ' → Same F F' → Sm z m F' H' σ ρ' → RzF z m F' H' σ ρ' fr d v → Q v H') → r vx vy H Q)
    (h : ZE z ta ρ fun x _ ρ1 => ZE z tb ρ1 fun y _ ρ2 => W x y N ρ2) : ZE z (tOp r ta tb) ρ N :=
  ze_op2 fun m F H σ Q S k => h m F H σ Q S fun x fx ρ1 F1 H1 vx n1 s1 S1 r1 => k x fx ρ1 F1 H1 vx (fun m F H σ Q S k => n1 m F H σ Q S fun y fy ρ2 F2 H2 vy n2 s2 S2 r2 => k y fy ρ2 F2 H2 vy (w x y ρ2 N n2) s2 S2 r2) s1 S1 r1
theorem ze_IB {g : Int → Int → Bool} (h : ZE z ta ρ fun x _ ρ1 => ZE z tb ρ1 fun y _ ρ2 => ∃ i j, x = .int i ∧ y = .int j ∧ N (.bl (g i j)) false ρ2) : ZE z (tOp (rI0 fun i j => .bl (g i j)) ta tb) ρ N :=
  ze_op2w (W := fun x y N ρ2 => ∃ i j, x = .int i ∧ y = .int j ∧ N (.bl (g i j)) false ρ2) (fun x y ρ2 N n2 m F H σ Q vx vy S r1 r2 k => by
    obtain ⟨i, j, rfl, rfl, n⟩ := n2
    exact ⟨i, j, rz_i r1, rz_i r2, k _ _ _ _ _ _ n (Same.refl F) S (rzF_f rzb)⟩) h
theorem ze_I {C : Int → Int → Prop} {g : Int → Int → Int} (h : ZE z ta ρ fun x _ ρ1 => ZE z tb ρ1 fun y _ ρ2 => ∃ i j, x = .int i ∧ y = .int j ∧ C i j ∧ N (.int (g i j)) false ρ2) : ZE z (tOp (rI C fun i j => .int (g i j)) ta tb) ρ N :=
  ze_op2w (W := fun x y N ρ2 => ∃ i j, x = .int i ∧ y = .int j ∧ C i j ∧ N (.int (g i j)) false ρ2) (fun x y ρ2 N n2 m F H σ Q vx vy S r1 r2 k => by
    obtain ⟨i, j, rfl, rfl, c, n⟩ := n2
    exact ⟨i, j, rz_i r1, rz_i r2, c, k _ _ _ _ _ _ n (Same.refl F) S (rzF_f rzi)⟩) h
theorem ze_neg {g : Int → Int} (h : ZE z ta ρ fun x _ ρ1 => ∃ i, x = .int i ∧ N (.int (g i)) false ρ1) : ZE z (tUn (rU fun i => .int (g i)) ta) ρ N :=
  ze_un1 fun m F H σ Q S k => h m F H σ Q S fun x fx ρ1 F1 H1 vx n1 s1 S1 r1 => k x fx ρ1 F1 H1 vx (by
    obtain ⟨i, rfl, n⟩ := n1
    intro m F H σ Q vx S r1 k
    exact ⟨i, rz_i r1, k _ _ _ _ _ _ n (Same.refl F) S (rzF_f rzi)⟩) s1 S1 r1
/-- scalars compared -/
inductive Seq2 : Dt → Dt → Bool → Prop
  | ii (i j : Int) : Seq2 (.int i) (.int j) (decide (i = j))
  | ss (i j : Str) : Seq2 (.str i) (.str j) (decide (i = j))
  | bb (i j : Bool) : Seq2 (.bl i) (.bl j) (decide (i = j))
  | nn : Seq2 .non .non true
  | ni (i : Int) : Seq2 .non (.int i) false
  | isn (i : Int) : Seq2 (.int i) .non false
  | ns (i : Str) : Seq2 .non (.str i) false
  | sn (i : Str) : Seq2 (.str i) .non false
theorem seq2_of {K : PySem.W.Frag} {B F : Hp} {x y : Dt} {b : Bool} {vx vy : V} (h : Seq2 x y b) (r1 : Rz K B F x vx) (r2 : Rz K B F y vy) : scal vx vy = true ∧ decide (vx = vy) = b := by
  cases h <;> (simp only [Rz] at r1 r2; subst r1 r2) <;> refine ⟨rfl, ?_⟩ <;> simp
theorem ze_eq (h : ZE z ta ρ fun x _ ρ1 => ZE z tb ρ1 fun y _ ρ2 => ∃ b, Seq2 x y b ∧ N (.bl b) false ρ2) : ZE z (tOp rEq ta tb) ρ N :=
  ze_op2w (W := fun x y N ρ2 => ∃ b, Seq2 x y b ∧ N (.bl b) false ρ2) (fun x y ρ2 N n2 m F H σ Q vx vy S r1 r2 k => by
    obtain ⟨b, s, n⟩ := n2
    obtain ⟨h1, h2⟩ := seq2_of s r1 r2
    refine ⟨h1, ?_⟩
    rw [h2]
    exact k _ _ _ _ _ _ n (Same.refl F) S (rzF_f rzb)) h
theorem ze_ne (h : ZE z ta ρ fun x _ ρ1 => ZE z tb ρ1 fun y _ ρ2 => ∃ b, Seq2 x y b ∧ N (.bl (!b)) false ρ2) : ZE z (tOp rNe ta tb) ρ N :=
  ze_op2w (W := fun x y N ρ2 => ∃ b, Seq2 x y b ∧ N (.bl (!b)) false ρ2) (fun x y ρ2 N n2 m F H σ Q vx vy S r1 r2 k => by
    obtain ⟨b, s, n⟩ := n2
    obtain ⟨h1, h2⟩ := seq2_of s r1 r2
    refine ⟨h1, ?_⟩
    rw [h2]
    exact k _ _ _ _ _ _ n (Same.refl F) S (rzF_f rzb)) h
/-! tests -/
variable {M : Bool → List Sl → Prop} {tt tu : TT}
theorem zt_val (h : ZE z te ρ fun x _ ρ1 => ∃ b, x = .bl b ∧ M b ρ1) : ZT z (tTest te) ρ M := fun m F H σ Q S k => by
  refine h m F H σ _ S fun x fx ρ1 F1 H1 vx n1 s1 S1 r1 => ?_
  obtain ⟨F2, s2, S2, rx⟩ := rzF_frz S1 r1
  obtain ⟨b, rfl, n⟩ := n1
  exact ⟨b, rz_b rx, k _ _ _ _ n (s1.trans s2) S2⟩
theorem zt_B (h : ZE z te ρ fun x _ ρ1 => ∃ b, x = .bl b ∧ M b ρ1) : ZT z (tB te) ρ M := zt_val h
theorem zt_and (h : ZT z tt ρ fun b ρ1 => if b = true then ZT z tu ρ1 M else M false ρ1) : ZT z (tAnd tt tu) ρ M := fun m F H σ Q S k => by
  refine h m F H σ _ S fun b ρ1 F1 H1 n1 s1 S1 => ?_
  cases b with
  | true => exact n1 m F1 H1 σ Q S1 fun b ρ' F' H' n s => k b ρ' F' H' n (s1.trans s)
  | false => exact k _ _ _ _ n1 s1 S1
theorem zt_or (h : ZT z tt ρ fun b ρ1 => if b = true then M true ρ1 else ZT z tu ρ1 M) : ZT z (tOr tt tu) ρ M := fun m F H σ Q S k => by
  refine h m F H σ _ S fun b ρ1 F1 H1 n1 s1 S1 => ?_
  cases b with
  | false => exact n1 m F1 H1 σ Q S1 fun b ρ' F' H' n s => k b ρ' F' H' n (s1.trans s)
  | true => exact k _ _ _ _ n1 s1 S1
theorem zt_not (h : ZT z tt ρ fun b ρ1 => M (!b) ρ1) : ZT z (tNot tt) ρ M := fun m F H σ Q S k => h m F H σ _ S fun b ρ1 F1 H1 n1 s1 S1 => k _ _ _ _ n1 s1 S1
theorem zt_yes (h : M true ρ) : ZT z tYes ρ M := fun m F H σ Q S k => k _ _ _ _ h (Same.refl F) S
theorem ze_andV (h : ZE z ta ρ fun x _ ρ1 => ∃ b, x = .bl b ∧ if b = true then ZE z tb ρ1 N else N (.bl false) false ρ1) : ZE z (tAndV ta tb) ρ N := fun m F H σ Q S k => by
  refine h m F H σ _ S fun x fx ρ1 F1 H1 vx n1 s1 S1 r1 => ?_
  obtain ⟨F2, s2, S2, rx⟩ := rzF_frz S1 r1
  obtain ⟨b, rfl, n⟩ := n1
  refine ⟨b, rz_b rx, ?_⟩
  cases b with
  | true => exact n m F2 H1 σ Q S2 fun d fr ρ' F' H' v n s => k d fr ρ' F' H' v n ((s1.trans s2).trans s)
  | false => exact k _ _ _ _ _ _ n (s1.trans s2) S2 (rzF_f rzb)
theorem ze_orV (h : ZE z ta ρ fun x _ ρ1 => ∃ b, x = .bl b ∧ if b = true then N (.bl true) false ρ1 else ZE z tb ρ1 N) : ZE z (tOrV ta tb) ρ N := fun m F H σ Q S k => by
  refine h m F H σ _ S fun x fx ρ1 F1 H1 vx n1 s1 S1 r1 => ?_
  obtain ⟨F2, s2, S2, rx⟩ := rzF_frz S1 r1
  obtain ⟨b, rfl, n⟩ := n1
  refine ⟨b, rz_b rx, ?_⟩
  cases b with
  | false => exact n m F2 H1 σ Q S2 fun d fr ρ' F' H' v n s => k d fr ρ' F' H' v n ((s1.trans s2).trans s)
  | true => exact k _ _ _ _ _ _ n (s1.trans s2) S2 (rzF_f rzb)
theorem ze_notV (h : ZE z ta ρ fun x _ ρ1 => ∃ b, x = .bl b ∧ N (.bl (!b)) false ρ1) : ZE z (tNotV ta) ρ N := fun m F H σ Q S k => by
  refine h m F H σ _ S fun x fx ρ1 F1 H1 vx n1 s1 S1 r1 => ?_
  obtain ⟨F2, s2, S2, rx⟩ := rzF_frz S1 r1
  obtain ⟨b, rfl, n⟩ := n1
  exact ⟨b, rz_b rx, k _ _ _ _ _ _ n (s1.trans s2) S2 (rzF_f rzb)⟩
theorem ze_ifE (h : ZT z tt ρ fun b ρ1 => if b = true then ZE z ta ρ1 N else ZE z tb ρ1 N) : ZE z (tIf tt ta tb) ρ N := fun m F H σ Q S k => by
  refine h m F H σ _ S fun b ρ1 F1 H1 n1 s1 S1 => ?_
  cases b with
  | true => exact n1 m F1 H1 σ Q S1 fun d fr ρ' F' H' v n s => k d fr ρ' F' H' v n (s1.trans s)
  | false => exact n1 m F1 H1 σ Q S1 fun d fr ρ' F' H' v n s => k d fr ρ' F' H' v n (s1.trans s)
theorem ze_chain {r r' : R2} {tc : TE} {g g' : Int → Int → Bool} (h : ZE z ta ρ fun x _ ρ1 => ZE z tb ρ1 fun y _ ρ2 => ∃ i j, x = .int i ∧ y = .int j ∧ if g i j = true then ZE z tc ρ2 fun w _ ρ3 => ∃ k, w = .int k ∧ N (.bl (g' j k)) false ρ3 else N (.bl false) false ρ2) :
    ZE z (tChain (rI0 fun i j => .bl (g i j)) (rI0 fun i j => .bl (g' i j)) ta tb tc) ρ N := fun m F H σ Q S k => by
  refine h m F H σ _ S fun x fx ρ1 F1 H1 vx n1 s1 S1 r1 => ?_
  obtain ⟨F2, s2, S2, rx⟩ := rzF_frz S1 r1
  refine n1 m F2 H1 σ _ S2 fun y fy ρ2 F3 H2 vy n2 s3 S3 r3 => ?_
  obtain ⟨F4, s4, S4, ry⟩ := rzF_frz S3 r3
  obtain ⟨i, j, rfl, rfl, n⟩ := n2
  refine ⟨i, j, rz_i (rz_mono (s3.trans s4) _ _ rx), rz_i ry, g i j, rfl, ?_⟩
  by_cases c : g i j = true
  · rw [if_pos c] at n ⊢
    refine n m F4 H2 σ _ S4 fun w fw ρ3 F5 H3 vw n3 s5 S5 r5 => ?_
    obtain ⟨F6, s6, S6, rw_⟩ := rzF_frz S5 r5
    obtain ⟨l, rfl, n⟩ := n3
    exact ⟨j, l, rz_i ry, rz_i rw_, k _ _ _ _ _ _ n ((((s1.trans s2).trans (s3.trans s4)).trans s5).trans s6) S6 (rzF_f rzb)⟩
  · rw [if_neg c] at n ⊢
    exact k _ _ _ _ _ _ n ((s1.trans s2).trans (s3.trans s4)) S4 (rzF_f rzb)
/-! argument lists, displays -/
variable {L : List Dt → List Sl → Prop} {ts : TA}
theorem za_nil (h : L [] ρ) : ZA z tNil ρ L := fun m F H σ Q S k => k _ _ _ _ _ h (Same.refl F) S .nil
theorem za_cons (h : ZE z te ρ fun x _ ρ1 => ZA z ts ρ1 fun xs ρ2 => L (x :: xs) ρ2) : ZA z (tCons te ts) ρ L := fun m F H σ Q S k => by
  refine h m F H σ _ S fun x fx ρ1 F1 H1 vx n1 s1 S1 r1 => ?_
  obtain ⟨F2, s2, S2, rx⟩ := rzF_frz S1 r1
  exact n1 m F2 H1 σ _ S2 fun ds ρ' F' H' vs n s S' r => k _ _ _ _ _ n ((s1.trans s2).trans s) S' (.cons (rz_mono s _ _ rx) r)
theorem ze_tup (h : ZA z ts ρ fun ds ρ1 => ds.length ≤ 1000 ∧ N (.tup ds) false ρ1) : ZE z (tTup ts) ρ N := fun m F H σ Q S k => by
  refine h m F H σ _ S fun ds ρ1 F1 H1 vs n1 s1 S1 r1 => ⟨by rw [r1.len, sizeLine_eq]; omega, fun p hp => ?_⟩
  obtain ⟨s2, S2⟩ := S1.new (o := .tup vs) hp
  exact k _ _ _ _ _ _ n1.2 (s1.trans s2) S2 (show Rz z.K m.B _ (.tup ds) _ by simp only [Rz]; exact ⟨p, vs, rfl, upd_same, rzl_mono s2 _ _ r1⟩)
theorem ze_lst (h : ZA z ts ρ fun ds ρ1 => ds.length ≤ 1000 ∧ N (.lst true ds) true ρ1) : ZE z (tLst ts) ρ N := fun m F H σ Q S k => by
  refine h m F H σ _ S fun ds ρ1 F1 H1 vs n1 s1 S1 r1 => ⟨by rw [r1.len, sizeLine_eq]; omega, fun p hp => ?_⟩
  exact k _ _ _ _ _ _ n1.2 s1 (S1.newO hp) (rzF_new S1 hp (.lst r1))
theorem ze_dnewK (h : N (.dic true [] []) true ρ) : ZE z tDNewK ρ N := fun m F H σ Q S k p hp => k _ _ _ _ _ _ h (Same.refl F) (S.newO hp) (rzF_new S hp (HoR.dK (kvs := []) .nil))
theorem ze_dnewT (h : N (.dit true [] []) true ρ) : ZE z tDNewT ρ N := fun m F H σ Q S k p hp => k _ _ _ _ _ _ h (Same.refl F) (S.newO hp) (rzF_new S hp (HoR.dT (kvs := []) .nil))
/-! attributes -/
inductive FldD (K : PySem.W.Frag) : Dt → Str → Addr → Dt → Prop
  | ins {C : Addr} {fs : List Str} {ds : List Dt} {f : Str} {d : Dt} : look fs ds f = some d → FldD K (.ins C fs ds) f C d
  | top (n d : Int) : FldD K (.rat n d) "top" (He.ga K "Ratio") (.int n)
  | bot (n d : Int) : FldD K (.rat n d) "bottom" (He.ga K "Ratio") (.int d)
theorem ratF_top (n d : Int) : (ratF n d).lookup ("top" : Str) = some (.int n) := rfl
theorem ratF_bot (n d : Int) : (ratF n d).lookup ("bottom" : Str) = some (.int d) := by
  show (match (("bottom" : Str) == "top") with | true => some (V.int n) | false => List.lookup ("bottom" : Str) [("bottom", V.int d)]) = some (.int d)
  rw [show ((("bottom" : Str) == "top") = false) from by decide +kernel]
  rfl
theorem look_fld {K : PySem.W.Frag} {B F : Hp} {f : Str} {d : Dt} : ∀ {kvs : List (Str × V)} {ds : List Dt}, Rzl K B F ds (kvs.map Prod.snd) → look (kvs.map Prod.fst) ds f = some d → ∃ v, kvs.lookup f = some v ∧ Rz K B F d v
  | [], ds, h, e => by simp [look] at e
  | p :: r, ds, h, e => by
    cases ds with
    | nil => cases h.inv0
    | cons d' ds =>
      obtain ⟨u, r', e', h1, t⟩ := h.inv
      rw [List.map_cons] at e'
      obtain ⟨rfl, rfl⟩ := List.cons.inj e'
      rw [List.map_cons, look] at e
      obtain ⟨pk, pv⟩ := p
      by_cases c : pk = f
      · rw [if_pos c] at e
        cases e
        subst c
        exact ⟨pv, by simp [List.lookup_cons], h1⟩
      · rw [if_neg c] at e
        obtain ⟨v, h2, h3⟩ := look_fld t e
        exact ⟨v, by rw [List.lookup_cons, show (f == pk) = false from beq_eq_false_iff_ne.mpr (Ne.symm c)]; exact h2, h3⟩
theorem ze_fld {f : Str} (h : ZE z ta ρ fun x _ ρ1 => ∃ C d, FldD z.K x f C d ∧ Cls z.K C ∧ NoAttr z.K C f ∧ N d false ρ1) : ZE z (tFld z.K ta f) ρ N := fun m F H σ Q S k => by
  refine h m F H σ _ S fun x fx ρ1 F1 H1 vx n1 s1 S1 r1 => ?_
  obtain ⟨F2, s2, S2, rx⟩ := rzF_frz S1 r1
  obtain ⟨C, d, hf, hc, hn, n⟩ := n1
  cases hf with
  | ins hl =>
    simp only [Rz] at rx
    obtain ⟨a, dx, kvs, rfl, e, rfl, r⟩ := rx
    obtain ⟨v, h1, h2⟩ := look_fld r hl
    exact ⟨a, _, dx, kvs, v, rfl, S2.le.exact e rfl, hc, hn, h1, k _ _ _ _ _ _ n (s1.trans s2) S2 (rzF_f h2)⟩
  | top n' d' =>
    simp only [Rz] at rx
    obtain ⟨a, dx, rfl, e⟩ := rx
    exact ⟨a, _, dx, _, _, rfl, S2.le.exact e rfl, hc, hn, ratF_top _ _, k _ _ _ _ _ _ n (s1.trans s2) S2 (rzF_f rzi)⟩
  | bot n' d' =>
    simp only [Rz] at rx
    obtain ⟨a, dx, rfl, e⟩ := rx
    exact ⟨a, _, dx, _, _, rfl, S2.le.exact e rfl, hc, hn, ratF_bot _ _, k _ _ _ _ _ _ n (s1.trans s2) S2 (rzF_f rzi)⟩
/-! a variable looked into: as it stands, frozen or not -/
def Pk (s : Sl) (d : Dt) : Prop := s = .v d ∨ s = .o d ∨ ∃ a, s = .l a d
theorem Sm.peekL {m : Fm} {F H : Hp} {σ : L2.St} (S : Sm z m F H σ ρ) {t : Bool} {ds : List Dt} {s : Sl} (h : ρ[i]? = some s) (p : Pk s (.lst t ds)) : ∃ a xs, σ[i]? = some (some (.ref a)) ∧ H a = some (.lst xs) ∧ Rzl z.K m.B F ds xs := by
  obtain ⟨ov, e, ok⟩ := S.get h
  rcases p with rfl | rfl | ⟨a, rfl⟩
  · obtain ⟨v, rfl, r⟩ := ok
    simp only [Rz] at r
    obtain ⟨a, xs, rfl, h1, _, h2⟩ := r
    exact ⟨a, xs, e, S.le.exact h1 rfl, h2⟩
  · obtain ⟨l, rfl, _, _, _, ho, h1, h2⟩ := ok
    cases h2 with
    | lst r => exact ⟨l, _, e, h1, r⟩
  · obtain ⟨rfl, _, _, ho, h1, h2⟩ := ok
    cases h2 with
    | lst r =>
      rcases h1 with h1 | ⟨c, _⟩
      · exact ⟨a, _, e, S.base _ _ h1, r⟩
      · cases c
end
/-! ### calls -/
/-- a def's promise, heap-free: what w says of the arguments' data, the answer, the error -/
abbrev Wz := List Dt → (Dt → Bool → Prop) → (Addr → List (Str × V) → Prop) → Prop
def Got (K : PySem.W.Frag) (F H F' H' : Hp) (fr : Bool) (d : Dt) (v : V) : Prop := Same F F' ∧ Same H H' ∧ Lk H F' H' ∧ Nw F H F' ∧ (∀ a ob u, H' a = some (.frz ob u) → H a = some (.frz ob u)) ∧
  if fr = true then ∃ l, v = .ref l ∧ F' l = none ∧ H l = none ∧ ∃ ho, H' l = some ho ∧ HoR K H F' ho d else Rz K H F' d v
def spZ (K : PySem.W.Frag) (w : Wz) : Sp := fun vs H Q E => ∃ (F : Hp) (ds : List Dt) (Nv : Dt → Bool → Prop) (Ne : Addr → List (Str × V) → Prop), Le F H ∧ Rzl K H F ds vs ∧ w ds Nv Ne ∧
  (∀ d fr F' H' v, Nv d fr → Got K F H F' H' fr d v → Q v H') ∧ ∀ C fs dd H', Ne C fs → ErrR H fs dd H' → E (.ref C) dd H'
theorem HoR.base {K : PySem.W.Frag} {B B' F : Hp} {ho : HO} {d : Dt} (h : HoR K B' F ho d) (hb : ∀ a, B' a = none → B a = none) : HoR K B F ho d := by
  cases h with
  | lst h => exact .lst (rzl_base hb _ _ h)
  | dK h => exact .dK (rzl_base hb _ _ h)
  | dT h => exact .dT (rzl_base hb _ _ h)
section
variable {z : Cz} {m : Fm} {F F' H H' : Hp} {σ : L2.St} {ρ : List Sl} {fr : Bool} {d : Dt} {v : V}
theorem Sm.got (S : Sm z m F H σ ρ) (g : Got z.K F H F' H' fr d v) : Sm z m F' H' σ ρ ∧ RzF z m F' H' σ ρ fr d v := by
  obtain ⟨f, h, lk, nw, fz, r⟩ := g
  have lk' : Lk m.J F' H' := fun a o e => by
    rcases lk a o e with q | ⟨q, ob, q1, q2⟩
    · exact .inl q
    · rcases nw a o e with c | c | c
      · obtain ⟨u, hu⟩ := Option.ne_none_iff_exists'.mp c
        have := f _ _ hu
        rw [e] at this
        cases this
        rcases S.lk a o hu with p | ⟨_, ob', p1, p2⟩
        · rw [q2] at p
          cases p
        · rw [q2] at p1
          cases p1
          exact .inr ⟨q, ob, q1, p2⟩
      · rw [q2] at c; cases c
      · cases o <;> first | (exact absurd c Bool.false_ne_true) | (exact absurd q Bool.false_ne_true)
  have S' := S.ext f h lk' nw fz
  refine ⟨S', ?_⟩
  unfold RzF
  cases fr with
  | false =>
    rw [if_neg (fun x => nomatch x)] at r ⊢
    exact rz_base S.dom _ _ r
  | true =>
    rw [if_pos rfl] at r ⊢
    obtain ⟨l, rfl, h1, h2, ho, h3, h4⟩ := r
    refine ⟨l, rfl, ⟨h1, S.dom _ h2, S.j_none h2, ho, h3, h4.base S.dom⟩, fun j e a b => ?_⟩
    obtain ⟨l', e', _, _, _, ho', h5, _⟩ := S.geto a
    rw [b] at e'
    cases e'
    rw [h2] at h5
    cases h5
end
section
variable {z : Cz} {ρ : List Sl} {N : Dt → Bool → List Sl → Prop} {t : TA} {w : Wz} {E : XK}
theorem ze_call (h : ZA z t ρ fun ds ρ1 => w (Dt.olds ds) (fun d fr => N d fr ρ1) fun _ _ => False) : ZE z (tCall (spZ z.K w) [] E t) ρ N := fun m F H σ Q S k => by
  refine h m F H σ _ S fun ds ρ1 F1 H1 vs n1 s1 S1 r1 => ?_
  rw [List.append_nil]
  refine ⟨F1, Dt.olds ds, _, _, S1.le, rzl_old _ _ r1, n1, fun d fr F' H' v nd g => ?_, fun C fs dd H' f => f.elim⟩
  obtain ⟨S2, r2⟩ := S1.got g
  exact k _ _ _ _ _ _ nd (s1.trans g.1) S2 r2
/-- .. that may raise -/
theorem ze_callR (h : ZA z t ρ fun ds ρ1 => w (Dt.olds ds) (fun d fr => N d fr ρ1) z.Eh) : ZE z (tCall (spZ z.K w) [] z.Er t) ρ N := fun m F H σ Q S k => by
  refine h m F H σ _ S fun ds ρ1 F1 H1 vs n1 s1 S1 r1 => ?_
  rw [List.append_nil]
  refine ⟨F1, Dt.olds ds, _, _, S1.le, rzl_old _ _ r1, n1, fun d fr F' H' v nd g => ?_, fun C fs dd H' e er => ?_⟩
  · obtain ⟨S2, r2⟩ := S1.got g
    exact k _ _ _ _ _ _ nd (s1.trans g.1) S2 r2
  · refine S1.er C fs dd H' e ⟨?_, ?_⟩
    · intro a o q
      rcases S1.bj a o q with c | ⟨c, ob, c'⟩
      · rcases er.1 a o (S1.base _ _ c) with q | q
        · exact .inl q
        · exact .inr q
      · refine .inr ⟨c, ob, ?_⟩
        rcases er.1 a _ (S1.base _ _ c') with q | ⟨q, _⟩
        · exact q
        · cases q
    · have q := er.2
      cases fs with
      | nil => exact q
      | cons p r =>
        obtain ⟨x, h1, h2, h3⟩ := q
        exact ⟨x, h1, S1.dom _ h2, h3⟩
end
/-! ### a def by its body -/
def slots (N : List Str) (ds : List Dt) : List Sl := ds.map Sl.v ++ List.replicate (N.length - ds.length) .un
def fmE (F H : Hp) : Fm := ⟨H, F, H, fun _ => False⟩
theorem slots_ok {K : PySem.W.Frag} {F H : Hp} {ds : List Dt} {vs : List V} {n : Nat} (r : Rzl K H F ds vs) {i : Nat} {s : Sl} {ov : Option V}
    (a : (ds.map Sl.v ++ List.replicate n Sl.un)[i]? = some s) (b : (vs.map some ++ List.replicate n none)[i]? = some ov) : (s = .un) ∨ ∃ d v, s = .v d ∧ ov = some v ∧ Rz K H F d v := by
  have l := r.len
  by_cases c : i < ds.length
  · rw [List.getElem?_append_left (by rw [List.length_map]; exact c), List.getElem?_map] at a
    rw [List.getElem?_append_left (by rw [List.length_map]; omega), List.getElem?_map] at b
    cases e : ds[i]? with
    | none => rw [e] at a; cases a
    | some d =>
      rw [e] at a
      cases a
      obtain ⟨v, e2, r2⟩ := r.at_ e
      rw [e2] at b
      cases b
      exact .inr ⟨d, v, rfl, rfl, r2⟩
  · rw [List.getElem?_append_right (by rw [List.length_map]; omega), List.getElem?_replicate] at a
    split at a
    · cases a; exact .inl rfl
    · cases a
theorem Sm.start {K : PySem.W.Frag} {E : XK} {Ne : Addr → List (Str × V) → Prop} {F H : Hp} {ds : List Dt} {vs : List V} {N : List Str} (le : Le F H) (r : Rzl K H F ds vs) (er : ∀ C fs dd H', Ne C fs → ErrR H fs dd H' → E (.ref C) dd H') :
    Sm ⟨K, E, Ne⟩ (fmE F H) F H (L2.start N vs) (slots N ds) := by
  have l := r.len
  have key : ∀ {i : Nat} {s : Sl} {ov : Option V}, (slots N ds)[i]? = some s → (L2.start N vs)[i]? = some ov → (s = .un) ∨ ∃ d v, s = .v d ∧ ov = some v ∧ Rz K H F d v := fun {i s ov} a b => slots_ok r a (by rw [← l]; exact b)
  refine { lk := le.lk, base := Same.refl H, fr := Nw.refl F H, dom := fun _ h => h, bj := Le.refl H, er := er, hid := fun _ h => h.elim, fj := fun _ _ _ q => q, len := ?_, slot := fun i s ov a b => ?_, sep := fun i j d e q a b c c' => ?_, psep := fun i j q d e a b => ?_ }
  · unfold L2.start slots
    rw [List.length_append, List.length_append, List.length_map, List.length_map, List.length_replicate, List.length_replicate, l]
  · rcases key a b with rfl | ⟨d, v, rfl, rfl, r⟩
    · trivial
    · exact ⟨v, rfl, r⟩
  · rcases key a c with h | ⟨d, v, h, _⟩ <;> cases h
  · have hi : i < (slots N ds).length := (List.getElem?_eq_some_iff.mp a).1
    have hl : (L2.start N vs).length = (slots N ds).length := by
      unfold L2.start slots
      rw [List.length_append, List.length_append, List.length_map, List.length_map, List.length_replicate, List.length_replicate, l]
    rcases key a (List.getElem?_eq_getElem (by rw [hl]; exact hi)) with h | ⟨d, v, h, _⟩ <;> cases h
theorem z_fn {X : Cx} {body : List Stmt} {t : TS} {K : PySem.W.Frag} {w : Wz} {N : List Str} {vs : List V} {H : Hp} {Q : VK} {E : XK} (h : spZ K w vs H Q E) (P : PSs X body t)
    (go : ∀ ds Nv Ne, w ds Nv Ne → ZS ⟨K, E, Ne⟩ t (slots N ds) ⟨fun _ => Nv .non false, Nv, fun _ => False, fun _ => False⟩) : ∃ t, PSs X body t ∧ t { nx := fun _ H' => Q .non H', rt := Q } (L2.start N vs) H := by
  obtain ⟨F, ds, Nv, Ne, le, r, hw, hq, he⟩ := h
  refine ⟨t, P, go ds Nv Ne hw (fmE F H) F H _ _ (Sm.start le r he) (fun ρ' F' H' σ' n s S => hq _ _ F' H' _ n ⟨s, S.base, S.lk, S.fr, S.fj, show Rz K H F' .non .non from rzn⟩) (fun d fr F' H' v n s R => ?_) (fun _ _ _ _ n => n.elim) (fun _ _ _ _ n => n.elim)⟩
  obtain ⟨S, r⟩ := R
  refine hq d fr F' H' v n ⟨s, S.base, S.lk, S.fr, S.fj, ?_⟩
  cases fr with
  | false => exact r
  | true =>
    rw [if_pos rfl] at r ⊢
    obtain ⟨l, rfl, h1, h2, h3, ho, h4, h5⟩ := r
    exact ⟨l, rfl, h1, h2, ho, h4, h5⟩
theorem spz_len {K : PySem.W.Frag} {w : Wz} {vs : List V} {H : Hp} {Q : VK} {E : XK} {n : Nat} (h : spZ K w vs H Q E) (hl : ∀ ds Nv Ne, w ds Nv Ne → ds.length = n) : vs.length = n := by
  obtain ⟨F, ds, Nv, Ne, le, r, hw, _⟩ := h
  rw [r.len, hl ds Nv Ne hw]
/-! ### dicts -/
def keyD : Key → Dt
  | .inl i => .int i
  | .inr x => .str x
theorem rz_key {K : PySem.W.Frag} {B F : Hp} : ∀ {k : Key} {v : V}, Rz K B F (keyD k) v → v = kV k
  | .inl _, _, h => rz_i h
  | .inr _, _, h => rz_s h
theorem key_rz {K : PySem.W.Frag} {B F : Hp} : ∀ (k : Key), Rz K B F (keyD k) (kV k)
  | .inl _ => rzi
  | .inr _ => rzs
theorem rzl_keys {K : PySem.W.Frag} {B F : Hp} : ∀ {ks : List Key} {vs : List V}, Rzl K B F (ks.map keyD) vs → vs = ks.map kV
  | [], _, h => h.inv0
  | k :: ks, _, h => by
    obtain ⟨v, r, rfl, h1, t⟩ := h.inv
    rw [rz_key h1, rzl_keys t]
    rfl
theorem keys_rzl {K : PySem.W.Frag} {B F : Hp} : ∀ (ks : List Key), Rzl K B F (ks.map keyD) (ks.map kV)
  | [] => .nil
  | k :: ks => .cons (key_rz k) (keys_rzl ks)
inductive GetD : Dt → Dt → Option Dt → Prop
  | k {t : Bool} {ks : List Key} {ds : List Dt} (x : Key) {o : Option Dt} : look ks ds x = o → GetD (.dic t ks ds) (keyD x) o
  | t {t : Bool} {ks : List (List Key)} {ds : List Dt} (x : List Key) {o : Option Dt} : look ks ds x = o → GetD (.dit t ks ds) (.tup (x.map keyD)) o
theorem GetD.str {t : Bool} {ks : List Key} {ds : List Dt} {x : Str} {o : Option Dt} (h : look ks ds (.inr x) = o) : GetD (.dic t ks ds) (.str x) o := .k (.inr x) h
theorem GetD.int {t : Bool} {ks : List Key} {ds : List Dt} {x : Int} {o : Option Dt} (h : look ks ds (.inl x) = o) : GetD (.dic t ks ds) (.int x) o := .k (.inl x) h
inductive PutD : Dt → Dt → Dt → Dt → Prop
  | k {ks : List Key} {ds : List Dt} {d : Dt} (x : Key) : ks.length < 100000 → PutD (.dic true ks ds) (keyD x) d (.dic true (putKs ks x) (putDs ks ds x d))
  | t {ks : List (List Key)} {ds : List Dt} {d : Dt} (x : List Key) : ks.length < 100000 → PutD (.dit true ks ds) (.tup (x.map keyD)) d (.dit true (putKs ks x) (putDs ks ds x d))
theorem PutD.str {ks : List Key} {ds : List Dt} {d : Dt} {x : Str} (h : ks.length < 100000) : PutD (.dic true ks ds) (.str x) d (.dic true (putKs ks (.inr x)) (putDs ks ds (.inr x) d)) := .k (.inr x) h
/-- a dict at a -/
inductive DctR (K : PySem.W.Frag) (B F H : Hp) (a : Addr) : Dt → Prop
  | k {t : Bool} {kvs : List (Key × V)} {ds : List Dt} : L2.Rd H a (.dK kvs) → Rzl K B F ds (kvs.map Prod.snd) → DctR K B F H a (.dic t (kvs.map Prod.fst) ds)
  | t {t : Bool} {kvs : List (List Key × V)} {ds : List Dt} : L2.Rd H a (.dT kvs) → Rzl K B F ds (kvs.map Prod.snd) → DctR K B F H a (.dit t (kvs.map Prod.fst) ds)
def isDd : Dt → Bool
  | .dic _ _ _ => true
  | .dit _ _ _ => true
  | _ => false
theorem rz_dct {K : PySem.W.Frag} {B F H : Hp} {d : Dt} {v : V} (h : Rz K B F d v) (le : Le F H) (i : isDd d = true) : ∃ a, v = .ref a ∧ DctR K B F H a d := by
  cases d <;> first | cases i | skip
  · simp only [Rz] at h
    obtain ⟨a, kvs, rfl, h1, _, rfl, h2⟩ := h
    exact ⟨a, rfl, .k (le.rd h1) h2⟩
  · simp only [Rz] at h
    obtain ⟨a, kvs, rfl, h1, _, rfl, h2⟩ := h
    exact ⟨a, rfl, .t (le.rd h1) h2⟩
theorem GetD.isDd {c y : Dt} {o : Option Dt} (h : GetD c y o) : isDd c = true := by cases h <;> rfl
def OptR (K : PySem.W.Frag) (B F : Hp) : Option Dt → Option V → Prop
  | some d, some v => Rz K B F d v
  | none, none => True
  | _, _ => False
theorem dct_get {K : PySem.W.Frag} {B F H : Hp} {a : Addr} {c y : Dt} {o : Option Dt} {vy : V} (h : DctR K B F H a c) (g : GetD c y o) (r : Rz K B F y vy) (le : Le F H) : ∃ vo, DGet H a vy vo ∧ OptR K B F o vo := by
  cases g with
  | k x e =>
    obtain rfl := rz_key r
    cases h with
    | k h1 h2 =>
      have q := tab_look (k := x) h2
      rw [e] at q
      refine ⟨_, .inl ⟨_, x, h1, rfl, rfl⟩, ?_⟩
      cases o with
      | none => rw [q]; trivial
      | some d =>
        obtain ⟨v, e1, e2⟩ := q
        rw [e1]
        exact e2
  | t x e =>
    simp only [Rz] at r
    obtain ⟨b, xs, rfl, hb, rx⟩ := r
    obtain rfl := rzl_keys rx
    cases h with
    | t h1 h2 =>
      have q := tab_look (k := x) h2
      rw [e] at q
      refine ⟨_, .inr ⟨_, x, b, h1, rfl, le.exact hb rfl, rfl⟩, ?_⟩
      cases o with
      | none => rw [q]; trivial
      | some d =>
        obtain ⟨v, e1, e2⟩ := q
        rw [e1]
        exact e2
theorem OptR.isSome {K : PySem.W.Frag} {B F : Hp} : ∀ {o : Option Dt} {vo : Option V}, OptR K B F o vo → vo.isSome = o.isSome
  | some _, some _, _ => rfl
  | none, none, _ => rfl
section
variable {z : Cz} {ρ : List Sl} {i : Nat}
theorem Sm.has {m : Fm} {F H : Hp} {σ : L2.St} (S : Sm z m F H σ ρ) {s : Sl} {c : Dt} (h : ρ[i]? = some s) (p : Pk s c) : ∃ v, σ[i]? = some (some v) := by
  obtain ⟨ov, e, ok⟩ := S.get h
  rcases p with rfl | rfl | ⟨a, rfl⟩
  · obtain ⟨v, rfl, r⟩ := ok; exact ⟨v, e⟩
  · obtain ⟨l, rfl, _⟩ := ok; exact ⟨_, e⟩
  · obtain ⟨rfl, _⟩ := ok; exact ⟨_, e⟩
theorem Sm.peekD {m : Fm} {F H : Hp} {σ : L2.St} (S : Sm z m F H σ ρ) {s : Sl} {c : Dt} (h : ρ[i]? = some s) (p : Pk s c) (hc : isDd c = true) : ∃ a, σ[i]? = some (some (.ref a)) ∧ DctR z.K m.B F H a c := by
  obtain ⟨ov, e, ok⟩ := S.get h
  rcases p with rfl | rfl | ⟨a, rfl⟩
  · obtain ⟨v, rfl, r⟩ := ok
    obtain ⟨a, rfl, q⟩ := rz_dct r S.le hc
    exact ⟨a, e, q⟩
  · obtain ⟨l, rfl, _, _, _, ho, h1, h2⟩ := ok
    cases h2 with
    | lst r => cases hc
    | dK r => exact ⟨l, e, .k (.inl h1) r⟩
    | dT r => exact ⟨l, e, .t (.inl h1) r⟩
  · obtain ⟨rfl, _, _, ho, h1, h2⟩ := ok
    have hr : L2.Rd H a ho := by
      rcases h1 with h1 | ⟨_, ob, h1⟩
      · exact .inl (S.base _ _ h1)
      · exact .inr ⟨ob, S.base _ _ h1⟩
    cases h2 with
    | lst r => cases hc
    | dK r => exact ⟨a, e, .k hr r⟩
    | dT r => exact ⟨a, e, .t hr r⟩
theorem DctR.isD {K : PySem.W.Frag} {B F H : Hp} {a : Addr} {c : Dt} (h : DctR K B F H a c) : IsD H a := by
  cases h with
  | k h1 _ => exact .inl ⟨_, h1⟩
  | t h1 _ => exact .inr ⟨_, h1⟩
variable {N : Dt → Bool → List Sl → Prop} {td ty tx tv : TE} {s0 : Sl} {c0 : Dt}
theorem ze_dgetv (h0 : ρ[i]? = some s0) (p0 : Pk s0 c0) (h : ZE z ty ρ fun y _ ρ1 => ∃ s c d, ρ1[i]? = some s ∧ Pk s c ∧ GetD c y (some d) ∧ N d false ρ1) : ZE z (tDGet (tVar i) ty) ρ N := fun m F H σ Q S k => by
  obtain ⟨v, e⟩ := S.has h0 p0
  refine ⟨v, e, h m F H σ _ S fun y fy ρ1 F1 H1 vy n1 s1 S1 r1 => ?_⟩
  obtain ⟨F2, s2, S2, ry⟩ := rzF_frz S1 r1
  obtain ⟨s, c, d, hs, p, g, n⟩ := n1
  obtain ⟨a, e', q⟩ := S2.peekD hs p g.isDd
  rw [e] at e'
  cases e'
  obtain ⟨vo, q1, q2⟩ := dct_get q g ry S2.le
  cases vo with
  | none => exact q2.elim
  | some u => exact ⟨a, u, rfl, q1, k _ _ _ _ _ _ n (s1.trans s2) S2 (rzF_f q2)⟩
theorem ze_dget (h : ZE z td ρ fun c _ ρ1 => ZE z ty ρ1 fun y _ ρ2 => ∃ d, GetD c y (some d) ∧ N d false ρ2) : ZE z (tDGet td ty) ρ N := fun m F H σ Q S k => by
  refine h m F H σ _ S fun c fc ρ1 F1 H1 vc n1 s1 S1 r1 => ?_
  obtain ⟨F2, s2, S2, rc⟩ := rzF_frz S1 r1
  refine n1 m F2 H1 σ _ S2 fun y fy ρ2 F3 H2 vy n2 s3 S3 r3 => ?_
  obtain ⟨F4, s4, S4, ry⟩ := rzF_frz S3 r3
  obtain ⟨d, g, n⟩ := n2
  obtain ⟨a, rfl, q⟩ := rz_dct (rz_mono (s3.trans s4) _ _ rc) S4.le g.isDd
  obtain ⟨vo, q1, q2⟩ := dct_get q g ry S4.le
  cases vo with
  | none => exact q2.elim
  | some u => exact ⟨a, u, rfl, q1, k _ _ _ _ _ _ n ((s1.trans s2).trans (s3.trans s4)) S4 (rzF_f q2)⟩
theorem ze_dinv (h0 : ρ[i]? = some s0) (h : ZE z ty ρ fun y _ ρ1 => ∃ s c o, ρ1[i]? = some s ∧ Pk s c ∧ GetD c y o ∧ N (.bl o.isSome) false ρ1) : ZE z (tDIn ty (tVar i)) ρ N := fun m F H σ Q S k => by
  refine h m F H σ _ S fun y fy ρ1 F1 H1 vy n1 s1 S1 r1 => ?_
  obtain ⟨F2, s2, S2, ry⟩ := rzF_frz S1 r1
  obtain ⟨s, c, o, hs, p, g, n⟩ := n1
  obtain ⟨a, e', q⟩ := S2.peekD hs p g.isDd
  obtain ⟨vo, q1, q2⟩ := dct_get q g ry S2.le
  exact ⟨_, e', a, vo, rfl, q1, by rw [q2.isSome]; exact k _ _ _ _ _ _ n (s1.trans s2) S2 (rzF_f rzb)⟩
theorem ze_dnotinv (h0 : ρ[i]? = some s0) (h : ZE z ty ρ fun y _ ρ1 => ∃ s c o, ρ1[i]? = some s ∧ Pk s c ∧ GetD c y o ∧ N (.bl (!o.isSome)) false ρ1) : ZE z (tDNotIn ty (tVar i)) ρ N := fun m F H σ Q S k => by
  refine h m F H σ _ S fun y fy ρ1 F1 H1 vy n1 s1 S1 r1 => ?_
  obtain ⟨F2, s2, S2, ry⟩ := rzF_frz S1 r1
  obtain ⟨s, c, o, hs, p, g, n⟩ := n1
  obtain ⟨a, e', q⟩ := S2.peekD hs p g.isDd
  obtain ⟨vo, q1, q2⟩ := dct_get q g ry S2.le
  exact ⟨_, e', a, vo, rfl, q1, by rw [q2.isSome]; exact k _ _ _ _ _ _ n (s1.trans s2) S2 (rzF_f rzb)⟩
theorem ze_din (h : ZE z ty ρ fun y _ ρ1 => ZE z td ρ1 fun c _ ρ2 => ∃ o, GetD c y o ∧ N (.bl o.isSome) false ρ2) : ZE z (tDIn ty td) ρ N := fun m F H σ Q S k => by
  refine h m F H σ _ S fun y fy ρ1 F1 H1 vy n1 s1 S1 r1 => ?_
  obtain ⟨F2, s2, S2, ry⟩ := rzF_frz S1 r1
  refine n1 m F2 H1 σ _ S2 fun c fc ρ2 F3 H2 vc n2 s3 S3 r3 => ?_
  obtain ⟨F4, s4, S4, rc⟩ := rzF_frz S3 r3
  obtain ⟨o, g, n⟩ := n2
  obtain ⟨a, rfl, q⟩ := rz_dct rc S4.le g.isDd
  obtain ⟨vo, q1, q2⟩ := dct_get q g (rz_mono (s3.trans s4) _ _ ry) S4.le
  exact ⟨a, vo, rfl, q1, by rw [q2.isSome]; exact k _ _ _ _ _ _ n ((s1.trans s2).trans (s3.trans s4)) S4 (rzF_f rzb)⟩
theorem ze_dget2v (h0 : ρ[i]? = some s0) (p0 : Pk s0 c0) (hc : isDd c0 = true) (h : ZE z ty ρ fun y _ ρ1 => ZE z tx ρ1 fun x _ ρ2 => ∃ s c o, ρ2[i]? = some s ∧ Pk s c ∧ GetD c y o ∧ N (o.getD x) false ρ2) : ZE z (tDGet2 (tVar i) ty tx) ρ N := fun m F H σ Q S k => by
  obtain ⟨a, e, q0⟩ := S.peekD h0 p0 hc
  refine ⟨_, e, a, rfl, q0.isD, h m F H σ _ S fun y fy ρ1 F1 H1 vy n1 s1 S1 r1 => ?_⟩
  obtain ⟨F2, s2, S2, ry⟩ := rzF_frz S1 r1
  refine n1 m F2 H1 σ _ S2 fun x fx ρ2 F3 H2 vx n2 s3 S3 r3 => ?_
  obtain ⟨F4, s4, S4, rx⟩ := rzF_frz S3 r3
  obtain ⟨s, c, o, hs, p, g, n⟩ := n2
  obtain ⟨a', e', q⟩ := S4.peekD hs p g.isDd
  rw [e] at e'
  cases e'
  obtain ⟨vo, q1, q2⟩ := dct_get q g (rz_mono (s3.trans s4) _ _ ry) S4.le
  refine ⟨vo, q1, k _ _ _ _ _ _ n ((s1.trans s2).trans (s3.trans s4)) S4 (rzF_f ?_)⟩
  cases o <;> cases vo <;> first | exact q2.elim | exact rx | exact q2
theorem zs_dput {D : Zn} (h : ZE z tv ρ fun v _ ρ1 => ∃ s0 c0, ρ1[i]? = some s0 ∧ Pk s0 c0 ∧ ZE z ty ρ1 fun y _ ρ2 => ∃ c c', ρ2[i]? = some (.o c) ∧ PutD c y v c' ∧ D.nx (ρ2.set i (.o c'))) : ZS z (sDPut (tVar i) ty tv) ρ D := fun m F H σ E S kn kr kb kc => by
  refine h m F H σ _ S fun v fv ρ1 F1 H1 vv n1 s1 S1 r1 => ?_
  obtain ⟨F2, s2, S2, rv⟩ := rzF_frz S1 r1
  obtain ⟨s0, c0, hs0, hp0, n1⟩ := n1
  obtain ⟨u, eu⟩ := S2.has hs0 hp0
  refine ⟨u, eu, n1 m F2 H1 σ _ S2 fun y fy ρ2 F3 H2 vy n2 s3 S3 r3 => ?_⟩
  obtain ⟨F4, s4, S4, ry⟩ := rzF_frz S3 r3
  obtain ⟨c, c', hc, p, n⟩ := n2
  obtain ⟨l, el, h1, h2, h3, ho, h4, h5⟩ := S4.geto hc
  rw [eu] at el
  cases el
  have ss := (s1.trans s2).trans (s3.trans s4)
  have rv' := rz_mono (s3.trans s4) _ _ rv
  cases p with
  | k x hl =>
    obtain rfl := rz_key ry
    cases h5 with
    | dK r =>
      have hr := HoR.dK (tab_putD (k := x) r rv')
      rw [tab_putK] at hr
      exact ⟨l, _, rfl, DPut.k h4 (by rw [List.length_map] at hl; rw [sizeLine_eq]; omega), kn _ _ _ _ n ss (S4.put hc eu hr)⟩
  | t x hl =>
    simp only [Rz] at ry
    obtain ⟨b, xs, rfl, hb, rx⟩ := ry
    obtain rfl := rzl_keys rx
    cases h5 with
    | dT r =>
      have hr := HoR.dT (tab_putD (k := x) r rv')
      rw [tab_putK] at hr
      exact ⟨l, _, rfl, DPut.t h4 (S4.le.exact hb rfl) (by rw [List.length_map] at hl; rw [sizeLine_eq]; omega), kn _ _ _ _ n ss (S4.put hc eu hr)⟩
end
/-! ### a dict locked where it is walked -/
/-- behind: the dict that was locked within is open again -/
def unlN (H : Hp) (N : L2.St → Hp → Prop) : L2.St → Hp → Prop := fun σ' H' => N σ' H' ∨ ∃ d od u, (∀ o' u', H d ≠ some (.frz o' u')) ∧ H' d = some (.frz od u) ∧ N σ' (upd H' d u)
def unlV (H : Hp) (N : VK) : VK := fun v H' => N v H' ∨ ∃ d od u, (∀ o' u', H d ≠ some (.frz o' u')) ∧ H' d = some (.frz od u) ∧ N v (upd H' d u)
def tLockL (t : TS) : TS := fun D σ H => t ⟨unlN H D.nx, unlV H D.rt, unlN H D.bk, unlN H D.ct⟩ σ H
def tLockLE (t : TE) : TE := fun σ H Q => t σ H (unlV H Q)
def tLk (td : TE) : TE := fun σ H Q => td σ H fun x H1 => ∃ d u, x = .ref d ∧ ((H1 d = some u ∧ Mut (some u) ∧ ∀ o, Q x (upd H1 d (.frz o u))) ∨ Q x H1)
section
variable {X : Cx}
theorem nofrz0 {pins : List (Addr × Obj)} {σ : L2.St} {H : Hp} {s : Shared} {d : Addr} (I : Inv X pins σ H s) (h : ∀ o' u', H d ≠ some (.frz o' u')) : ∀ o' u', X.H_0 d ≠ some (.frz o' u') := fun o' u' e => h o' u' (I.base.frzs d o' u' e)
theorem ps_lockL {st : Stmt} {t : TS} (h : PS X st t) : PS X st (tLockL t) := by
  refine ⟨fun pins s σ H D I hw => ?_⟩
  refine thn (h.run pins s σ _ _ I hw) fun f s1 q => ?_
  cases f with
  | next =>
    obtain ⟨σ', H', I2, q | ⟨d, od, u, hn, e, q⟩⟩ := q
    · exact ⟨σ', _, I2, q⟩
    · exact ⟨σ', _, I2.unlock e (nofrz0 I hn), q⟩
  | brk =>
    obtain ⟨σ', H', I2, q | ⟨d, od, u, hn, e, q⟩⟩ := q
    · exact ⟨σ', _, I2, q⟩
    · exact ⟨σ', _, I2.unlock e (nofrz0 I hn), q⟩
  | cont =>
    obtain ⟨σ', H', I2, q | ⟨d, od, u, hn, e, q⟩⟩ := q
    · exact ⟨σ', _, I2, q⟩
    · exact ⟨σ', _, I2.unlock e (nofrz0 I hn), q⟩
  | ret v =>
    obtain ⟨x, σ', H', I2, r, q | ⟨d, od, u, hn, e, q⟩⟩ := q
    · exact ⟨x, σ', _, I2, r, q⟩
    · exact ⟨x, σ', _, I2.unlock e (nofrz0 I hn), r, q⟩
theorem pe_lockL {e : Expr} {t : TE} (h : PE X e t) : PE X e (tLockLE t) := by
  refine ⟨fun pins s σ H Q I hw => ?_⟩
  refine thn (h.run pins s σ _ _ I hw) fun v s1 q => ?_
  obtain ⟨x, H1, I2, r, q | ⟨d, od, u, hn, e, q⟩⟩ := q
  · exact ⟨x, _, I2, r, q⟩
  · exact ⟨x, _, I2.unlock e (nofrz0 I hn), r, q⟩
theorem pe_lk {e : Expr} {t : TE} (h : PE X e t) : PE X e (tLk t) := by
  refine ⟨fun pins s σ H Q I hw => ?_⟩
  refine thn (h.run pins s σ _ _ I hw) fun v s1 q => ?_
  obtain ⟨x, H1, I2, r, d, u, rfl, ⟨e, mu, q⟩ | q⟩ := q
  · obtain ⟨od, I3⟩ := I2.lock e mu
    exact ⟨_, _, I3, r, q od⟩
  · exact ⟨_, _, I2, r, q⟩
end
/-! ### held things -/
def Fm.pin (m : Fm) (l : Addr) (o : HO) : Fm := { m with J := upd m.J l o, hd := fun a => m.hd a ∨ a = l }
def Fm.lock (m : Fm) (l : Addr) (o : HO) : Fm := { m with J := upd m.J l o }
def undo (un : Option (Addr × HO)) (H : Hp) : Hp := match un with
  | none => H
  | some (d, u) => upd H d u
structure Back (z : Cz) (H0 F1 : Hp) (m m' : Fm) (un : Option (Addr × HO)) (bp : List Sl → Prop) (bm : List Sl → List Sl) : Prop where
  leg : ∀ d u, un = some (d, u) → ∀ o' u', H0 d ≠ some (.frz o' u')
  fz : ∀ F H, Sc z m' F H → ∀ d u, un = some (d, u) → ∃ od, H d = some (.frz od u)
  sm : ∀ F H σ ρ, Same F1 F → Sm z m' F H σ ρ → bp ρ → Sm z m F (undo un H) σ (bm ρ)
  bb : m'.B = m.B
  rt : ∀ F H fr d v, Same F1 F → RtR z m' F H fr d v → RtR z m F (undo un H) fr d v
section
variable {z : Cz} {m : Fm} {F H : Hp} {σ : L2.St} {ρ : List Sl} {i : Nat} {d : Dt} {l : Addr}
theorem Back.id {H0 F1 : Hp} : Back z H0 F1 m m none (fun _ => True) (fun ρ => ρ) := ⟨fun _ _ e => (nomatch e), fun _ _ _ _ _ e => (nomatch e), fun _ _ _ _ _ S _ => S, rfl, fun _ _ _ _ _ _ R => R⟩
/-- an owned thing is held: a list as it stands; ho' what is told of it within -/
theorem Sm.pin {ho ho' : HO} (S : Sm z m F H σ ρ) (h : ρ[i]? = some (.o d)) (e : σ[i]? = some (some (.ref l))) (hl : H l = some ho) (k : ho' = ho ∨ isDk ho = true ∧ ∃ ob, ho' = .frz ob ho) :
    Sm z (m.pin l ho') F (upd H l ho') σ (ρ.set i (.l l d)) := by
  obtain ⟨l', e', h1, h2, h3, ho2, h4, h5⟩ := S.geto h
  rw [e] at e'
  cases e'
  rw [hl] at h4
  cases h4
  have nt : isTp ho' = false := by
    rcases k with rfl | ⟨_, ob, rfl⟩
    · exact h5.notTp
    · rfl
  have C : Sc z (m.pin l ho') F (upd H l ho') := ⟨fun a o q => by
      have n : a ≠ l := fun c => by rw [c, h1] at q; cases q
      show upd H l ho' a = some o ∨ _
      rw [upd_ne n]
      refine (S.lk a o q).elim .inl fun ⟨p, ob, p1, p2⟩ => .inr ⟨p, ob, p1, ?_⟩
      show upd m.J l ho' a = _
      rw [upd_ne n]
      exact p2, fun a o q => by
      have q : upd m.J l ho' a = some o := q
      by_cases c : a = l
      · rw [c, upd_same] at q ⊢; exact q
      · rw [upd_ne c] at q ⊢; exact S.base a o q, S.fr, fun a q => by
      by_cases c : a = l
      · rw [c, upd_same] at q; cases q
      · rw [upd_ne c] at q; exact S.dom a q, fun a o q => by
      have n : a ≠ l := fun c => by
        have q : m.B a = some o := q
        rw [c, h2] at q; cases q
      show upd m.J l ho' a = some o ∨ _
      rw [upd_ne n]
      refine (S.bj a o q).elim .inl fun ⟨p, ob, p1⟩ => .inr ⟨p, ob, ?_⟩
      show upd m.J l ho' a = _
      rw [upd_ne n]
      exact p1, S.er, fun a ha => by
      rcases ha with ha | rfl
      · obtain ⟨q1, o, q2, q3⟩ := S.hid a ha
        refine ⟨q1, o, ?_, q3⟩
        show upd m.J l ho' a = _
        rw [upd_ne (fun c => by rw [c, h3] at q2; cases q2)]
        exact q2
      · exact ⟨h1, ho', upd_same, nt⟩, fun a ob u q => by
      show upd m.J l ho' a = _
      by_cases c : a = l
      · rw [c, upd_same] at q ⊢; exact q
      · rw [upd_ne c] at q ⊢; exact S.fj a ob u q⟩
  have hi : i < ρ.length := (List.getElem?_eq_some_iff.mp h).1
  refine { C with len := by rw [List.length_set]; exact S.len, slot := fun j s ov a b => ?_, sep := fun j k d1 d2 l' a b c c' => ?_, psep := fun j k q d1 d2 a b => ?_ }
  · by_cases c : i = j
    · subst c
      rw [List.getElem?_set_self hi] at a
      cases a
      rw [e] at b
      cases b
      refine ⟨rfl, .inr rfl, h2, ho, ?_, h5⟩
      rcases k with rfl | ⟨k1, ob, rfl⟩
      · exact .inl upd_same
      · exact .inr ⟨k1, ob, upd_same⟩
    · rw [List.getElem?_set_ne c] at a
      have q := S.slot j s ov a b
      cases s with
      | un => trivial
      | v d => exact q
      | o d2 =>
        obtain ⟨l', e', q1, q2, q3, ho2, q4, q5⟩ := q
        subst e'
        have n : l' ≠ l := fun z => c (S.sep i j _ _ l h a e (by rw [b, z]))
        refine ⟨l', rfl, q1, q2, ?_, ho2, ?_, q5⟩
        · show upd m.J l ho' l' = none
          rw [upd_ne n]; exact q3
        · rw [upd_ne n]; exact q4
      | l a2 d2 =>
        obtain ⟨q0, q1, q2, ho2, q4, q5⟩ := q
        have n : a2 ≠ l := fun z => by rw [z, h3] at q4; rcases q4 with q4 | ⟨_, _, q4⟩ <;> cases q4
        refine ⟨q0, .inl q1, q2, ho2, ?_, q5⟩
        show upd m.J l ho' a2 = some ho2 ∨ isDk ho2 = true ∧ ∃ ob, upd m.J l ho' a2 = _
        rw [upd_ne n]
        exact q4
  · have key : ∀ {x : Nat} {u : Dt}, (ρ.set i (.l l d))[x]? = some (.o u) → ρ[x]? = some (.o u) := fun {x u} p => by
      by_cases c : i = x
      · subst c
        rw [List.getElem?_set_self hi] at p
        cases p
      · rw [List.getElem?_set_ne c] at p
        exact p
    exact S.sep j k d1 d2 l' (key a) (key b) c c'
  · have key : ∀ {x : Nat} {u : Dt}, (ρ.set i (.l l d))[x]? = some (.l q u) → (x = i ∧ q = l) ∨ (ρ[x]? = some (.l q u) ∧ q ≠ l) := fun {x u} p => by
      by_cases c : i = x
      · subst c
        rw [List.getElem?_set_self hi] at p
        cases p
        exact .inl ⟨rfl, rfl⟩
      · rw [List.getElem?_set_ne c] at p
        refine .inr ⟨p, fun z => ?_⟩
        obtain ⟨ov, _, _, _, _, ho2, q4, _⟩ := S.get p
        rw [z, h3] at q4
        rcases q4 with q4 | ⟨_, _, q4⟩ <;> cases q4
    rcases key a with ⟨rfl, rfl⟩ | ⟨p1, p2⟩
    · rcases key b with ⟨rfl, _⟩ | ⟨_, p3⟩
      · rfl
      · exact absurd rfl p3
    · rcases key b with ⟨_, rfl⟩ | ⟨p3, _⟩
      · exact absurd rfl p2
      · exact S.psep j k q d1 d2 p1 p3
/-- .. and one's own again -/
theorem Sc.unpin {ho ho' : HO} (nf : ∀ ob u, ho ≠ .frz ob u) (S : Sc z (m.pin l ho') F H) (hB : m.B l = none) (hJ : m.J l = none) (hh : ¬ m.hd l) : Sc z m F (upd H l ho) := by
  obtain ⟨hF, _⟩ := S.hid l (.inr rfl)
  refine ⟨fun a o q => ?_, fun a o q => ?_, S.fr, fun a q => ?_, fun a o q => ?_, S.er, fun a ha => ?_, fun a ob u q => ?_⟩
  · have n : a ≠ l := fun c => by rw [c, hF] at q; cases q
    rw [upd_ne n]
    refine (S.lk a o q).elim .inl fun ⟨p, ob, p1, p2⟩ => .inr ⟨p, ob, p1, ?_⟩
    have p2 : upd m.J l ho' a = _ := p2
    rw [upd_ne n] at p2
    exact p2
  · have n : a ≠ l := fun c => by rw [c, hJ] at q; cases q
    rw [upd_ne n]
    refine S.base a o ?_
    show upd m.J l ho' a = _
    rw [upd_ne n]
    exact q
  · by_cases c : a = l
    · rw [c, upd_same] at q; cases q
    · rw [upd_ne c] at q; exact S.dom a q
  · have n : a ≠ l := fun c => by rw [c, hB] at q; cases q
    refine (S.bj a o q).elim (fun p => .inl ?_) fun ⟨p, ob, p1⟩ => .inr ⟨p, ob, ?_⟩
    · have p : upd m.J l ho' a = _ := p
      rw [upd_ne n] at p
      exact p
    · have p1 : upd m.J l ho' a = _ := p1
      rw [upd_ne n] at p1
      exact p1
  · obtain ⟨q1, o, q2, q3⟩ := S.hid a (.inl ha)
    refine ⟨q1, o, ?_, q3⟩
    have q2 : upd m.J l ho' a = _ := q2
    rw [upd_ne (fun c => hh (by rw [← c]; exact ha))] at q2
    exact q2
  · by_cases c : a = l
    · rw [c, upd_same] at q
      exact absurd (Option.some.inj q) (nf ob u)
    · rw [upd_ne c] at q
      have q2 : upd m.J l ho' a = _ := S.fj a ob u q
      rw [upd_ne c] at q2
      exact q2
theorem back_pin {H0 F1 : Hp} {ho ho' : HO} {un : Option (Addr × HO)} (nf : ∀ ob u, ho ≠ .frz ob u) (hB : m.B l = none) (hJ : m.J l = none) (hh : ¬ m.hd l) (k : (ho' = ho ∧ un = none) ∨ (isDk ho = true ∧ (∃ ob, ho' = .frz ob ho) ∧ un = some (l, ho) ∧ ∀ o' u', H0 l ≠ some (.frz o' u'))) :
    Back z H0 F1 m (m.pin l ho') un (fun ρ => ρ[i]? = some (.l l d)) (fun ρ => ρ.set i (.o d)) := by
  have st : ∀ {F H : Hp}, Sc z (m.pin l ho') F H → undo un H = upd H l ho ∧ H l = some ho' := fun {F H} S => by
    have q : H l = some ho' := S.base l ho' upd_same
    refine ⟨?_, q⟩
    rcases k with ⟨rfl, rfl⟩ | ⟨_, _, rfl, _⟩
    · show H = upd H l ho'
      funext b
      by_cases c : b = l
      · rw [c, upd_same]; exact q
      · rw [upd_ne c]
    · rfl
  refine ⟨fun d u e => ?_, fun F H S d u e => ?_, fun F H σ ρ _ S hb => ?_, rfl, fun F H fr d v _ R => ?_⟩
  · rcases k with ⟨_, rfl⟩ | ⟨_, _, rfl, k⟩
    · cases e
    · cases e; exact k
  · rcases k with ⟨_, rfl⟩ | ⟨_, ⟨ob, rfl⟩, rfl, _⟩
    · cases e
    · cases e; exact ⟨ob, (st S).2⟩
  · rw [(st S.toSc).1]
    obtain ⟨hF, _⟩ := S.hid l (.inr rfl)
    have hi : i < ρ.length := (List.getElem?_eq_some_iff.mp hb).1
    obtain ⟨ov, eo, ok⟩ := S.get hb
    obtain ⟨rfl, _, _, ho2, h4, h5⟩ := ok
    have eho : ho2 = ho := by
      have j : (m.pin l ho').J l = some ho' := upd_same
      rw [j] at h4
      rcases k with ⟨rfl, _⟩ | ⟨k1, ⟨ob, rfl⟩, _⟩
      · rcases h4 with h4 | ⟨k2, ob', h4⟩
        · cases h4; rfl
        · cases h4
          exact absurd rfl (nf _ _)
      · rcases h4 with h4 | ⟨_, ob', h4⟩
        · cases h4; cases h5
        · cases h4; rfl
    subst eho
    refine { Sc.unpin nf S.toSc hB hJ hh with len := by rw [List.length_set]; exact S.len, slot := fun j s ov a b => ?_, sep := fun j k' d1 d2 l' a b c c' => ?_, psep := fun j k' q d1 d2 a b => ?_ }
    · by_cases c : i = j
      · subst c
        rw [List.getElem?_set_self hi] at a
        cases a
        rw [eo] at b
        cases b
        exact ⟨l, rfl, hF, hB, hJ, ho2, upd_same, h5⟩
      · rw [List.getElem?_set_ne c] at a
        have q := S.slot j s ov a b
        cases s with
        | un => trivial
        | v d => exact q
        | o d2 =>
          obtain ⟨l', e', q1, q2, q3, ho3, q4, q5⟩ := q
          subst e'
          have q3 : upd m.J l ho' l' = none := q3
          have n : l' ≠ l := fun z => by rw [z, upd_same] at q3; cases q3
          rw [upd_ne n] at q3
          exact ⟨l', rfl, q1, q2, q3, ho3, by rw [upd_ne n]; exact q4, q5⟩
        | l a2 d2 =>
          obtain ⟨q0, q1, q2, ho3, q4, q5⟩ := q
          have n : a2 ≠ l := fun z => by
            subst z
            exact c (S.psep i j _ _ _ hb a)
          have q4 : upd m.J l ho' a2 = some ho3 ∨ isDk ho3 = true ∧ ∃ ob, upd m.J l ho' a2 = some (.frz ob ho3) := q4
          rw [upd_ne n] at q4
          exact ⟨q0, q1.elim id fun z => absurd z n, q2, ho3, q4, q5⟩
    · have key : ∀ {x : Nat} {u : Dt}, (ρ.set i (.o d))[x]? = some (.o u) → σ[x]? = some (some (.ref l')) → (x = i ∧ l' = l) ∨ (ρ[x]? = some (.o u) ∧ l' ≠ l) := fun {x u} p q => by
        by_cases c : i = x
        · subst c
          rw [eo] at q
          cases q
          exact .inl ⟨rfl, rfl⟩
        · rw [List.getElem?_set_ne c] at p
          refine .inr ⟨p, fun z => ?_⟩
          obtain ⟨l2, e2, _, _, q3, _⟩ := S.geto p
          rw [q] at e2
          cases e2
          have q3 : upd m.J l ho' l' = none := q3
          rw [z, upd_same] at q3
          cases q3
      rcases key a c with ⟨rfl, rfl⟩ | ⟨p1, p2⟩
      · rcases key b c' with ⟨rfl, _⟩ | ⟨_, p3⟩
        · rfl
        · exact absurd rfl p3
      · rcases key b c' with ⟨_, rfl⟩ | ⟨p3, _⟩
        · exact absurd rfl p2
        · exact S.sep j k' d1 d2 l' p1 p3 c c'
    · have key : ∀ {x : Nat} {u : Dt}, (ρ.set i (.o d))[x]? = some (.l q u) → ρ[x]? = some (.l q u) := fun {x u} p => by
        by_cases c : i = x
        · subst c
          rw [List.getElem?_set_self hi] at p
          cases p
        · rw [List.getElem?_set_ne c] at p
          exact p
      exact S.psep j k' q d1 d2 (key a) (key b)
  · obtain ⟨S, r⟩ := R
    rw [(st S).1]
    refine ⟨Sc.unpin nf S hB hJ hh, ?_⟩
    cases fr with
    | false => exact r
    | true =>
      rw [if_pos rfl] at r ⊢
      obtain ⟨l', rfl, q1, q2, q3, ho3, q4, q5⟩ := r
      have q3 : upd m.J l ho' l' = none := q3
      have n : l' ≠ l := fun z => by rw [z, upd_same] at q3; cases q3
      rw [upd_ne n] at q3
      exact ⟨l', rfl, q1, q2, q3, ho3, by rw [upd_ne n]; exact q4, q5⟩
/-- a frozen dict is locked -/
theorem Sm.lock {u : HO} (S : Sm z m F H σ ρ) (hF : F l = some u) (hH : H l = some u) (hu : isDk u = true) (ob : Obj) : Sm z (m.lock l (.frz ob u)) F (upd H l (.frz ob u)) σ ρ := by
  have nh : ¬ m.hd l := fun h => by rw [(S.hid l h).1] at hF; cases hF
  have nf : ∀ {o : HO}, isDk o = true → ∀ ob u, o ≠ .frz ob u := fun h ob u z => by rw [z] at h; cases h
  have C : Sc z (m.lock l (.frz ob u)) F (upd H l (.frz ob u)) := ⟨fun a o q => by
      by_cases n : a = l
      · subst n
        rw [hF] at q
        cases q
        exact .inr ⟨hu, ob, upd_same, upd_same⟩
      · rw [upd_ne n]
        refine (S.lk a o q).elim .inl fun ⟨p, ob, p1, p2⟩ => .inr ⟨p, ob, p1, ?_⟩
        show upd m.J l _ a = _
        rw [upd_ne n]
        exact p2, fun a o q => by
      have q : upd m.J l _ a = some o := q
      by_cases c : a = l
      · rw [c, upd_same] at q ⊢; exact q
      · rw [upd_ne c] at q ⊢; exact S.base a o q, S.fr, fun a q => by
      by_cases c : a = l
      · rw [c, upd_same] at q; cases q
      · rw [upd_ne c] at q; exact S.dom a q, fun a o q => by
      show upd m.J l _ a = some o ∨ isDk o = true ∧ ∃ ob, upd m.J l _ a = _
      by_cases n : a = l
      · subst n
        rw [upd_same]
        rcases S.bj a o q with p | ⟨p, ob', p1⟩
        · have := S.base _ _ p
          rw [hH] at this
          cases this
          exact .inr ⟨hu, ob, rfl⟩
        · have := S.base _ _ p1
          rw [hH] at this
          cases this
          cases hu
      · rw [upd_ne n]
        exact S.bj a o q, S.er, fun a ha => by
      obtain ⟨q1, o, q2, q3⟩ := S.hid a ha
      refine ⟨q1, o, ?_, q3⟩
      show upd m.J l _ a = _
      rw [upd_ne (fun c => nh (by rw [← c]; exact ha))]
      exact q2, fun a ob' u' q => by
      show upd m.J l _ a = _
      by_cases c : a = l
      · rw [c, upd_same] at q ⊢; exact q
      · rw [upd_ne c] at q ⊢; exact S.fj a ob' u' q⟩
  refine { C with len := S.len, slot := fun j s ov a b => ?_, sep := S.sep, psep := S.psep }
  have q := S.slot j s ov a b
  cases s with
  | un => trivial
  | v d => exact q
  | o d2 =>
    obtain ⟨l', e', q1, q2, q3, ho2, q4, q5⟩ := q
    have n : l' ≠ l := fun z => by rw [z, hF] at q1; cases q1
    refine ⟨l', e', q1, q2, ?_, ho2, by rw [upd_ne n]; exact q4, q5⟩
    show upd m.J l _ l' = none
    rw [upd_ne n]; exact q3
  | l a2 d2 =>
    obtain ⟨q0, q1, q2, ho2, q4, q5⟩ := q
    have n : a2 ≠ l := fun z => nh (by rw [← z]; exact q1)
    refine ⟨q0, q1, q2, ho2, ?_, q5⟩
    show upd m.J l _ a2 = some ho2 ∨ isDk ho2 = true ∧ ∃ ob, upd m.J l _ a2 = _
    rw [upd_ne n]
    exact q4
theorem back_lock {H0 F1 : Hp} {u : HO} {ob : Obj} (hl : ∀ o' u', H0 l ≠ some (.frz o' u')) (hF : F1 l = some u) (hJ : ∀ o, m.J l = some o → o = u) (hB : ∀ o, m.B l = some o → m.J l = some o) (hu : isDk u = true) (nh : ¬ m.hd l) : Back z H0 F1 m (m.lock l (.frz ob u)) (some (l, u)) (fun _ => True) (fun ρ => ρ) := by
  have st : ∀ {F H : Hp}, Sc z (m.lock l (.frz ob u)) F H → H l = some (.frz ob u) := fun {F H} S => S.base l _ upd_same
  have un : ∀ {F H : Hp}, Same F1 F → Sc z (m.lock l (.frz ob u)) F H → Sc z m F (upd H l u) := fun {F H} sF S => by
    have hH := st S
    refine ⟨fun a o q => ?_, fun a o q => ?_, S.fr, fun a q => ?_, fun a o q => ?_, S.er, fun a ha => ?_, fun a ob' u' q => ?_⟩
    · by_cases n : a = l
      · subst n
        rw [upd_same]
        have := sF _ _ hF
        rw [q] at this
        exact .inl this.symm
      · rw [upd_ne n]
        refine (S.lk a o q).elim .inl fun ⟨p, ob, p1, p2⟩ => .inr ⟨p, ob, p1, ?_⟩
        have p2 : upd m.J l _ a = _ := p2
        rw [upd_ne n] at p2
        exact p2
    · by_cases n : a = l
      · subst n
        rw [upd_same, hJ o q]
      · rw [upd_ne n]
        refine S.base a o ?_
        show upd m.J l _ a = _
        rw [upd_ne n]
        exact q
    · by_cases c : a = l
      · rw [c, upd_same] at q; cases q
      · rw [upd_ne c] at q; exact S.dom a q
    · by_cases n : a = l
      · subst n
        exact .inl (hB o q)
      · refine (S.bj a o q).elim (fun p => .inl ?_) fun ⟨p, ob, p1⟩ => .inr ⟨p, ob, ?_⟩
        · have p : upd m.J l _ a = _ := p
          rw [upd_ne n] at p
          exact p
        · have p1 : upd m.J l _ a = _ := p1
          rw [upd_ne n] at p1
          exact p1
    · obtain ⟨q1, o, q2, q3⟩ := S.hid a ha
      refine ⟨q1, o, ?_, q3⟩
      have q2 : upd m.J l _ a = _ := q2
      rw [upd_ne (fun c => nh (by rw [← c]; exact ha))] at q2
      exact q2
    · by_cases c : a = l
      · rw [c, upd_same] at q
        cases q
        cases hu
      · rw [upd_ne c] at q
        have q2 : upd m.J l _ a = _ := S.fj a ob' u' q
        rw [upd_ne c] at q2
        exact q2
  have jn : ∀ {x : Addr}, (m.lock l (.frz ob u)).J x = none → x ≠ l ∧ m.J x = none := fun {x} q => by
    have q : upd m.J l (.frz ob u) x = none := q
    have n : x ≠ l := fun z => by rw [z, upd_same] at q; cases q
    rw [upd_ne n] at q
    exact ⟨n, q⟩
  refine ⟨fun d u' e => ?_, fun F H S d u' e => ?_, fun F H σ ρ sF S _ => ?_, rfl, fun F H fr d v sF R => ?_⟩
  · cases e; exact hl
  · cases e; exact ⟨ob, st S⟩
  · refine { un sF S.toSc with len := S.len, slot := fun j s ov a b => ?_, sep := S.sep, psep := S.psep }
    have q := S.slot j s ov a b
    cases s with
    | un => trivial
    | v d => exact q
    | o d2 =>
      obtain ⟨l', e', q1, q2, q3, ho2, q4, q5⟩ := q
      obtain ⟨n, q3⟩ := jn q3
      exact ⟨l', e', q1, q2, q3, ho2, by show upd H l u l' = _; rw [upd_ne n]; exact q4, q5⟩
    | l a2 d2 =>
      obtain ⟨q0, q1, q2, ho2, q4, q5⟩ := q
      have n : a2 ≠ l := fun z => nh (by rw [← z]; exact q1)
      have q4 : upd m.J l _ a2 = some ho2 ∨ isDk ho2 = true ∧ ∃ ob, upd m.J l _ a2 = _ := q4
      rw [upd_ne n] at q4
      exact ⟨q0, q1, q2, ho2, q4, q5⟩
  · obtain ⟨S, r⟩ := R
    refine ⟨un sF S, ?_⟩
    cases fr with
    | false => exact r
    | true =>
      rw [if_pos rfl] at r ⊢
      obtain ⟨l', rfl, q1, q2, q3, ho3, q4, q5⟩ := r
      obtain ⟨n, q3⟩ := jn q3
      exact ⟨l', rfl, q1, q2, q3, ho3, by show upd H l u l' = _; rw [upd_ne n]; exact q4, q5⟩
end
/-! ### what is walked -/
/-- the walk begins: perhaps behind a lock -/
def ZI (z : Cz) (wi : TI) (ρ : List Sl) (N : List Dt → List Sl → (List Sl → Prop) → (List Sl → List Sl) → Prop) : Prop := ∀ m F H σ R, Sm z m F H σ ρ →
  (∀ ds ρ' bp bm m' un F' H' Jt, N ds ρ' bp bm → Same F F' → Back z H F' m m' un bp bm → Sm z m' F' H' σ ρ' → ItZ z m' F' Jt ds → R Jt H') → wi σ H R
section
variable {z : Cz} {ρ : List Sl} {wi : TI} {g : TG} {tb : TS} {N : Zn} {I : List Dt → List Sl → (List Sl → Prop) → (List Sl → List Sl) → Prop}
/-- a for: the states that the turns reach -/
theorem zs_forL (h : ZI z wi ρ fun ds ρ1 bp bm => ∃ W : Nat → List Sl → Prop, W 0 ρ1 ∧ (∀ ρ2, W ds.length ρ2 → bp ρ2 ∧ N.nx (bm ρ2)) ∧
    ∀ i d ρ2, ds[i]? = some d → W i ρ2 → ZG z g d false ρ2 fun ρ3 => ZS z tb ρ3 ⟨W (i + 1), N.rt, fun ρ4 => bp ρ4 ∧ N.nx (bm ρ4), W (i + 1)⟩) : ZS z (tLockL (tFor wi g tb)) ρ N := fun m F H σ D S kn kr kb kc => by
  refine h m F H σ _ S fun ds ρ1 bp bm m' un F1 H1 Jt n1 s1 B S1 it => ?_
  obtain ⟨W, w0, wd, ws⟩ := n1
  obtain ⟨n, G, Y, wk, rfl, gk, yk⟩ := it
  have toN : ∀ F2 H2 σ2 ρ2, Same F1 F2 → Sm z m' F2 H2 σ2 ρ2 → bp ρ2 ∧ N.nx (bm ρ2) → unlN H D.nx σ2 H2 := fun F2 H2 σ2 ρ2 s2 S2 q => by
    have S3 := B.sm F2 H2 σ2 ρ2 s2 S2 q.1
    cases un with
    | none => exact .inl (kn _ _ _ _ q.2 (s1.trans s2) S3)
    | some p =>
      obtain ⟨d, u⟩ := p
      obtain ⟨od, e⟩ := B.fz F2 H2 S2.toSc d u rfl
      exact .inr ⟨d, od, u, B.leg d u rfl, e, kn _ _ _ _ q.2 (s1.trans s2) S3⟩
  refine for_it wk (D := ⟨unlN H D.nx, unlV H D.rt, unlN H D.bk, unlN H D.ct⟩) (fun i σ2 H2 => ∃ F2 ρ2, W i ρ2 ∧ Same F1 F2 ∧ Sm z m' F2 H2 σ2 ρ2) ⟨F1, ρ1, w0, Same.refl F1, S1⟩ ?_ ?_ ?_
  · rintro i σ2 H2 hi ⟨F2, ρ2, w, s2, S2⟩
    exact gk F2 H2 s2 S2.le S2.base
  · rintro i x σ2 H2 H3 hi ⟨F2, ρ2, w, s2, S2⟩ y
    obtain ⟨F3, s3, S3, rx⟩ := yk m' i ds[i] F2 H2 H3 x σ2 ρ2 rfl (List.getElem?_eq_getElem hi) s2 S2 y
    refine ws i ds[i] ρ2 (List.getElem?_eq_getElem hi) w m' F3 H3 σ2 x _ S3 (rzF_f rx) fun ρ4 F4 H4 σ4 n4 s4 S4 => ?_
    have ss := s2.trans (s3.trans s4)
    refine n4 m' F4 H4 σ4 _ S4 (fun ρ5 F5 H5 σ5 w5 s5 S5 => ⟨F5, ρ5, w5, ss.trans s5, S5⟩) (fun d fr F5 H5 v q s5 R => ?_) (fun ρ5 F5 H5 σ5 w5 s5 S5 => toN _ _ _ _ (ss.trans s5) S5 w5) fun ρ5 F5 H5 σ5 w5 s5 S5 => ⟨F5, ρ5, w5, ss.trans s5, S5⟩
    have R2 := B.rt F5 H5 fr d v (ss.trans s5) R
    cases un with
    | none => exact .inl (kr _ _ _ _ _ q (s1.trans (ss.trans s5)) R2)
    | some p =>
      obtain ⟨d', u⟩ := p
      obtain ⟨od, e⟩ := B.fz F5 H5 R.1 d' u rfl
      exact .inr ⟨d', od, u, B.leg d' u rfl, e, kr _ _ _ _ _ q (s1.trans (ss.trans s5)) R2⟩
  · rintro σ2 H2 ⟨F2, ρ2, w, s2, S2⟩
    exact toN _ _ _ _ s2 S2 (wd ρ2 w)
end
/-! ### walks -/
theorem upd_self2 {H : Hp} {a : Addr} {o : HO} (h : H a = some o) : upd H a o = H := by
  funext b
  by_cases c : b = a
  · rw [c, upd_same, h]
  · rw [upd_ne c]
section
variable {z : Cz} {ρ : List Sl} {I : List Dt → List Sl → (List Sl → Prop) → (List Sl → List Sl) → Prop} {te : TE} {ta : TA} {i : Nat}
abbrev bT : List Sl → Prop := fun _ => True
abbrev bI : List Sl → List Sl := fun ρ => ρ
theorem it_list {m : Fm} {F : Hp} {K : PySem.W.Frag} {a : Addr} {xs : List V} {ds : List Dt} (hg : ∀ F' H', Same F F' → Le F' H' → Same m.J H' → H' a = some (.lst xs)) (r : Rzl z.K m.B F ds xs) : ItZ z m F (Itl K a) ds :=
  ⟨xs.length, _, _, walk_list, r.len, fun F' H' f le b => SqL.of (hg F' H' f le b), fun m2 i d F' H' H'' x σ ρ eb e f S y => by
    obtain ⟨rfl, y⟩ := y
    obtain ⟨v, e2, r2⟩ := r.at_ e
    rw [y] at e2
    cases e2
    exact ⟨F', Same.refl F', S, rz_mono f _ _ r2⟩⟩
theorem zi_list {K : PySem.W.Frag} (h : ZE z te ρ fun x _ ρ1 => ∃ t ds, x = .lst t ds ∧ I ds ρ1 bT bI) : ZI z (iList K te) ρ I := fun m F H σ R S k => by
  refine h m F H σ _ S fun x fx ρ1 F1 H1 vx n1 s1 S1 r1 => ?_
  obtain ⟨F2, s2, S2, rx⟩ := rzF_frz S1 r1
  obtain ⟨t, ds, rfl, n⟩ := n1
  simp only [Rz] at rx
  obtain ⟨a, xs, rfl, e, _, r⟩ := rx
  exact ⟨a, rfl, ⟨xs, SqL.of (S2.le.exact e rfl)⟩, k _ _ _ _ _ _ _ _ _ n (s1.trans s2) .id S2 (it_list (fun F' H' f le _ => le.exact (f _ _ e) rfl) r)⟩
/-- an owned list, held meanwhile -/
theorem zi_listo {K : PySem.W.Frag} {t : Bool} {ds : List Dt} (h : ρ[i]? = some (.o (.lst t ds))) (n : ∀ l, I ds (ρ.set i (.l l (.lst t ds))) (fun ρ => ρ[i]? = some (.l l (.lst t ds))) (fun ρ => ρ.set i (.o (.lst t ds)))) : ZI z (iList K (tVar i)) ρ I := fun m F H σ R S k => by
  obtain ⟨l, e, h1, h2, h3, ho, h4, h5⟩ := S.geto h
  cases h5 with
  | @lst xs _ r =>
    refine ⟨.ref l, e, l, rfl, ⟨xs, SqL.of h4⟩, ?_⟩
    have S' := S.pin (ho' := .lst xs) h e h4 (.inl rfl)
    rw [upd_self2 h4] at S'
    have nh : ¬ m.hd l := fun q => by
      obtain ⟨_, o, q2, _⟩ := S.hid l q
      rw [h3] at q2
      cases q2
    exact k _ _ _ _ _ _ _ _ _ (n l) (Same.refl F) (back_pin (fun ob u q => HO.noConfusion q) h2 h3 nh (.inl ⟨rfl, rfl⟩)) S' (it_list (fun F' H' _ _ b => b _ _ upd_same) r)
theorem zi_tup {K : PySem.W.Frag} (h : ZE z te ρ fun x _ ρ1 => ∃ ds, x = .tup ds ∧ I ds ρ1 bT bI) : ZI z (iTup K te) ρ I := fun m F H σ R S k => by
  refine h m F H σ _ S fun x fx ρ1 F1 H1 vx n1 s1 S1 r1 => ?_
  obtain ⟨F2, s2, S2, rx⟩ := rzF_frz S1 r1
  obtain ⟨ds, rfl, n⟩ := n1
  simp only [Rz] at rx
  obtain ⟨a, xs, rfl, e, r⟩ := rx
  refine ⟨a, rfl, ⟨xs, SqT.of (S2.le.exact e rfl)⟩, k _ _ _ _ _ _ _ _ _ n (s1.trans s2) .id S2 ⟨xs.length, _, _, walk_tup, r.len, fun F' H' f le b => SqT.of (le.exact (f _ _ e) rfl), fun m2 i d F' H' H'' x σ ρ eb e f S y => ?_⟩⟩
  obtain ⟨rfl, y⟩ := y
  obtain ⟨v, e2, r2⟩ := r.at_ e
  rw [y] at e2
  cases e2
  exact ⟨F', Same.refl F', S, rz_mono f _ _ r2⟩
theorem zi_range1 (h : ZA z ta ρ fun ds ρ1 => ∃ j : Int, ds = [.int j] ∧ -(2 ^ 62) ≤ j ∧ j < 2 ^ 62 ∧ I ((List.range j.toNat).map fun (i : Nat) => Dt.int (i : Int)) ρ1 bT bI) : ZI z (iRng1 ta) ρ I := fun m F H σ R S k => by
  refine h m F H σ _ S fun ds ρ1 F1 H1 vs n1 s1 S1 r1 => ?_
  obtain ⟨j, rfl, h1, h2, n⟩ := n1
  obtain ⟨v, r, rfl, rv, rr⟩ := r1.inv
  obtain rfl := rz_i rv
  obtain rfl := rr.inv0
  refine ⟨j, rfl, h1, h2, k _ _ _ _ _ _ _ _ _ n s1 .id S1 ⟨j.toNat, _, _, walk_range, by simp, fun _ _ _ _ _ => trivial, fun m2 i d F' H' H'' x σ ρ eb e f S y => ?_⟩⟩
  obtain ⟨rfl, rfl⟩ := y
  rw [List.getElem?_map] at e
  cases q : (List.range j.toNat)[i]? with
  | none => rw [q] at e; cases e
  | some u =>
    rw [q] at e
    cases e
    have := (List.getElem?_eq_some_iff.mp q).2
    rw [List.getElem_range] at this
    subst this
    exact ⟨F', Same.refl F', S, by simp [Rz]⟩
/-! dicts -/
/-- a frozen dict opened for a walk -/
theorem lk_open {m : Fm} {F F0 H H0 : Hp} {σ : L2.St} {ρ0 : List Sl} {a : Addr} {u : HO} {Q : V → Hp → Prop} {σ0 : L2.St} (S0 : Sm z m F0 H0 σ0 ρ0) (S : Sm z m F H σ ρ) (hF : F a = some u) (hu : isDk u = true) (mu : Mut (some u))
    (k : ∀ m' un ob H', Back z H0 F m m' un bT bI → Sm z m' F H' σ ρ → m'.J a = some (.frz ob u) → H' a = some (.frz ob u) → Q (.ref a) H') : ∃ d u', V.ref a = .ref d ∧ ((H d = some u' ∧ Mut (some u') ∧ ∀ o, Q (.ref a) (upd H d (.frz o u'))) ∨ Q (.ref a) H) := by
  refine ⟨a, u, rfl, ?_⟩
  rcases S.lk a u hF with h | ⟨_, ob, h, j⟩
  · refine .inl ⟨h, mu, fun o => k _ (some (a, u)) o _ ?_ (S.lock hF h hu o) upd_same upd_same⟩
    have nh : ¬ m.hd a := fun q => by rw [(S.hid a q).1] at hF; cases hF
    refine back_lock (fun o' u' q => ?_) hF (fun o q => ?_) (fun o q => ?_) hu nh
    · have := S.base _ _ (S0.fj a o' u' q)
      rw [h] at this
      cases this
      cases hu
    · have := S.base _ _ q
      rw [h] at this
      exact (Option.some.inj this).symm
    · rcases S.bj a o q with p | ⟨p, ob, p1⟩
      · exact p
      · have := S.base _ _ p1
        rw [h] at this
        cases this
        cases hu
  · exact .inr (k _ _ ob _ .id S j h)
theorem it_keys {m : Fm} {F : Hp} {a : Addr} {kvs : List (Key × V)} {ob : Obj} (j : m.J a = some (.frz ob (.dK kvs))) : ItZ z m F (Itk a ob kvs) ((kvs.map Prod.fst).map keyD) :=
  ⟨kvs.length, _, _, walk_keys, by simp, fun F' H' f le b => b _ _ j, fun m2 i d F' H' H'' x σ ρ eb e f S y => by
    obtain ⟨rfl, k, v, e2, rfl⟩ := y
    rw [List.getElem?_map, List.getElem?_map, e2] at e
    cases e
    exact ⟨F', Same.refl F', S, key_rz k⟩⟩
theorem it_keysT {m : Fm} {F : Hp} {a : Addr} {kvs : List (List Key × V)} {ob : Obj} (j : m.J a = some (.frz ob (.dT kvs))) : ItZ z m F (Itkt a ob kvs) ((kvs.map Prod.fst).map fun k => .tup (k.map keyD)) :=
  ⟨kvs.length, _, _, walk_keysT, by simp, fun F' H' f le b => b _ _ j, fun m2 i d F' H' H'' x σ ρ eb e f S y => by
    obtain ⟨rfl, k, v, q, e2, rfl, hq⟩ := y
    rw [List.getElem?_map, List.getElem?_map, e2] at e
    cases e
    obtain ⟨F'', f2, h2, S2⟩ := S.tup hq
    exact ⟨F'', f2, S2, by simp only [Rz]; exact ⟨q, _, rfl, h2, keys_rzl k⟩⟩⟩
theorem it_vals {m : Fm} {F : Hp} {a : Addr} {kvs : List (Key × V)} {ob : Obj} {ds : List Dt} (j : m.J a = some (.frz ob (.dK kvs))) (r : Rzl z.K m.B F ds (kvs.map Prod.snd)) : ItZ z m F (Itd a ob kvs) ds :=
  ⟨kvs.length, _, _, walk_values, by rw [← r.len]; simp, fun F' H' f le b => b _ _ j, fun m2 i d F' H' H'' x σ ρ eb e f S y => by
    obtain ⟨rfl, k, e2⟩ := y
    obtain ⟨v, e3, r3⟩ := r.at_ e
    rw [List.getElem?_map, e2] at e3
    cases e3
    exact ⟨F', Same.refl F', S, rz_mono f _ _ r3⟩⟩
def pairsD (ks : List Key) (ds : List Dt) : List Dt := List.zipWith (fun k d => .tup [keyD k, d]) ks ds
theorem it_items {m : Fm} {F : Hp} {a : Addr} {kvs : List (Key × V)} {ob : Obj} {ds : List Dt} (j : m.J a = some (.frz ob (.dK kvs))) (r : Rzl z.K m.B F ds (kvs.map Prod.snd)) : ItZ z m F (Iti a ob kvs) (pairsD (kvs.map Prod.fst) ds) :=
  ⟨kvs.length, _, _, walk_items, by unfold pairsD; rw [List.length_zipWith, ← r.len]; simp, fun F' H' f le b => b _ _ j, fun m2 i d F' H' H'' x σ ρ eb e f S y => by
    obtain ⟨T, kx, vx, rfl, hT, rfl, e2, e3⟩ := y
    dsimp only at e2 e3
    cases q : kvs[i]? with
    | none => rw [q] at e2; cases e2
    | some p =>
      rw [q] at e2 e3
      cases e2
      cases e3
      unfold pairsD at e
      rw [List.getElem?_zipWith, List.getElem?_map, q] at e
      obtain ⟨d', hd, rd⟩ := r.back (i := i) (v := p.2) (by rw [List.getElem?_map, q]; rfl)
      rw [hd] at e
      cases e
      obtain ⟨f2, S2⟩ := S.new (o := .tup [kV p.1, p.2]) hT
      exact ⟨_, f2, S2, by simp only [Rz]; exact ⟨T, _, rfl, upd_same, .cons (key_rz _) (.cons (rz_mono (f.trans f2) _ _ rd) .nil)⟩⟩⟩
/-- values, items -/
theorem zi_dK {wi : TE → TI} {f : List Key → List Dt → List Dt} {Jt : Addr → Obj → List (Key × V) → It}
    (hw : ∀ td σ H R, (td σ H fun x H1 => ∃ d o kvs, x = .ref d ∧ H1 d = some (.frz o (.dK kvs)) ∧ R (Jt d o kvs) H1) → wi td σ H R)
    (it : ∀ m F a kvs ob ds, m.J a = some (.frz ob (.dK kvs)) → Rzl z.K m.B F ds (kvs.map Prod.snd) → ItZ z m F (Jt a ob kvs) (f (kvs.map Prod.fst) ds))
    (h : ZE z te ρ fun c _ ρ1 => ∃ t ks ds, c = .dic t ks ds ∧ I (f ks ds) ρ1 bT bI) : ZI z (wi (tLk te)) ρ I := fun m F H σ R S k => by
  refine hw _ _ _ _ (h m F H σ _ S fun c fc ρ1 F1 H1 vc n1 s1 S1 r1 => ?_)
  obtain ⟨F2, s2, S2, rc⟩ := rzF_frz S1 r1
  obtain ⟨t, ks, ds, rfl, n⟩ := n1
  simp only [Rz] at rc
  obtain ⟨a, kvs, rfl, e, _, rfl, r⟩ := rc
  refine lk_open (Q := fun x H1 => ∃ d o kvs, x = .ref d ∧ H1 d = some (.frz o (.dK kvs)) ∧ R (Jt d o kvs) H1) S S2 e rfl trivial fun m' un ob H' B S3 j hh => ?_
  exact ⟨a, ob, kvs, rfl, hh, k _ _ _ _ _ _ _ _ _ n (s1.trans s2) B S3 (it m' F2 a kvs ob ds j (by rw [B.bb]; exact r))⟩
theorem zi_vals (h : ZE z te ρ fun c _ ρ1 => ∃ t ks ds, c = .dic t ks ds ∧ I ds ρ1 bT bI) : ZI z (iVals (tLk te)) ρ I := zi_dK (wi := iVals) (f := fun _ ds => ds) (fun _ _ _ _ h => h) (fun _ _ _ _ _ _ j r => it_vals j r) h
theorem zi_items (h : ZE z te ρ fun c _ ρ1 => ∃ t ks ds, c = .dic t ks ds ∧ I (pairsD ks ds) ρ1 bT bI) : ZI z (iItems (tLk te)) ρ I := zi_dK (wi := iItems) (f := pairsD) (fun _ _ _ _ h => h) (fun _ _ _ _ _ _ j r => it_items j r) h
/-- keys of either kind -/
def keysD : Dt → Option (List Dt)
  | .dic _ ks _ => some (ks.map keyD)
  | .dit _ ks _ => some (ks.map fun k => .tup (k.map keyD))
  | _ => none
theorem zi_keys (h : ZE z te ρ fun c _ ρ1 => ∃ es, keysD c = some es ∧ I es ρ1 bT bI) : ZI z (iKeys (tLk te)) ρ I := fun m F H σ R S k => by
  refine h m F H σ _ S fun c fc ρ1 F1 H1 vc n1 s1 S1 r1 => ?_
  obtain ⟨F2, s2, S2, rc⟩ := rzF_frz S1 r1
  obtain ⟨es, he, n⟩ := n1
  unfold keysD at he
  split at he <;> first | cases he | skip
  · simp only [Rz] at rc
    obtain ⟨a, kvs, rfl, e, _, rfl, r⟩ := rc
    exact lk_open (Q := fun x H1 => ∃ d o, x = .ref d ∧ ((∃ kvs, H1 d = some (.frz o (.dK kvs)) ∧ R (Itk d o kvs) H1) ∨ ∃ kvs, H1 d = some (.frz o (.dT kvs)) ∧ R (Itkt d o kvs) H1)) S S2 e rfl trivial fun m' un ob H' B S3 j hh =>
      ⟨a, ob, rfl, .inl ⟨kvs, hh, k _ _ _ _ _ _ _ _ _ n (s1.trans s2) B S3 (it_keys j)⟩⟩
  · simp only [Rz] at rc
    obtain ⟨a, kvs, rfl, e, _, rfl, r⟩ := rc
    exact lk_open (Q := fun x H1 => ∃ d o, x = .ref d ∧ ((∃ kvs, H1 d = some (.frz o (.dK kvs)) ∧ R (Itk d o kvs) H1) ∨ ∃ kvs, H1 d = some (.frz o (.dT kvs)) ∧ R (Itkt d o kvs) H1)) S S2 e rfl trivial fun m' un ob H' B S3 j hh =>
      ⟨a, ob, rfl, .inr ⟨kvs, hh, k _ _ _ _ _ _ _ _ _ n (s1.trans s2) B S3 (it_keysT j)⟩⟩
/-- keys of an owned dict, held meanwhile -/
theorem zi_keyso {c : Dt} {es : List Dt} (h : ρ[i]? = some (.o c)) (he : keysD c = some es) (n : ∀ l, I es (ρ.set i (.l l c)) (fun ρ => ρ[i]? = some (.l l c)) (fun ρ => ρ.set i (.o c))) : ZI z (iKeys (tLk (tVar i))) ρ I := fun m F H σ R S k => by
  obtain ⟨l, e, h1, h2, h3, ho, h4, h5⟩ := S.geto h
  have nh : ¬ m.hd l := fun q => by
    obtain ⟨_, o, q2, _⟩ := S.hid l q
    rw [h3] at q2
    cases q2
  have leg : ∀ o' u', H l ≠ some (.frz o' u') := fun o' u' q => by
    rw [h4] at q
    cases q
    exact absurd h5.notFz (fun z => nomatch z)
  cases h5 with
  | lst r => cases he
  | @dK kvs _ r =>
    cases he
    refine ⟨.ref l, e, l, _, rfl, .inl ⟨h4, trivial, fun o => ⟨l, o, rfl, .inl ⟨kvs, upd_same, ?_⟩⟩⟩⟩
    exact k _ _ _ _ _ _ _ _ _ (n l) (Same.refl F) (back_pin (fun ob u q => HO.noConfusion q) h2 h3 nh (.inr ⟨rfl, ⟨o, rfl⟩, rfl, leg⟩)) (S.pin (ho' := .frz o (.dK kvs)) h e h4 (.inr ⟨rfl, o, rfl⟩)) (it_keys upd_same)
  | @dT kvs _ r =>
    cases he
    refine ⟨.ref l, e, l, _, rfl, .inl ⟨h4, trivial, fun o => ⟨l, o, rfl, .inr ⟨kvs, upd_same, ?_⟩⟩⟩⟩
    exact k _ _ _ _ _ _ _ _ _ (n l) (Same.refl F) (back_pin (fun ob u q => HO.noConfusion q) h2 h3 nh (.inr ⟨rfl, ⟨o, rfl⟩, rfl, leg⟩)) (S.pin (ho' := .frz o (.dT kvs)) h e h4 (.inr ⟨rfl, o, rfl⟩)) (it_keysT upd_same)
end
/-! ### statements -/
section
variable {z : Cz} {ρ : List Sl} {t u : TS} {nx : List Sl → Prop} {rt : Dt → Bool → Prop} {bk ct : List Sl → Prop} {N : Zn} {te : TE} {i : Nat} {c : TT} {g : TG} {tb : TS}
def slF (fr : Bool) (d : Dt) : Sl := if fr = true then .o d else .v d
theorem Sm.setF {m : Fm} {F H : Hp} {σ : L2.St} {fr : Bool} {d : Dt} {v : V} (S : Sm z m F H σ ρ) (h : RzF z m F H σ ρ fr d v) : Sm z m F H (σ.set i (some v)) (ρ.set i (slF fr d)) := by
  cases fr with
  | false => exact S.setv h
  | true =>
    obtain ⟨l, rfl, o, hs⟩ := h
    exact S.set ⟨l, rfl, o⟩ (fun d' e l' j h1 h2 h3 h4 => by cases h2; exact absurd h4 (hs j e h3)) fun _ _ q => nomatch q
theorem zs_seq (h : ZS z t ρ ⟨fun ρ1 => ZS z u ρ1 ⟨nx, rt, bk, ct⟩, rt, bk, ct⟩) : ZS z (tSeq t u) ρ ⟨nx, rt, bk, ct⟩ := fun m F H σ D S kn kr kb kc =>
  h m F H σ _ S (fun ρ' F' H' σ' n s S' => n m F' H' σ' D S' (fun ρ2 F2 H2 σ2 n2 s2 => kn ρ2 F2 H2 σ2 n2 (s.trans s2)) (fun d fr F2 H2 v n2 s2 => kr d fr F2 H2 v n2 (s.trans s2)) (fun ρ2 F2 H2 σ2 n2 s2 => kb ρ2 F2 H2 σ2 n2 (s.trans s2)) fun ρ2 F2 H2 σ2 n2 s2 => kc ρ2 F2 H2 σ2 n2 (s.trans s2)) kr kb kc
theorem zs_cut (Mid : List Sl → Prop) (h : ZS z t ρ ⟨Mid, rt, bk, ct⟩) (h2 : ∀ ρ1, Mid ρ1 → ZS z u ρ1 ⟨nx, rt, bk, ct⟩) : ZS z (C8.tCut t u) ρ ⟨nx, rt, bk, ct⟩ := fun m F H σ D S kn kr kb kc =>
  ⟨fun σ' H' => ∃ ρ' F', Mid ρ' ∧ Same F F' ∧ Sm z m F' H' σ' ρ', h m F H σ _ S (fun ρ' F' H' σ' n s S' => ⟨ρ', F', n, s, S'⟩) kr kb kc, fun σ' H' ⟨ρ', F', n, s, S'⟩ =>
    h2 ρ' n m F' H' σ' D S' (fun ρ2 F2 H2 σ2 n2 s2 => kn ρ2 F2 H2 σ2 n2 (s.trans s2)) (fun d fr F2 H2 v n2 s2 => kr d fr F2 H2 v n2 (s.trans s2)) (fun ρ2 F2 H2 σ2 n2 s2 => kb ρ2 F2 H2 σ2 n2 (s.trans s2)) fun ρ2 F2 H2 σ2 n2 s2 => kc ρ2 F2 H2 σ2 n2 (s.trans s2)⟩
theorem zs_asg (h : ZE z te ρ fun d fr ρ1 => ZG z g d fr ρ1 N.nx) : ZS z (tAsg te g) ρ N := fun m F H σ D S kn kr kb kc =>
  h m F H σ _ S fun d fr ρ1 F1 H1 v n1 s1 S1 r1 => n1 m F1 H1 σ v _ S1 r1 fun ρ2 F2 H2 σ2 n2 s2 => kn ρ2 F2 H2 σ2 n2 (s1.trans s2)
theorem zg_nameT {d : Dt} {L : List Sl → Prop} (n : L (ρ.set i (.o d))) : ZG z (gName i) d true ρ L := fun m F H σ v Q S r k => k _ F H _ n (Same.refl F) (S.setF r)
theorem zg_nameF {d : Dt} {L : List Sl → Prop} (n : L (ρ.set i (.v d))) : ZG z (gName i) d false ρ L := fun m F H σ v Q S r k => k _ F H _ n (Same.refl F) (S.setF r)
theorem zg_nameB {d : Dt} {fr : Bool} {L : List Sl → Prop} (n : L (ρ.set i (slF fr d))) : ZG z (gName i) d fr ρ L := fun m F H σ v Q S r k => k _ F H _ n (Same.refl F) (S.setF r)
theorem zg_tup {K : PySem.W.Frag} {n : Nat} {gs : TGs} {ds : List Dt} {fr : Bool} {L : List Sl → Prop} (hl : ds.length = n) (h : ZGs z gs ds ρ L) : ZG z (gTup K n gs) (.tup ds) fr ρ L := fun m F H σ v Q S r k => by
  obtain ⟨F1, s1, S1, r⟩ := rzF_frz S r
  simp only [Rz] at r
  obtain ⟨a, xs, rfl, e, r⟩ := r
  exact ⟨a, xs, rfl, SqT.of (S1.le.exact e rfl), by rw [r.len, hl], h m F1 H σ xs Q S1 r fun ρ2 F2 H2 σ2 n2 s2 => k ρ2 F2 H2 σ2 n2 (s1.trans s2)⟩
theorem zgs_nil {L : List Sl → Prop} (n : L ρ) : ZGs z gNil [] ρ L := fun m F H σ vs Q S r k => ⟨r.inv0, k _ _ _ _ n (Same.refl F) S⟩
theorem zgs_cons {g : TG} {gs : TGs} {d : Dt} {ds : List Dt} {L : List Sl → Prop} (h : ZG z g d false ρ fun ρ1 => ZGs z gs ds ρ1 L) : ZGs z (gCons g gs) (d :: ds) ρ L := fun m F H σ vs Q S r k => by
  obtain ⟨v, r', rfl, r1, r2⟩ := r.inv
  exact ⟨v, r', rfl, h m F H σ v _ S r1 fun ρ1 F1 H1 σ1 n1 s1 S1 => n1 m F1 H1 σ1 r' Q S1 (rzl_mono s1 _ _ r2) fun ρ2 F2 H2 σ2 n2 s2 => k ρ2 F2 H2 σ2 n2 (s1.trans s2)⟩
theorem zs_if (h : ZT z c ρ fun b ρ1 => if b = true then ZS z t ρ1 N else ZS z u ρ1 N) : ZS z (tIfS c t u) ρ N := fun m F H σ D S kn kr kb kc => by
  refine h m F H σ _ S fun b ρ1 F1 H1 n1 s1 S1 => ?_
  cases b with
  | true => exact n1 m F1 H1 σ D S1 (fun ρ2 F2 H2 σ2 n2 s2 => kn ρ2 F2 H2 σ2 n2 (s1.trans s2)) (fun d fr F2 H2 v n2 s2 => kr d fr F2 H2 v n2 (s1.trans s2)) (fun ρ2 F2 H2 σ2 n2 s2 => kb ρ2 F2 H2 σ2 n2 (s1.trans s2)) fun ρ2 F2 H2 σ2 n2 s2 => kc ρ2 F2 H2 σ2 n2 (s1.trans s2)
  | false => exact n1 m F1 H1 σ D S1 (fun ρ2 F2 H2 σ2 n2 s2 => kn ρ2 F2 H2 σ2 n2 (s1.trans s2)) (fun d fr F2 H2 v n2 s2 => kr d fr F2 H2 v n2 (s1.trans s2)) (fun ρ2 F2 H2 σ2 n2 s2 => kb ρ2 F2 H2 σ2 n2 (s1.trans s2)) fun ρ2 F2 H2 σ2 n2 s2 => kc ρ2 F2 H2 σ2 n2 (s1.trans s2)
theorem rt_of {m : Fm} {F H : Hp} {σ : L2.St} {fr : Bool} {d : Dt} {v : V} (S : Sm z m F H σ ρ) (h : RzF z m F H σ ρ fr d v) : RtR z m F H fr d v := by
  refine ⟨S.toSc, ?_⟩
  cases fr with
  | false => exact h
  | true =>
    obtain ⟨l, rfl, o, _⟩ := h
    exact ⟨l, rfl, o⟩
theorem zs_ret (h : ZE z te ρ fun d fr _ => N.rt d fr) : ZS z (tRet te) ρ N := fun m F H σ D S kn kr kb kc =>
  h m F H σ _ S fun d fr ρ1 F1 H1 v n1 s1 S1 r1 => kr _ _ _ _ _ n1 s1 (rt_of S1 r1)
/-- an owned thing is handed out -/
theorem zs_reto {d : Dt} (h : ρ[i]? = some (.o d)) (n : N.rt d true) : ZS z (tRet (tVar i)) ρ N := fun m F H σ D S kn kr kb kc => by
  obtain ⟨l, e, o⟩ := S.geto h
  exact ⟨.ref l, e, kr _ _ _ _ _ n (Same.refl F) ⟨S.toSc, l, rfl, o⟩⟩
theorem zs_retN (n : N.rt .non false) : ZS z tRetN ρ N := fun m F H σ D S kn kr kb kc => kr _ _ F H _ n (Same.refl F) ⟨S.toSc, show Rz z.K m.B F .non .non from rzn⟩
theorem zs_next (n : N.nx ρ) : ZS z tNext ρ N := fun m F H σ D S kn kr kb kc => kn _ _ _ _ n (Same.refl F) S
theorem zs_drop (h : ZE z te ρ fun _ _ ρ1 => N.nx ρ1) : ZS z (tDrop te) ρ N := fun m F H σ D S kn kr kb kc => h m F H σ _ S fun d fr ρ1 F1 H1 v n1 s1 S1 r1 => kn _ _ _ _ n1 s1 S1
theorem zs_brk (n : N.bk ρ) : ZS z tBreak ρ N := fun m F H σ D S kn kr kb kc => kb _ _ _ _ n (Same.refl F) S
theorem zs_cont (n : N.ct ρ) : ZS z tCont ρ N := fun m F H σ D S kn kr kb kc => kc _ _ _ _ n (Same.refl F) S
theorem zs_while (W : Nat → List Sl → Prop) (w0 : ∃ n, W n ρ) (hs : ∀ n ρ1, W n ρ1 → ZT z c ρ1 fun b ρ2 => if b = true then ZS z tb ρ2 ⟨fun ρ3 => ∃ n', n' < n ∧ W n' ρ3, N.rt, N.nx, fun ρ3 => ∃ n', n' < n ∧ W n' ρ3⟩ else N.nx ρ2) : ZS z (tWhile c tb) ρ N := fun m F H σ D S kn kr kb kc => by
  obtain ⟨n0, w0⟩ := w0
  refine ⟨fun n σ' H' => ∃ F' ρ', W n ρ' ∧ Same F F' ∧ Sm z m F' H' σ' ρ', ⟨n0, F, ρ, w0, Same.refl F, S⟩, ?_⟩
  rintro n σ1 H1 ⟨F1, ρ1, w, s1, S1⟩
  refine hs n ρ1 w m F1 H1 σ1 _ S1 fun b ρ2 F2 H2 n2 s2 S2 => ?_
  cases b with
  | false => exact kn _ _ _ _ n2 (s1.trans s2) S2
  | true =>
    refine ⟨fun σ' H' => ∃ F' ρ' n', n' < n ∧ W n' ρ' ∧ Same F F' ∧ Sm z m F' H' σ' ρ', fun σ' H' ⟨F', ρ', n', h1, h2, h3, h4⟩ => ⟨n', h1, F', ρ', h2, h3, h4⟩, ?_⟩
    have ss := s1.trans s2
    exact n2 m F2 H2 σ1 _ S2 (fun ρ3 F3 H3 σ3 ⟨n', h1, h2⟩ s3 S3 => ⟨F3, ρ3, n', h1, h2, ss.trans s3, S3⟩) (fun d fr F3 H3 v n3 s3 => kr d fr F3 H3 v n3 (ss.trans s3)) (fun ρ3 F3 H3 σ3 n3 s3 => kn _ _ _ _ n3 (ss.trans s3)) fun ρ3 F3 H3 σ3 ⟨n', h1, h2⟩ s3 S3 => ⟨F3, ρ3, n', h1, h2, ss.trans s3, S3⟩
end
/-! ### comprehensions -/
def wipeZ (ρ : List Sl) : List Nat → List Sl
  | [] => ρ
  | v :: vs => (wipeZ ρ vs).set v .un
def okW (ρ : List Sl) (vs : List Nat) : Bool := vs.all fun i => match ρ[i]? with
  | some (.o _) => false
  | some (.l _ _) => false
  | _ => true
theorem wipe_get (σ : L2.St) (j : Nat) : ∀ vs : List Nat, (wipe σ vs)[j]? = if j ∈ vs then (σ[j]?).map fun _ => none else σ[j]?
  | [] => by simp [wipe]
  | v :: vs => by
    unfold wipe
    by_cases c : v = j
    · subst c
      rw [List.getElem?_set, wipe_length]
      by_cases h : v < σ.length
      · simp [h]
      · simp [h, List.getElem?_eq_none (Nat.le_of_not_lt h)]
    · rw [List.getElem?_set_ne c, wipe_get σ j vs]
      by_cases h : j ∈ vs
      · simp [h]
      · simp [h, Ne.symm c]
theorem wipeZ_length (ρ : List Sl) : ∀ vs : List Nat, (wipeZ ρ vs).length = ρ.length
  | [] => rfl
  | v :: vs => by unfold wipeZ; rw [List.length_set, wipeZ_length ρ vs]
theorem wipeZ_get (ρ : List Sl) (j : Nat) : ∀ vs : List Nat, (wipeZ ρ vs)[j]? = if j ∈ vs then (ρ[j]?).map fun _ => .un else ρ[j]?
  | [] => by simp [wipeZ]
  | v :: vs => by
    unfold wipeZ
    by_cases c : v = j
    · subst c
      rw [List.getElem?_set, wipeZ_length]
      by_cases h : v < ρ.length
      · simp [h]
      · simp [h, List.getElem?_eq_none (Nat.le_of_not_lt h)]
    · rw [List.getElem?_set_ne c, wipeZ_get ρ j vs]
      by_cases h : j ∈ vs
      · simp [h]
      · simp [h, Ne.symm c]
theorem wipe_wipe (σ : L2.St) (vs : List Nat) : wipe (wipe σ vs) vs = wipe σ vs := List.ext_getElem? fun j => by
  rw [wipe_get, wipe_get]
  by_cases h : j ∈ vs
  · simp only [h, if_true]
    cases σ[j]? <;> rfl
  · simp [h]
theorem wipe_setin {σ : L2.St} {i : Nat} {x : Option V} {vs : List Nat} (h : i ∈ vs) : wipe (σ.set i x) vs = wipe σ vs := List.ext_getElem? fun j => by
  rw [wipe_get, wipe_get]
  by_cases c : i = j
  · subst c
    simp only [h, if_true, List.getElem?_set]
    by_cases l : i < σ.length
    · simp [l]
    · simp [l, List.getElem?_eq_none (Nat.le_of_not_lt l)]
  · rw [List.getElem?_set_ne c]
section
variable {z : Cz} {m : Fm} {F F' H : Hp} {σ : L2.St} {ρ : List Sl}
theorem Sm.wipe (S : Sm z m F H σ ρ) : ∀ vs : List Nat, Sm z m F H (L2.wipe σ vs) (wipeZ ρ vs)
  | [] => S
  | v :: vs => by
    unfold L2.wipe wipeZ
    exact (Sm.wipe S vs).setu
theorem Sm.unwipe {H0 : Hp} {vs : List Nat} (S0 : Sm z m F H0 σ ρ) (S : Sm z m F' H (L2.wipe σ vs) (wipeZ ρ vs)) (f : Same F F') (ok : okW ρ vs = true) : Sm z m F' H σ ρ := by
  have okv : ∀ i ∈ vs, (∀ d, ρ[i]? ≠ some (.o d)) ∧ ∀ a d, ρ[i]? ≠ some (.l a d) := fun i hi => by
    have q := List.all_eq_true.mp ok i hi
    refine ⟨fun d e => ?_, fun a d e => ?_⟩ <;> (rw [e] at q; cases q)
  have out : ∀ {j : Nat}, j ∉ vs → (wipeZ ρ vs)[j]? = ρ[j]? ∧ (L2.wipe σ vs)[j]? = σ[j]? := fun {j} h => by
    rw [wipeZ_get, wipe_get, if_neg h, if_neg h]
    exact ⟨rfl, rfl⟩
  refine { S.toSc with len := S0.len, slot := fun i s ov a b => ?_, sep := fun i j d e l a b c c' => ?_, psep := fun i j q d e a b => ?_ }
  · by_cases h : i ∈ vs
    · have q := S0.slot i s ov a b
      cases s with
      | un => trivial
      | v d => obtain ⟨v, e, r⟩ := q; exact ⟨v, e, rz_mono f _ _ r⟩
      | o d => exact absurd a ((okv i h).1 d)
      | l x d => exact absurd a ((okv i h).2 x d)
    · obtain ⟨e1, e2⟩ := out h
      exact S.slot i s ov (by rw [e1]; exact a) (by rw [e2]; exact b)
  · have hi : i ∉ vs := fun h => (okv i h).1 d a
    have hj : j ∉ vs := fun h => (okv j h).1 e b
    exact S.sep i j d e l (by rw [(out hi).1]; exact a) (by rw [(out hj).1]; exact b) (by rw [(out hi).2]; exact c) (by rw [(out hj).2]; exact c')
  · have hi : i ∉ vs := fun h => (okv i h).2 q d a
    have hj : j ∉ vs := fun h => (okv j h).2 q e b
    exact S.psep i j q d e (by rw [(out hi).1]; exact a) (by rw [(out hj).1]; exact b)
/-- a new thing is held (the comprehension's own) -/
theorem Sm.pinNew {D : Addr} {o : HO} (S : Sm z m F H σ ρ) (e : H D = none) (nt : isTp o = false) (nf : isFz o = false) : Sm z (m.pin D o) F (upd H D o) σ ρ := by
  have hF := S.le.free e
  have hB := S.dom D e
  have hJ := S.j_none e
  have C : Sc z (m.pin D o) F (upd H D o) := ⟨fun a u q => by
      have n : a ≠ D := fun c => by rw [c, hF] at q; cases q
      rw [upd_ne n]
      refine (S.lk a u q).elim .inl fun ⟨p, ob, p1, p2⟩ => .inr ⟨p, ob, p1, ?_⟩
      show upd m.J D o a = _
      rw [upd_ne n]
      exact p2, fun a u q => by
      have q : upd m.J D o a = some u := q
      by_cases c : a = D
      · rw [c, upd_same] at q ⊢; exact q
      · rw [upd_ne c] at q ⊢; exact S.base a u q, S.fr, fun a q => by
      by_cases c : a = D
      · rw [c, upd_same] at q; cases q
      · rw [upd_ne c] at q; exact S.dom a q, fun a u q => by
      have n : a ≠ D := fun c => by
        have q : m.B a = some u := q
        rw [c, hB] at q; cases q
      show upd m.J D o a = some u ∨ isDk u = true ∧ ∃ ob, upd m.J D o a = _
      rw [upd_ne n]
      exact S.bj a u q, S.er, fun a ha => by
      rcases ha with ha | rfl
      · obtain ⟨q1, u, q2, q3⟩ := S.hid a ha
        refine ⟨q1, u, ?_, q3⟩
        show upd m.J D o a = _
        rw [upd_ne (fun c => by rw [c, hJ] at q2; cases q2)]
        exact q2
      · exact ⟨hF, o, upd_same, nt⟩, fun a ob u q => by
      show upd m.J D o a = _
      by_cases c : a = D
      · rw [c, upd_same] at q; cases q; cases nf
      · rw [upd_ne c] at q ⊢; exact S.fj a ob u q⟩
  refine { C with len := S.len, slot := fun j s ov a b => ?_, sep := S.sep, psep := S.psep }
  have q := S.slot j s ov a b
  cases s with
  | un => trivial
  | v d => exact q
  | o d2 =>
    obtain ⟨l', e', q1, q2, q3, ho2, q4, q5⟩ := q
    have n : l' ≠ D := fun z => by rw [z, e] at q4; cases q4
    refine ⟨l', e', q1, q2, ?_, ho2, by rw [upd_ne n]; exact q4, q5⟩
    show upd m.J D o l' = none
    rw [upd_ne n]; exact q3
  | l a2 d2 =>
    obtain ⟨q0, q1, q2, ho2, q4, q5⟩ := q
    have n : a2 ≠ D := fun z => by rw [z, hJ] at q4; rcases q4 with q4 | ⟨_, _, q4⟩ <;> cases q4
    refine ⟨q0, .inl q1, q2, ho2, ?_, q5⟩
    show upd m.J D o a2 = some ho2 ∨ isDk ho2 = true ∧ ∃ ob, upd m.J D o a2 = _
    rw [upd_ne n]
    exact q4
theorem Sm.unpinNew {D : Addr} {o : HO} (S : Sm z (m.pin D o) F H σ ρ) (hB : m.B D = none) (hJ : m.J D = none) (hh : ¬ m.hd D) (nf : isFz o = false) (hs : ∀ (i : Nat) (d : Dt), ρ[i]? ≠ some (.l D d)) : Sm z m F H σ ρ ∧ H D = some o ∧ F D = none := by
  have hD : H D = some o := S.base D o upd_same
  obtain ⟨hF, _⟩ := S.hid D (.inr rfl)
  have C := Sc.unpin (ho := o) (fun ob u q => by rw [q] at nf; cases nf) S.toSc hB hJ hh
  rw [upd_self2 hD] at C
  refine ⟨{ C with len := S.len, slot := fun j s ov a b => ?_, sep := S.sep, psep := S.psep }, hD, hF⟩
  have q := S.slot j s ov a b
  cases s with
  | un => trivial
  | v d => exact q
  | o d2 =>
    obtain ⟨l', e', q1, q2, q3, ho2, q4, q5⟩ := q
    have q3 : upd m.J D o l' = none := q3
    have n : l' ≠ D := fun z => by rw [z, upd_same] at q3; cases q3
    rw [upd_ne n] at q3
    exact ⟨l', e', q1, q2, q3, ho2, q4, q5⟩
  | l a2 d2 =>
    obtain ⟨q0, q1, q2, ho2, q4, q5⟩ := q
    have n : a2 ≠ D := fun z => hs j d2 (by rw [← z]; exact a)
    have q4 : upd m.J D o a2 = some ho2 ∨ isDk ho2 = true ∧ ∃ ob, upd m.J D o a2 = _ := q4
    rw [upd_ne n] at q4
    exact ⟨q0, q1.elim id fun z => absurd z n, q2, ho2, q4, q5⟩
theorem Sm.repin {D : Addr} {o o' : HO} (S : Sm z (m.pin D o) F H σ ρ) (hB : m.B D = none) (hJ : m.J D = none) (hh : ¬ m.hd D) (nf : isFz o = false) (nt' : isTp o' = false) (nf' : isFz o' = false) (hs : ∀ (i : Nat) (d : Dt), ρ[i]? ≠ some (.l D d)) : Sm z (m.pin D o') F (upd H D o') σ ρ := by
  obtain ⟨S1, hD, hF⟩ := S.unpinNew hB hJ hh nf hs
  have C : Sc z (m.pin D o') F (upd H D o') := ⟨fun a u q => by
      have n : a ≠ D := fun c => by rw [c, hF] at q; cases q
      rw [upd_ne n]
      refine (S1.lk a u q).elim .inl fun ⟨p, ob, p1, p2⟩ => .inr ⟨p, ob, p1, ?_⟩
      show upd m.J D o' a = _
      rw [upd_ne n]
      exact p2, fun a u q => by
      have q : upd m.J D o' a = some u := q
      by_cases c : a = D
      · rw [c, upd_same] at q ⊢; exact q
      · rw [upd_ne c] at q ⊢; exact S1.base a u q, S1.fr, fun a q => by
      by_cases c : a = D
      · rw [c, upd_same] at q; cases q
      · rw [upd_ne c] at q; exact S1.dom a q, fun a u q => by
      have n : a ≠ D := fun c => by
        have q : m.B a = some u := q
        rw [c, hB] at q; cases q
      show upd m.J D o' a = some u ∨ isDk u = true ∧ ∃ ob, upd m.J D o' a = _
      rw [upd_ne n]
      exact S1.bj a u q, S1.er, fun a ha => by
      rcases ha with ha | rfl
      · obtain ⟨q1, u, q2, q3⟩ := S1.hid a ha
        refine ⟨q1, u, ?_, q3⟩
        show upd m.J D o' a = _
        rw [upd_ne (fun c => by rw [c, hJ] at q2; cases q2)]
        exact q2
      · exact ⟨hF, o', upd_same, nt'⟩, fun a ob u q => by
      show upd m.J D o' a = _
      by_cases c : a = D
      · rw [c, upd_same] at q; cases q; cases nf'
      · rw [upd_ne c] at q ⊢; exact S1.fj a ob u q⟩
  refine { C with len := S.len, slot := fun j s ov a b => ?_, sep := S.sep, psep := S.psep }
  have q := S.slot j s ov a b
  cases s with
  | un => trivial
  | v d => exact q
  | o d2 =>
    obtain ⟨l', e', q1, q2, q3, ho2, q4, q5⟩ := q
    have q3 : upd m.J D o l' = none := q3
    have n : l' ≠ D := fun z => by rw [z, upd_same] at q3; cases q3
    rw [upd_ne n] at q3
    refine ⟨l', e', q1, q2, ?_, ho2, by rw [upd_ne n]; exact q4, q5⟩
    show upd m.J D o' l' = none
    rw [upd_ne n]; exact q3
  | l a2 d2 =>
    obtain ⟨q0, q1, q2, ho2, q4, q5⟩ := q
    have n : a2 ≠ D := fun z => hs j d2 (by rw [← z]; exact a)
    have q4 : upd m.J D o a2 = some ho2 ∨ isDk ho2 = true ∧ ∃ ob, upd m.J D o a2 = _ := q4
    rw [upd_ne n] at q4
    refine ⟨q0, q1, q2, ho2, ?_, q5⟩
    show upd m.J D o' a2 = some ho2 ∨ isDk ho2 = true ∧ ∃ ob, upd m.J D o' a2 = _
    rw [upd_ne n]
    exact q4
end
/-- a comprehension's target -/
def ZGw (z : Cz) (g : TG) (vs : List Nat) (d : Dt) (ρ : List Sl) (N : List Sl → Prop) : Prop := ∀ m F H σ v Q, Sm z m F H σ ρ → Rz z.K m.B F d v →
  (∀ ρ' F' H' σ', N ρ' → Same F F' → Sm z m F' H' σ' ρ' → L2.wipe σ' vs = L2.wipe σ vs → Q σ' H') → g v σ H Q
def ZGws (z : Cz) (g : TGs) (vs : List Nat) (ds : List Dt) (ρ : List Sl) (N : List Sl → Prop) : Prop := ∀ m F H σ us Q, Sm z m F H σ ρ → Rzl z.K m.B F ds us →
  (∀ ρ' F' H' σ', N ρ' → Same F F' → Sm z m F' H' σ' ρ' → L2.wipe σ' vs = L2.wipe σ vs → Q σ' H') → g us σ H Q
section
variable {z : Cz} {ρ : List Sl} {N : List Sl → Prop} {i : Nat} {vs : List Nat} {d : Dt} {ds : List Dt}
theorem zgw_name (h : i ∈ vs) (n : N (ρ.set i (.v d))) : ZGw z (gName i) vs d ρ N := fun m F H σ v Q S r k => k _ F H _ n (Same.refl F) (S.setv r) (wipe_setin h)
theorem zgw_tup {K : PySem.W.Frag} {n : Nat} {gs : TGs} (hl : ds.length = n) (h : ZGws z gs vs ds ρ N) : ZGw z (gTup K n gs) vs (.tup ds) ρ N := fun m F H σ v Q S r k => by
  simp only [Rz] at r
  obtain ⟨a, xs, rfl, e, r⟩ := r
  exact ⟨a, xs, rfl, SqT.of (S.le.exact e rfl), by rw [r.len, hl], h m F H σ xs Q S r k⟩
theorem zgws_nil (n : N ρ) : ZGws z gNil vs [] ρ N := fun m F H σ us Q S r k => ⟨r.inv0, k _ _ _ _ n (Same.refl F) S rfl⟩
theorem zgws_cons {g : TG} {gs : TGs} (h : ZGw z g vs d ρ fun ρ1 => ZGws z gs vs ds ρ1 N) : ZGws z (gCons g gs) vs (d :: ds) ρ N := fun m F H σ us Q S r k => by
  obtain ⟨v, r', rfl, r1, r2⟩ := r.inv
  exact ⟨v, r', rfl, h m F H σ v _ S r1 fun ρ1 F1 H1 σ1 n1 s1 S1 w1 => n1 m F1 H1 σ1 r' Q S1 (rzl_mono s1 _ _ r2) fun ρ2 F2 H2 σ2 n2 s2 S2 w2 => k ρ2 F2 H2 σ2 n2 (s1.trans s2) S2 (w2.trans w1)⟩
end
section
variable {z : Cz} {ρ : List Sl} {wi : TI} {g : TG} {tt : TT} {te tk tv : TE} {vs : List Nat} {N : Dt → Bool → List Sl → Prop}
theorem take_succ_get2 {α : Type} {xs : List α} {j : Nat} {x : α} (h : xs[j]? = some x) : xs.take (j + 1) = xs.take j ++ [x] := by
  rw [List.take_succ, h]; rfl
theorem filterMap_take {α β : Type} (f : α → Option β) {xs : List α} {i : Nat} {x : α} (h : xs[i]? = some x) : (xs.take (i + 1)).filterMap f = (xs.take i).filterMap f ++ (f x).toList := by
  rw [take_succ_get2 h, List.filterMap_append]
  congr 1
theorem filterMap_le {α β : Type} (f : α → Option β) (xs : List α) (i : Nat) : ((xs.take i).filterMap f).length ≤ i := Nat.le_trans (List.length_filterMap_le f _) (by rw [List.length_take]; omega)
/-- [te for g in .. if tt] -/
theorem ze_lc (h : ZI z wi ρ fun ds ρ1 bp bm => bp ρ1 ∧ okW ρ1 vs = true ∧ ds.length ≤ 100000 ∧ ∃ f : Dt → Option Dt,
    (∀ d ∈ ds, ZGw z g vs d (wipeZ ρ1 vs) fun ρ2 => ZT z tt ρ2 fun b ρ3 => if b = true then ZE z te ρ3 fun y _ ρ4 => wipeZ ρ4 vs = wipeZ ρ1 vs ∧ f d = some y else wipeZ ρ3 vs = wipeZ ρ1 vs ∧ f d = none) ∧
    N (.lst true (ds.filterMap f)) true (bm ρ1)) : ZE z (tLockLE (tLc wi g tt te vs)) ρ N := fun m F H σ Q S k => by
  refine h m F H σ _ S fun ds ρ1 bp bm m' un F1 H1 Jt n1 s1 B S1 it => ?_
  obtain ⟨hbp, hw, hz, f, hf, n⟩ := n1
  obtain ⟨n', G, Y, wk, rfl, gk, yk⟩ := it
  intro D hD
  have hB := S1.dom D hD
  have hJ := S1.j_none hD
  have hh : ¬ m'.hd D := fun q => by
    obtain ⟨_, o, q2, _⟩ := S1.hid D q
    rw [hJ] at q2
    cases q2
  have hs : ∀ (i : Nat) (d : Dt), (wipeZ ρ1 vs)[i]? ≠ some (.l D d) := fun i d e => by
    obtain ⟨ov, _, _, q1, _⟩ := (S1.wipe vs).get e
    exact hh q1
  refine lc_it wk (fun i H2 => ∃ F2 acc, Same F1 F2 ∧ Sm z (m'.pin D (.lst acc)) F2 H2 (L2.wipe σ vs) (wipeZ ρ1 vs) ∧ Rzl z.K m'.B F2 ((ds.take i).filterMap f) acc) ?_ ?_ ?_ ?_
  · refine ⟨F1, [], Same.refl F1, (S1.wipe vs).pinNew hD rfl rfl, ?_⟩
    rw [List.take_zero]
    exact .nil
  · rintro i H2 hi ⟨F2, acc, s2, S2, r2⟩
    have b2 : Same m'.J H2 := fun a u q => S2.base a u (by
      show upd m'.J D _ a = _
      rw [upd_ne (fun c => by rw [c, hJ] at q; cases q)]
      exact q)
    exact gk F2 H2 s2 S2.le b2
  · rintro i x H2 H3 hi ⟨F2, acc, s2, S2, r2⟩ y
    obtain ⟨F3, s3, S3, rx⟩ := yk (m'.pin D (.lst acc)) i ds[i] F2 H2 H3 x _ _ rfl (List.getElem?_eq_getElem hi) s2 S2 y
    have hd : ds[i]? = some ds[i] := List.getElem?_eq_getElem hi
    refine hf ds[i] (List.getElem_mem hi) (m'.pin D (.lst acc)) F3 H3 _ x _ S3 rx fun ρ2 F4 H4 σ2 n2 s4 S4 w4 => ?_
    rw [wipe_wipe] at w4
    refine ⟨w4, n2 _ F4 H4 σ2 _ S4 fun b ρ3 F5 H5 n3 s5 S5 => ?_⟩
    have ss := s2.trans (s3.trans (s4.trans s5))
    cases b with
    | false =>
      obtain ⟨e1, e2⟩ := n3
      refine ⟨F5, acc, ss, ?_, ?_⟩
      · have := S5.wipe vs
        rw [e1, w4] at this
        exact this
      · rw [filterMap_take f hd, e2]
        simp only [Option.toList, List.append_nil]
        exact rzl_mono (s3.trans (s4.trans s5)) _ _ r2
    | true =>
      refine n3 _ F5 H5 σ2 _ S5 fun yd fy ρ4 F6 H6 vy n4 s6 S6 r6 => ?_
      obtain ⟨F7, s7, S7, ry⟩ := rzF_frz S6 r6
      obtain ⟨e1, e2⟩ := n4
      have hD6 : H6 D = some (.lst acc) := S7.base D _ upd_same
      have S8 := S7.wipe vs
      rw [e1, w4] at S8
      have sf := s3.trans (s4.trans (s5.trans (s6.trans s7)))
      refine ⟨acc, hD6, ?_, F7, acc ++ [vy], s2.trans sf, S8.repin hB hJ hh rfl rfl rfl hs, ?_⟩
      · have := filterMap_le f ds i
        rw [r2.len, sizeLine_eq]
        omega
      · rw [filterMap_take f hd, e2]
        exact (rzl_mono sf _ _ r2).app (.cons ry .nil)
  · rintro H2 ⟨F2, acc, s2, S2, r2⟩
    obtain ⟨S3, hD2, hF2⟩ := S2.unpinNew hB hJ hh rfl hs
    have S4 := S1.unwipe S3 s2 hw
    rw [List.take_length] at r2
    have S5 := B.sm F2 H2 σ ρ1 s2 S4 hbp
    have S0 := B.sm F1 H1 σ ρ1 (Same.refl F1) S1 hbp
    have uD : ∀ {Hx : Hp} {Fx : Hp}, Sc z m' Fx Hx → undo un Hx D = Hx D := fun {Hx Fx} C => by
      cases un with
      | none => rfl
      | some p =>
        obtain ⟨d, u⟩ := p
        obtain ⟨od, e⟩ := B.fz Fx Hx C d u rfl
        show upd Hx d u D = Hx D
        have j := C.fj d od u e
        rw [upd_ne (fun c => by rw [← c, hJ] at j; cases j)]
    have fresh : RzF z m F2 (undo un H2) σ (bm ρ1) true (.lst true (ds.filterMap f)) (.ref D) := by
      refine ⟨D, rfl, ⟨hF2, by rw [← B.bb]; exact hB, ?_, .lst acc, by rw [uD S3.toSc]; exact hD2, .lst (by rw [← B.bb]; exact r2)⟩, fun j e a b => ?_⟩
      · exact S0.base.free (by rw [uD S1.toSc]; exact hD)
      · obtain ⟨l, hl, _, _, _, ho, h4, _⟩ := S0.geto a
        rw [b] at hl
        cases hl
        rw [uD S1.toSc, hD] at h4
        cases h4
    have fin := k _ _ _ _ _ _ n (s1.trans s2) S5 fresh
    cases un with
    | none => exact .inl fin
    | some p =>
      obtain ⟨d, u⟩ := p
      obtain ⟨od, e⟩ := B.fz F2 H2 S3.toSc d u rfl
      exact .inr ⟨d, od, u, B.leg d u rfl, e, fin⟩
end
/-! ### built-ins, methods -/
section
variable {X : Cx}
theorem CallR.or2 {f : Value} {r r' : List V → Hp → VK → Prop} (h : CallR X f r) (h' : CallR X f r') : CallR X f (fun xs H Q => r xs H Q ∨ r' xs H Q) := by
  intro pins s σ H xs us Q I rr q
  rcases q with q | q
  · exact h pins s σ H xs us Q I rr q
  · exact h' pins s σ H xs us Q I rr q
def rListDR : List V → Hp → VK → Prop := fun xs H Q => ∃ p kvs, xs = [.ref p] ∧ L2.Rd H p (.dK kvs) ∧ ∀ q, H q = none → Q (.ref q) (upd H q (.lst (kvs.map fun kv => kV kv.1)))
theorem call_list_dKR (hc : X.calm = true) : CallR X (.type "list") rListDR := by
  intro pins s σ H xs us Q I r h
  obtain ⟨p, kvs, e, hk, q⟩ := h
  subst e
  obtain ⟨u, eu, rx⟩ := vals1 r
  subst eu
  obtain rfl : u = Value.ref p := rx
  obtain ⟨z, lo, vs, rk, hd⟩ := dk_rd I.hok hk
  obtain ⟨ep, hat⟩ := hd.dictAt
  have hl : kvs.length = vs.length := Paired.length rk
  refine PySem.W.kdl_call (PySem.W.kdl_dict (knd := mixKind X.prog X.w) (kvs := vs) (ep := ep) lo) (I.ok.hd hc) hat (by rw [← hl]; exact z) fun h' tk acc' c' hkeep hS hacc => ?_
  refine ⟨.ref s.heap.objs.size, upd H s.heap.objs.size (.lst (kvs.map fun kv => kV kv.1)), I.laid hkeep (Nat.le_refl _) (show ObjOk X.prog X.w _ _ _ (.lst (kvs.map fun kv => kV kv.1)) from ⟨?_, acc'.toList, c', ?_, ?_⟩), rfl, q _ (I.hok.fresh (Nat.le_refl _))⟩
  · rw [List.length_map]; exact z
  · have el : acc'.toList.length = acc'.size := by simp
    refine vals_of_at (by rw [List.length_map, el, hacc.1, hl]) fun j x w h1 h2 => ?_
    obtain ⟨k, y, hky, hi⟩ := hacc.2 j w (by rw [← Array.getElem?_toList]; exact h2)
    have e1 : (kvs.map (·.1))[j]? = some k := by
      rw [KV.keys rk, List.getElem?_map, hky] <;> rfl
    have e2 : (kvs.map fun kv => kV kv.1)[j]? = some (kV k) := by
      have e3 : (kvs.map fun kv => kV kv.1) = (kvs.map (·.1)).map kV := by rw [List.map_map] <;> rfl
      rw [e3, List.getElem?_map, e1] <;> rfl
    rw [e2] at h1
    cases h1
    exact keyIs_rel hi
  · rw [Array.toArray_toList]; exact hS
def rListSeq (K : PySem.W.Frag) : List V → Hp → VK → Prop := fun xs H Q => ∃ p ys, xs = [.ref p] ∧ (SqL K H p ys ∨ SqT K H p ys) ∧ ∀ l, H l = none → Q (.ref l) (upd H l (.lst ys))
def rListT : List V → Hp → VK → Prop := fun xs H Q => ∃ d kvs, xs = [V.ref d] ∧ L2.Rd H d (.dT kvs) ∧ ∀ p bs, H p = none → IsKeys H kvs bs → Q (.ref p) (upd H p (.lst (bs.map V.ref)))
/-- list(x): of a list, a tuple, a dict -/
def rListZ (K : PySem.W.Frag) : List V → Hp → VK → Prop := fun xs H Q => rListSeq K xs H Q ∨ (rListDR xs H Q ∨ rListT xs H Q)
theorem call_listZ {K : PySem.W.Frag} (e : X.K = K) (hc : X.calm = true) : CallR X (.type "list") (rListZ K) := CallR.or2 (call_listK e) (CallR.or2 (call_list_dKR hc) (call_list_dT hc))
theorem call_len_dTR : CallR X (.builtin "len") (fun xs H Q => ∃ (p : Addr) (kvs : List (List Key × V)), xs = [.ref p] ∧ L2.Rd H p (.dT kvs) ∧ Q (.int ((kvs.length : Nat) : Int)) H) := by
  intro pins s σ H xs us Q I r h
  obtain ⟨p, kvs, rfl, hp, q⟩ := h
  obtain ⟨u, rfl, rx⟩ := vals1 r
  obtain rfl : u = .ref p := rx
  obtain ⟨z, hd, ys, rel, dd⟩ := dt_rd I.hok hp
  have hl : kvs.length = ys.length := Paired.length rel
  refine call_len_dictH hd dd (by rw [← hl]; rw [sizeLine_eq] at z; omega) ?_
  rw [← hl]
  exact ⟨.int ((kvs.length : Nat) : Int), H, I.tok _, ⟨_, rfl⟩, q⟩
theorem call_lenDkR : CallR X (.builtin "len") (fun xs H Q => ∃ a kvs, xs = [V.ref a] ∧ L2.Rd H a (.dK kvs) ∧ Q (.int (kvs.length : Nat)) H) := by
  intro pins s σ H xs us Q I r h
  obtain ⟨a, kvs, rfl, ha, q⟩ := h
  obtain ⟨u, rfl, ru⟩ := vals1 r
  cases ru
  exact d_len I ha fun t s' I' => ⟨.int kvs.length, H, I', ⟨t, rfl⟩, q⟩
def rLenSeq (K : PySem.W.Frag) : List V → Hp → VK → Prop := fun xs H Q => ∃ p ys, xs = [.ref p] ∧ (SqL K H p ys ∨ SqT K H p ys) ∧ Q (.int ys.length) H
def rLenZ (K : PySem.W.Frag) : List V → Hp → VK → Prop := fun xs H Q => rLenSeq K xs H Q ∨ ((∃ a kvs, xs = [V.ref a] ∧ L2.Rd H a (.dK kvs) ∧ Q (.int (kvs.length : Nat)) H) ∨ ∃ (p : Addr) (kvs : List (List Key × V)), xs = [.ref p] ∧ L2.Rd H p (.dT kvs) ∧ Q (.int ((kvs.length : Nat) : Int)) H)
theorem call_lenZ {K : PySem.W.Frag} (e : X.K = K) : CallR X (.builtin "len") (rLenZ K) := CallR.or2 (call_lenK e) (CallR.or2 call_lenDkR call_len_dTR)
end
section
variable {z : Cz} {ρ : List Sl} {N : Dt → Bool → List Sl → Prop} {ta tb te : TE} {t : TA} {i : Nat}
/-- one argument, frozen -/
theorem ze_CB1 {r : List V → Hp → VK → Prop} {W : Dt → (Dt → Bool → List Sl → Prop) → List Sl → Prop}
    (w : ∀ x ρ2 N, W x N ρ2 → ∀ m F H σ Q vx, Sm z m F H σ ρ2 → Rz z.K m.B F x vx → (∀ d fr ρ' F' H' v, N d fr ρ' → Same F F' → Sm z m F' H' σ ρ' → RzF z m F' H' σ ρ' fr d v → Q v H') → r [vx] H Q)
    (h : ZE z ta ρ fun x _ ρ1 => W x N ρ1) : ZE z (tCB r (tCons ta tNil)) ρ N := fun m F H σ Q S k => by
  refine h m F H σ _ S fun x fx ρ1 F1 H1 vx n1 s1 S1 r1 => ?_
  obtain ⟨F2, s2, S2, rx⟩ := rzF_frz S1 r1
  exact w x ρ1 N n1 m F2 H1 σ Q vx S2 rx fun d fr ρ' F' H' v n sf => k d fr ρ' F' H' v n ((s1.trans s2).trans sf)
inductive LenD : Dt → Nat → Prop
  | lst (t : Bool) (ds : List Dt) : LenD (.lst t ds) ds.length
  | tup (ds : List Dt) : LenD (.tup ds) ds.length
  | dic (t : Bool) (ks : List Key) (ds : List Dt) : LenD (.dic t ks ds) ks.length
  | dit (t : Bool) (ks : List (List Key)) (ds : List Dt) : LenD (.dit t ks ds) ks.length
/-- what a container is made of, in the heap -/
inductive CtR (K : PySem.W.Frag) (B F H : Hp) (a : Addr) : Dt → Prop
  | lst {t : Bool} {xs : List V} {ds : List Dt} : H a = some (.lst xs) → Rzl K B F ds xs → CtR K B F H a (.lst t ds)
  | tup {xs : List V} {ds : List Dt} : H a = some (.tup xs) → Rzl K B F ds xs → CtR K B F H a (.tup ds)
  | dct {d : Dt} : DctR K B F H a d → CtR K B F H a d
def isCt : Dt → Bool
  | .lst _ _ | .tup _ | .dic _ _ _ | .dit _ _ _ => true
  | _ => false
theorem rz_ct {K : PySem.W.Frag} {B F H : Hp} {d : Dt} {v : V} (h : Rz K B F d v) (le : Le F H) (i : isCt d = true) : ∃ a, v = .ref a ∧ CtR K B F H a d := by
  cases d <;> first | cases i | skip
  · simp only [Rz] at h
    obtain ⟨a, xs, rfl, h1, h2⟩ := h
    exact ⟨a, rfl, .tup (le.exact h1 rfl) h2⟩
  · simp only [Rz] at h
    obtain ⟨a, xs, rfl, h1, _, h2⟩ := h
    exact ⟨a, rfl, .lst (le.exact h1 rfl) h2⟩
  · obtain ⟨a, e, q⟩ := rz_dct h le rfl
    exact ⟨a, e, .dct q⟩
  · obtain ⟨a, e, q⟩ := rz_dct h le rfl
    exact ⟨a, e, .dct q⟩
theorem Sm.peekC {m : Fm} {F H : Hp} {σ : L2.St} (S : Sm z m F H σ ρ) {s : Sl} {c : Dt} (h : ρ[i]? = some s) (p : Pk s c) (hc : isCt c = true) : ∃ a, σ[i]? = some (some (.ref a)) ∧ CtR z.K m.B F H a c := by
  cases c <;> first | cases hc | skip
  · obtain ⟨ov, e, ok⟩ := S.get h
    rcases p with rfl | rfl | ⟨a, rfl⟩
    · obtain ⟨v, rfl, r⟩ := ok
      obtain ⟨a, rfl, q⟩ := rz_ct r S.le rfl
      exact ⟨a, e, q⟩
    · obtain ⟨l, rfl, _, _, _, ho, h1, h2⟩ := ok
      cases h2
    · obtain ⟨rfl, _, _, ho, h1, h2⟩ := ok
      cases h2
  · obtain ⟨a, xs, e, h1, h2⟩ := S.peekL h p
    exact ⟨a, e, .lst h1 h2⟩
  · obtain ⟨a, e, q⟩ := S.peekD h p rfl
    exact ⟨a, e, .dct q⟩
  · obtain ⟨a, e, q⟩ := S.peekD h p rfl
    exact ⟨a, e, .dct q⟩
theorem LenD.isCt {d : Dt} {n : Nat} (h : LenD d n) : isCt d = true := by cases h <;> rfl
theorem ct_len {K : PySem.W.Frag} {B F H : Hp} {a : Addr} {d : Dt} {n : Nat} {Q : VK} (c : CtR K B F H a d) (h : LenD d n) (q : Q (.int n) H) : rLenZ K [.ref a] H Q := by
  cases h with
  | lst t ds =>
    cases c with
    | lst h1 h2 => exact .inl ⟨a, _, rfl, .inl (SqL.of h1), by rw [h2.len]; exact q⟩
    | dct h => cases h
  | tup ds =>
    cases c with
    | tup h1 h2 => exact .inl ⟨a, _, rfl, .inr (SqT.of h1), by rw [h2.len]; exact q⟩
    | dct h => cases h
  | dic t ks ds =>
    cases c with
    | dct h =>
      cases h with
      | k h1 h2 => exact .inr (.inl ⟨a, _, rfl, h1, by rw [List.length_map] at q; exact q⟩)
  | dit t ks ds =>
    cases c with
    | dct h =>
      cases h with
      | t h1 h2 => exact .inr (.inr ⟨a, _, rfl, h1, by rw [List.length_map] at q; exact q⟩)
theorem ze_lenv {s0 : Sl} {c0 : Dt} {n : Nat} (h0 : ρ[i]? = some s0) (p0 : Pk s0 c0) (hl : LenD c0 n) (q : N (.int n) false ρ) : ZE z (tCB (rLenZ z.K) (tCons (tVar i) tNil)) ρ N := fun m F H σ Q S k => by
  obtain ⟨a, e, c⟩ := S.peekC h0 p0 hl.isCt
  exact ⟨_, e, ct_len c hl (k _ _ _ _ _ _ q (Same.refl F) S (rzF_f rzi))⟩
theorem ze_len (h : ZE z ta ρ fun x _ ρ1 => ∃ n, LenD x n ∧ N (.int (n : Nat)) false ρ1) : ZE z (tCB (rLenZ z.K) (tCons ta tNil)) ρ N :=
  ze_CB1 (W := fun x N ρ1 => ∃ n, LenD x n ∧ N (.int (n : Nat)) false ρ1) (fun x ρ2 N n1 m F H σ Q vx S r k => by
    obtain ⟨n, hl, q⟩ := n1
    obtain ⟨a, rfl, c⟩ := rz_ct r S.le hl.isCt
    exact ct_len c hl (k _ _ _ _ _ _ q (Same.refl F) S (rzF_f rzi))) h
/-- list(x) -/
inductive ListD : Dt → List Dt → Prop
  | lst (t : Bool) (ds : List Dt) : ListD (.lst t ds) ds
  | tup (ds : List Dt) : ListD (.tup ds) ds
  | dic (t : Bool) (ks : List Key) (ds : List Dt) : ListD (.dic t ks ds) (ks.map keyD)
  | dit (t : Bool) (ks : List (List Key)) (ds : List Dt) : ListD (.dit t ks ds) (ks.map fun k => .tup (k.map keyD))
theorem ListD.isCt {d : Dt} {es : List Dt} (h : ListD d es) : isCt d = true := by cases h <;> rfl
theorem isKeys_frz {m : Fm} {F H : Hp} {σ : L2.St} : ∀ {kvs : List (List Key × V)} {bs : List Addr}, Sm z m F H σ ρ → IsKeys H kvs bs → ∃ F', Same F F' ∧ Sm z m F' H σ ρ ∧ Rzl z.K m.B F' ((kvs.map Prod.fst).map fun k => .tup (k.map keyD)) (bs.map V.ref)
  | [], _, S, h => by cases h; exact ⟨F, Same.refl F, S, .nil⟩
  | p :: r, _, S, h => by
    cases h with
    | cons h1 h2 =>
      obtain ⟨F1, s1, e1, S1⟩ := S.tup h1
      obtain ⟨F2, s2, S2, r2⟩ := isKeys_frz S1 h2
      exact ⟨F2, s1.trans s2, S2, .cons (by simp only [Rz]; exact ⟨_, _, rfl, s2 _ _ e1, keys_rzl _⟩) r2⟩
theorem ct_list {m : Fm} {F H : Hp} {σ : L2.St} {a : Addr} {d : Dt} {es : List Dt} {Q : VK} (S : Sm z m F H σ ρ) (c : CtR z.K m.B F H a d) (h : ListD d es)
    (q : ∀ F' H' v, Same F F' → Sm z m F' H' σ ρ → RzF z m F' H' σ ρ true (.lst true es) v → Q v H') : rListZ z.K [.ref a] H Q := by
  cases h with
  | lst t ds =>
    cases c with
    | lst h1 h2 => exact .inl ⟨a, _, rfl, .inl (SqL.of h1), fun p hp => q _ _ _ (Same.refl F) (S.newO hp) (rzF_new S hp (.lst h2))⟩
    | dct h => cases h
  | tup ds =>
    cases c with
    | tup h1 h2 => exact .inl ⟨a, _, rfl, .inr (SqT.of h1), fun p hp => q _ _ _ (Same.refl F) (S.newO hp) (rzF_new S hp (.lst h2))⟩
    | dct h => cases h
  | dic t ks ds =>
    cases c with
    | dct h =>
      cases h with
      | @k _ kvs _ h1 h2 => exact .inr (.inl ⟨a, _, rfl, h1, fun p hp => q _ _ _ (Same.refl F) (S.newO hp) (rzF_new S hp (.lst (by
          have := keys_rzl (K := z.K) (B := m.B) (F := F) (kvs.map Prod.fst)
          rw [List.map_map (f := Prod.fst) (g := kV)] at this
          exact this)))⟩)
  | dit t ks ds =>
    cases c with
    | dct h =>
      cases h with
      | @t _ kvs _ h1 h2 => exact .inr (.inr ⟨a, _, rfl, h1, fun p bs hp hk => by
          obtain ⟨F', s', S', r'⟩ := isKeys_frz S hk
          exact q _ _ _ s' (S'.newO hp) (rzF_new S' hp (.lst r'))⟩)
theorem ze_listv {s0 : Sl} {c0 : Dt} {es : List Dt} (h0 : ρ[i]? = some s0) (p0 : Pk s0 c0) (hl : ListD c0 es) (q : N (.lst true es) true ρ) : ZE z (tCB (rListZ z.K) (tCons (tVar i) tNil)) ρ N := fun m F H σ Q S k => by
  obtain ⟨a, e, c⟩ := S.peekC h0 p0 hl.isCt
  exact ⟨_, e, ct_list S c hl fun F' H' v s S' r => k _ _ _ _ _ _ q s S' r⟩
theorem ze_list (h : ZE z ta ρ fun x _ ρ1 => ∃ es, ListD x es ∧ N (.lst true es) true ρ1) : ZE z (tCB (rListZ z.K) (tCons ta tNil)) ρ N :=
  ze_CB1 (W := fun x N ρ1 => ∃ es, ListD x es ∧ N (.lst true es) true ρ1) (fun x ρ2 N n1 m F H σ Q vx S r k => by
    obtain ⟨es, hl, q⟩ := n1
    obtain ⟨a, rfl, c⟩ := rz_ct r S.le hl.isCt
    exact ct_list S c hl fun F' H' v s S' r => k _ _ _ _ _ _ q s S' r) h
/-! items -/
theorem ze_ixT {K : PySem.W.Frag} (h : ZE z ta ρ fun x _ ρ1 => ZE z tb ρ1 fun y _ ρ2 => ∃ ds i d, x = .tup ds ∧ y = .int i ∧ atI ds i = some d ∧ N d false ρ2) : ZE z (tOp (rIxT K) ta tb) ρ N :=
  ze_op2w (W := fun x y N ρ2 => ∃ ds i d, x = .tup ds ∧ y = .int i ∧ atI ds i = some d ∧ N d false ρ2) (fun x y ρ2 N n2 m F H σ Q vx vy S r1 r2 k => by
    obtain ⟨ds, i, d, rfl, rfl, e, n⟩ := n2
    simp only [Rz] at r1
    obtain ⟨a, xs, rfl, h1, r⟩ := r1
    unfold atI at e
    cases q : ixN ds.length i with
    | none => rw [q] at e; cases e
    | some j =>
      rw [q] at e
      obtain ⟨v, e2, rv⟩ := r.at_ e
      refine ⟨a, xs, i, v, rfl, rz_i r2, SqT.of (S.le.exact h1 rfl), ?_, k _ _ _ _ _ _ n (Same.refl F) S (rzF_f rv)⟩
      unfold atI
      rw [r.len, q]
      exact e2) h
theorem ze_ixL {K : PySem.W.Frag} (h : ZE z ta ρ fun x _ ρ1 => ZE z tb ρ1 fun y _ ρ2 => ∃ t ds i d, x = .lst t ds ∧ y = .int i ∧ atI ds i = some d ∧ N d false ρ2) : ZE z (tOp (rIxL K) ta tb) ρ N :=
  ze_op2w (W := fun x y N ρ2 => ∃ t ds i d, x = .lst t ds ∧ y = .int i ∧ atI ds i = some d ∧ N d false ρ2) (fun x y ρ2 N n2 m F H σ Q vx vy S r1 r2 k => by
    obtain ⟨t, ds, i, d, rfl, rfl, e, n⟩ := n2
    simp only [Rz] at r1
    obtain ⟨a, xs, rfl, h1, _, r⟩ := r1
    unfold atI at e
    cases q : ixN ds.length i with
    | none => rw [q] at e; cases e
    | some j =>
      rw [q] at e
      obtain ⟨v, e2, rv⟩ := r.at_ e
      refine ⟨a, xs, i, v, rfl, rz_i r2, SqL.of (S.le.exact h1 rfl), ?_, k _ _ _ _ _ _ n (Same.refl F) S (rzF_f rv)⟩
      unfold atI
      rw [r.len, q]
      exact e2) h
theorem ze_ixLv {K : PySem.W.Frag} {s0 : Sl} {c0 : Dt} (h0 : ρ[i]? = some s0) (p0 : Pk s0 c0) (h : ZE z tb ρ fun y _ ρ2 => ∃ s t ds j d, ρ2[i]? = some s ∧ Pk s (.lst t ds) ∧ y = .int j ∧ atI ds j = some d ∧ N d false ρ2) : ZE z (tOp (rIxL K) (tVar i) tb) ρ N := fun m F H σ Q S k => by
  obtain ⟨v, ev⟩ := S.has h0 p0
  refine ⟨v, ev, h m F H σ _ S fun y fy ρ2 F2 H2 vy n2 s2 S2 r2 => ?_⟩
  obtain ⟨F3, s3, S3, ry⟩ := rzF_frz S2 r2
  obtain ⟨s, t, ds, j, d, hs, p, rfl, e, n⟩ := n2
  obtain ⟨a, xs, ea, h1, r⟩ := S3.peekL hs p
  rw [ev] at ea
  cases ea
  unfold atI at e
  cases q : ixN ds.length j with
  | none => rw [q] at e; cases e
  | some j' =>
    rw [q] at e
    obtain ⟨u, e2, rv⟩ := r.at_ e
    refine ⟨a, xs, j, u, rfl, rz_i ry, SqL.of h1, ?_, k _ _ _ _ _ _ n (s2.trans s3) S3 (rzF_f rv)⟩
    unfold atI
    rw [r.len, q]
    exact e2
/-! slices -/
def ZO (z : Cz) (t : TO) (ρ : List Sl) (N : Option Int → List Sl → Prop) : Prop := ∀ m F H σ Q, Sm z m F H σ ρ → (∀ o ρ' F' H', N o ρ' → Same F F' → Sm z m F' H' σ ρ' → Q o H') → t σ H Q
theorem zo_no {M : Option Int → List Sl → Prop} (h : M none ρ) : ZO z tNoPart ρ M := fun m F H σ Q S k => k _ _ _ _ h (Same.refl F) S
theorem zo_some {M : Option Int → List Sl → Prop} (h : ZE z te ρ fun x _ ρ1 => ∃ i, x = .int i ∧ M (some i) ρ1) : ZO z (tPart te) ρ M := fun m F H σ Q S k => by
  refine h m F H σ _ S fun x fx ρ1 F1 H1 vx n1 s1 S1 r1 => ?_
  obtain ⟨F2, s2, S2, rx⟩ := rzF_frz S1 r1
  obtain ⟨i, rfl, n⟩ := n1
  exact ⟨i, rz_i rx, k _ _ _ _ n (s1.trans s2) S2⟩
def cutD (ds : List Dt) (lo hi : Option Int) : List Dt := (ds.drop (HT.sIx ds.length 0 lo)).take (HT.sIx ds.length ds.length hi - HT.sIx ds.length 0 lo)
theorem cut_rzl {K : PySem.W.Frag} {B F : Hp} {ds : List Dt} {xs : List V} (r : Rzl K B F ds xs) (lo hi : Option Int) : Rzl K B F (cutD ds lo hi) (cutV xs lo hi) := by
  unfold cutD cutV
  rw [r.len]
  exact (r.drop _).take _
theorem ze_slT {K : PySem.W.Frag} {tl th : TO} (h : ZE z te ρ fun x _ ρ1 => ZO z tl ρ1 fun lo ρ2 => ZO z th ρ2 fun hi ρ3 => ∃ ds, x = .tup ds ∧ ¬ (HT.sIx ds.length 0 lo = 0 ∧ HT.sIx ds.length ds.length hi = ds.length) ∧ N (.tup (cutD ds lo hi)) false ρ3) : ZE z (tSl (rSlT K) te tl th) ρ N := fun m F H σ Q S k => by
  refine h m F H σ _ S fun x fx ρ1 F1 H1 vx n1 s1 S1 r1 => ?_
  obtain ⟨F2, s2, S2, rx⟩ := rzF_frz S1 r1
  refine n1 m F2 H1 σ _ S2 fun lo ρ2 F3 H3 n2 s3 S3 => n2 m F3 H3 σ _ S3 fun hi ρ3 F4 H4 n3 s4 S4 => ?_
  obtain ⟨ds, rfl, hn, n⟩ := n3
  have rx := rz_mono (s3.trans s4) _ _ rx
  simp only [Rz] at rx
  obtain ⟨a, xs, rfl, e, r⟩ := rx
  refine ⟨a, xs, rfl, SqT.of (S4.le.exact e rfl), by rw [r.len]; exact hn, fun p hp => ?_⟩
  obtain ⟨s5, S5⟩ := S4.new (o := .tup (cutV xs lo hi)) hp
  exact k _ _ _ _ _ _ n ((s1.trans s2).trans ((s3.trans s4).trans s5)) S5 (show Rz z.K m.B _ (.tup _) _ by simp only [Rz]; exact ⟨p, _, rfl, upd_same, rzl_mono s5 _ _ (cut_rzl r lo hi)⟩)
theorem ze_slL {K : PySem.W.Frag} {tl th : TO} (h : ZE z te ρ fun x _ ρ1 => ZO z tl ρ1 fun lo ρ2 => ZO z th ρ2 fun hi ρ3 => ∃ t ds, x = .lst t ds ∧ N (.lst true (cutD ds lo hi)) true ρ3) : ZE z (tSl (rSlL K) te tl th) ρ N := fun m F H σ Q S k => by
  refine h m F H σ _ S fun x fx ρ1 F1 H1 vx n1 s1 S1 r1 => ?_
  obtain ⟨F2, s2, S2, rx⟩ := rzF_frz S1 r1
  refine n1 m F2 H1 σ _ S2 fun lo ρ2 F3 H3 n2 s3 S3 => n2 m F3 H3 σ _ S3 fun hi ρ3 F4 H4 n3 s4 S4 => ?_
  obtain ⟨t, ds, rfl, n⟩ := n3
  have rx := rz_mono (s3.trans s4) _ _ rx
  simp only [Rz] at rx
  obtain ⟨a, xs, rfl, e, _, r⟩ := rx
  exact ⟨a, xs, rfl, SqL.of (S4.le.exact e rfl), fun p hp => k _ _ _ _ _ _ n ((s1.trans s2).trans (s3.trans s4)) (S4.newO hp) (rzF_new S4 hp (.lst (cut_rzl r lo hi)))⟩
/-! joins -/
theorem ze_cat (h : ZE z ta ρ fun x _ ρ1 => ZE z tb ρ1 fun y _ ρ2 => ∃ t u ds es, x = .lst t ds ∧ y = .lst u es ∧ ds.length + es.length ≤ 100000 ∧ N (.lst true (ds ++ es)) true ρ2) : ZE z (tOp rCat ta tb) ρ N :=
  ze_op2w (W := fun x y N ρ2 => ∃ t u ds es, x = .lst t ds ∧ y = .lst u es ∧ ds.length + es.length ≤ 100000 ∧ N (.lst true (ds ++ es)) true ρ2) (fun x y ρ2 N n2 m F H σ Q vx vy S r1 r2 k => by
    obtain ⟨t, u, ds, es, rfl, rfl, hl, n⟩ := n2
    simp only [Rz] at r1 r2
    obtain ⟨a, xs, rfl, h1, _, r1⟩ := r1
    obtain ⟨b, ys, rfl, h2, _, r2⟩ := r2
    exact ⟨a, b, xs, ys, rfl, rfl, S.le.exact h1 rfl, S.le.exact h2 rfl, by rw [r1.len, r2.len, sizeLine_eq]; omega, fun p hp => k _ _ _ _ _ _ n (Same.refl F) (S.newO hp) (rzF_new S hp (.lst (r1.app r2)))⟩) h
/-! truth -/
inductive TruD : Dt → Bool → Prop
  | lst (t : Bool) (ds : List Dt) : TruD (.lst t ds) (!ds.isEmpty)
  | tup (ds : List Dt) : TruD (.tup ds) (!ds.isEmpty)
  | bl (b : Bool) : TruD (.bl b) b
  | int (i : Int) : TruD (.int i) (i != 0)
  | non : TruD .non false
theorem isEmpty_len {α β : Type} : ∀ {xs : List α} {ys : List β}, xs.length = ys.length → xs.isEmpty = ys.isEmpty
  | [], [], _ => rfl
  | _ :: _, _ :: _, _ => rfl
  | [], _ :: _, h => by cases h
  | _ :: _, [], h => by cases h
abbrev tTru (K : PySem.W.Frag) (ta : TE) : TT := fun σ H Q => ta σ H fun x H' => ∃ k, TruV K x H' k ∧ Q k H'
theorem zt_truv {s0 : Sl} {t : Bool} {ds : List Dt} {M : Bool → List Sl → Prop} (h0 : ρ[i]? = some s0) (p0 : Pk s0 (.lst t ds)) (q : M (!ds.isEmpty) ρ) : ZT z (tTru z.K (tVar i)) ρ M := fun m F H σ Q S k => by
  obtain ⟨a, xs, e, h1, r⟩ := S.peekL h0 p0
  refine ⟨_, e, _, .inl ⟨xs, SqL.of h1, rfl⟩, ?_⟩
  rw [isEmpty_len r.len]
  exact k _ _ _ _ q (Same.refl F) S
theorem zt_tru {M : Bool → List Sl → Prop} (h : ZE z ta ρ fun x _ ρ1 => ∃ b, TruD x b ∧ M b ρ1) : ZT z (tTru z.K ta) ρ M := fun m F H σ Q S k => by
  refine h m F H σ _ S fun x fx ρ1 F1 H1 vx n1 s1 S1 r1 => ?_
  obtain ⟨F2, s2, S2, rx⟩ := rzF_frz S1 r1
  obtain ⟨b, hb, n⟩ := n1
  have q := k _ _ _ _ n (s1.trans s2) S2
  cases hb with
  | lst t ds =>
    simp only [Rz] at rx
    obtain ⟨a, xs, rfl, e, _, r⟩ := rx
    exact ⟨_, .inl ⟨xs, SqL.of (S2.le.exact e rfl), rfl⟩, by rw [isEmpty_len r.len]; exact q⟩
  | tup ds =>
    simp only [Rz] at rx
    obtain ⟨a, xs, rfl, e, r⟩ := rx
    exact ⟨_, .inr (.inl ⟨xs, SqT.of (S2.le.exact e rfl), rfl⟩), by rw [isEmpty_len r.len]; exact q⟩
  | bl b => exact ⟨b, by rw [rz_b rx]; exact rfl, q⟩
  | int i => exact ⟨_, by rw [rz_i rx]; exact rfl, q⟩
  | non => exact ⟨_, by rw [rz_n rx]; exact rfl, q⟩
/-! methods of an owned list -/
theorem ze_append {K : PySem.W.Frag} {t0 : Bool} {ds0 : List Dt} (h0 : ρ[i]? = some (.o (.lst t0 ds0))) (h : ZE z te ρ fun x _ ρ1 => ∃ ds, ρ1[i]? = some (.o (.lst true ds)) ∧ ds.length < 100000 ∧ N .non false (ρ1.set i (.o (.lst true (ds ++ [x]))))) :
    ZE z (tBM K "list" rAppend (tVar i) (tCons te tNil)) ρ N := fun m F H σ Q S k => by
  obtain ⟨l, e, h1, h2, h3, ho, h4, h5⟩ := S.geto h0
  cases h5 with
  | @lst xs _ r =>
    refine ⟨.ref l, e, .inl ⟨rfl, xs, SqL.of h4⟩, h m F H σ _ S fun x fx ρ1 F1 H1 vx n1 s1 S1 r1 => ?_⟩
    obtain ⟨F2, s2, S2, rx⟩ := rzF_frz S1 r1
    obtain ⟨ds, hs, hl, n⟩ := n1
    obtain ⟨l', e', q1, q2, q3, ho, q4, q5⟩ := S2.geto hs
    rw [e] at e'
    cases e'
    cases q5 with
    | @lst xs _ r =>
      exact ⟨l, xs, vx, rfl, rfl, q4, by rw [r.len, sizeLine_eq]; omega, k _ _ _ _ _ _ n (s1.trans s2) (S2.put hs e (.lst (r.app (.cons rx .nil)))) (rzF_f rzn)⟩
theorem ze_pop {K : PySem.W.Frag} {t0 : Bool} {ds : List Dt} {d : Dt} (h0 : ρ[i]? = some (.o (.lst t0 (ds ++ [d])))) (n : N d false (ρ.set i (.o (.lst true ds)))) : ZE z (tBM0 K "list" rPop (tVar i)) ρ N := fun m F H σ Q S k => by
  obtain ⟨l, e, h1, h2, h3, ho, h4, h5⟩ := S.geto h0
  cases h5 with
  | @lst xs _ r =>
    refine ⟨.ref l, e, .inl ⟨rfl, xs, SqL.of h4⟩, ?_⟩
    have hl := r.len
    rw [List.length_append, List.length_singleton] at hl
    obtain ⟨y, hy, ry⟩ := r.at_ (i := ds.length) (d := d) (by simp)
    refine ⟨l, xs, y, rfl, rfl, h4, by rw [hl]; exact hy, k _ _ _ _ _ _ n (Same.refl F) (S.put h0 e (.lst ?_)) (rzF_f ry)⟩
    have := r.take ds.length
    rw [List.take_left] at this
    rw [List.dropLast_eq_take, hl]
    exact this
theorem ze_extend {K : PySem.W.Frag} {t0 : Bool} {ds0 : List Dt} (h0 : ρ[i]? = some (.o (.lst t0 ds0))) (h : ZE z te ρ fun x _ ρ1 => ∃ ds t es, ρ1[i]? = some (.o (.lst true ds)) ∧ x = .lst t es ∧ ds.length + es.length ≤ 100000 ∧ N .non false (ρ1.set i (.o (.lst true (ds ++ es))))) :
    ZE z (tBM K "list" rExtend (tVar i) (tCons te tNil)) ρ N := fun m F H σ Q S k => by
  obtain ⟨l, e, h1, h2, h3, ho, h4, h5⟩ := S.geto h0
  cases h5 with
  | @lst xs _ r =>
    refine ⟨.ref l, e, .inl ⟨rfl, xs, SqL.of h4⟩, h m F H σ _ S fun x fx ρ1 F1 H1 vx n1 s1 S1 r1 => ?_⟩
    obtain ⟨F2, s2, S2, rx⟩ := rzF_frz S1 r1
    obtain ⟨ds, t, es, hs, rfl, hl, n⟩ := n1
    obtain ⟨l', e', q1, q2, q3, ho, q4, q5⟩ := S2.geto hs
    rw [e] at e'
    cases e'
    simp only [Rz] at rx
    obtain ⟨b, ys, rfl, hb, _, ry⟩ := rx
    cases q5 with
    | @lst xs _ r =>
      exact ⟨l, b, xs, ys, rfl, rfl, q4, S2.le.exact hb rfl, by rw [r.len, ry.len, sizeLine_eq]; omega, k _ _ _ _ _ _ n (s1.trans s2) (S2.put hs e (.lst (r.app ry))) (rzF_f rzn)⟩
/-! in a written tuple of texts -/
theorem ze_inStrs {a : Addr} {xs : List Str} (hk : tupStrs z.K a xs = true) (hl : xs.length ≤ 1000) (h : ZE z ta ρ fun x _ ρ1 => ∃ y, x = .str y ∧ N (.bl (inV (.str y) (xs.map V.str))) false ρ1) : ZE z (tOp (rIn z.K false) ta (tC (.ref a))) ρ N := fun m F H σ Q S k => by
  refine h m F H σ _ S fun x fx ρ1 F1 H1 vx n1 s1 S1 r1 => ?_
  obtain ⟨F2, s2, S2, rx⟩ := rzF_frz S1 r1
  obtain ⟨y, rfl, n⟩ := n1
  obtain rfl := rz_s rx
  refine ⟨a, xs.map V.str, rfl, .inr (tupStrs_ok hk hl), rfl, ?_, k _ _ _ _ _ _ n (s1.trans s2) S2 (rzF_f rzb)⟩
  exact List.all_eq_true.mpr fun v hv => by
    obtain ⟨y, _, rfl⟩ := List.mem_map.mp hv
    rfl
def flatD : Dt → Option V
  | .non => some .non | .bl b => some (.bl b) | .int i => some (.int i) | .str x => some (.str x)
  | _ => none
theorem flat_rz {K : PySem.W.Frag} {B F : Hp} {d : Dt} {v u : V} (h : flatD d = some u) (r : Rz K B F d v) : v = u ∧ flatV u = true := by
  unfold flatD at h
  split at h <;> cases h <;> (simp only [Rz] at r; exact ⟨r, rfl⟩)
theorem flat_rzl {K : PySem.W.Frag} {B F : Hp} : ∀ {ds : List Dt} {vs us : List V}, ds.mapM flatD = some us → Rzl K B F ds vs → vs = us ∧ us.all flatV = true
  | [], _, us, h, r => by
    rw [List.mapM_nil] at h
    cases h
    exact ⟨r.inv0, rfl⟩
  | d :: ds, _, us, h, r => by
    obtain ⟨v, r', rfl, r1, r2⟩ := r.inv
    rw [List.mapM_cons] at h
    cases e : flatD d with
    | none => rw [e] at h; cases h
    | some u =>
      rw [e] at h
      cases e2 : ds.mapM flatD with
      | none => rw [e2] at h; cases h
      | some us' =>
        rw [e2] at h
        cases h
        obtain ⟨h1, h2⟩ := flat_rz e r1
        obtain ⟨h3, h4⟩ := flat_rzl e2 r2
        exact ⟨by rw [h1, h3], by rw [List.all_cons, h2, h4]; rfl⟩
/-- in a list or a tuple of scalars -/
theorem ze_inF {neg : Bool} (h : ZE z ta ρ fun x _ ρ1 => ZE z tb ρ1 fun y _ ρ2 => ∃ u us ds, flatD x = some u ∧ ((∃ t, y = .lst t ds) ∨ y = .tup ds) ∧ ds.mapM flatD = some us ∧ N (.bl (if neg then !inV u us else inV u us)) false ρ2) : ZE z (tOp (rIn z.K neg) ta tb) ρ N :=
  ze_op2w (W := fun x y N ρ2 => ∃ u us ds, flatD x = some u ∧ ((∃ t, y = .lst t ds) ∨ y = .tup ds) ∧ ds.mapM flatD = some us ∧ N (.bl (if neg then !inV u us else inV u us)) false ρ2) (fun x y ρ2 N n2 m F H σ Q vx vy S r1 r2 k => by
    obtain ⟨u, us, ds, hu, hy, hm, n⟩ := n2
    obtain ⟨rfl, fu⟩ := flat_rz hu r1
    rcases hy with ⟨t, rfl⟩ | rfl
    · simp only [Rz] at r2
      obtain ⟨a, xs, rfl, e, _, r⟩ := r2
      obtain ⟨rfl, fs⟩ := flat_rzl hm r
      exact ⟨a, xs, rfl, .inl (SqL.of (S.le.exact e rfl)), fu, fs, k _ _ _ _ _ _ n (Same.refl F) S (rzF_f rzb)⟩
    · simp only [Rz] at r2
      obtain ⟨a, xs, rfl, e, r⟩ := r2
      obtain ⟨rfl, fs⟩ := flat_rzl hm r
      exact ⟨a, xs, rfl, .inr (SqT.of (S.le.exact e rfl)), fu, fs, k _ _ _ _ _ _ n (Same.refl F) S (rzF_f rzb)⟩) h
/-- in a table of the module with text keys -/
theorem ze_inTab {X : Cx} {a : Addr} (h : ZE z ta ρ fun x _ ρ1 => ∃ y b, x = .str y ∧ inTab X.K a y b = true ∧ N (.bl b) false ρ1) :
    ZE z (tOp (fun x y H Q => ∃ (z : Str) (r : Option Value), x = .str z ∧ y = .ref a ∧ PySem.W.nsIn X.K a z = some r ∧ Q (.bl r.isSome) H) ta (tC (.ref a))) ρ N := fun m F H σ Q S k => by
  refine h m F H σ _ S fun x fx ρ1 F1 H1 vx n1 s1 S1 r1 => ?_
  obtain ⟨F2, s2, S2, rx⟩ := rzF_frz S1 r1
  obtain ⟨y, b, rfl, hb, n⟩ := n1
  obtain ⟨r, e, hr⟩ := inTab_ok hb
  exact ⟨y, r, rz_s rx, rfl, e, by rw [hr]; exact k _ _ _ _ _ _ n (s1.trans s2) S2 (rzF_f rzb)⟩
/-! isinstance -/
inductive TyD (K : PySem.W.Frag) : Dt → Value → Prop
  | non : TyD K .non (.type "NoneType")
  | bl (b : Bool) : TyD K (.bl b) (.type "bool")
  | int (i : Int) : TyD K (.int i) (.type "int")
  | str (x : Str) : TyD K (.str x) (.type "str")
  | lst (t : Bool) (ds : List Dt) : TyD K (.lst t ds) (.type "list")
  | tup (ds : List Dt) : TyD K (.tup ds) (.type "tuple")
  | dic (t : Bool) (ks : List Key) (ds : List Dt) : TyD K (.dic t ks ds) (.type "dict")
  | rat (n d : Int) : isiCB K (He.ga K "Ratio") = true → Cls K (He.ga K "Ratio") → TyD K (.rat n d) (.ref (He.ga K "Ratio"))
  | ins (C : Addr) (fs : List Str) (ds : List Dt) : isiCB K C = true → Cls K C → TyD K (.ins C fs ds) (.ref C)
theorem tyD_ok {K : PySem.W.Frag} {B F H : Hp} {d : Dt} {t : Value} {v : V} (h : TyD K d t) (r : Rz K B F d v) (le : Le F H) : TyX K H v t := by
  cases h with
  | non => rw [rz_n r]; exact .base .non
  | bl b => rw [rz_b r]; exact .base (.bl b)
  | int i => rw [rz_i r]; exact .base (.int i)
  | str x => rw [rz_s r]; exact .base (.str x)
  | lst t ds =>
    simp only [Rz] at r
    obtain ⟨a, xs, rfl, e, _⟩ := r
    exact .base (.lst (le.exact e rfl))
  | tup ds =>
    simp only [Rz] at r
    obtain ⟨a, xs, rfl, e, _⟩ := r
    exact .base (.tup (le.exact e rfl))
  | dic t ks ds =>
    simp only [Rz] at r
    obtain ⟨a, xs, rfl, e, _⟩ := r
    rcases le a _ e with q | ⟨_, ob, q⟩
    · exact .base (.dK q)
    · exact .fDict q
  | rat n d h1 h2 =>
    simp only [Rz] at r
    obtain ⟨a, dx, rfl, e⟩ := r
    exact isi_ins h1 h2 (le.exact e rfl)
  | ins C fs ds h1 h2 =>
    simp only [Rz] at r
    obtain ⟨a, dx, kvs, rfl, e, _⟩ := r
    exact isi_ins h1 h2 (le.exact e rfl)
theorem ze_isi {c : V} {u : Value} (hc : ClsV c u) (h : ZE z te ρ fun x _ ρ1 => ∃ t b, TyD z.K x t ∧ PySem.W.kitOne z.K t u = some b ∧ N (.bl b) false ρ1) : ZE z (tCB (rIsi z.K) (tCons te (tCons (tC c) tNil))) ρ N := fun m F H σ Q S k => by
  refine h m F H σ _ S fun x fx ρ1 F1 H1 vx n1 s1 S1 r1 => ?_
  obtain ⟨F2, s2, S2, rx⟩ := rzF_frz S1 r1
  obtain ⟨t, b, ht, hk, n⟩ := n1
  exact ⟨vx, c, t, u, b, rfl, hc, tyD_ok ht rx S2.le, hk, k _ _ _ _ _ _ n (s1.trans s2) S2 (rzF_f rzb)⟩
/-! operators of an own class -/
def isIn (K : PySem.W.Frag) (C : Addr) : Dt → Prop
  | .rat _ _ => C = He.ga K "Ratio"
  | .ins D _ _ => C = D
  | _ => False
theorem rz_ins {K : PySem.W.Frag} {B F H : Hp} {C : Addr} {d : Dt} {v : V} (h : isIn K C d) (r : Rz K B F d v) (le : Le F H) : ∃ a dx fs, v = .ref a ∧ H a = some (.ins C dx fs) := by
  cases d <;> first | exact h.elim | skip
  · obtain rfl := h
    simp only [Rz] at r
    obtain ⟨a, dx, rfl, e⟩ := r
    exact ⟨a, dx, _, rfl, le.exact e rfl⟩
  · obtain rfl := h
    simp only [Rz] at r
    obtain ⟨a, dx, kvs, rfl, e, _⟩ := r
    exact ⟨a, dx, kvs, rfl, le.exact e rfl⟩
theorem ze_bin {C : Addr} {w : Wz} {E : XK} (h : ZE z ta ρ fun x _ ρ1 => ZE z tb ρ1 fun y _ ρ2 => isIn z.K C x ∧ isIn z.K C y ∧ w [x.old, y.old] (fun d fr => N d fr ρ2) fun _ _ => False) : ZE z (tOp (rBin C (spZ z.K w) E) ta tb) ρ N :=
  ze_op2w (W := fun x y N ρ2 => isIn z.K C x ∧ isIn z.K C y ∧ w [x.old, y.old] (fun d fr => N d fr ρ2) fun _ _ => False) (fun x y ρ2 N n2 m F H σ Q vx vy S r1 r2 k => by
    obtain ⟨hx, hy, n⟩ := n2
    obtain ⟨a, dx, fs, rfl, ha⟩ := rz_ins hx r1 S.le
    obtain ⟨b, dy, gs, rfl, hb⟩ := rz_ins hy r2 S.le
    refine ⟨a, b, dx, dy, fs, gs, rfl, rfl, ha, hb, F, _, _, _, S.le, .cons (rz_old _ _ r1) (.cons (rz_old _ _ r2) .nil), n, fun d fr F' H' v nd g => ?_, fun C fs dd H' f => f.elim⟩
    obtain ⟨S2, r⟩ := S.got g
    exact k _ _ _ _ _ _ nd g.1 S2 r) h
theorem ze_neO {C : Addr} {w : Wz} {E : XK} (h : ZE z ta ρ fun x _ ρ1 => ZE z tb ρ1 fun y _ ρ2 => isIn z.K C x ∧ isIn z.K C y ∧ w [x.old, y.old] (fun d fr => ∃ b, d = .bl b ∧ fr = false ∧ N (.bl (!b)) false ρ2) fun _ _ => False) : ZE z (tOp (rNeO C (spZ z.K w) E) ta tb) ρ N :=
  ze_op2w (W := fun x y N ρ2 => isIn z.K C x ∧ isIn z.K C y ∧ w [x.old, y.old] (fun d fr => ∃ b, d = .bl b ∧ fr = false ∧ N (.bl (!b)) false ρ2) fun _ _ => False) (fun x y ρ2 N n2 m F H σ Q vx vy S r1 r2 k => by
    obtain ⟨hx, hy, n⟩ := n2
    obtain ⟨a, dx, fs, rfl, ha⟩ := rz_ins hx r1 S.le
    obtain ⟨b, dy, gs, rfl, hb⟩ := rz_ins hy r2 S.le
    refine ⟨a, b, dx, dy, fs, gs, rfl, rfl, ha, hb, F, _, _, _, S.le, .cons (rz_old _ _ r1) (.cons (rz_old _ _ r2) .nil), n, fun d fr F' H' v nd g => ?_, fun C fs dd H' f => f.elim⟩
    obtain ⟨t, rfl, rfl, nd⟩ := nd
    obtain ⟨S2, r⟩ := S.got g
    exact ⟨t, rz_b (show Rz z.K m.B F' (.bl t) v from r), k _ _ _ _ _ _ nd g.1 S2 (rzF_f rzb)⟩) h
theorem ze_unO {C : Addr} {w : Wz} {E : XK} (h : ZE z ta ρ fun x _ ρ1 => isIn z.K C x ∧ w [x.old] (fun d fr => N d fr ρ1) fun _ _ => False) : ZE z (tUn (rUnO C (spZ z.K w) E) ta) ρ N :=
  ze_un1 fun m F H σ Q S k => h m F H σ Q S fun x fx ρ1 F1 H1 vx n1 s1 S1 r1 => k x fx ρ1 F1 H1 vx (by
    obtain ⟨hx, n⟩ := n1
    intro m F H σ Q vx S r1 k
    obtain ⟨a, dx, fs, rfl, ha⟩ := rz_ins hx r1 S.le
    refine ⟨a, dx, fs, rfl, ha, F, _, _, _, S.le, .cons (rz_old _ _ r1) .nil, n, fun d fr F' H' v nd g => ?_, fun C fs dd H' f => f.elim⟩
    obtain ⟨S2, r⟩ := S.got g
    exact k _ _ _ _ _ _ nd g.1 S2 r) s1 S1 r1
end
/-! ### the law's own helpers: the stream -/
def spStream (K : PySem.W.Frag) : Sp := fun vs H Q _ => ∃ (a : Addr) (ns : List Int), vs = [.ref a] ∧ SqL K H a (ns.map V.int) ∧ ns.length ≤ 63 ∧ ∀ s H', Same H H' → Strm H' s → Q (.ref s) H'
def spDraw : Sp := fun vs H Q _ => ∃ (s : Addr) (n : Int), vs = [.ref s, .int n] ∧ Strm H s ∧ 0 < n ∧ n < 18446744073709551616 ∧ ∀ v, 0 ≤ v → v < n → Q (.int v) H
section
variable {P : Program} {w : World} {K : PySem.W.Frag} {mg : Str → Option Value} {base : Heap}
theorem small31 {i : Int} (h0 : 0 ≤ i) (h : i < 2147483648) : i.natAbs < 2 ^ 31 := by omega
theorem mulW31 {i j : Int} (h0 : 0 ≤ i) (h : i < 2147483648) (h2 : 0 ≤ j) (h3 : j < 2147483648) : CMulW i j := wide_mul (a := 31) (b := 31) (by omega) (by omega) (by decide) (by decide) (by decide)
theorem item_int {ns : List Int} {i : Nat} {x : V} (h : (ns.map V.int)[i]? = some x) : ∃ z, ns[i]? = some z ∧ x = .int z := by
  rw [List.getElem?_map] at h
  cases e : ns[i]? with
  | none => rw [e] at h; cases h
  | some z => rw [e] at h; exact ⟨z, rfl, (Option.some.inj h).symm⟩
theorem atI_ints {ns : List Int} {j : Int} (h0 : 0 ≤ j) (h : j < ((ns.map V.int).length : Int)) : ∃ z, atI (ns.map V.int) j = some (.int z) := by
  rw [List.length_map] at h
  have hk : j.toNat < ns.length := by omega
  have e : j = ((j.toNat : Nat) : Int) := by omega
  refine ⟨ns[j.toNat], ?_⟩
  have q : atI (ns.map V.int) ((j.toNat : Nat) : Int) = some (.int ns[j.toNat]) := atI_nat (by rw [List.getElem?_map, List.getElem?_eq_getElem hk] <;> rfl)
  rw [← e] at q
  exact q
theorem ok__law_draw (T : Top w K mg) : FnOk P w K mg base CX0 1 (He.ga K ("_law_draw" : Str)) (fdOf K d__law_draw) ["stream", "many"] spDraw := by
  refine (T.f__law_draw).ok sc__law_draw (fun vs H Q E h => ?_) (fun cdv A outer s H vs Q E hr h => ?_)
  · obtain ⟨a, n, rfl, _⟩ := h
    rfl
  · obtain ⟨s0, n, rfl, ⟨l, ns, hs, hl, h63⟩, h0, h1, k⟩ := h
    refine ⟨_, PSs.nox (pss_open s0 l (C8.pss_cut (ps_if (PW.pt (pw_and (pt_cmpR op_eq (pe_ix (ix_listK (K := K) rfl) (pv 0) pe_int (fun _ _ => rfl)) pe_int (nomark _)) (pw_and1 (pt_cmpR op_lt (pe_ix (ix_listK (K := K) rfl) (pv 0) pe_int (fun _ _ => rfl)) (pe_callB (call_lenK (K := K) rfl) (by rfl) T.n_len PySem.boot_len (pa_cons (pe_ix (ix_listK (K := K) rfl) (pv 0) pe_int (fun _ _ => rfl)) pa_nil)) (nomark _)))))
    (pss_cons (ps_asg (pe_callB call_abs (by rfl) T.n_abs (by decide +kernel) (pa_cons (pe_callTy call_int1 (by rfl) T.n_int (by decide +kernel) (pa_cons (pe_ix (ix_listK (K := K) rfl) (pe_ix (ix_listK (K := K) rfl) (pv 0) pe_int (fun _ _ => rfl)) (pe_ix (ix_listK (K := K) rfl) (pv 0) pe_int (fun _ _ => rfl)) (fun _ _ => rfl)) pa_nil)) pa_nil)) (pg_sub (pv 0) pe_int set_list))
    (pss_one (ps_asg (pe_op op_add (pe_ix (ix_listK (K := K) rfl) (pv 0) pe_int (fun _ _ => rfl)) pe_int) (pg_sub (pv 0) pe_int set_list))))
    pss_nil)
    (pss_cons (ps_if (pt_cmpR op_eq (pe_ix (ix_listK (K := K) rfl) (pv 0) pe_int (fun _ _ => rfl)) pe_int (nomark _))
    (pss_cons (ps_asg (pe_op op_mod (pe_callTy call_int1 (by rfl) T.n_int (by decide +kernel) (pa_cons (pe_op op_add (pe_op op_mulW (pe_ix (ix_listK (K := K) rfl) (pv 0) pe_int (fun _ _ => rfl)) pe_int) pe_int) pa_nil)) pe_int) (pg_sub (pv 0) pe_int set_list))
    (pss_one (ps_ret (pe_op op_mod (pe_callTy call_int1 (by rfl) T.n_int (by decide +kernel) (pa_cons (pe_op op_fdivG (pe_ix (ix_listK (K := K) rfl) (pv 0) pe_int (fun _ _ => rfl)) pe_int) pa_nil)) (pv 1)))))
    pss_nil)
    (pss_cons (ps_set (i := 2) sc__law_draw.nd rfl (Or.inl rfl) (pe_op op_mod (pe_callTy call_int1 (by rfl) T.n_int (by decide +kernel) (pa_cons (pe_ix (ix_listK (K := K) rfl) (pv 0) pe_int (fun _ _ => rfl)) pa_nil)) (pv 1)))
    (pss_cons (ps_asg (pe_op op_fdivG (pe_ix (ix_listK (K := K) rfl) (pv 0) pe_int (fun _ _ => rfl)) (pv 1)) (pg_sub (pv 0) pe_int set_list))
    (pss_one (ps_ret (pv 2)))))))), ?_⟩
    refine r_open hs (fun i j m hj => ?_)
    have hls : l ≠ s0 := ne_of hl hs (by intro z; cases z)
    refine r_cut (fun σ H' => σ = [some (.ref s0), some (.int n), none] ∧ ∃ i j, okS j m ∧ H' = upd H s0 (.lst (cellsV l i j m))) ?_ ?_
    · have hl' : ∀ o, SqL K (upd H s0 o) l (ns.map V.int) := fun o => SqL.of (by rw [upd_ne hls]; exact hl)
      walk_at "go"
      refine ite_d (fun c1 => ?_) (fun c1 => ?_)
      · walk_at "go"
        refine ⟨_, _, rfl, .inl (hl' _), ?_⟩
        walk_at "go"
        refine ite_d (fun c2 => ?_) (fun c2 => ?_)
        · obtain ⟨z, hz⟩ := atI_ints hj.1 c2
          walk_at "go"
          refine r_ixL (hl' _) hz ?_
          walk_at "go"
          exact ⟨rfl, _, j + 1, ⟨by have := hj.1; omega, hj.2⟩, by rw [upd_upd, upd_upd] <;> rfl⟩
        · walk_at "go"
          exact ⟨rfl, i, j, hj, rfl⟩
      · walk_at "go"
        exact ⟨rfl, i, j, hj, rfl⟩
    · rintro σ H' ⟨rfl, i, j, hj, rfl⟩
      walk_at "go"
      refine ite_d (fun c1 => ?_) (fun c1 => ?_)
      · walk_at "go"
        refine ⟨mulW31 hj.2.1 hj.2.2 (by decide) (by decide), ?_⟩
        walk_at "go"
        refine ⟨cdivG (b := 64) (by omega) (by omega) (by decide) (by decide), ?_⟩
        walk_at "go"
        refine ⟨i, j, (m * 48271 + 11) % 2147483647, upd_same, ⟨hj.1, by omega, by omega⟩, ?_⟩
        rw [upd_back2 hs]
        exact k _ (Int.emod_nonneg _ (by omega)) (Int.emod_lt_of_pos _ h0)
      · walk_at "go"
        refine ⟨cdivG (b := 64) (by omega) (by omega) (by decide) (by decide), ?_⟩
        walk_at "go"
        refine ⟨i.fdiv n, j, m, upd_same, hj, ?_⟩
        rw [upd_back2 hs]
        exact k _ (Int.emod_nonneg _ (by omega)) (Int.emod_lt_of_pos _ h0)
/-- a draw: any number below -/
theorem draw_at {s : Addr} {n : Int} {H : Hp} {Q : VK} {E : XK} (hS : Strm H s) (h0 : 0 < n) (h1 : n < 18446744073709551616) (k : ∀ v, 0 ≤ v → v < n → Q (.int v) H) : spDraw [.ref s, .int n] H Q E := ⟨s, n, rfl, hS, h0, h1, k⟩
theorem ok__law_stream (T : Top w K mg) : FnOk P w K mg base CX0 1 (He.ga K ("_law_stream" : Str)) (fdOf K d__law_stream) ["script"] (spStream K) := by
  refine (T.f__law_stream).ok sc__law_stream (fun vs H Q E h => ?_) (fun cdv A outer s H vs Q E hr h => ?_)
  · obtain ⟨a, n, rfl, _⟩ := h
    rfl
  · obtain ⟨a, ns, rfl, hS, h63, k⟩ := h
    refine ⟨_, PSs.nox (pss_shut (pss_cons (ps_set (i := 1) sc__law_stream.nd rfl (Or.inl rfl) pe_int)
    (pss_cons (ps_for PassesOwn.never rfl (pi_listK (K := K) rfl (pv 0)) (pg_name (i := 2) sc__law_stream.nd rfl (Or.inl rfl))
    (pss_one (ps_set (i := 1) sc__law_stream.nd rfl (Or.inl rfl) (pe_op op_mod (pe_callTy call_int1 (by rfl) T.n_int (by decide +kernel) (pa_cons (pe_op op_add (pe_op op_add (pe_op op_mulW (pv 1) pe_int) (pe_op op_mod (pe_callTy call_int1 (by rfl) T.n_int (by decide +kernel) (pa_cons (pv 2) pa_nil)) pe_int)) pe_int) pa_nil)) pe_int))))
    (pss_one (ps_ret (pe_lst (pa_cons (pe_callTy (call_listK (K := K) rfl) (by rfl) T.n_list (by decide +kernel) (pa_cons (pv 0) pa_nil)) (pa_cons pe_int (pa_cons pe_int (pa_cons (pv 1) pa_nil)))))))))), ?_⟩
    refine r_shut ?_
    walk_at "go"
    refine ⟨⟨_, hS⟩, for_lst (xs := ns.map V.int) (fun i σ H' => H' = H ∧ ∃ (m : Int) (v : Option V), σ = [some (.ref a), some (.int m), v] ∧ 0 ≤ m ∧ m < 2147483648) ⟨rfl, 17, none, rfl, by omega, by omega⟩ (fun i σ H' _ h => by rw [h.1]; exact hS) ?_ ?_⟩
    · rintro i x σ H' hx ⟨rfl, m, v, rfl, h0, h1⟩
      obtain ⟨z, hz, rfl⟩ := item_int hx
      walk_at "go"
      refine ⟨mulW31 h0 h1 (by decide) (by decide), ?_⟩
      walk_at "go"
      exact ⟨rfl, _, _, rfl, Int.emod_nonneg _ (by omega), by show _ % (2147483647 : Int) < _; omega⟩
    · rintro σ H' ⟨rfl, m, v, rfl, h0, h1⟩
      walk_at "go"
      refine ⟨_, _, rfl, .inl hS, fun l hl => ?_⟩
      walk_at "go"
      refine ⟨by show 4 ≤ sizeLine; decide, fun p hp => ?_⟩
      have hlp : l ≠ p := ne_of_none upd_same hp
      have s1 : Same H' (upd H' l (.lst (ns.map V.int))) := same_new hl
      have hp0 : H' p = none := s1.free hp
      refine ⟨p, l, 0, 0, m, rfl, upd_same, ⟨by omega, h0, h1⟩, k p _ (fun b o e => ?_) ⟨l, ns, upd_same, by rw [upd_ne hlp, upd_ne hlp, upd_same], h63⟩⟩
      rw [upd_ne (ne_of_none e hp0), upd_ne (ne_of_none e hp0)]
      exact s1 b o e
end
/-! ### the law's pair in lowest terms -/
def gcdI (n d : Int) : Int := ((Nat.gcd n.natAbs d.natAbs : Nat) : Int)
def sgc (n d : Int) : Int := if d < 0 then -gcdI n d else gcdI n d
def pn (n d : Int) : Int := n.fdiv (sgc n d)
def pd (n d : Int) : Int := d.fdiv (sgc n d)
theorem gcdI_pos {n d : Int} (h : d ≠ 0) : 0 < gcdI n d := by
  have : 0 < Nat.gcd n.natAbs d.natAbs := Nat.gcd_pos_of_pos_right _ (Int.natAbs_pos.mpr h)
  unfold gcdI
  omega
theorem sgc_ne {n d : Int} (h : d ≠ 0) : sgc n d ≠ 0 := by
  have := gcdI_pos (n := n) h
  unfold sgc
  split <;> omega
theorem sgc_abs {n d : Int} (h : d ≠ 0) : (sgc n d).natAbs ≤ d.natAbs := by
  have h1 : Nat.gcd n.natAbs d.natAbs ≤ d.natAbs := Nat.gcd_le_right _ (Int.natAbs_pos.mpr h)
  unfold sgc gcdI
  split <;> omega
/-! ### lowest terms -/
structure Low (n d : Int) : Prop where
  pos : 0 < d
  cop : Nat.gcd n.natAbs d.natAbs = 1
theorem sgc_nat (n d : Int) : (sgc n d).natAbs = Nat.gcd n.natAbs d.natAbs := by
  unfold sgc gcdI
  split
  · rw [Int.natAbs_neg, Int.natAbs_natCast]
  · rw [Int.natAbs_natCast]
theorem sgc_dvd_n (n d : Int) : sgc n d ∣ n := Int.natAbs_dvd_natAbs.mp (by rw [sgc_nat]; exact Nat.gcd_dvd_left _ _)
theorem sgc_dvd_d (n d : Int) : sgc n d ∣ d := Int.natAbs_dvd_natAbs.mp (by rw [sgc_nat]; exact Nat.gcd_dvd_right _ _)
theorem pn_mul (n d : Int) : pn n d * sgc n d = n := Int.fdiv_mul_cancel (sgc_dvd_n n d)
theorem pd_mul (n d : Int) : pd n d * sgc n d = d := Int.fdiv_mul_cancel (sgc_dvd_d n d)
theorem low_of {n d : Int} (h : d ≠ 0) : Low (pn n d) (pd n d) := by
  have hs := sgc_ne (n := n) h
  have e1 := pn_mul n d
  have e2 := pd_mul n d
  have g0 : 0 < (sgc n d).natAbs := Int.natAbs_pos.mpr hs
  refine ⟨?_, ?_⟩
  · rcases Int.lt_trichotomy d 0 with c | c | c
    · have s0 : sgc n d < 0 := by
        have := gcdI_pos (n := n) h
        unfold sgc
        rw [if_pos c]
        omega
      rcases Int.lt_or_le 0 (pd n d) with p | p
      · exact p
      · have := Int.mul_nonneg_of_nonpos_of_nonpos p (Int.le_of_lt s0)
        rw [e2] at this
        omega
    · exact absurd c h
    · have s0 : 0 < sgc n d := by
        have := gcdI_pos (n := n) h
        unfold sgc
        rw [if_neg (by omega)]
        exact this
      rcases Int.lt_or_le 0 (pd n d) with p | p
      · exact p
      · have := Int.mul_nonpos_of_nonpos_of_nonneg p (Int.le_of_lt s0)
        rw [e2] at this
        omega
  · have a1 : n.natAbs = (pn n d).natAbs * (sgc n d).natAbs := by rw [← Int.natAbs_mul, e1]
    have a2 : d.natAbs = (pd n d).natAbs * (sgc n d).natAbs := by rw [← Int.natAbs_mul, e2]
    have a3 := sgc_nat n d
    have a4 : Nat.gcd ((pn n d).natAbs * (sgc n d).natAbs) ((pd n d).natAbs * (sgc n d).natAbs) = (sgc n d).natAbs := by
      rw [← a1, ← a2, a3]
    rw [Nat.gcd_mul_right] at a4
    exact Nat.eq_of_mul_eq_mul_right g0 (by rw [a4, Nat.one_mul])
theorem sgc_low {n d : Int} (h : Low n d) : sgc n d = 1 := by
  have hp := h.pos
  unfold sgc gcdI
  rw [if_neg (by omega), h.cop] <;> rfl
theorem pn_low {n d : Int} (h : Low n d) : pn n d = n := by unfold pn; rw [sgc_low h, Int.fdiv_one]
theorem pd_low {n d : Int} (h : Low n d) : pd n d = d := by unfold pd; rw [sgc_low h, Int.fdiv_one]
theorem pn_le {n d : Int} (h : d ≠ 0) : (pn n d).natAbs ≤ n.natAbs := by
  have a1 : n.natAbs = (pn n d).natAbs * (sgc n d).natAbs := by rw [← Int.natAbs_mul, pn_mul]
  have g0 : 0 < (sgc n d).natAbs := Int.natAbs_pos.mpr (sgc_ne h)
  rw [a1]
  exact Nat.le_mul_of_pos_right _ g0
theorem pd_le {n d : Int} (h : d ≠ 0) : (pd n d).natAbs ≤ d.natAbs := by
  have a1 : d.natAbs = (pd n d).natAbs * (sgc n d).natAbs := by rw [← Int.natAbs_mul, pd_mul]
  have g0 : 0 < (sgc n d).natAbs := Int.natAbs_pos.mpr (sgc_ne h)
  rw [a1]
  exact Nat.le_mul_of_pos_right _ g0
theorem Low.neg {n d : Int} (h : Low n d) : Low (-n) d := ⟨h.pos, by rw [Int.natAbs_neg]; exact h.cop⟩
section
variable {P : Program} {w : World} {K : PySem.W.Frag} {mg : Str → Option Value} {base : Heap}
/-! ### Ratios -/
def rfl2 (n d : Int) : List (Str × V) := [("top", .int n), ("bottom", .int d)]
theorem r2_top (n d : Int) : (rfl2 n d).lookup ("top" : Str) = some (.int n) := rfl
theorem r2_bot (n d : Int) : (rfl2 n d).lookup ("bottom" : Str) = some (.int d) := by
  show (match (("bottom" : Str) == "top") with | true => some (V.int n) | false => List.lookup ("bottom" : Str) [("bottom", V.int d)]) = some (.int d)
  rw [show ((("bottom" : Str) == "top") = false) from by decide +kernel]
  rfl
theorem r2_put (n d : Int) : putF "bottom" (.int d) (putF "top" (.int n) []) = rfl2 n d := by
  show (if ("top" : Str) = "bottom" then [(("top" : Str), V.int d)] else (("top" : Str), V.int n) :: putF "bottom" (V.int d) []) = rfl2 n d
  rw [if_neg (show ¬ (("top" : Str) = "bottom") from by decide +kernel)]
  rfl
def RatAt (K : PySem.W.Frag) (H : Hp) (x : Addr) (n d : Int) : Prop := ∃ dx, H x = some (.ins (He.ga K "Ratio") dx (rfl2 n d))
theorem RatAt.mono {H H' : Hp} {x : Addr} {n d : Int} (h : RatAt K H x n d) (e : Same H H') : RatAt K H' x n d := by
  obtain ⟨dx, h⟩ := h
  exact ⟨dx, e _ _ h⟩
def spInit (K : PySem.W.Frag) : Sp := fun vs H Q E => ∃ (x dx : Addr) (n d : Int), vs = [.ref x, .int n, .int d] ∧ H x = some (.ins (He.ga K "Ratio") dx []) ∧ (d ≠ 0 → Bits 8000 (sgc n d)) ∧ (d = 0 → E (.ref (He.ga K "ByZero")) none H) ∧
  (d ≠ 0 → Q .non (upd H x (.ins (He.ga K "Ratio") dx (rfl2 (pn n d) (pd n d)))))
theorem ok_Ratio___init__ (T : Top w K mg) : FnOk P w K mg base (L2.CX P w) 1 (He.ma K (He.ga K ("Ratio" : Str)) ("__init__" : Str)) (fdOf K d_Ratio___init__) ["self", "numerator", "denominator"] (spInit K) := by
  refine (T.f_Ratio___init__).ok sc_Ratio___init__ (fun vs H Q E h => ?_) (fun cdv A outer s H vs Q E hr h => ?_)
  · obtain ⟨x, dx, n, d, rfl, _⟩ := h
    rfl
  · obtain ⟨x, dx, n, d, rfl, hx, hb, k0, k1⟩ := h
    refine ⟨_, (pss_cons (ps_if (pt_cmpR op_eq (pv 2) pe_int (nomark _))
    (pss_one (ps_raise rfl (takes_of rfl rfl rfl rfl) (pmk_own PySem.F.excBase_ValueError T.exc_ByZero.1 T.g_ByZero T.exc_ByZero.2.1 (raises_own T.exc_ByZero.2.2.1 T.exc_ByZero.2.2.2) rfl)))
    pss_nil)
    (pss_cons (ps_set (i := 3) sc_Ratio___init__.nd rfl (Or.inl rfl) (pe_callBfun cr_gcd rfl T.gcdM (pa_cons (pv 1) (pa_cons (pv 2) pa_nil))))
    (C8.pss_cut (ps_if (pt_cmpR op_lt (pv 2) pe_int (nomark _))
    (pss_one (ps_set (i := 3) sc_Ratio___init__.nd rfl (Or.inl rfl) (pe_un un_neg (pv 3))))
    pss_nil)
    (pss_cons (ps_fldK (K := K) rfl (pv 0) (pe_op op_fdivG (pv 1) (pv 3)) rfl)
    (pss_one (ps_fldK (K := K) rfl (pv 0) (pe_op op_fdivG (pv 2) (pv 3)) rfl)))))), ?_⟩
    walk_at "go"
    refine ite_d (fun c => ?_) (fun c => ?_)
    · exact k0 (vint_inj c)
    · walk_at "go"
      have hd : d ≠ 0 := vint_ne c
      refine r_cut (fun σ H' => σ = [some (.ref x), some (.int n), some (.int d), some (.int (sgc n d))] ∧ H' = H) ?_ ?_
      · walk_at "go"
        refine ite_d (fun c => ?_) (fun c => ?_)
        · walk_at "go"
          refine ⟨?_, rfl⟩
          have e : sgc n d = -(((n.natAbs.gcd d.natAbs : Nat)) : Int) := by rw [sgc, if_pos c] <;> rfl
          rw [e] <;> rfl
        · walk_at "go"
          refine ⟨?_, rfl⟩
          have e : sgc n d = (((n.natAbs.gcd d.natAbs : Nat)) : Int) := by rw [sgc, if_neg c] <;> rfl
          rw [e] <;> rfl
      · rintro σ H' ⟨rfl, rfl⟩
        have cd : ∀ i, CDivG i (sgc n d) := fun i => Bits.divG (sgc_ne hd) (hb hd) (by decide)
        walk_at "go"
        refine ⟨cd _, ?_⟩
        walk_at "go"
        refine ⟨_, _, _, _, rfl, hx, T.cls_Ratio, T.na_Ratio_top, (by show 0 < 1000; decide), ?_⟩
        walk_at "go"
        refine ⟨cd _, ?_⟩
        walk_at "go"
        refine ⟨_, _, _, _, rfl, upd_same, T.cls_Ratio, T.na_Ratio_bottom, (by show 1 < 1000; decide), ?_⟩
        have z := k1 hd
        rw [upd_upd]
        have e := r2_put (pn n d) (pd n d)
        show Q .non (upd H' x (.ins _ dx (putF "bottom" (.int (pd n d)) (putF "top" (.int (pn n d)) []))))
        rw [e]
        exact z
end
/-! ### plain data; sorted -/
mutual
def toP : Dt → Option PyData
  | .non => some .none
  | .bl b => some (.bool b)
  | .int i => some (.int i)
  | .str x => some (.str x)
  | .tup ds => match toPs ds with
    | some ps => some (.tuple ps)
    | none => none
  | .lst _ _ | .ty _ | .adr _ | .strm | .rat _ _ | .dic _ _ _ | .dit _ _ _ | .ins _ _ _ => none
def toPs : List Dt → Option (List PyData)
  | [] => some []
  | d :: ds => match toP d, toPs ds with
    | some p, some ps => some (p :: ps)
    | _, _ => none
end
mutual
theorem toP_dat {K : PySem.W.Frag} {B F H : Hp} (le : Le F H) : ∀ (d : Dt) (p : PyData) (v : V), toP d = some p → Rz K B F d v → DatV K H v p
  | .non, _, _, h, r => by simp only [toP] at h; cases h; rw [rz_n r]; exact .non
  | .bl b, _, _, h, r => by simp only [toP] at h; cases h; rw [rz_b r]; exact .bl b
  | .int i, _, _, h, r => by simp only [toP] at h; cases h; rw [rz_i r]; exact .int i
  | .str x, _, _, h, r => by simp only [toP] at h; cases h; rw [rz_s r]; exact .str x
  | .tup ds, _, _, h, r => by
    simp only [toP] at h
    split at h <;> first | cases h | skip
    rename_i ps e
    simp only [Rz] at r
    obtain ⟨a, xs, rfl, e1, r⟩ := r
    exact .tup (SqT.of (le.exact e1 rfl)) (toPs_dat le ds ps xs e r)
  | .lst _ _, _, _, h, _ => by simp only [toP] at h; cases h
  | .ty _, _, _, h, _ => by simp only [toP] at h; cases h
  | .adr _, _, _, h, _ => by simp only [toP] at h; cases h
  | .strm, _, _, h, _ => by simp only [toP] at h; cases h
  | .rat _ _, _, _, h, _ => by simp only [toP] at h; cases h
  | .dic _ _ _, _, _, h, _ => by simp only [toP] at h; cases h
  | .dit _ _ _, _, _, h, _ => by simp only [toP] at h; cases h
  | .ins _ _ _, _, _, h, _ => by simp only [toP] at h; cases h
theorem toPs_dat {K : PySem.W.Frag} {B F H : Hp} (le : Le F H) : ∀ (ds : List Dt) (ps : List PyData) (vs : List V), toPs ds = some ps → Rzl K B F ds vs → DatsV K H vs ps
  | [], _, _, h, r => by
    simp only [toPs] at h
    cases h
    rw [r.inv0]
    exact .nil
  | d :: ds, _, _, h, r => by
    simp only [toPs] at h
    split at h <;> first | cases h | skip
    rename_i p ps e1 e2
    obtain ⟨v, r', rfl, r1, r2⟩ := r.inv
    exact .cons (toP_dat le d p v e1 r1) (toPs_dat le ds ps r' e2 r2)
end
/-- data with the key it is sorted by -/
abbrev KD : Type := Dt × PyData
def sortZ (ps : List KD) : List KD := ps.mergeSort (PySem.W.dataLe false fun p : KD => p.2)
theorem sortZ_perm (ps : List KD) : (sortZ ps).Perm ps := List.mergeSort_perm _ _
abbrev KT3 : Type := V × Dt × PyData
theorem rzl_triples {K : PySem.W.Frag} {B F : Hp} : ∀ {ps : List KD} {xs : List V}, Rzl K B F (ps.map (·.1)) xs → ∃ ts : List KT3, ts.map (·.1) = xs ∧ ts.map (·.2) = ps ∧ ∀ t ∈ ts, Rz K B F t.2.1 t.1
  | [], _, h => ⟨[], h.inv0.symm, rfl, fun _ q => nomatch q⟩
  | p :: ps, _, h => by
    obtain ⟨v, r, rfl, h1, h2⟩ := h.inv
    obtain ⟨ts, e1, e2, h3⟩ := rzl_triples h2
    exact ⟨(v, p) :: ts, by rw [List.map_cons, e1], by rw [List.map_cons, e2], fun t q => by
      rcases List.mem_cons.mp q with rfl | q
      · exact h1
      · exact h3 t q⟩
theorem rzl_of_all {K : PySem.W.Frag} {B F : Hp} : ∀ {ts : List KT3}, (∀ t ∈ ts, Rz K B F t.2.1 t.1) → Rzl K B F ((ts.map (·.2)).map (·.1)) (ts.map (·.1))
  | [], _ => .nil
  | t :: ts, h => .cons (h t List.mem_cons_self) (rzl_of_all fun u q => h u (List.mem_cons_of_mem _ q))
/-- the sorted values read as the sorted data -/
theorem sorted_rzl {K : PySem.W.Frag} {B F : Hp} {ts : List KT3} (h : ∀ t ∈ ts, Rz K B F t.2.1 t.1) :
    Rzl K B F ((sortZ (ts.map (·.2))).map (·.1)) ((sortD (ts.map fun t => ((t.1, t.2.2) : VD))).map (·.1)) := by
  have e1 : sortZ (ts.map (·.2)) = (ts.mergeSort (PySem.W.dataLe false fun t : KT3 => t.2.2)).map (·.2) :=
    (List.map_mergeSort (f := fun t : KT3 => t.2) (r := PySem.W.dataLe false fun t : KT3 => t.2.2) (s := PySem.W.dataLe false fun p : KD => p.2) (l := ts) fun _ _ _ _ => rfl).symm
  have e2 : sortD (ts.map fun t => ((t.1, t.2.2) : VD)) = (ts.mergeSort (PySem.W.dataLe false fun t : KT3 => t.2.2)).map fun t => ((t.1, t.2.2) : VD) :=
    (List.map_mergeSort (f := fun t : KT3 => ((t.1, t.2.2) : VD)) (r := PySem.W.dataLe false fun t : KT3 => t.2.2) (s := PySem.W.dataLe false fun p : VD => p.2) (l := ts) fun _ _ _ _ => rfl).symm
  rw [e1, e2, List.map_map (g := fun (x : VD) => x.1)]
  exact rzl_of_all fun t q => h t (List.mem_mergeSort.mp q)
section
variable {z : Cz} {ρ : List Sl} {N : Dt → Bool → List Sl → Prop} {ta tb te : TE} {t : TA} {i : Nat}
theorem ze_sorted (h : ZE z ta ρ fun x _ ρ1 => ∃ t ps, x = .lst t (ps.map (·.1)) ∧ (∀ p ∈ ps, toP p.1 = some p.2 ∧ p.2.depth ≤ 8) ∧ PySem.W.AllAlike (ps.map (·.2)) ∧ PySem.W.Sortable (ps.map (·.2)) ∧ N (.lst true ((sortZ ps).map (·.1))) true ρ1) :
    ZE z (tCB (rSortedD z.K) (tCons ta tNil)) ρ N :=
  ze_CB1 (W := fun x N ρ1 => ∃ t ps, x = .lst t (ps.map (·.1)) ∧ (∀ p ∈ ps, toP p.1 = some p.2 ∧ p.2.depth ≤ 8) ∧ PySem.W.AllAlike (ps.map (·.2)) ∧ PySem.W.Sortable (ps.map (·.2)) ∧ N (.lst true ((sortZ ps).map (·.1))) true ρ1) (fun x ρ2 N n1 m F H σ Q vx S r k => by
    obtain ⟨t, ps, rfl, hp, hal, hs, n⟩ := n1
    simp only [Rz] at r
    obtain ⟨a, xs, rfl, e, _, r⟩ := r
    obtain ⟨ts, e1, e2, h3⟩ := rzl_triples r
    have e3 : (ts.map fun t => ((t.1, t.2.2) : VD)).map (·.2) = ps.map (·.2) := by rw [← e2, List.map_map, List.map_map]; rfl
    refine ⟨a, ts.map fun t => ((t.1, t.2.2) : VD), rfl, ?_, fun b hb => ?_, by rw [e3]; exact hal, by rw [e3]; exact hs, fun p hp' => ?_⟩
    · rw [List.map_map]
      refine SqL.of ?_
      rw [S.le.exact e rfl, ← e1]
      rfl
    · obtain ⟨t, ht, rfl⟩ := List.mem_map.mp hb
      obtain ⟨q1, q2⟩ := hp t.2 (by rw [← e2]; exact List.mem_map_of_mem ht)
      exact ⟨toP_dat S.le _ _ _ q1 (h3 t ht), q2⟩
    · have q := sorted_rzl h3
      rw [e2] at q
      exact k _ _ _ _ _ _ n (Same.refl F) (S.newO hp') (rzF_new S hp' (.lst q))) h
/-- sorted(xs, key=f) -/
theorem ze_sortK {K' : PySem.W.Frag} {f : Addr} {w : Wz} (hK : K' = z.K) (h : ZE z ta ρ fun x _ ρ1 => ∃ t ps, x = .lst t (ps.map (·.1)) ∧ (∀ p ∈ ps, p.2.depth ≤ 8 ∧ ∃ d, toP d = some p.2 ∧ ∀ Nv Ne, Nv d false → w [p.1.old] Nv Ne) ∧
    PySem.W.AllAlike (ps.map (·.2)) ∧ PySem.W.Sortable (ps.map (·.2)) ∧ N (.lst true ((sortZ ps).map (·.1))) true ρ1) :
    ZE z (tCKw (rSortK K' f (spZ z.K w)) (tCons ta tNil) (tCons (tC (.ref f)) tNil)) ρ N := fun m F H σ Q S k => by
  subst hK
  refine h m F H σ _ S fun x fx ρ1 F1 H1 vx n1 s1 S1 r1 => ?_
  obtain ⟨F2, s2, S2, rx⟩ := rzF_frz S1 r1
  obtain ⟨t, ps, rfl, hp, hal, hs, n⟩ := n1
  simp only [Rz] at rx
  obtain ⟨a, xs, rfl, e, _, r⟩ := rx
  obtain ⟨ts, e1, e2, h3⟩ := rzl_triples r
  have e3 : (ts.map fun t => ((t.1, t.2.2) : VD)).map (·.2) = ps.map (·.2) := by rw [← e2, List.map_map, List.map_map]; rfl
  have elen : (ts.map fun t => ((t.1, t.2.2) : VD)).length = ps.length := by rw [← e2]; simp
  refine ⟨a, ts.map fun t => ((t.1, t.2.2) : VD), rfl, rfl, ?_, fun b hb => ?_, by rw [e3]; exact hal, by rw [e3]; exact hs,
    fun i ys H' => ∃ F' ks, Same F2 F' ∧ Sm z m F' H' σ ρ1 ∧ Rzl z.K m.B F' ks ys ∧ toPs ks = some ((ps.map (·.2)).take i), ?_, ?_, ?_⟩
  · rw [List.map_map]
    refine SqL.of ?_
    rw [S2.le.exact e rfl, ← e1]
    rfl
  · obtain ⟨t, ht, rfl⟩ := List.mem_map.mp hb
    exact (hp t.2 (by rw [← e2]; exact List.mem_map_of_mem ht)).1
  · exact ⟨F2, [], Same.refl F2, S2, .nil, by simp [toPs]⟩
  · rintro i b ys H' hb ⟨F', ks, s', S', rk, ek⟩
    rw [List.getElem?_map] at hb
    cases q : ts[i]? with
    | none => rw [q] at hb; cases hb
    | some tr =>
      rw [q] at hb
      cases hb
      have hm : tr ∈ ts := List.mem_of_getElem? q
      have hps : ps[i]? = some tr.2 := by rw [← e2, List.getElem?_map, q]; rfl
      obtain ⟨_, d, hd, hw⟩ := hp tr.2 (List.mem_of_getElem? hps)
      refine ⟨F', [tr.2.1.old], fun d' fr => d' = d ∧ fr = false, fun _ _ => False, S'.le, .cons (rz_old _ _ (rz_mono s' _ _ (h3 tr hm))) .nil, hw _ _ ⟨rfl, rfl⟩, ?_, fun _ _ _ _ f => f.elim⟩
      rintro d' fr F'' H'' v ⟨rfl, rfl⟩ g
      obtain ⟨S3, r3⟩ := S'.got g
      refine ⟨F'', ks ++ [d'], s'.trans g.1, S3, (rzl_mono g.1 _ _ rk).app (.cons r3 .nil), ?_⟩
      have ap : ∀ {as : List Dt} {bs : List PyData}, toPs as = some bs → toPs (as ++ [d']) = some (bs ++ [tr.2.2]) := fun {as} => by
        induction as with
        | nil =>
          intro bs q
          simp only [toPs] at q
          cases q
          simp only [List.nil_append, toPs, hd]
        | cons x as ih =>
          intro bs q
          simp only [toPs] at q
          split at q <;> first | cases q | skip
          rename_i p ps' h1 h2
          simp only [List.cons_append, toPs, h1, ih h2]
      rw [ap ek, take_succ_get2 (x := tr.2.2) (by rw [List.getElem?_map, hps]; rfl)]
  · rintro ys H' ⟨F', ks, s', S', rk, ek⟩
    rw [elen, List.take_of_length_le (by rw [List.length_map]; exact Nat.le_refl _)] at ek
    refine ⟨by rw [e3]; exact toPs_dat S'.le _ _ _ ek rk, fun p hp' => ?_⟩
    have q := sorted_rzl fun t ht => rz_mono s' _ _ (h3 t ht)
    rw [e2] at q
    exact k _ _ _ _ _ _ n ((s1.trans s2).trans s') (S'.newO hp') (rzF_new S' hp' (.lst q))
/-- name = [..] -/
theorem zs_setlc {wi : TI} {g : TG} {tt : TT} {vs : List Nat} {D : Zn} (h : ZE z (tLockLE (tLc wi g tt te vs)) ρ fun d fr ρ1 => ZG z (gName i) d fr ρ1 D.nx) : ZS z (tLockL (tAsg (tLc wi g tt te vs) (gName i))) ρ D := fun m F H σ E S kn kr kb kc =>
  h m F H σ (fun x H1 => E.nx (σ.set i (some x)) H1) S fun d fr ρ1 F1 H1 v n1 s1 S1 r1 => n1 m F1 H1 σ v (fun σ2 H2 => E.nx σ2 H2) S1 r1 fun ρ2 F2 H2 σ2 n2 s2 => kn ρ2 F2 H2 σ2 n2 (s1.trans s2)
/-- a plain comparison of two lists or tuples -/
theorem toP_dp {K : PySem.W.Frag} {B F H : Hp} (le : Le F H) {d : Dt} {p : PyData} {v : V} (h : toP d = some p) (r : Rz K B F d v) : DatV K H v p := toP_dat le d p v h r
end
/-! ### Ratios -/
section
variable {z : Cz} {ρ : List Sl} {N : Dt → Bool → List Sl → Prop} {t : TA} {E : XK}
theorem sm_ins {m : Fm} {F H : Hp} {σ : L2.St} {C : Addr} {fs : List (Str × V)} {x dx : Addr} (S : Sm z m F H σ ρ) (hx : H x = none) (hd : H dx = none) (ne : dx ≠ x) :
    Same F (upd F x (.ins C dx fs)) ∧ Sm z m (upd F x (.ins C dx fs)) (upd (upd H dx (.own x)) x (.ins C dx fs)) σ ρ := by
  have S1 := S.newO (o := .own x) hd
  exact S1.new (o := .ins C dx fs) (by rw [upd_ne (Ne.symm ne)]; exact hx)
theorem ze_ratio {dvs : List V} (h : ZA z t ρ fun ds ρ1 => ∃ n d, ((ds = [.int n, .int d] ∧ dvs = []) ∨ (ds = [.int n] ∧ dvs = [.int d])) ∧ d ≠ 0 ∧ Bits 8000 (sgc n d) ∧ N (.rat (pn n d) (pd n d)) false ρ1) : ZE z (tMake (He.ga z.K "Ratio") (spInit z.K) dvs E t) ρ N := fun m F H σ Q S k => by
  refine h m F H σ _ S fun ds ρ1 F1 H1 vs n1 s1 S1 r1 x dx hx hd ne => ?_
  obtain ⟨n, d, hds, h0, hb, n1⟩ := n1
  have ev : vs ++ dvs = [.int n, .int d] := by
    rcases hds with ⟨rfl, rfl⟩ | ⟨rfl, rfl⟩
    · obtain ⟨v, r, rfl, q1, q2⟩ := r1.inv
      obtain ⟨v2, r, rfl, q3, q4⟩ := q2.inv
      rw [rz_i q1, rz_i q3, q4.inv0]
      rfl
    · obtain ⟨v, r, rfl, q1, q2⟩ := r1.inv
      rw [rz_i q1, q2.inv0]
      rfl
  rw [ev]
  refine ⟨x, dx, n, d, rfl, upd_same, fun _ => hb, fun z => absurd z h0, fun _ => ⟨rfl, ?_⟩⟩
  rw [upd_upd]
  obtain ⟨s2, S2⟩ := sm_ins (C := He.ga z.K "Ratio") (fs := rfl2 (pn n d) (pd n d)) S1 hx hd ne
  exact k _ _ _ _ _ _ n1 (s1.trans s2) S2 (rzF_f (show Rz z.K m.B _ (.rat _ _) _ by simp only [Rz]; exact ⟨x, dx, rfl, upd_same⟩))
theorem pn_one (n : Int) : pn n 1 = n ∧ pd n 1 = 1 := ⟨pn_low ⟨by decide, by simp⟩, pd_low ⟨by decide, by simp⟩⟩
theorem sgc_one (n : Int) : Bits 8000 (sgc n 1) := by
  have := sgc_abs (n := n) (d := 1) (by decide)
  exact Bits.small (by omega) (by decide)
/-- a draw -/
theorem ze_draw (h : ZA z t ρ fun ds ρ1 => ∃ n, ds = [.strm, .int n] ∧ 0 < n ∧ n < 18446744073709551616 ∧ ∀ v, 0 ≤ v → v < n → N (.int v) false ρ1) : ZE z (tCall spDraw [] E t) ρ N := fun m F H σ Q S k => by
  refine h m F H σ _ S fun ds ρ1 F1 H1 vs n1 s1 S1 r1 => ?_
  obtain ⟨n, rfl, h0, h1, n1⟩ := n1
  obtain ⟨v, r, rfl, q1, q2⟩ := r1.inv
  obtain ⟨v2, r, rfl, q3, q4⟩ := q2.inv
  obtain rfl := rz_i q3
  obtain rfl := q4.inv0
  simp only [Rz] at q1
  obtain ⟨s0, rfl, l, ns, e1, e2, e3⟩ := q1
  rw [List.append_nil]
  exact ⟨s0, n, rfl, ⟨l, ns, S1.le.exact e1 rfl, S1.le.exact e2 rfl, e3⟩, h0, h1, fun v a b => k _ _ _ _ _ _ (n1 v a b) s1 S1 (rzF_f rzi)⟩
end
/-! ### plain data with lists; == and in -/
mutual
def toQ : Dt → Option PyData
  | .non => some .none
  | .bl b => some (.bool b)
  | .int i => some (.int i)
  | .str x => some (.str x)
  | .tup ds => match toQs ds with
    | some ps => some (.tuple ps)
    | none => none
  | .lst _ ds => match toQs ds with
    | some ps => some (.list ps)
    | none => none
  | .ty _ | .adr _ | .strm | .rat _ _ | .dic _ _ _ | .dit _ _ _ | .ins _ _ _ => none
def toQs : List Dt → Option (List PyData)
  | [] => some []
  | d :: ds => match toQ d, toQs ds with
    | some p, some ps => some (p :: ps)
    | _, _ => none
end
mutual
theorem toQ_dp {K : PySem.W.Frag} {B F H : Hp} (le : Le F H) : ∀ (d : Dt) (p : PyData) (v : V), toQ d = some p → Rz K B F d v → Dp K H v p
  | .non, _, _, h, r => by simp only [toQ] at h; cases h; rw [rz_n r]; exact .non
  | .bl b, _, _, h, r => by simp only [toQ] at h; cases h; rw [rz_b r]; exact .bl b
  | .int i, _, _, h, r => by simp only [toQ] at h; cases h; rw [rz_i r]; exact .int i
  | .str x, _, _, h, r => by simp only [toQ] at h; cases h; rw [rz_s r]; exact .str x
  | .tup ds, _, _, h, r => by
    simp only [toQ] at h
    split at h <;> first | cases h | skip
    rename_i ps e
    simp only [Rz] at r
    obtain ⟨a, xs, rfl, e1, r⟩ := r
    exact .tup (SqT.of (le.exact e1 rfl)) (toQs_dp le ds ps xs e r)
  | .lst _ ds, _, _, h, r => by
    simp only [toQ] at h
    split at h <;> first | cases h | skip
    rename_i ps e
    simp only [Rz] at r
    obtain ⟨a, xs, rfl, e1, _, r⟩ := r
    exact .lst (SqL.of (le.exact e1 rfl)) (toQs_dp le ds ps xs e r)
  | .ty _, _, _, h, _ => by simp only [toQ] at h; cases h
  | .adr _, _, _, h, _ => by simp only [toQ] at h; cases h
  | .strm, _, _, h, _ => by simp only [toQ] at h; cases h
  | .rat _ _, _, _, h, _ => by simp only [toQ] at h; cases h
  | .dic _ _ _, _, _, h, _ => by simp only [toQ] at h; cases h
  | .dit _ _ _, _, _, h, _ => by simp only [toQ] at h; cases h
  | .ins _ _ _, _, _, h, _ => by simp only [toQ] at h; cases h
theorem toQs_dp {K : PySem.W.Frag} {B F H : Hp} (le : Le F H) : ∀ (ds : List Dt) (ps : List PyData) (vs : List V), toQs ds = some ps → Rzl K B F ds vs → DpAll K H vs ps
  | [], _, _, h, r => by
    simp only [toQs] at h
    cases h
    rw [r.inv0]
    exact .nil
  | d :: ds, _, _, h, r => by
    simp only [toQs] at h
    split at h <;> first | cases h | skip
    rename_i p ps e1 e2
    obtain ⟨v, r', rfl, r1, r2⟩ := r.inv
    exact .cons (toQ_dp le d p v e1 r1) (toQs_dp le ds ps r' e2 r2)
end
section
variable {z : Cz} {ρ : List Sl} {N : Dt → Bool → List Sl → Prop} {ta tb : TE}
theorem ze_eqD (h : ZE z ta ρ fun x _ ρ1 => ZE z tb ρ1 fun y _ ρ2 => ∃ p q, toQ x = some p ∧ toQ y = some q ∧ SeqAt.shaped p = true ∧ SeqAt.shaped q = true ∧ N (.bl (PyData.eqv p q)) false ρ2) : ZE z (tOp (rEqD z.K) ta tb) ρ N :=
  ze_op2w (W := fun x y N ρ2 => ∃ p q, toQ x = some p ∧ toQ y = some q ∧ SeqAt.shaped p = true ∧ SeqAt.shaped q = true ∧ N (.bl (PyData.eqv p q)) false ρ2) (fun x y ρ2 N n2 m F H σ Q vx vy S r1 r2 k => by
    obtain ⟨p, q, h1, h2, h3, h4, n⟩ := n2
    exact ⟨p, q, toQ_dp S.le x p vx h1 r1, toQ_dp S.le y q vy h2 r2, h3, h4, k _ _ _ _ _ _ n (Same.refl F) S (rzF_f rzb)⟩) h
theorem ze_neD (h : ZE z ta ρ fun x _ ρ1 => ZE z tb ρ1 fun y _ ρ2 => ∃ p q, toQ x = some p ∧ toQ y = some q ∧ SeqAt.shaped p = true ∧ SeqAt.shaped q = true ∧ N (.bl (!PyData.eqv p q)) false ρ2) : ZE z (tOp (rNeD z.K) ta tb) ρ N :=
  ze_op2w (W := fun x y N ρ2 => ∃ p q, toQ x = some p ∧ toQ y = some q ∧ SeqAt.shaped p = true ∧ SeqAt.shaped q = true ∧ N (.bl (!PyData.eqv p q)) false ρ2) (fun x y ρ2 N n2 m F H σ Q vx vy S r1 r2 k => by
    obtain ⟨p, q, h1, h2, h3, h4, n⟩ := n2
    exact ⟨p, q, toQ_dp S.le x p vx h1 r1, toQ_dp S.le y q vy h2 r2, h3, h4, k _ _ _ _ _ _ n (Same.refl F) S (rzF_f rzb)⟩) h
theorem ze_inD (h : ZE z ta ρ fun x _ ρ1 => ZE z tb ρ1 fun y _ ρ2 => ∃ p t ds ps, toQ x = some p ∧ y = .lst t ds ∧ toQs ds = some ps ∧ SeqAt.shaped p = true ∧ SeqAt.shaped (.list ps) = true ∧ N (.bl (ps.any fun z => PyData.eqv z p)) false ρ2) : ZE z (tOp (rInD z.K) ta tb) ρ N :=
  ze_op2w (W := fun x y N ρ2 => ∃ p t ds ps, toQ x = some p ∧ y = .lst t ds ∧ toQs ds = some ps ∧ SeqAt.shaped p = true ∧ SeqAt.shaped (.list ps) = true ∧ N (.bl (ps.any fun z => PyData.eqv z p)) false ρ2) (fun x y ρ2 N n2 m F H σ Q vx vy S r1 r2 k => by
    obtain ⟨p, t, ds, ps, h1, rfl, h2, h3, h4, n⟩ := n2
    exact ⟨p, ps, toQ_dp S.le x p vx h1 r1, toQ_dp S.le _ (.list ps) vy (by simp only [toQ, h2]) r2, h3, h4, k _ _ _ _ _ _ n (Same.refl F) S (rzF_f rzb)⟩) h
theorem ze_notInD (h : ZE z ta ρ fun x _ ρ1 => ZE z tb ρ1 fun y _ ρ2 => ∃ p t ds ps, toQ x = some p ∧ y = .lst t ds ∧ toQs ds = some ps ∧ SeqAt.shaped p = true ∧ SeqAt.shaped (.list ps) = true ∧ N (.bl (!ps.any fun z => PyData.eqv z p)) false ρ2) : ZE z (tOp (rNotInD z.K) ta tb) ρ N :=
  ze_op2w (W := fun x y N ρ2 => ∃ p t ds ps, toQ x = some p ∧ y = .lst t ds ∧ toQs ds = some ps ∧ SeqAt.shaped p = true ∧ SeqAt.shaped (.list ps) = true ∧ N (.bl (!ps.any fun z => PyData.eqv z p)) false ρ2) (fun x y ρ2 N n2 m F H σ Q vx vy S r1 r2 k => by
    obtain ⟨p, t, ds, ps, h1, rfl, h2, h3, h4, n⟩ := n2
    exact ⟨p, ps, toQ_dp S.le x p vx h1 r1, toQ_dp S.le _ (.list ps) vy (by simp only [toQ, h2]) r2, h3, h4, k _ _ _ _ _ _ n (Same.refl F) S (rzF_f rzb)⟩) h
end
/-! ### small -/
theorem zT {c A B : Prop} [Decidable c] (h : c) (a : A) : if c then A else B := by rw [if_pos h]; exact a
theorem zF {c A B : Prop} [Decidable c] (h : ¬ c) (b : B) : if c then A else B := by rw [if_neg h]; exact b
theorem atI_k {α : Type} {xs : List α} {k : Nat} {x : α} (h : xs[k]? = some x) : atI xs (k : Int) = some x := by
  unfold atI
  rw [Evl.ixN_nat (List.getElem?_eq_some_iff.mp h).1]
  exact h
theorem cut1 {x : Dt} {xs : List Dt} : cutD (x :: xs) (some 1) none = xs := by
  unfold cutD HT.sIx
  simp
theorem cutN {x : Dt} {xs : List Dt} : ¬ (HT.sIx (x :: xs).length 0 (some 1) = 0 ∧ HT.sIx (x :: xs).length (x :: xs).length none = (x :: xs).length) := by
  unfold HT.sIx
  simp
theorem zD {c A B : Prop} [Decidable c] (a : c → A) (b : ¬ c → B) : if decide c = true then A else B := by
  by_cases h : c
  · rw [if_pos (by simpa using h)]; exact a h
  · rw [if_neg (by simpa using h)]; exact b h
theorem zB {x : Bool} {A B : Prop} (a : x = true → A) (b : x = false → B) : if x = true then A else B := by
  cases x
  · rw [if_neg (by decide)]; exact b rfl
  · rw [if_pos rfl]; exact a rfl
/-! ### stars, tuples, sums -/
section
variable {z : Cz} {ρ : List Sl} {N : Dt → Bool → List Sl → Prop} {L : List Dt → List Sl → Prop} {ta tb te : TE} {t : TA} {i j : Nat}
inductive SeqD : Dt → List Dt → Prop
  | lst (t : Bool) (ds : List Dt) : SeqD (.lst t ds) ds
  | tup (ds : List Dt) : SeqD (.tup ds) ds
theorem SeqD.rz {K : PySem.W.Frag} {B F H : Hp} {d : Dt} {ds : List Dt} {v : V} (h : SeqD d ds) (r : Rz K B F d v) (le : Le F H) (K' : PySem.W.Frag) : ∃ p xs, v = .ref p ∧ (SqT K' H p xs ∨ SqL K' H p xs) ∧ Rzl K B F ds xs := by
  cases h with
  | lst t ds =>
    simp only [Rz] at r
    obtain ⟨a, xs, rfl, e, _, r⟩ := r
    exact ⟨a, xs, rfl, .inr (SqL.of (le.exact e rfl)), r⟩
  | tup ds =>
    simp only [Rz] at r
    obtain ⟨a, xs, rfl, e, r⟩ := r
    exact ⟨a, xs, rfl, .inl (SqT.of (le.exact e rfl)), r⟩
theorem za_star {K' : PySem.W.Frag} (h : ZE z te ρ fun x _ ρ1 => ∃ ds, SeqD x ds ∧ ZA z t ρ1 fun es ρ2 => L (ds ++ es) ρ2) : ZA z (StX.tStar K' te t) ρ L := fun m F H σ Q S k => by
  refine h m F H σ _ S fun x fx ρ1 F1 H1 vx n1 s1 S1 r1 => ?_
  obtain ⟨F2, s2, S2, rx⟩ := rzF_frz S1 r1
  obtain ⟨ds, sq, n1⟩ := n1
  obtain ⟨p, xs, rfl, hs, r⟩ := sq.rz rx S2.le K'
  exact ⟨p, xs, rfl, hs, n1 m F2 H1 σ _ S2 fun es ρ' F' H' vs n s S' re => k _ _ _ _ _ n ((s1.trans s2).trans s) S' ((rzl_mono s _ _ r).app re)⟩
/-- tuple(x) -/
def rTupOf (K : PySem.W.Frag) : List V → Hp → VK → Prop := fun xs H Q => ∃ p ys, xs = [.ref p] ∧ ((SqL K H p ys ∧ ∀ l, H l = none → Q (.ref l) (upd H l (.tup ys))) ∨ (SqT K H p ys ∧ Q (.ref p) H))
theorem ze_tupOf {K' : PySem.W.Frag} (h : ZE z ta ρ fun x _ ρ1 => ∃ ds, SeqD x ds ∧ N (.tup ds) false ρ1) : ZE z (tCB (fun xs H Q => ∃ p ys, xs = [.ref p] ∧ ((SqL K' H p ys ∧ ∀ l, H l = none → Q (.ref l) (upd H l (.tup ys))) ∨ (SqT K' H p ys ∧ Q (.ref p) H))) (tCons ta tNil)) ρ N :=
  ze_CB1 (W := fun x N ρ1 => ∃ ds, SeqD x ds ∧ N (.tup ds) false ρ1) (fun x ρ2 N n1 m F H σ Q vx S r k => by
    obtain ⟨ds, hl, q⟩ := n1
    cases hl with
    | lst t ds =>
      simp only [Rz] at r
      obtain ⟨a, xs, rfl, e, _, r⟩ := r
      refine ⟨a, xs, rfl, .inl ⟨SqL.of (S.le.exact e rfl), fun p hp => ?_⟩⟩
      obtain ⟨s2, S2⟩ := S.new (o := .tup xs) hp
      exact k _ _ _ _ _ _ q s2 S2 (show Rz z.K m.B _ (.tup ds) _ by simp only [Rz]; exact ⟨p, xs, rfl, upd_same, rzl_mono s2 _ _ r⟩)
    | tup ds =>
      have r' := r
      simp only [Rz] at r
      obtain ⟨a, xs, rfl, e, r⟩ := r
      exact ⟨a, xs, rfl, .inr ⟨SqT.of (S.le.exact e rfl), k _ _ _ _ _ _ q (Same.refl F) S (rzF_f r')⟩⟩) h
theorem rzl_ints {K : PySem.W.Frag} {B F : Hp} : ∀ {is : List Int} {xs : List V}, Rzl K B F (is.map Dt.int) xs → xs = is.map V.int
  | [], _, r => r.inv0
  | i :: is, _, r => by
    obtain ⟨v, r', rfl, r1, r2⟩ := r.inv
    rw [rz_i r1, rzl_ints r2]
    rfl
theorem ze_sum {K' : PySem.W.Frag} (h : ZE z ta ρ fun x _ ρ1 => ∃ (t : Bool) (is : List Int), x = .lst t (is.map Dt.int) ∧ N (.int is.sum) false ρ1) : ZE z (tCB (rSum K') (tCons ta tNil)) ρ N :=
  ze_CB1 (W := fun x N ρ1 => ∃ (t : Bool) (is : List Int), x = .lst t (is.map Dt.int) ∧ N (.int is.sum) false ρ1) (fun x ρ2 N n1 m F H σ Q vx S r k => by
    obtain ⟨t, is, rfl, q⟩ := n1
    simp only [Rz] at r
    obtain ⟨a, xs, rfl, e, _, r⟩ := r
    refine ⟨a, is, rfl, ?_, k _ _ _ _ _ _ q (Same.refl F) S (rzF_f rzi)⟩
    rw [← rzl_ints r]
    exact SqL.of (S.le.exact e rfl)) h
/-- t + u of tuples, the first not empty -/
theorem ze_catT {K' : PySem.W.Frag} (h : ZE z ta ρ fun x _ ρ1 => ZE z tb ρ1 fun y _ ρ2 => ∃ ds es, x = .tup ds ∧ y = .tup es ∧ ds ≠ [] ∧ ds.length + es.length ≤ 100000 ∧ N (.tup (ds ++ es)) false ρ2) : ZE z (tOp (rCatT K') ta tb) ρ N :=
  ze_op2w (W := fun x y N ρ2 => ∃ ds es, x = .tup ds ∧ y = .tup es ∧ ds ≠ [] ∧ ds.length + es.length ≤ 100000 ∧ N (.tup (ds ++ es)) false ρ2) (fun x y ρ2 N n2 m F H σ Q vx vy S r1 r2 k => by
    obtain ⟨ds, es, rfl, rfl, hne, hl, n⟩ := n2
    have r1' := r1
    simp only [Rz] at r1 r2
    obtain ⟨a, xs, rfl, h1, r1⟩ := r1
    obtain ⟨b, ys, rfl, h2, r2⟩ := r2
    refine ⟨a, b, xs, ys, rfl, rfl, SqT.of (S.le.exact h1 rfl), SqT.of (S.le.exact h2 rfl), fun q => ?_, by rw [r1.len, r2.len, sizeLine_eq]; omega, fun q => ?_, fun q p hp => ?_⟩
    · have := r1.len
      rw [q] at this
      exact hne (List.eq_nil_of_length_eq_zero this.symm)
    · have := r2.len
      rw [q] at this
      have e0 := List.eq_nil_of_length_eq_zero this.symm
      rw [e0, List.append_nil] at n
      exact k _ _ _ _ _ _ n (Same.refl F) S (rzF_f r1')
    · obtain ⟨s2, S2⟩ := S.new (o := .tup (xs ++ ys)) hp
      exact k _ _ _ _ _ _ n s2 S2 (show Rz z.K m.B _ (.tup (ds ++ es)) _ by simp only [Rz]; exact ⟨p, xs ++ ys, rfl, upd_same, rzl_mono s2 _ _ (r1.app r2)⟩)) h
/-- int(b) -/
theorem ze_intOf {r : List V → Hp → VK → Prop} (hr : r = fun xs H Q => (∃ i, xs = [.int i] ∧ Q (.int i) H) ∨ ∃ k, xs = [.bl k] ∧ Q (.int (if k then 1 else 0)) H)
    (h : ZE z ta ρ fun x _ ρ1 => (∃ i, x = .int i ∧ N (.int i) false ρ1) ∨ ∃ k, x = .bl k ∧ N (.int (if k = true then 1 else 0)) false ρ1) : ZE z (tCB r (tCons ta tNil)) ρ N :=
  ze_CB1 (W := fun x N ρ1 => (∃ i, x = .int i ∧ N (.int i) false ρ1) ∨ ∃ k, x = .bl k ∧ N (.int (if k = true then 1 else 0)) false ρ1) (fun x ρ2 N n1 m F H σ Q vx S r k => by
    subst hr
    rcases n1 with ⟨i, rfl, q⟩ | ⟨b, rfl, q⟩
    · exact .inl ⟨i, by rw [rz_i r], k _ _ _ _ _ _ q (Same.refl F) S (rzF_f rzi)⟩
    · exact .inr ⟨b, by rw [rz_b r], k _ _ _ _ _ _ q (Same.refl F) S (rzF_f rzi)⟩) h
/-! ### an owned variable, compared -/
theorem Sm.own_dp {m : Fm} {F H : Hp} {σ : L2.St} (S : Sm z m F H σ ρ) {t : Bool} {ds : List Dt} {p : PyData} {a : Addr} (h : ρ[i]? = some (.o (.lst t ds))) (hv : σ[i]? = some (some (.ref a))) (hp : toQ (.lst t ds) = some p) : Dp z.K H (.ref a) p := by
  obtain ⟨l, e, _, _, _, ho, h4, h5⟩ := S.geto h
  rw [hv] at e
  cases e
  cases h5 with
  | lst r =>
    simp only [toQ] at hp
    split at hp <;> first | cases hp | skip
    rename_i ps e2
    exact .lst (SqL.of h4) (toQs_dp S.le ds ps _ e2 r)
theorem ze_neDv {K' : PySem.W.Frag} (hK : K' = z.K) {c0 : Dt} (h0 : ρ[i]? = some (.o c0)) (h : ZE z tb ρ fun y _ ρ2 => ∃ t ds p q, ρ2[i]? = some (.o (.lst t ds)) ∧ toQ (.lst t ds) = some p ∧ toQ y = some q ∧ SeqAt.shaped p = true ∧ SeqAt.shaped q = true ∧ N (.bl (!PyData.eqv p q)) false ρ2) : ZE z (tOp (rNeD K') (tVar i) tb) ρ N := fun m F H σ Q S k => by
  subst hK
  obtain ⟨l, e, _⟩ := S.geto h0
  refine ⟨_, e, h m F H σ _ S fun y fy ρ2 F2 H2 vy n2 s2 S2 r2 => ?_⟩
  obtain ⟨F3, s3, S3, ry⟩ := rzF_frz S2 r2
  obtain ⟨t, ds, p, q, hi, h1, h2, h3, h4, n⟩ := n2
  exact ⟨p, q, S3.own_dp hi e h1, toQ_dp S3.le y q vy h2 ry, h3, h4, k _ _ _ _ _ _ n (s2.trans s3) S3 (rzF_f rzb)⟩
/-- isinstance of an owned variable -/
theorem ze_isiv {c : V} {u : Value} (hc : ClsV c u) {d0 : Dt} (h0 : ρ[i]? = some (.o d0)) {t : Value} {b : Bool} (ht : TyD z.K d0 t) (hb : PySem.W.kitOne z.K t u = some b) (n : N (.bl b) false ρ) : ZE z (tCB (rIsi z.K) (tCons (tVar i) (tCons (tC c) tNil))) ρ N := fun m F H σ Q S k => by
  obtain ⟨l, e, h1, h2, h3, ho, h4, h5⟩ := S.geto h0
  refine ⟨_, e, _, c, _, u, b, rfl, hc, ?_, hb, k _ _ _ _ _ _ n (Same.refl F) S (rzF_f rzb)⟩
  have r := h5.rz h2 h1
  refine tyD_ok ht r (H := H) fun a o q => ?_
  by_cases c : a = l
  · subst c
    rw [upd_same] at q
    cases q
    exact .inl h4
  · rw [upd_ne c] at q
    exact S.le a o q
end
section
variable {z : Cz} {ρ : List Sl} {wi : TI} {g : TG} {tt : TT} {te : TE} {vs : List Nat} {N : Dt → Bool → List Sl → Prop}
/-- [te for g in .. if tt]: what the turns may give -/
theorem ze_lcW (h : ZI z wi ρ fun ds ρ1 bp bm => bp ρ1 ∧ okW ρ1 vs = true ∧ ds.length ≤ 100000 ∧ ∃ W : Nat → List Dt → Prop, W 0 [] ∧
    (∀ i d ad, ds[i]? = some d → W i ad → ZGw z g vs d (wipeZ ρ1 vs) fun ρ2 => ZT z tt ρ2 fun b ρ3 => if b = true then ZE z te ρ3 fun y _ ρ4 => wipeZ ρ4 vs = wipeZ ρ1 vs ∧ W (i + 1) (ad ++ [y]) else wipeZ ρ3 vs = wipeZ ρ1 vs ∧ W (i + 1) ad) ∧
    ∀ ad, W ds.length ad → N (.lst true ad) true (bm ρ1)) : ZE z (tLockLE (tLc wi g tt te vs)) ρ N := fun m F H σ Q S k => by
  refine h m F H σ _ S fun ds ρ1 bp bm m' un F1 H1 Jt n1 s1 B S1 it => ?_
  obtain ⟨hbp, hw, hz, W, w0, hf, n⟩ := n1
  obtain ⟨n', G, Y, wk, rfl, gk, yk⟩ := it
  intro D hD
  have hB := S1.dom D hD
  have hJ := S1.j_none hD
  have hh : ¬ m'.hd D := fun q => by
    obtain ⟨_, o, q2, _⟩ := S1.hid D q
    rw [hJ] at q2
    cases q2
  have hs : ∀ (i : Nat) (d : Dt), (wipeZ ρ1 vs)[i]? ≠ some (.l D d) := fun i d e => by
    obtain ⟨ov, _, _, q1, _⟩ := (S1.wipe vs).get e
    exact hh q1
  refine lc_it wk (fun i H2 => ∃ F2 acc ad, W i ad ∧ ad.length ≤ i ∧ Same F1 F2 ∧ Sm z (m'.pin D (.lst acc)) F2 H2 (L2.wipe σ vs) (wipeZ ρ1 vs) ∧ Rzl z.K m'.B F2 ad acc) ?_ ?_ ?_ ?_
  · exact ⟨F1, [], [], w0, Nat.le_refl _, Same.refl F1, (S1.wipe vs).pinNew hD rfl rfl, .nil⟩
  · rintro i H2 hi ⟨F2, acc, ad, wa, la, s2, S2, r2⟩
    have b2 : Same m'.J H2 := fun a u q => S2.base a u (by
      show upd m'.J D _ a = _
      rw [upd_ne (fun c => by rw [c, hJ] at q; cases q)]
      exact q)
    exact gk F2 H2 s2 S2.le b2
  · rintro i x H2 H3 hi ⟨F2, acc, ad, wa, la, s2, S2, r2⟩ y
    obtain ⟨F3, s3, S3, rx⟩ := yk (m'.pin D (.lst acc)) i ds[i] F2 H2 H3 x _ _ rfl (List.getElem?_eq_getElem hi) s2 S2 y
    have hd : ds[i]? = some ds[i] := List.getElem?_eq_getElem hi
    refine hf i ds[i] ad hd wa (m'.pin D (.lst acc)) F3 H3 _ x _ S3 rx fun ρ2 F4 H4 σ2 n2 s4 S4 w4 => ?_
    rw [wipe_wipe] at w4
    refine ⟨w4, n2 _ F4 H4 σ2 _ S4 fun b ρ3 F5 H5 n3 s5 S5 => ?_⟩
    have ss := s2.trans (s3.trans (s4.trans s5))
    cases b with
    | false =>
      obtain ⟨e1, e2⟩ := n3
      refine ⟨F5, acc, ad, e2, by omega, ss, ?_, rzl_mono (s3.trans (s4.trans s5)) _ _ r2⟩
      have := S5.wipe vs
      rw [e1, w4] at this
      exact this
    | true =>
      refine n3 _ F5 H5 σ2 _ S5 fun yd fy ρ4 F6 H6 vy n4 s6 S6 r6 => ?_
      obtain ⟨F7, s7, S7, ry⟩ := rzF_frz S6 r6
      obtain ⟨e1, e2⟩ := n4
      have hD6 : H6 D = some (.lst acc) := S7.base D _ upd_same
      have S8 := S7.wipe vs
      rw [e1, w4] at S8
      have sf := s3.trans (s4.trans (s5.trans (s6.trans s7)))
      refine ⟨acc, hD6, ?_, F7, acc ++ [vy], ad ++ [yd], e2, by rw [List.length_append, List.length_singleton]; omega, s2.trans sf, S8.repin hB hJ hh rfl rfl rfl hs, ?_⟩
      · rw [r2.len, sizeLine_eq]
        omega
      · exact (rzl_mono sf _ _ r2).app (.cons ry .nil)
  · rintro H2 ⟨F2, acc, ad, wa, la, s2, S2, r2⟩
    obtain ⟨S3, hD2, hF2⟩ := S2.unpinNew hB hJ hh rfl hs
    have S4 := S1.unwipe S3 s2 hw
    have S5 := B.sm F2 H2 σ ρ1 s2 S4 hbp
    have S0 := B.sm F1 H1 σ ρ1 (Same.refl F1) S1 hbp
    have uD : ∀ {Hx : Hp} {Fx : Hp}, Sc z m' Fx Hx → undo un Hx D = Hx D := fun {Hx Fx} C => by
      cases un with
      | none => rfl
      | some p =>
        obtain ⟨d, u⟩ := p
        obtain ⟨od, e⟩ := B.fz Fx Hx C d u rfl
        show upd Hx d u D = Hx D
        have j := C.fj d od u e
        rw [upd_ne (fun c => by rw [← c, hJ] at j; cases j)]
    have fresh : RzF z m F2 (undo un H2) σ (bm ρ1) true (.lst true ad) (.ref D) := by
      refine ⟨D, rfl, ⟨hF2, by rw [← B.bb]; exact hB, ?_, .lst acc, by rw [uD S3.toSc]; exact hD2, .lst (by rw [← B.bb]; exact r2)⟩, fun j e a b => ?_⟩
      · exact S0.base.free (by rw [uD S1.toSc]; exact hD)
      · obtain ⟨l, hl, _, _, _, ho, h4, _⟩ := S0.geto a
        rw [b] at hl
        cases hl
        rw [uD S1.toSc, hD] at h4
        cases h4
    have fin := k _ _ _ _ _ _ (n ad wa) (s1.trans s2) S5 fresh
    cases un with
    | none => exact .inl fin
    | some p =>
      obtain ⟨d, u⟩ := p
      obtain ⟨od, e⟩ := B.fz F2 H2 S3.toSc d u rfl
      exact .inr ⟨d, od, u, B.leg d u rfl, e, fin⟩
/-- [te for g in .. if tt], over what stands for as -/
theorem ze_lcM {α : Type} (as : List α) (gd : α → Dt) (f : α → Option Dt) (h : ZI z wi ρ fun ds ρ1 bp bm => ds = as.map gd ∧ bp ρ1 ∧ okW ρ1 vs = true ∧ as.length ≤ 100000 ∧
    (∀ a ∈ as, ZGw z g vs (gd a) (wipeZ ρ1 vs) fun ρ2 => ZT z tt ρ2 fun b ρ3 => if b = true then ZE z te ρ3 fun y _ ρ4 => wipeZ ρ4 vs = wipeZ ρ1 vs ∧ f a = some y else wipeZ ρ3 vs = wipeZ ρ1 vs ∧ f a = none) ∧
    N (.lst true (as.filterMap f)) true (bm ρ1)) : ZE z (tLockLE (tLc wi g tt te vs)) ρ N :=
  ze_lcW fun m F H σ R S k => h m F H σ R S fun ds ρ1 bp bm m' un F1 H1 Jt n1 => k ds ρ1 bp bm m' un F1 H1 Jt <| by
    obtain ⟨rfl, h1, h2, h3, h4, h5⟩ := n1
    refine ⟨h1, h2, by rw [List.length_map]; exact h3, fun i ad => ad = (as.take i).filterMap f, rfl, fun i d ad hd ha => ?_, fun ad ha => ?_⟩
    · rw [List.getElem?_map] at hd
      cases q : as[i]? with
      | none => rw [q] at hd; cases hd
      | some a =>
        rw [q] at hd
        cases hd
        have hf := h4 a (List.mem_of_getElem? q)
        refine fun m F H σ v Q S r k => hf m F H σ v Q S r fun ρ2 F2 H2 σ2 n2 => k ρ2 F2 H2 σ2 fun m F H σ Q S k => n2 m F H σ Q S fun b ρ3 F3 H3 n3 => k b ρ3 F3 H3 ?_
        cases b with
        | false =>
          rw [if_neg (by decide)] at n3 ⊢
          refine ⟨n3.1, ?_⟩
          show ad = (as.take (i + 1)).filterMap f
          rw [filterMap_take f q, n3.2, ha]
          simp
        | true =>
          rw [if_pos rfl] at n3 ⊢
          refine fun m F H σ Q S k => n3 m F H σ Q S fun y fy ρ4 F4 H4 v n4 => k y fy ρ4 F4 H4 v ⟨n4.1, ?_⟩
          show ad ++ [y] = (as.take (i + 1)).filterMap f
          rw [filterMap_take f q, n4.2, ha]
          rfl
    · rw [List.length_map, List.take_length] at ha
      rw [ha]
      exact h5
end
/-! ### dicts: displays, copies -/
theorem zmerge_nodup : ∀ (more acc : List (Key × V)), (more.map (·.1)).Nodup → (∀ k ∈ more.map (·.1), valV acc k = none) → mergeK acc more = acc ++ more
  | [], acc, _, _ => (List.append_nil acc).symm
  | (k, v) :: r, acc, nd, hn => by
    rw [List.map_cons, List.nodup_cons] at nd
    show mergeK (putK acc k v) r = _
    have h0 : valV acc k = none := hn k List.mem_cons_self
    rw [putK_new v h0, zmerge_nodup r _ nd.2 fun j hj => ?_, List.append_assoc]
    · rfl
    · rw [valV_snoc k j v acc h0, if_neg fun z => nd.1 (by rw [← z]; exact hj)]
      exact hn j (List.mem_cons_of_mem _ hj)
def noL (ρ : List Sl) : Bool := ρ.all fun s => match s with
  | .l _ _ => false
  | _ => true
theorem noL_not {ρ : List Sl} (h : noL ρ = true) (a : Addr) (i : Nat) (d : Dt) : ρ[i]? ≠ some (.l a d) := fun e => by
  have := List.all_eq_true.mp h _ (List.mem_of_getElem? e)
  cases this
def ZP (z : Cz) : List (TE × TE) → List Sl → (List Key → List Dt → List Sl → Prop) → Prop
  | [], ρ, N => N [] [] ρ
  | (tk, tv) :: r, ρ, N => ZE z tk ρ fun x _ ρ1 => ∃ k, x = keyD k ∧ ZE z tv ρ1 fun y _ ρ2 => ZP z r ρ2 fun ks ds ρ3 => N (k :: ks) (y :: ds) ρ3
section
variable {z : Cz} {ρ : List Sl} {N : Dt → Bool → List Sl → Prop} {ta tb te : TE}
theorem zp_run : ∀ (trs : List (TE × TE)) (ρ : List Sl) (N : List Key → List Dt → List Sl → Prop), ZP z trs ρ N → ∀ (m : Fm) (F H : Hp) (σ : L2.St) (Q : List (V × V) → Hp → Prop), Sm z m F H σ ρ →
    (∀ ks ds ρ' F' H' (kvs : List (Key × V)), N ks ds ρ' → Same F F' → Sm z m F' H' σ ρ' → kvs.map Prod.fst = ks → Rzl z.K m.B F' ds (kvs.map Prod.snd) → Q (kvs.map fun kv => (kV kv.1, kv.2)) H') → tPairs trs σ H Q
  | [], ρ, N, h, m, F, H, σ, Q, S, k => k [] [] ρ F H [] h (Same.refl F) S rfl .nil
  | (tk, tv) :: r, ρ, N, h, m, F, H, σ, Q, S, k => by
    refine h m F H σ _ S fun x fx ρ1 F1 H1 vx n1 s1 S1 r1 => ?_
    obtain ⟨F2, s2, S2, rx⟩ := rzF_frz S1 r1
    obtain ⟨kk, rfl, n1⟩ := n1
    obtain rfl := rz_key rx
    refine n1 m F2 H1 σ _ S2 fun y fy ρ2 F3 H3 vy n2 s3 S3 r3 => ?_
    obtain ⟨F4, s4, S4, ry⟩ := rzF_frz S3 r3
    refine zp_run r ρ2 _ n2 m F4 H3 σ _ S4 fun ks ds ρ' F' H' kvs n s S' e rr => ?_
    exact k (kk :: ks) (y :: ds) ρ' F' H' ((kk, vy) :: kvs) n (((s1.trans s2).trans (s3.trans s4)).trans s) S' (by rw [List.map_cons, e]) (.cons (rz_mono s _ _ ry) rr)
theorem ze_disp {trs : List (TE × TE)} (h : ZP z trs ρ fun ks ds ρ1 => noL ρ1 = true ∧ ks.Nodup ∧ ks.length ≤ 15 ∧ N (.dic true ks ds) true ρ1) : ZE z (tDisp trs) ρ N := fun m F H σ Q S k => by
  intro D hD
  have hB := S.dom D hD
  have hJ := S.j_none hD
  have hh : ¬ m.hd D := fun q => by
    obtain ⟨_, o, q2, _⟩ := S.hid D q
    rw [hJ] at q2
    cases q2
  refine zp_run trs ρ _ h (m.pin D (.dK [])) F (upd H D (.dK [])) σ _ (S.pinNew hD rfl rfl) fun ks ds ρ' F' H' kvs n s S' e rr => ?_
  obtain ⟨nl, nd, hl, n⟩ := n
  have hs : ∀ (i : Nat) (d : Dt), ρ'[i]? ≠ some (.l D d) := noL_not nl D
  have S2 := S'.repin (o' := .dK kvs) hB hJ hh rfl rfl rfl hs
  obtain ⟨S3, hD2, hF2⟩ := S2.unpinNew hB hJ hh rfl hs
  have em : mergeK [] kvs = kvs := by
    have := zmerge_nodup kvs [] (by rw [show kvs.map (·.1) = ks from e]; exact nd) fun _ _ => rfl
    rw [this]
    rfl
  have hD6 : H' D = some (.dK []) := S'.base D _ upd_same
  refine ⟨hD6, kvs, rfl, by rw [← List.length_map (f := Prod.fst), e]; exact hl, ?_⟩
  rw [em]
  refine k _ _ _ _ _ _ n s S3 ⟨D, rfl, ⟨hF2, hB, hJ, .dK kvs, hD2, ?_⟩, fun j e' a b => ?_⟩
  · rw [← e]
    exact .dK rr
  · obtain ⟨l, hl, _, _, q3, _⟩ := S'.geto a
    rw [b] at hl
    cases hl
    have q3 : upd m.J D _ D = none := q3
    rw [upd_same] at q3
    cases q3
/-- dict(d) -/
theorem ze_dictOf (h : ZE z ta ρ fun x _ ρ1 => ∃ t ks ds, x = .dic t ks ds ∧ N (.dic true ks ds) true ρ1) : ZE z (tCB (fun xs H Q => ∃ (a : Addr) (kvs : List (Key × V)), xs = [.ref a] ∧ L2.Rd H a (.dK kvs) ∧ ∀ p, H p = none → Q (.ref p) (upd H p (.dK kvs))) (tCons ta tNil)) ρ N :=
  ze_CB1 (W := fun x N ρ1 => ∃ t ks ds, x = .dic t ks ds ∧ N (.dic true ks ds) true ρ1) (fun x ρ2 N n1 m F H σ Q vx S r k => by
    obtain ⟨t, ks, ds, rfl, q⟩ := n1
    simp only [Rz] at r
    obtain ⟨a, kvs, rfl, e, _, e2, r⟩ := r
    refine ⟨a, kvs, rfl, S.le.rd e, fun p hp => ?_⟩
    refine k _ _ _ _ _ _ q (Same.refl F) (S.newO hp) (rzF_new S hp ?_)
    rw [← e2]
    exact .dK r) h
end
theorem zp_nil {z : Cz} {ρ : List Sl} {N : List Key → List Dt → List Sl → Prop} (h : N [] [] ρ) : ZP z [] ρ N := h
theorem zp_cons {z : Cz} {ρ : List Sl} {tk tv : TE} {r : List (TE × TE)} {N : List Key → List Dt → List Sl → Prop} (h : ZE z tk ρ fun x _ ρ1 => ∃ k, x = keyD k ∧ ZE z tv ρ1 fun y _ ρ2 => ZP z r ρ2 fun ks ds ρ3 => N (k :: ks) (y :: ds) ρ3) : ZP z ((tk, tv) :: r) ρ N := h
/-! ### expressions, as plain data -/
inductive At where
  | rat (n d : Int) | bl (b : Bool)
inductive Ex where
  | var (x : Str) (o : Int) | pre (x : Str) | lit (w : Str) (ats : List At) | un (w : Str) (e : Ex) | bin (w : Str) (e f : Ex) | tern (e f g : Ex)
def RatOk (n d : Int) : Prop := Low n d ∧ n.natAbs ≤ 100 ∧ d.natAbs ≤ 100
inductive LitOk : Str → List At → Prop
  | num {n d : Int} : RatOk n d → LitOk "num" [.rat n d]
  | truth (b : Bool) : LitOk "truth" [.bl b]
  | time : LitOk "time" []
  | initial : LitOk "initial" []
  | sample {n d n2 d2 : Int} : RatOk n d → RatOk n2 d2 → 0 < n2 → LitOk "sample" [.rat n d, .rat n2 d2]
def unL : List Str := ["neg", "not"]
def binL : List Str := ["add", "sub", "mul", "div", "and", "or", "same", "less", "atmost"]
inductive ExOk (N : Str → Prop) : Nat → Ex → Prop
  | var {d : Nat} {x : Str} {o : Int} : N x → 0 ≤ o → o ≤ 4 → ExOk N (d + 1) (.var x o)
  | pre {d : Nat} {x : Str} : N x → ExOk N (d + 1) (.pre x)
  | lit {d : Nat} {w : Str} {ats : List At} : LitOk w ats → ExOk N (d + 1) (.lit w ats)
  | un {d : Nat} {w : Str} {e : Ex} : w ∈ unL → ExOk N d e → ExOk N (d + 1) (.un w e)
  | bin {d : Nat} {w : Str} {e f : Ex} : w ∈ binL → ExOk N d e → ExOk N d f → ExOk N (d + 1) (.bin w e f)
  | tern {d : Nat} {e f g : Ex} : ExOk N d e → ExOk N d f → ExOk N d g → ExOk N (d + 1) (.tern e f g)
theorem ExOk.up {N : Str → Prop} {e : Ex} {d : Nat} (h : ExOk N d e) : ∀ {d' : Nat}, d ≤ d' → ExOk N d' e := by
  induction h with
  | var a b c => intro d' hd; obtain ⟨m, rfl⟩ : ∃ m, d' = m + 1 := ⟨d' - 1, by omega⟩; exact .var a b c
  | pre a => intro d' hd; obtain ⟨m, rfl⟩ : ∃ m, d' = m + 1 := ⟨d' - 1, by omega⟩; exact .pre a
  | lit a => intro d' hd; obtain ⟨m, rfl⟩ : ∃ m, d' = m + 1 := ⟨d' - 1, by omega⟩; exact .lit a
  | un a _ i => intro d' hd; obtain ⟨m, rfl⟩ : ∃ m, d' = m + 1 := ⟨d' - 1, by omega⟩; exact .un a (i (by omega))
  | bin a _ _ i j => intro d' hd; obtain ⟨m, rfl⟩ : ∃ m, d' = m + 1 := ⟨d' - 1, by omega⟩; exact .bin a (i (by omega)) (j (by omega))
  | tern _ _ _ i j k => intro d' hd; obtain ⟨m, rfl⟩ : ∃ m, d' = m + 1 := ⟨d' - 1, by omega⟩; exact .tern (i (by omega)) (j (by omega)) (k (by omega))
/-- .. as data -/
def atD : At → Dt
  | .rat n d => .rat n d
  | .bl b => .bl b
def exD : Ex → Dt
  | .var x o => .tup [.str "var", .str x, .int o]
  | .pre x => .tup [.str "pre", .str x]
  | .lit w ats => .tup (.str w :: ats.map atD)
  | .un w e => .tup [.str w, exD e]
  | .bin w e f => .tup [.str w, exD e, exD f]
  | .tern e f g => .tup [.str "if", exD e, exD f, exD g]
def partsE : Ex → List Ex
  | .un _ e => [e]
  | .bin _ e f => [e, f]
  | .tern e f g => [e, f, g]
  | _ => []
/-- the word, the rest -/
def wordE : Ex → Str
  | .var _ _ => "var" | .pre _ => "pre" | .lit w _ => w | .un w _ => w | .bin w _ _ => w | .tern _ _ _ => "if"
def restE : Ex → List Dt
  | .var x o => [.str x, .int o] | .pre x => [.str x] | .lit _ ats => ats.map atD | .un _ e => [exD e] | .bin _ e f => [exD e, exD f] | .tern e f g => [exD e, exD f, exD g]
theorem exD_eq (e : Ex) : exD e = .tup (.str (wordE e) :: restE e) := by cases e <;> rfl
theorem old_ats : ∀ ats : List At, Dt.olds (ats.map atD) = ats.map atD
  | [] => rfl
  | a :: ats => by rw [List.map_cons, Dt.olds, old_ats ats]; cases a <;> rfl
theorem exD_old : ∀ e : Ex, (exD e).old = exD e
  | .var _ _ => rfl
  | .pre _ => rfl
  | .lit _ ats => by simp only [exD, Dt.old, Dt.olds, old_ats]
  | .un _ e => by simp only [exD, Dt.old, Dt.olds, exD_old e]
  | .bin _ e f => by simp only [exD, Dt.old, Dt.olds, exD_old e, exD_old f]
  | .tern e f g => by simp only [exD, Dt.old, Dt.olds, exD_old e, exD_old f, exD_old g]
theorem olds1 {d e : Dt} (h : d.old = e) : Dt.olds [d] = [e] := by simp only [Dt.olds, h]
theorem exD_olds : ∀ es : List Ex, Dt.olds (es.map exD) = es.map exD
  | [] => rfl
  | e :: es => by rw [List.map_cons, Dt.olds, exD_olds es, exD_old]
/-- name = {..} on one line, the name a local -/
theorem ps_setDc {X : Cx} {i : Nat} {y : Str} {py : Pos} {kx vx tg iter : Expr} {ifs : List Expr} {scope : Scope} {own : List (Str × Nat)} {pos spos : Pos} {wi : TI} {g : TG} {tt : TT} {tk tv : TE} (hc : X.calm = true) (hN : X.N.Nodup) (hy : X.N[i]? = some y) (hyl : X.env.scope.names.lookup y = some .local)
    (hsw : swapsWith (.DictComp kx vx [⟨tg, iter, ifs, 0⟩] scope pos) (some (.Name y py)) spos.line X.env = pure true) (hi : PI X tg iter wi) (ok : BlkOk X.N X.env.scope scope own)
    (hg : ∀ (s : Shared) (H : Hp) (C : Addr) (cl : List (Str × Addr)) (fp : List Addr), PG (X.blk s H scope (compEnvC scope cl C X.env) fp) tg g) (ht : ∀ (s : Shared) (H : Hp) (C : Addr) (cl : List (Str × Addr)) (fp : List Addr), PTs (X.blk s H scope (compEnvC scope cl C X.env) fp) ifs tt)
    (hk : ∀ (s : Shared) (H : Hp) (C : Addr) (cl : List (Str × Addr)) (fp : List Addr), PE (X.blk s H scope (compEnvC scope cl C X.env) fp) kx tk)
    (he : ∀ (s : Shared) (H : Hp) (C : Addr) (cl : List (Str × Addr)) (fp : List Addr), PE (X.blk s H scope (compEnvC scope cl C X.env) fp) vx tv) (hs : ∀ x, foldedSetIterable iter X.env x = pure x := by intro _; rfl) :
    PS X (.Assign [.Name y py] (.DictComp kx vx [⟨tg, iter, ifs, 0⟩] scope pos) spos) (tAsg (tDc wi g tt tk tv (own.map (·.2))) (gName i)) := by
  refine ⟨fun pins s σ H D I h => ?_⟩
  rw [exec_Assign_Name_used _ _ _ _ hsw]
  refine wpAny_bind (wpAny_standAt (wpAny_bind ?_))
  show wpAny _ X.A (do let _ ← comprehension (.DictComp kx vx [⟨tg, iter, ifs, 0⟩] scope pos) scope X.env (firstIterPos [⟨tg, iter, ifs, 0⟩] pos) newDict false (eval iter X.env) (some (assign (.Name y py) X.env))) _ _ s
  have h : tDc wi g tt tk tv (own.map (·.2)) σ H (fun x H1 => gName i x σ H1 D.nx) := h
  refine wpAny_bind (thn (dc_core (Qf := fun _ s' => SP X pins D .next s') hc hN I hi ok hg ht hk he hs h fun L C s' m H' I' q hn f => ?_) fun _ s' hq => wpAny_pure (wpAny_pure hq))
  show wpAny _ _ (assign (.Name y py) X.env (.ref L)) _ _ _
  refine wpAny_assign_Name (store_ok2 (v := V.ref L) I' hN hy (.inl hyl) rfl (fun s2 I2 ⟨a, sb, ha⟩ => ?_) (.inr hyl))
  obtain ⟨f0, f1, f2, f3, f4, f5⟩ := f
  have haC : C ≠ a := by
    rcases ha with z | z
    · rw [z]; exact f1
    · exact fun e => f4 y a z e.symm
  refine ⟨m, hn.sameBut sb haC, fun h3 sb3 => ?_⟩
  exact ⟨_, H', I2.turned (t' := s2.toks) (fun b o hb e => (sb3.2 b hb).trans e) f0 f1 f3 f4 f5, q⟩
theorem zs_setdc {z : Cz} {ρ : List Sl} {i : Nat} {wi : TI} {g : TG} {tt : TT} {tk tv : TE} {vs : List Nat} {D : Zn} (h : ZE z (tLockLE (tDc wi g tt tk tv vs)) ρ fun d fr ρ1 => ZG z (gName i) d fr ρ1 D.nx) : ZS z (tLockL (tAsg (tDc wi g tt tk tv vs) (gName i))) ρ D := fun m F H σ E S kn kr kb kc =>
  h m F H σ (fun x H1 => E.nx (σ.set i (some x)) H1) S fun d fr ρ1 F1 H1 v n1 s1 S1 r1 => n1 m F1 H1 σ v (fun σ2 H2 => E.nx σ2 H2) S1 r1 fun ρ2 F2 H2 σ2 n2 s2 => kn ρ2 F2 H2 σ2 n2 (s1.trans s2)
/-! ### xs[::step] of a list, step 1 or -1 -/
section
variable {X : Cx}
def tStepL (K : PySem.W.Frag) (te : TE) (to : TO) : TE := fun σ H Q => te σ H fun x H1 => to σ H1 fun o H2 => ∃ a xs, x = .ref a ∧ SqL K H2 a xs ∧
  ((o = some (-1) ∧ ∀ p, H2 p = none → Q (.ref p) (upd H2 p (.lst xs.reverse))) ∨ (o = some 1 ∧ ∀ p, H2 p = none → Q (.ref p) (upd H2 p (.lst xs))))
theorem pick_one (items : Array Value) : slicePick items none none (some 1) = items := by
  have e : slicePick items none none (some 1) = slicePick items none none none := rfl
  have h := slicePick_cut items.toList none none
  rw [Array.toArray_toList] at h
  rw [e, h]
  unfold HT.sIx
  have e2 : items.size = items.toList.length := by simp
  simp only [Option.getD, e2, Nat.sub_zero, List.drop_zero, List.take_length, Array.toArray_toList]
theorem pe_stepL {K : PySem.W.Frag} (hK : X.K = K) {e est : Expr} {te : TE} {to : TO} {p3 pos : Pos} (he : PE X e te) (hs : PO X (some est) to) (hsub : ∀ u v : Value, subscripted (.Slice none none (some est) p3) false u v = operate [u, v] (getItem u v) := by intro _ _; with_unfolding_all rfl) (lt : ∀ v r, letTemporaryGo e v r = pure () := by intro _ _; rfl) : PE X (.Subscript e (.Slice none none (some est) p3) pos) (tStepL K te to) := by
  subst hK
  refine ⟨fun pins s σ H Q I h => ?_⟩
  refine Subscript_ (thn (he.run pins s σ H _ I h) fun v s1 ⟨x, H1, I1, r1, q1⟩ => ?_)
  refine wpAny_Slice (thn (po_none.run pins s1 σ H1 (fun o H2 => o = none ∧ H2 = H1) I1 ⟨rfl, rfl⟩) fun vl s2 ⟨l, H2, I2, pl, el, e2⟩ => ?_)
  subst el e2
  refine thn (po_none.run pins s2 σ H2 (fun o H3 => o = none ∧ H3 = H2) I2 ⟨rfl, rfl⟩) fun vu s3 ⟨u, H3, I3, pu, eu, e3⟩ => ?_
  subst eu e3
  refine thn (hs.run pins s3 σ H3 _ I3 q1) fun vs s4 ⟨o, H4, I4, ps, a, xs, ex, hx, q⟩ => ?_
  subst ex
  cases r1
  have I5 : Inv X pins σ H4 { s4 with heap := s4.heap.push { cls := .type "slice", data := .fields #[vl, vu, vs] } } := I4.kept (t' := s4.toks) fun b ob q => Heap.get?_push_of_some _ q
  obtain ⟨its, r, ht, hz⟩ := I5.list hx
  have hlen := r.length
  show wpAny (model X.prog X.w) X.A (subscriptTail e (.Slice none none (some est) p3) (.ref a) (.ref s4.heap.objs.size)) (EP X pins σ Q) X.xe { s4 with heap := s4.heap.push { cls := .type "slice", data := .fields #[vl, vu, vs] } }
  refine tail_any (ops := [.ref a, .ref s4.heap.objs.size]) ht.isList.typeIs (PySem.slot_list_getitem.lookup) ?_ (hsub _ _)
  rcases q with ⟨rfl, q⟩ | ⟨rfl, q⟩
  · refine wpAny_getItem_list_slice ht.isList (Heap.IsSliceOf.new _ vl vu vs) pl pu ps (by decide) ?_ (by rw [List.size_toArray]; omega)
    rw [PySem.W.krv_pick]
    refine ⟨.ref _, _, I5.laid (t' := s4.toks) (o := .lst xs.reverse) (fun b ob q => Heap.get?_push_of_some _ q) (Nat.le_refl _) ?_, rfl, q _ (I5.hok.fresh (Nat.le_refl _))⟩
    exact ⟨by rw [List.length_reverse]; exact hz, _, 0, r.reverse, Heap.get?_push_size _ rfl⟩
  · refine wpAny_getItem_list_slice ht.isList (Heap.IsSliceOf.new _ vl vu vs) pl pu ps (by decide) ?_ (by rw [List.size_toArray]; omega)
    rw [pick_one]
    refine ⟨.ref _, _, I5.laid (t' := s4.toks) (o := .lst xs) (fun b ob q => Heap.get?_push_of_some _ q) (Nat.le_refl _) ?_, rfl, q _ (I5.hok.fresh (Nat.le_refl _))⟩
    exact ⟨hz, _, 0, r, Heap.get?_push_size _ rfl⟩
end
/-! ### more built-ins: all, d.get on any dict, sorted(dict), texts joined, str of an int, xs[::step] -/
section
variable {z : Cz} {ρ : List Sl} {N : Dt → Bool → List Sl → Prop} {ta tb td ty tx te : TE} {to : TO} {i : Nat}
theorem rzl_bls {K : PySem.W.Frag} {B F : Hp} : ∀ {bs : List Bool} {xs : List V}, Rzl K B F (bs.map Dt.bl) xs → xs = bs.map V.bl
  | [], _, h => h.inv0
  | b :: bs, _, h => by
    obtain ⟨v, r, rfl, h1, t⟩ := h.inv
    rw [rz_b h1, rzl_bls t]
    rfl
theorem rzl_strs {K : PySem.W.Frag} {B F : Hp} : ∀ {bs : List Str} {xs : List V}, Rzl K B F (bs.map Dt.str) xs → xs = bs.map V.str
  | [], _, h => h.inv0
  | b :: bs, _, h => by
    obtain ⟨v, r, rfl, h1, t⟩ := h.inv
    rw [rz_s h1, rzl_strs t]
    rfl
theorem strs_rzl {K : PySem.W.Frag} {B F : Hp} : ∀ (bs : List Str), Rzl K B F (bs.map Dt.str) (bs.map V.str)
  | [] => .nil
  | b :: bs => .cons rzs (strs_rzl bs)
theorem ze_all {K' : PySem.W.Frag} (h : ZE z ta ρ fun x _ ρ1 => ∃ (t : Bool) (bs : List Bool), x = .lst t (bs.map Dt.bl) ∧ N (.bl (bs.all id)) false ρ1) : ZE z (tCB (rAll K') (tCons ta tNil)) ρ N :=
  ze_CB1 (W := fun x N ρ1 => ∃ (t : Bool) (bs : List Bool), x = .lst t (bs.map Dt.bl) ∧ N (.bl (bs.all id)) false ρ1) (fun x ρ2 N n1 m F H σ Q vx S r k => by
    obtain ⟨t, bs, rfl, q⟩ := n1
    simp only [Rz] at r
    obtain ⟨a, xs, rfl, e, _, r⟩ := r
    refine ⟨a, bs, rfl, ?_, k _ _ _ _ _ _ q (Same.refl F) S (rzF_f rzb)⟩
    rw [← rzl_bls r]
    exact SqL.of (S.le.exact e rfl)) h
theorem ze_dget2 (h : ZE z td ρ fun c _ ρ0 => isDd c = true ∧ ZE z ty ρ0 fun y _ ρ1 => ZE z tx ρ1 fun x _ ρ2 => ∃ o, GetD c y o ∧ N (o.getD x) false ρ2) : ZE z (tDGet2 td ty tx) ρ N := fun m F H σ Q S k => by
  refine h m F H σ _ S fun c fc ρ0 F0 H0 vc n0 s0 S0 r0 => ?_
  obtain ⟨F1, s1, S1, rc⟩ := rzF_frz S0 r0
  obtain ⟨hc, n0⟩ := n0
  obtain ⟨a, rfl, q0⟩ := rz_dct rc S1.le hc
  refine ⟨a, rfl, q0.isD, n0 m F1 H0 σ _ S1 fun y fy ρ1 F2 H1 vy n1 s2 S2 r1 => ?_⟩
  obtain ⟨F3, s3, S3, ry⟩ := rzF_frz S2 r1
  refine n1 m F3 H1 σ _ S3 fun x fx ρ2 F4 H2 vx n2 s4 S4 r3 => ?_
  obtain ⟨F5, s5, S5, rx⟩ := rzF_frz S4 r3
  obtain ⟨o, g, n⟩ := n2
  obtain ⟨a', e', q⟩ := rz_dct (rz_mono ((s2.trans s3).trans (s4.trans s5)) _ _ rc) S5.le hc
  cases e'
  obtain ⟨vo, q1, q2⟩ := dct_get q g (rz_mono (s4.trans s5) _ _ ry) S5.le
  refine ⟨vo, q1, k _ _ _ _ _ _ n (((s0.trans s1).trans (s2.trans s3)).trans (s4.trans s5)) S5 (rzF_f ?_)⟩
  cases o <;> cases vo <;> first | exact q2.elim | exact rx | exact q2
/-- sorted(d), of a dict with fewer than 64 keys, all texts -/
def rSortedDz : List V → Hp → VK → Prop := fun xs H Q => ∃ (a : Addr) (kvs : List (Key × V)) (ks : List Str), xs = [.ref a] ∧ L2.Rd H a (.dK kvs) ∧ kvs.map (·.1) = ks.map Sum.inr ∧ ks.length < 64 ∧
    ∀ ys p, ys.Perm ks → sortedS ys = true → H p = none → Q (.ref p) (upd H p (.lst (ys.map V.str)))
theorem ze_sortedD (h : ZE z ta ρ fun x _ ρ1 => ∃ (t : Bool) (ks : List Str) (ds : List Dt), x = .dic t (ks.map Sum.inr) ds ∧ ks.length < 64 ∧ ∀ ys : List Str, ys.Perm ks → sortedS ys = true → N (.lst true (ys.map Dt.str)) true ρ1) : ZE z (tCB rSortedDz (tCons ta tNil)) ρ N :=
  ze_CB1 (W := fun x N ρ1 => ∃ (t : Bool) (ks : List Str) (ds : List Dt), x = .dic t (ks.map Sum.inr) ds ∧ ks.length < 64 ∧ ∀ ys : List Str, ys.Perm ks → sortedS ys = true → N (.lst true (ys.map Dt.str)) true ρ1) (fun x ρ2 N n1 m F H σ Q vx S r k => by
    obtain ⟨t, ks, ds, rfl, hl, q⟩ := n1
    simp only [Rz] at r
    obtain ⟨a, kvs, rfl, e, _, e2, r⟩ := r
    refine ⟨a, kvs, ks, rfl, S.le.rd e, e2, hl, fun ys p hp hs hn => ?_⟩
    exact k _ _ _ _ _ _ (q ys hp hs) (Same.refl F) (S.newO hn) (rzF_new S hn (.lst (strs_rzl ys)))) h
theorem ze_addStr (h : ZE z ta ρ fun x _ ρ1 => ZE z tb ρ1 fun y _ ρ2 => ∃ a b, x = .str a ∧ y = .str b ∧ a.length + b.length ≤ 100000 ∧ N (.str (a ++ b)) false ρ2) : ZE z (tOp (fun x y H Q => ∃ i j, x = V.str i ∧ y = V.str j ∧ i.length + j.length ≤ sizeLine ∧ Q (V.str (i ++ j)) H) ta tb) ρ N :=
  ze_op2w (W := fun x y N ρ2 => ∃ a b, x = .str a ∧ y = .str b ∧ a.length + b.length ≤ 100000 ∧ N (.str (a ++ b)) false ρ2) (fun x y ρ2 N n2 m F H σ Q vx vy S r1 r2 k => by
    obtain ⟨a, b, rfl, rfl, hl, n⟩ := n2
    exact ⟨a, b, rz_s r1, rz_s r2, by rw [sizeLine_eq]; omega, k _ _ _ _ _ _ n (Same.refl F) S (rzF_f rzs)⟩) h
theorem ze_strInt (h : ZE z ta ρ fun x _ ρ1 => ∃ j : Int, x = .int j ∧ j.natAbs.log2 < 1920 ∧ N (.str (toString j)) false ρ1) : ZE z (tCB (fun xs H Q => ∃ i : Int, xs = [V.int i] ∧ i.natAbs.log2 < 1920 ∧ Q (V.str (toString i)) H) (tCons ta tNil)) ρ N :=
  ze_CB1 (W := fun x N ρ1 => ∃ j : Int, x = .int j ∧ j.natAbs.log2 < 1920 ∧ N (.str (toString j)) false ρ1) (fun x ρ2 N n1 m F H σ Q vx S r k => by
    obtain ⟨j, rfl, hl, q⟩ := n1
    exact ⟨j, by rw [rz_i r], hl, k _ _ _ _ _ _ q (Same.refl F) S (rzF_f rzs)⟩) h
theorem ze_stepL {K' : PySem.W.Frag} (h : ZE z ta ρ fun x _ ρ1 => ZO z to ρ1 fun o ρ2 => ∃ t ds, x = .lst t ds ∧ ((o = some (-1) ∧ N (.lst true ds.reverse) true ρ2) ∨ (o = some 1 ∧ N (.lst true ds) true ρ2))) : ZE z (tStepL K' ta to) ρ N := fun m F H σ Q S k => by
  refine h m F H σ _ S fun x fx ρ1 F1 H1 vx n1 s1 S1 r1 => ?_
  obtain ⟨F2, s2, S2, rx⟩ := rzF_frz S1 r1
  refine n1 m F2 H1 σ _ S2 fun o ρ2 F3 H2 n2 s3 S3 => ?_
  obtain ⟨t, ds, rfl, n⟩ := n2
  have rx := rz_mono s3 _ _ rx
  simp only [Rz] at rx
  obtain ⟨a, xs, rfl, e, _, r⟩ := rx
  refine ⟨a, xs, rfl, SqL.of (S3.le.exact e rfl), ?_⟩
  rcases n with ⟨rfl, n⟩ | ⟨rfl, n⟩
  · exact .inl ⟨rfl, fun p hp => k _ _ _ _ _ _ n ((s1.trans s2).trans s3) (S3.newO hp) (rzF_new S3 hp (.lst r.rev))⟩
  · exact .inr ⟨rfl, fun p hp => k _ _ _ _ _ _ n ((s1.trans s2).trans s3) (S3.newO hp) (rzF_new S3 hp (.lst r))⟩
end
local macro_rules | `(tactic| walk_at "z1") => `(tactic| first | (with_reducible apply ze_all) | (with_reducible apply ze_dget2) | (with_reducible apply ze_sortedD) | (with_reducible apply ze_addStr) | (with_reducible apply ze_strInt) | (with_reducible apply ze_stepL))
/-! ### errors out of a list comprehension -/
section
variable {M : Model} {A : Around} {E₁ : Value → Shared → Prop} {sh : Shared} {Z : Obj → Prop} {bs : Heap} {ev : Env} {out : List Env} {L ea : Addr}
theorem note_env {x : Value} {ev ev' : Env} (h : ev.frame = ev'.frame) : noteFrame x ev = noteFrame x ev' := by
  unfold noteFrame PySem.frameOf
  rw [h]
/-- whatever its flight: noted here -/
theorem note_any {fl : Value} {Q : Unit → Shared → Prop} (hZ : HandSPX.Steady Z) (hA : A.frames = some (ev :: out)) (hf : ev.frame = some L) (k1 : bs.StaysIn sh.heap) (k2 : bs.get? ea = none) (k3 : sh.heap.FunFrames bs (ev :: out)) (k4 : HandSPX.TracedZ sh.heap bs ea Z fl)
    (hQ : ∀ h', HandSPX.HeldZ bs (ev :: out) ea Z L h' → sh.heap.UpToSlots h' → Q () { sh with heap := h' }) : wpAny M A (noteFrame (.ref ea) ev) Q E₁ sh := by
  by_cases c : (fl == rawInt L) = true
  · have c : fl = rawInt L := by simpa using c
    subst c
    exact HandSPX.againZ hf k4 (hQ sh.heap ⟨k1, k2, k3, k4⟩ (Heap.UpToSlots.refl _))
  obtain ⟨xo, ws, TB, to, us, g1, g2, g3, g4, g5, g6, g7, g8, g9⟩ := k4
  unfold noteFrame
  simp only [hf]
  refine wpAny_bind (wpAny_field g1 g3 g4 ?_)
  rw [if_pos (show (Value.ref TB != Value.none) = true from by simp)]
  refine wpAny_bind (wpAny_field g7 g8 g9 ?_)
  rw [if_neg c]
  refine wpAny_bind (wpAny_setField g7 g8 (Array.getElem?_eq_some_iff.mp g9).1 ?_)
  have oth : ∀ b, b ≠ TB → (sh.heap.update TB (Obj.mapFields (·.setIfInBounds 3 Value.none))).get? b = sh.heap.get? b := fun b n => Heap.get?_update_other _ _ (Ne.symm n)
  have nor : ∀ b o, sh.heap.get? b = some o → (∀ v, o.data ≠ .fields v) → b ≠ TB := fun b o q n z => by
    rw [z, g7] at q
    cases q
    exact n us g8
  refine HandSPX.wpAny_entryZ hZ hA (k3.of_keeps fun b o q n => ⟨o, (oth b (nor b o q n)).trans q, rfl⟩) hf ((oth ea (Ne.symm g6)).trans g1) (fun b o q => (oth b fun z => by rw [z, g5] at q; cases q).trans (k1 b o q)) k2 g3 (Array.getElem?_eq_some_iff.mp g4).1 g2 fun h' hN => ?_
  obtain ⟨n1, n2, n3, n4⟩ := hN
  exact hQ h' ⟨n1, k2, n2, n3⟩ fun b o q n => n4 b o ((oth b (nor b o q n)).trans q) n
theorem sky_note {L' : Addr} {Q : Unit → Shared → Prop} (hZ : HandSPX.Steady Z) (hA : A.frames = some (ev :: out)) (hf : ev.frame = some L) (x : Sky bs (ev :: out) ea Z L' sh.heap)
    (hQ : ∀ h', HandSPX.HeldZ bs (ev :: out) ea Z L h' → sh.heap.UpToSlots h' → Q () { sh with heap := h' }) : wpAny M A (noteFrame (.ref ea) ev) Q E₁ sh := by
  rcases x with ⟨a1, a2, a3, xo, ws, b1, b2, b3, b4⟩ | ⟨a1, a2, a3, a4⟩ | ⟨a1, a2, a3, a4⟩
  · exact HandSPX.look_newZ hZ hA a3 hf b1 a1 a2 b3 b4 b2 hQ
  · exact note_any hZ hA hf a1 a2 a3 a4 hQ
  · exact note_any hZ hA hf a1 a2 a3 a4 hQ
/-- behind the block: as the library has it, the frame told -/
def cmpPost (M : Model) (A : Around) (E : Value → Shared → Prop) (use : Option (Value → Sem Unit)) (Q : Value → Shared → Prop) (acc : Value) (C : Addr) (fr : Option Addr) (r : Result) (s' : Shared) : Prop :=
  match r with
  | .ok f => compPost M A E use Q acc C (.ok f) s'
  | .error x => ∃ mp, s'.heap.Ns C mp ∧ ∀ g, Heap.SameBut C s'.heap g → ∀ ce : Env, ce.locals = C → ce.frame = fr → wpAny M A (passOn "comprehension.variables-let-go" x ce : Sem Value) (fun _ _ => False) E { s' with heap := g }
theorem cmp_free {env : Env} {E : Value → Shared → Prop} {e : Expr} {scope : Scope} {pos : Pos} {mk fst : Sem Value} {g : Comprehension} {gs : List Comprehension} {cl : List (Str × Addr)} {use : Option (Value → Sem Unit)} {Q : Value → Shared → Prop}
    (h1 : clausesOf e = g :: gs) (h2 : ∀ x, foldedSetIterable g.iter env x = pure x) (h3 : closureFor scope env = pure cl) (hkind : scope.kind = .function) (h4 : ∀ x ∈ scope.names, x.2 = .local → scope.names.lookup x.1 = some .local)
    (h : wpAny M A fst (fun x t1 => wpAny M A (pyIter x) (fun it t2 => wpAny M A mk (fun acc t3 => wpAny M A (newFunctionEnv scope env.globals cl [] env.qual none .none (some env)) (fun ce t4 =>
        ce.frame = env.frame ∧ codeAny M A (.compStart e 0 it acc { ce with scope := relabel scope env }) (cmpPost M A E use Q acc ce.locals env.frame) t4) E t3) E t2) E t1) E sh) :
    wpAny M A (comprehension e scope env pos mk false fst use) Q E sh := by
  unfold comprehension
  rw [h3, h1]
  refine wpAny_bind (wpAny_mono h (fun x t1 q1 => wpAny_bind (wpAny_standAt (wpAny_bind (wpAny_of_eq (h2 x) (wpAny_bind (wpAny_holding (wpAny_mono q1 (fun it t2 q2 => wpAny_standIf (wpAny_bind (wpAny_mono q2 (fun acc t3 q3 => wpAny_bind (wpAny_pure (wpAny_bind (wpAny_mono q3 (fun ce t4 q4 => ?_) fun _ _ z => z)))) fun _ _ z => z))) fun _ _ z => z))))))) fun _ _ z => z)
  dsimp only
  obtain ⟨fr, q4⟩ := q4
  have lk : ∀ x ∈ (scope.names.filter fun x => (x.2 == .local || x.2 == .cell) && x.1 != (".0" : Str)).reverse, x.2 = .local → Env.kindOf { ce with scope := relabel scope env } x.1 = some .local := fun x hx hl => lookup_relabel_local (h4 x (List.mem_filter.mp (List.mem_reverse.mp hx)).1 hl)
  have lk' : ∀ x ∈ (scope.names.filter fun x => (x.2 == .local || x.2 == .cell) && x.1 != (".0" : Str)).reverse.drop 1 ++ (scope.names.filter fun x => (x.2 == .local || x.2 == .cell) && x.1 != (".0" : Str)).reverse.take 1, x.2 = .local → Env.kindOf { ce with scope := relabel scope env } x.1 = some .local := fun x hx hl =>
    (List.mem_append.mp hx).elim (fun z => lk x (List.mem_of_mem_drop z) hl) fun z => lk x (List.mem_of_mem_take z) hl
  refine wpAny_holding (wpAny_bind (wpAny_attempt (wpAny_holding (wpAny_run (codeAny_mono q4 fun r t5 hr => ?_)))))
  cases r with
  | ok f =>
    cases use with
    | none =>
      obtain ⟨mp, hn, hr⟩ := hr
      exact wpAny_bind (wpAny_holding (wpAny_comp_letGo (cenv := { ce with scope := relabel scope env }) hkind _ t5 mp lk hn fun g mp' _ sb => wpAny_pure (hr g sb)))
    | some u =>
      refine wpAny_bind (wpAny_rule (wpAny_bind (wpAny_holding (wpAny_mono hr (fun _ t6 hr => ?_) fun _ _ z => z))))
      obtain ⟨mp, hn, hr⟩ := hr
      exact wpAny_bind (wpAny_comp_letGo (cenv := { ce with scope := relabel scope env }) hkind _ t6 mp lk' hn fun g mp' _ sb => wpAny_pure (hr g sb))
  | error x =>
    obtain ⟨mp, hn, hr⟩ := hr
    exact wpAny_bind (wpAny_holding (wpAny_comp_letGo (cenv := { ce with scope := relabel scope env }) hkind _ t5 mp lk hn fun g mp' _ sb => wpAny_mono (hr g sb _ rfl fr) (fun _ _ f => f.elim) fun _ _ y => y))
theorem funFrames_but {h g base base' : Heap} {C : Addr} (sb : Heap.SameBut C h g) (hb : ∀ b, base.get? b = none → base'.get? b = none) : ∀ {l : List Env}, C ∉ frs l → h.FunFrames base l → g.FunFrames base' l
  | [], _, _ => trivial
  | ev :: l, nc, q => by
    obtain ⟨q1, ⟨F, o, q2, q3, q4, q5⟩, q6⟩ := q
    have nF : F ≠ C := fun z => nc (by rw [← z]; exact List.mem_filterMap.mpr ⟨ev, List.mem_cons_self, q2⟩)
    refine ⟨q1, ⟨F, o, q2, hb _ q3, by rw [sb.2 _ nF]; exact q4, q5⟩, funFrames_but sb hb (fun z => nc ?_) q6⟩
    obtain ⟨e, he, hx⟩ := List.mem_filterMap.mp z
    exact List.mem_filterMap.mpr ⟨e, List.mem_cons_of_mem _ he, hx⟩
theorem hide_one {h : Heap} {C b : Addr} {o : Obj} (q : (PySem.W.hideAll h [C]).get? b = some o) : b ≠ C ∧ h.get? b = some o := by
  refine ⟨fun z => ?_, PySem.W.of_hideAll _ q⟩
  rw [z, PySem.W.hideAll_none [C] List.mem_cons_self] at q
  cases q
theorem hide_get {h : Heap} {C b : Addr} {o : Obj} (n : b ≠ C) (q : h.get? b = some o) : (PySem.W.hideAll h [C]).get? b = some o := PySem.W.hideAll_get _ q (by simpa using n)
theorem hide_free {h : Heap} {C b : Addr} (q : h.get? b = none) : (PySem.W.hideAll h [C]).get? b = none := by
  cases z : (PySem.W.hideAll h [C]).get? b with
  | none => rfl
  | some o => rw [(hide_one z).2] at q; cases q
end
section
variable {X : Cx} {E : XK}
/-- an error in the block: noted, let go, taken by the def -/
theorem blk_err (hs : X.stack = X.env :: X.outer) (hf : X.env.frame = some X.env.locals) (tk : Takes X fun cls d _ H => E cls d H) {pins : List (Addr × Obj)} {σ : L2.St} {H3 : Hp} {s3 : Shared} (I3 : Inv X pins σ H3 s3) {scope : Scope} {ce : Env} {fp : List Addr}
    (cL : ce.locals = s3.heap.objs.size) (cF : ce.frame = X.env.frame) (f3 : ∀ b ∈ fp, FpOk X pins H3 b) {use : Option (Value → Sem Unit)} {Qf : Value → Shared → Prop} {D : Value} {xe : Value → Shared → Prop} {u : Value} {s' : Shared}
    (x : XE ((X.blk s3 H3 scope ce fp).wish xe) (fun cls d _ H => E cls d H) u s') :
    notedBy (model X.prog X.w) X.A ce (fun e s'' => cmpPost (model X.prog X.w) X.A X.xe use Qf D s3.heap.objs.size X.env.frame (.error e) s'') u s' := by
  obtain ⟨a, B, sI, pins', σ', H', cls, d, rfl, I, nb, up, sky, na, os, ag, w⟩ := x
  have hA : X.A.frames = some (X.env :: X.outer) := by rw [I3.ok.frames, hs]
  have sky : Sky B (X.env :: X.outer) a (Zc cls d) ce.locals s'.heap := by rw [← hs]; exact sky
  unfold notedBy
  rw [note_env cF]
  refine sky_note Zc.steady hA hf sky fun h1 hh up1 => ?_
  obtain ⟨mp, hns, _⟩ := I.loc
  have hns : sI.heap.Ns ce.locals mp := hns
  rw [cL] at hns
  obtain ⟨o, es, ep, ho, hd, r1⟩ := hns
  have nC : s3.heap.objs.size ∉ frs X.stack := fun z => by
    obtain ⟨_, oo, e, _⟩ := I3.stack.mem z
    exact absurd (Heap.lt_size e) (Nat.lt_irrefl _)
  have hfree : H' s3.heap.objs.size = none := by
    have q : H' ce.locals = none := I.free
    rw [cL] at q
    exact q
  have hB := nb _ o ho nC
  have h1C := hh.1 _ o hB
  refine ⟨mp, ⟨o, es, ep, h1C, hd, r1⟩, fun g sb c2 hl hfr => ?_⟩
  obtain ⟨k1, k2, k3, oe, vs, TB, oT, ts, t1, t2, t3, t4, t5, t6, t7, t8, t9⟩ := hh
  have nf : ∀ {b : Addr} {ob : Obj} {ws : Array Value}, h1.get? b = some ob → ob.data = .fields ws → b ≠ s3.heap.objs.size := fun q dd z => by
    rw [z, h1C] at q
    cases q
    rw [hd] at dd
    cases dd
  have na' := nf t1 t3
  have nT := nf t7 t8
  have hh' : HandSPX.HeldZ (PySem.W.hideAll B [s3.heap.objs.size]) (X.env :: X.outer) a (Zc cls d) X.env.locals g := by
    refine ⟨fun b ob q => ?_, hide_free k2, funFrames_but sb (fun b q => hide_free q) (by rw [← hs]; exact nC) k3, oe, vs, TB, oT, ts, by rw [sb.2 _ na']; exact t1, t2, t3, t4, hide_free t5, t6, by rw [sb.2 _ nT]; exact t7, t8, t9⟩
    obtain ⟨n, q⟩ := hide_one q
    rw [sb.2 _ n]
    exact k1 b ob q
  obtain ⟨_, _, _, oe2, vs2, TB2, oT2, ts2, v1, v2, v3, v4, v5, v6, v7, v8, v9⟩ := id hh'
  unfold PySem.passOn
  refine wpAny_bind (wpAny_field v1 v3 v4 ?_)
  rw [if_neg (show ¬ ((Value.ref TB2 == Value.none) = true) from by simp)]
  refine wpAny_bind ?_
  rw [hfr, hf]
  refine HandSPX.setFlight_onZ hh' fun h2 hh2 up2 => ?_
  refine wpAny_throw ?_
  refine tk _ _ ⟨a, PySem.W.hideAll B [s3.heap.objs.size], { sI with heap := PySem.W.hideAll sI.heap [s3.heap.objs.size] }, pins, σ, H', cls, d, rfl, ?_, fun b ob q n => ?_, fun b ob q n => ?_, ?_, na, os, ag, w⟩
  · have ne : ∀ {b : Addr} {ob : Obj}, s3.heap.get? b = some ob → b ≠ s3.heap.objs.size := fun q z => absurd (Heap.lt_size q) (by rw [z]; exact Nat.lt_irrefl _)
    have ub : Un (frs X.stack) fp H3 H' s3.heap sI.heap := I.base
    refine I3.call' (ch := fp) I.os ⟨fun b ob q n1 n2 n3 => hide_get (ne q) (ub.keep b ob q n1 n2 n3), fun b ob q n1 n2 n3 => ?_, ub.free, fun b ob q n1 => ?_, ub.tups, ub.frzs, ub.tbls⟩ (fun b ob q => ?_) I.bare fun b hb => ⟨(f3 b hb).2.2.2.1, (f3 b hb).2.1, (f3 b hb).2.2.2.2.1, (f3 b hb).2.2.2.2.2⟩
    · obtain ⟨sl, z⟩ := ub.slot b ob q n1 n2 n3
      exact ⟨sl, hide_get (ne q) z⟩
    · obtain ⟨o', z⟩ := ub.there b ob q n1
      exact ⟨o', hide_get (ne q) z⟩
    · refine (I.hok b ob q).stay (fun c v hc z => hide_get (fun e => ?_) z) (fun _ z => z) fun _ _ z => z
      rw [e] at hc
      rcases hc with hc | hc
      · rw [← hc, hfree] at q; cases q
      · rw [hfree] at hc; cases hc
  · obtain ⟨n1, q⟩ := hide_one q
    exact hide_get n1 (nb b ob q n)
  · obtain ⟨n1, q⟩ := hide_one q
    obtain ⟨sl, q1⟩ := (up.trans up1) b ob q n
    rw [← sb.2 _ n1] at q1
    obtain ⟨sl2, q2⟩ := up2 b _ q1 n
    exact ⟨sl2, q2⟩
  · rw [hs]
    exact .inr (.inr hh2)
end
section
variable {X : Cx} {E : XK}
theorem ok_wish {xe : Value → Shared → Prop} (k : X.Ok) : (X.wish xe).Ok := ⟨k.mod, k.kind, k.glob, k.blt, k.above, k.inj, k.has, k.cab, k.hd, k.frames, k.stk, k.exf, k.bs, k.bsz, k.noex, k.exfs, k.funs, k.frf⟩
theorem inv_wish {xe : Value → Shared → Prop} {pins : List (Addr × Obj)} {σ : L2.St} {H : Hp} {s : Shared} (I : Inv X pins σ H s) : Inv (X.wish xe) pins σ H s := ⟨ok_wish I.ok, I.os, I.bare, I.base, I.loc, I.cell, I.free, I.freeC, I.pin, I.hok, I.len⟩
theorem lc_err (hs : X.stack = X.env :: X.outer) (hf : X.env.frame = some X.env.locals) (tk : Takes X fun cls d _ H => E cls d H) {pins : List (Addr × Obj)} {s : Shared} {σ : L2.St} {H : Hp} {Q : VK} {elt tg iter : Expr} {ifs : List Expr} {scope : Scope} {own : List (Str × Nat)} {pos pos' : Pos} {wi : TI} {g : TG} {tt : TT} {te : TE}
    {use : Option (Value → Sem Unit)} {Qf : Value → Shared → Prop} (hc : X.calm = true) (hN : X.N.Nodup) (I : Inv X pins σ H s) (hi : PI X tg iter wi) (ok : BlkOk X.N X.env.scope scope own)
    (hg : ∀ (s : Shared) (H : Hp) (C : Addr) (cl : List (Str × Addr)) (fp : List Addr) (xe : Value → Shared → Prop), PG ((X.blk s H scope (compEnvC scope cl C X.env) fp).wish xe) tg g)
    (ht : ∀ (s : Shared) (H : Hp) (C : Addr) (cl : List (Str × Addr)) (fp : List Addr) (xe : Value → Shared → Prop), Takes ((X.blk s H scope (compEnvC scope cl C X.env) fp).wish xe) (fun cls d _ H => E cls d H) → PTs ((X.blk s H scope (compEnvC scope cl C X.env) fp).wish xe) ifs tt)
    (he : ∀ (s : Shared) (H : Hp) (C : Addr) (cl : List (Str × Addr)) (fp : List Addr) (xe : Value → Shared → Prop), Takes ((X.blk s H scope (compEnvC scope cl C X.env) fp).wish xe) (fun cls d _ H => E cls d H) → PE ((X.blk s H scope (compEnvC scope cl C X.env) fp).wish xe) elt te)
    (h2 : ∀ x, foldedSetIterable iter X.env x = pure x) (h : tLc wi g tt te (own.map (·.2)) σ H Q)
    (fin : ∀ D C s' mp H', Inv X pins σ H' s' → Q (.ref D) H' → s'.heap.Ns C mp → FpOk X pins H' C → compPost (model X.prog X.w) X.A X.xe use Qf (.ref D) C (.ok .next) s') :
    wpAny (model X.prog X.w) X.A (comprehension (.ListComp elt [⟨tg, iter, ifs, 0⟩] scope pos) scope X.env pos' (newList []) false (eval iter X.env) use) Qf X.xe s := by
  have frees : ∀ y ∈ scope.names, y.2 = .free → ∃ c, X.env.cells.lookup y.1 = some c := fun y hy e => (ok.free y hy e).elim (fun k => I.ok.has _ (.inl k)) fun k => I.ok.has _ (.inr k)
  refine cmp_free (use := use) rfl h2 (closure_ok frees) ok.kind (fun y hy e => by rw [ok.uniq y hy, e]) (thn (hi.run pins s σ H _ I h) fun xv s1 hx => thn hx fun itv s2 q2 => ?_)
  obtain ⟨it, fp, tn, J, H2, e, I2, T, st2, f2, q⟩ := q2
  subst e
  refine wpAny_newObj_type (newEnv_comp ?_) (by show 0 ≤ sizeLine; decide)
  refine ⟨rfl, ?_⟩
  generalize hD : s2.heap.objs.size = D
  have nD : H2 D = none := I2.hok.fresh (Nat.le_of_eq hD)
  obtain ⟨W, ⟨m0, w0⟩, turn⟩ := q D nD
  generalize es3 : ({ s2 with heap := s2.heap.push { cls := .type "list", data := .seq ([] : List Value).toArray } } : Shared) = s3
  have I3 : Inv X pins σ (upd H2 D (.lst [])) s3 := by
    rw [← es3]
    refine I2.laid (t' := s2.toks) (fun b o e => Heap.get?_push_of_some _ e) (Nat.le_of_eq hD) ⟨Nat.zero_le _, [], 0, .nil, ?_⟩
    rw [← hD]
    exact Heap.get?_push_size _ rfl
  have hp3 : s3.heap = s2.heap.push { cls := .type "list", data := .seq ([] : List Value).toArray } := by rw [← es3]
  have lts : ∀ b ∈ fp, b < s2.heap.objs.size := fun b hb => by
    obtain ⟨o, e, _⟩ := T.obj _ _ st2 b hb
    exact Heap.lt_size e
  have f3 : ∀ b ∈ fp, FpOk X pins (upd H2 D (.lst [])) b ∧ b < s3.heap.objs.size := fun b hb => by
    have lt := lts b hb
    refine ⟨⟨?_, (f2 b hb).2⟩, by rw [hp3, Heap.size_push]; exact Nat.lt_succ_of_lt lt⟩
    rw [upd_ne (by rw [← hD]; exact Nat.ne_of_lt lt)]
    exact (f2 b hb).1
  have st3 : tn 0 s3.heap := T.keep _ _ _ st2 fun b _ o e => by rw [hp3]; exact Heap.get?_push_of_some _ e
  have I4 := block_start I3 ok hN f3
  generalize ecl : cellsFrom (s3.heap.objs.size + 1) scope.names (cloFrom X.env.cells scope.names []) = cl at I4
  have pg := hg s3 (upd H2 D (.lst [])) s3.heap.objs.size cl fp
  have pt := ht s3 (upd H2 D (.lst [])) s3.heap.objs.size cl fp
  have pe := he s3 (upd H2 D (.lst [])) s3.heap.objs.size cl fp
  show codeAny _ _ (.compStart (.ListComp elt [⟨tg, iter, ifs, 0⟩] scope pos) 0 (.ref it) (.ref D) (compEnvC scope cl s3.heap.objs.size X.env)) (cmpPost (model X.prog X.w) X.A X.xe use Qf (.ref D) s3.heap.objs.size X.env.frame) { s3 with heap := pushCells (s3.heap.push { cls := .type "dict", data := .dict #[] }) scope.names }
  have nfp : ∀ b ∈ fp, (upd H2 D (.lst [])) b = none := fun b hb => (f3 b hb).1.1
  have cF : (compEnvC scope cl s3.heap.objs.size X.env).frame = X.env.frame := rfl
  have cL : (compEnvC scope cl s3.heap.objs.size X.env).locals = s3.heap.objs.size := rfl
  generalize hce : compEnvC scope cl s3.heap.objs.size X.env = ce at I4 pg pt pe cF cL ⊢
  generalize eH3 : upd H2 D (.lst []) = H3 at I3 I4 pg pt pe w0 nfp f3
  generalize es4 : ({ s3 with heap := pushCells (s3.heap.push { cls := .type "dict", data := .dict #[] }) scope.names } : Shared) = s4 at I4 ⊢
  have st4 : tn 0 s4.heap := T.keep _ _ _ st3 fun b _ o e => by rw [← es4]; exact pushCells_keeps _ _ _ _ (Heap.get?_push_of_some _ e)
  generalize exe : notedBy (model X.prog X.w) X.A ce (fun e s' => cmpPost (model X.prog X.w) X.A X.xe use Qf (.ref D) s3.heap.objs.size X.env.frame (.error e) s') = xe
  have tkb : Takes ((X.blk s3 H3 scope ce fp).wish xe) (fun cls d _ H => E cls d H) := fun u s' x => by
    subst exe
    exact blk_err hs hf tk I3 cL cF (fun b hb => (f3 b hb).1) x
  have pg := pg xe
  have pt := pt xe tkb
  have pe := pe xe tkb
  have I5 : Inv ((X.blk s3 H3 scope ce fp).wish xe) [] (wipe σ (own.map (·.2))) H3 s4 := inv_wish I4
  have stat : ∀ {σ' : L2.St} {H' : Hp} {s' : Shared}, Inv ((X.blk s3 H3 scope ce fp).wish xe) [] σ' H' s' → (∀ b ∈ fp, H' b = none) → ∀ b ∈ fp, FpOk ((X.blk s3 H3 scope ce fp).wish xe) [] H' b := fun {σ' H' s'} I' hn b hb =>
    ⟨hn b hb, (I'.ok.exf b hb).1, I'.ok.exfs b hb, .inl hb, fun x c e => (I'.ok.exf b hb).2 x c e, fun p hp => absurd (show p ∈ ([] : List (Addr × Obj)) ++ [] from hp) (by simp)⟩
  have loop : codeAny (model X.prog X.w) X.A (.compLoop (.ListComp elt [⟨tg, iter, ifs, 0⟩] scope pos) 0 (.ref it) (.ref D) ce) (cmpPost (model X.prog X.w) X.A X.xe use Qf (.ref D) s3.heap.objs.size X.env.frame) s4 := by
    refine compLoop_any (fun n s' => ∃ i H', Inv ((X.blk s3 H3 scope ce fp).wish xe) [] (wipe σ (own.map (·.2))) H' s' ∧ tn i s'.heap ∧ (∀ b ∈ fp, H' b = none) ∧ W i n H') ?_ m0 ⟨0, H3, I5, st4, nfp, w0⟩
    rw [exe]
    rintro n s5 ⟨i, H5, J5, st5, n5, w5⟩
    rcases turn i n H5 w5 with ⟨stop, qq⟩ | ⟨go, Nx, hNx, step⟩
    · refine thn (T.done ((X.blk s3 H3 scope ce fp).wish xe) rfl rfl rfl hc i [] s5 _ H5 xe J5 (stat J5 n5) st5 stop) fun r s6 ⟨hr, I6⟩ => ?_
      subst hr
      have I7 : Inv X pins σ H5 s6 := I3.call' (ch := fp) I6.os I6.base I6.hok I6.bare fun b hb => ⟨(f3 b hb).1.2.2.2.1, (f3 b hb).1.2.1, (f3 b hb).1.2.2.2.2.1, (f3 b hb).1.2.2.2.2.2⟩
      have nC : H5 s3.heap.objs.size = none := by
        have z : H5 ce.locals = none := I6.free
        rw [cL] at z
        exact z
      obtain ⟨mp, hn, _⟩ := I6.loc
      have hn : s6.heap.Ns ce.locals mp := hn
      rw [cL] at hn
      exact fin D s3.heap.objs.size s6 mp H5 I7 qq hn (I3.fpOk (Nat.le_refl _) nC)
    · refine thn (T.item ((X.blk s3 H3 scope ce fp).wish xe) rfl rfl rfl hc i [] s5 _ H5 xe J5 (stat J5 n5) st5 go) fun r s6 ⟨u, hr, h6⟩ => ?_
      subst hr
      refine thn h6 fun _ s7 ⟨x, H7, I7, r7, y7, st7, n7⟩ => ?_
      have I7p := I7.pinned (stat I7 n7) (T.obj _ _ st7)
      refine thn (pg.run _ s7 _ H7 x u _ I7p r7 (step x H7 y7)) fun _ s8 ⟨σ8, H8, I8, hw8, q8⟩ => ?_
      refine thn (pt.run _ s8 σ8 H8 _ I8 q8) fun b s9 ⟨H9, I9, q9⟩ => ?_
      have more : ∀ {s' : Shared} {H' : Hp}, Inv ((X.blk s3 H3 scope ce fp).wish xe) ([] ++ pinsAt fp s7.heap) σ8 H' s' → Nx H' → ∃ mm, mm < n ∧ ∃ i H', Inv ((X.blk s3 H3 scope ce fp).wish xe) [] (wipe σ (own.map (·.2))) H' s' ∧ tn i s'.heap ∧ (∀ b ∈ fp, H' b = none) ∧ W i mm H' := fun {s' H'} J' nx => by
        obtain ⟨mm, hm, w'⟩ := hNx H' nx
        have pn : ∀ b ∈ fp, ∀ o, s7.heap.get? b = some o → s'.heap.get? b = some o ∧ H' b = none := fun b hb o e =>
          let z := J'.pin (b, o) (List.mem_append_right _ (List.mem_append_right _ (mem_pinsAt hb e)))
          ⟨z.1, z.2.1⟩
        have hl : (wipe σ (own.map (·.2))).length = σ8.length := by rw [← hw8, wipe_length]
        refine ⟨mm, hm, i + 1, H', (J'.unpinned (pins := [])).weak hl (fun j v e => ?_), T.keep _ _ _ st7 fun b hb o e => (pn b hb o e).1, fun b hb => ?_, w'⟩
        · rw [← hw8] at e
          exact (wipe_some e).1
        · obtain ⟨o, e, _⟩ := T.obj _ _ st7 b hb
          exact (pn b hb o e).2
      cases b with
      | false =>
        simp only [Bool.false_eq_true, if_false] at q9 ⊢
        exact more I9 q9
      | true =>
        simp only [if_true] at q9 ⊢
        refine thn (pe.run _ s9 σ8 H9 _ I9 q9) fun z s10 ⟨yv, H10, I10, r10, acc, hD10, hz10, nx⟩ => ?_
        exact app_ok (X := (X.blk s3 H3 scope ce fp).wish xe) I10 hD10 hz10 r10 fun s11 I11 => more I11 nx
  refine codeAny_compStart_list loop ?_
  exact T.self X.A 0 _ _ _ st4 loop
end
section
variable {X : Cx} {E : XK} {elt tg iter : Expr} {ifs : List Expr} {scope : Scope} {own : List (Str × Nat)} {pos : Pos} {wi : TI} {g : TG} {tt : TT} {te : TE}
/-- a comprehension whose parts may raise, as a value -/
theorem pe_lcE (hs : X.stack = X.env :: X.outer) (hf : X.env.frame = some X.env.locals) (tk : Takes X fun cls d _ H => E cls d H) (hc : X.calm = true) (hN : X.N.Nodup) (hi : PI X tg iter wi) (ok : BlkOk X.N X.env.scope scope own)
    (hg : ∀ (s : Shared) (H : Hp) (C : Addr) (cl : List (Str × Addr)) (fp : List Addr) (xe : Value → Shared → Prop), PG ((X.blk s H scope (compEnvC scope cl C X.env) fp).wish xe) tg g)
    (ht : ∀ (s : Shared) (H : Hp) (C : Addr) (cl : List (Str × Addr)) (fp : List Addr) (xe : Value → Shared → Prop), Takes ((X.blk s H scope (compEnvC scope cl C X.env) fp).wish xe) (fun cls d _ H => E cls d H) → PTs ((X.blk s H scope (compEnvC scope cl C X.env) fp).wish xe) ifs tt)
    (he : ∀ (s : Shared) (H : Hp) (C : Addr) (cl : List (Str × Addr)) (fp : List Addr) (xe : Value → Shared → Prop), Takes ((X.blk s H scope (compEnvC scope cl C X.env) fp).wish xe) (fun cls d _ H => E cls d H) → PE ((X.blk s H scope (compEnvC scope cl C X.env) fp).wish xe) elt te)
    (h2 : ∀ x, foldedSetIterable iter X.env x = pure x := by intro _; rfl) : PE X (.ListComp elt [⟨tg, iter, ifs, 0⟩] scope pos) (tLc wi g tt te (own.map (·.2))) := by
  refine ⟨fun pins s σ H Q I q => ?_⟩
  rw [eval_ListComp]
  refine lc_err hs hf tk hc hN I hi ok hg ht he h2 q fun D C s' mp H' I' q hn f => ⟨mp, hn, fun g sb => ?_⟩
  obtain ⟨b0, b1, b2, b3, b4, b5⟩ := f
  exact ⟨.ref D, H', I'.turned (t' := s'.toks) (fun b o hb e => (sb.2 b hb).trans e) b0 b1 b3 b4 b5, rfl, q⟩
/-- name = [..], its parts may raise -/
theorem ps_setLcE {i : Nat} {y : Str} {py spos : Pos} (hs : X.stack = X.env :: X.outer) (hf : X.env.frame = some X.env.locals) (tk : Takes X fun cls d _ H => E cls d H) (hc : X.calm = true) (hN : X.N.Nodup) (hy : X.N[i]? = some y) (hyl : X.env.scope.names.lookup y = some .local)
    (hsw : swapsWith (.ListComp elt [⟨tg, iter, ifs, 0⟩] scope pos) (some (.Name y py)) spos.line X.env = pure true) (hi : PI X tg iter wi) (ok : BlkOk X.N X.env.scope scope own)
    (hg : ∀ (s : Shared) (H : Hp) (C : Addr) (cl : List (Str × Addr)) (fp : List Addr) (xe : Value → Shared → Prop), PG ((X.blk s H scope (compEnvC scope cl C X.env) fp).wish xe) tg g)
    (ht : ∀ (s : Shared) (H : Hp) (C : Addr) (cl : List (Str × Addr)) (fp : List Addr) (xe : Value → Shared → Prop), Takes ((X.blk s H scope (compEnvC scope cl C X.env) fp).wish xe) (fun cls d _ H => E cls d H) → PTs ((X.blk s H scope (compEnvC scope cl C X.env) fp).wish xe) ifs tt)
    (he : ∀ (s : Shared) (H : Hp) (C : Addr) (cl : List (Str × Addr)) (fp : List Addr) (xe : Value → Shared → Prop), Takes ((X.blk s H scope (compEnvC scope cl C X.env) fp).wish xe) (fun cls d _ H => E cls d H) → PE ((X.blk s H scope (compEnvC scope cl C X.env) fp).wish xe) elt te)
    (h2 : ∀ x, foldedSetIterable iter X.env x = pure x := by intro _; rfl) : PS X (.Assign [.Name y py] (.ListComp elt [⟨tg, iter, ifs, 0⟩] scope pos) spos) (tAsg (tLc wi g tt te (own.map (·.2))) (gName i)) := by
  refine ⟨fun pins s σ H D I q => ?_⟩
  rw [exec_Assign_Name_used _ _ _ _ hsw]
  refine wpAny_bind (wpAny_standAt (wpAny_bind ?_))
  show wpAny _ X.A (do let _ ← comprehension (.ListComp elt [⟨tg, iter, ifs, 0⟩] scope pos) scope X.env (firstIterPos [⟨tg, iter, ifs, 0⟩] pos) (newList []) false (eval iter X.env) (some (assign (.Name y py) X.env))) _ _ s
  have q : tLc wi g tt te (own.map (·.2)) σ H (fun x H1 => gName i x σ H1 D.nx) := q
  refine wpAny_bind (thn (lc_err (Qf := fun _ s' => SP X pins D .next s') hs hf tk hc hN I hi ok hg ht he h2 q fun N C s' mp H' I' q hn f => ?_) fun _ s' z => wpAny_pure (wpAny_pure z))
  show wpAny _ _ (assign (.Name y py) X.env (.ref N)) _ _ _
  refine wpAny_assign_Name (store_ok2 (v := V.ref N) I' hN hy (.inl hyl) rfl (fun s2 I2 ⟨a, sb, ha⟩ => ?_) (.inr hyl))
  obtain ⟨b0, b1, b2, b3, b4, b5⟩ := f
  have nC : C ≠ a := ha.elim (fun z => by rw [z]; exact b1) fun z e => b4 y a z e.symm
  refine ⟨mp, hn.sameBut sb nC, fun h3 sb3 => ?_⟩
  exact ⟨_, H', I2.turned (t' := s2.toks) (fun b o hb e => (sb3.2 b hb).trans e) b0 b1 b3 b4 b5, q⟩
end
/-! ### max(xs, default=d) of ints -/
section
variable {X : Cx}
def maxL (d : Int) : List Int → Int
  | [] => d
  | y :: ys => ys.foldl max y
def rMaxDef (K : PySem.W.Frag) : List V → List V → Hp → VK → Prop := fun xs zs H Q => ∃ (a : Addr) (ns : List Int) (d : Int), xs = [.ref a] ∧ zs = [.int d] ∧ SqL K H a (ns.map V.int) ∧ Q (.int (maxL d ns)) H
theorem datsV_ints {K : PySem.W.Frag} {H : Hp} : ∀ ns : List Int, DatsV K H (ns.map V.int) (ns.map PyData.int)
  | [] => .nil
  | n :: ns => .cons (.int n) (datsV_ints ns)
theorem maxOf_int : ∀ (ys : List Int) (y : Int), PySem.W.maxOf y ys = ys.foldl max y
  | [], y => rfl
  | x :: ys, y => by
    have ih := maxOf_int ys (max y x)
    unfold PySem.W.maxOf at ih ⊢
    rw [List.foldl_cons, List.foldl_cons, ← ih]
    congr 1
    show (if decide (y < x) = true then x else y) = max y x
    rw [Int.max_def]
    by_cases h : y < x
    · rw [if_pos (by simpa using h), if_pos (Int.le_of_lt h)]
    · rw [if_neg (by simpa using h)]
      split <;> omega
theorem cr_maxDef {K : PySem.W.Frag} (hK : X.K = K) (hc : X.calm = true) (hu : X.A.units + 1 < cLine) : CallRK X (.builtin "max") [Str.ofString "default"] (rMaxDef K) := by
  subst hK
  intro pins s σ H vs zs us ws Q I r rz h
  obtain ⟨a, ns, d, rfl, rfl, hs, q⟩ := h
  obtain ⟨its, rv, hl, hz⟩ := I.list hs
  rw [Vals.ref1 r]
  obtain ⟨w1, rfl, e1⟩ := vals1 rz
  obtain ⟨td, rfl⟩ := e1
  obtain ⟨as, ra⟩ := DatsV.reads I _ _ _ (datsV_ints ns) rv
  have ra2 : ReadsAll s.heap its (ns.map PySem.W.Datum.toD) as := ra
  refine PySem.W.max_list_datum_default (α := Int) (xs := ns) (I.ok.hd hc) hl.isList ⟨as, ra2⟩ (by show X.A.units + 1 + 0 < cLine; omega) (fun e h' tk hk => ?_) fun y ys i v h' tk e hi hv hk => ?_
  · subst e
    exact ⟨.int d, H, I.kept hk, ⟨_, rfl⟩, q⟩
  · subst e
    have hv2 : ∃ t, v = .int (PySem.W.maxOf y ys) t := by
      obtain ⟨bs, hr⟩ := hv
      cases hr
      exact ⟨_, rfl⟩
    obtain ⟨t, rfl⟩ := hv2
    refine ⟨.int (PySem.W.maxOf y ys), H, I.kept hk, ⟨_, rfl⟩, ?_⟩
    rw [maxOf_int]
    exact q
end
/-! ### what an error left locked is open again where it is caught -/
def strip : HO → HO
  | .frz _ u => strip u
  | o => o
theorem strip_not (o : HO) : isFz (strip o) = false := by
  induction o with
  | frz _ u ih => exact ih
  | _ => rfl
theorem objOk_strip {P : Program} {w : World} {H : Hp} {h : Heap} {a : Addr} {o : HO} (x : ObjOk P w H h a o) : ObjOk P w H h a (strip o) := by
  induction o with
  | frz _ u ih => exact ih x.2
  | _ => exact x
def unLk (H0 H : Hp) : Hp := fun a => match H a with
  | some (.frz ob u) => (match H0 a with
    | some (.frz _ _) => some (.frz ob u)
    | _ => some (strip u))
  | o => o
theorem unLk_of {H0 H : Hp} {a : Addr} {o : HO} (h : H a = some o) (n : isFz o = false) : unLk H0 H a = some o := by
  unfold unLk
  rw [h]
  cases o <;> first | rfl | exact nomatch n
theorem unLk_keep {H0 H : Hp} {a : Addr} {o u o0 u0} (h : H a = some (.frz o u)) (h0 : H0 a = some (.frz o0 u0)) : unLk H0 H a = some (.frz o u) := by
  unfold unLk
  rw [h, h0]
theorem unLk_open {H0 H : Hp} {a : Addr} {o u} (h : H a = some (.frz o u)) (h0 : ∀ o0 u0, H0 a ≠ some (.frz o0 u0)) : unLk H0 H a = some (strip u) := by
  unfold unLk
  rw [h]
  cases e : H0 a with
  | none => rfl
  | some x => cases x <;> first | rfl | exact absurd e (h0 _ _)
theorem unLk_none {H0 H : Hp} {a : Addr} (h : H a = none) : unLk H0 H a = none := by
  unfold unLk
  rw [h]
theorem unLk_fz {H0 H : Hp} {a : Addr} {ob u} (q : unLk H0 H a = some (.frz ob u)) : ∃ o1 u1, H a = some (.frz o1 u1) ∧ ∃ o2 u2, H0 a = some (.frz o2 u2) := by
  cases e : H a with
  | none => rw [unLk_none e] at q; cases q
  | some o =>
    by_cases c : isFz o = false
    · rw [unLk_of e c] at q
      cases q
      exact absurd c Bool.noConfusion
    · obtain ⟨o1, u1, rfl⟩ : ∃ ob u, o = .frz ob u := by
        cases o with
        | frz ob u => exact ⟨ob, u, rfl⟩
        | _ => exact absurd rfl c
      by_cases c0 : ∃ o0 u0, H0 a = some (.frz o0 u0)
      · exact ⟨o1, u1, rfl, c0⟩
      · rw [unLk_open e fun o0 u0 z => c0 ⟨o0, u0, z⟩] at q
        have := strip_not u1
        injection q with q
        rw [q] at this
        exact nomatch this
theorem inv_unLk {X : Cx} {pins : List (Addr × Obj)} {σ : L2.St} {H0 H : Hp} {s : Shared} (hz : ∀ b o u, X.H_0 b = some (.frz o u) → H0 b = some (.frz o u)) (I : Inv X pins σ H s) : Inv X pins σ (unLk H0 H) s where
  ok := I.ok
  os := I.os
  bare := I.bare
  base := ⟨I.base.keep, I.base.slot, fun b o q n hx => unLk_none (I.base.free b o q n hx), I.base.there, fun b xs q => unLk_of (I.base.tups b xs q) rfl, fun b o u q => unLk_keep (I.base.frzs b o u q) (hz b o u q), fun b ps q => by
    obtain ⟨more, hm⟩ := I.base.tbls b ps q
    exact ⟨more, unLk_of hm rfl⟩⟩
  loc := I.loc
  cell := I.cell
  free := unLk_none I.free
  freeC := fun x c q => unLk_none (I.freeC x c q)
  pin := fun p hp => by
    obtain ⟨h1, h2, h3⟩ := I.pin p hp
    exact ⟨h1, unLk_none h2, h3⟩
  hok := fun a o q => by
    have mv : ∀ {o' : HO}, ObjOk X.prog X.w H s.heap a o' → ObjOk X.prog X.w (unLk H0 H) s.heap a o' := fun x => x.stay (fun _ _ _ z => z) (fun b z => unLk_of z rfl) fun b xs z => unLk_of z rfl
    cases e : H a with
    | none => rw [unLk_none e] at q; cases q
    | some x =>
      by_cases c : isFz x = false
      · rw [unLk_of e c] at q
        cases q
        exact mv (I.hok a _ e)
      · obtain ⟨ob, u, rfl⟩ : ∃ ob u, x = .frz ob u := by
          cases x with
          | frz ob u => exact ⟨ob, u, rfl⟩
          | _ => exact absurd rfl c
        by_cases c0 : ∃ o0 u0, H0 a = some (.frz o0 u0)
        · obtain ⟨o0, u0, h0⟩ := c0
          rw [unLk_keep e h0] at q
          cases q
          exact mv (I.hok a _ e)
        · rw [unLk_open e fun o0 u0 z => c0 ⟨o0, u0, z⟩] at q
          cases q
          obtain ⟨_, x2⟩ := (show ObjOk X.prog X.w H s.heap a (.frz ob _) from I.hok a _ e)
          exact mv (objOk_strip x2)
  len := I.len
theorem ps_unlk {X : Cx} {body : List Stmt} {t : TS} {H0 : Hp} (hz : ∀ b o u, X.H_0 b = some (.frz o u) → H0 b = some (.frz o u)) (h : PSs X body t) : PSs X body (fun D σ H => t D σ (unLk H0 H)) := ⟨fun pins s σ H D I q => h.run pins s σ _ D (inv_unLk hz I) q⟩
section
variable {X : Cx} {x n : Str} {c : Value} {i : Nat} {body suite : List Stmt} {b₀ : Stmt} {np pos pos' : Pos} {tb : WX → TS} {ts : Addr → Value → Option Addr → TS} {Wout : WX}
def wAsU (K : PySem.W.Frag) (c : Value) (i : Nat) (ts : Addr → Value → Option Addr → TS) (Wout : WX) (H : Hp) (D : Ends) : WX := wAs K c i (fun a cls d D σ H' => ts a cls d D σ (unLk H H')) Wout D
def wOnlyU (K : PySem.W.Frag) (c : Value) (ts : Addr → Value → Option Addr → TS) (Wout : WX) (H : Hp) (D : Ends) : WX := wOnly K c (fun a cls d D σ H' => ts a cls d D σ (unLk H H')) Wout D
theorem ps_tryU (hs : X.stack = X.env :: X.outer) (hf : X.env.frame = some X.env.locals) (hN : X.N.Nodup) (hi : X.N[i]? = some n) (hln : X.env.kindOf n = some .local) (hc : Names X x c) (tk : Takes X Wout)
    (hb : ∀ (W : WX) (pn : List (Addr × Obj)) (xe : Value → Shared → Prop), Takes (X.tr pn xe) W → PassesOwn (model X.prog X.w) X.A X.env xe → PSs (X.tr pn xe) body (tb W))
    (hsu : ∀ (a : Addr) (oe : Obj) (cls : Value) (d : Option Addr) (pn : List (Addr × Obj)), Zc cls d oe → (∃ vs, oe.data = .fields vs) → PSs (X.suite a ((a, oe) :: pn)) (b₀ :: suite) (ts a cls d)) :
    PS X (.Try body [.ExceptHandler (some (.Name x np)) (some n) (b₀ :: suite) pos'] [] [] pos) (fun D σ H => tb (wAsU X.K c i ts Wout H D) D σ H) := ⟨fun pins s σ H D I q =>
  (ps_try_as (ts := fun a cls d D σ H' => ts a cls d D σ (unLk H H')) hs hf hN hi hln hc tk hb fun a oe cls d pn h1 h2 => ps_unlk (H0 := H) (fun b o u z => I.base.frzs b o u z) (hsu a oe cls d pn h1 h2)).run pins s σ H D I q⟩
theorem ps_tryO (hs : X.stack = X.env :: X.outer) (hf : X.env.frame = some X.env.locals) (hc : Names X x c) (tk : Takes X Wout)
    (hb : ∀ (W : WX) (pn : List (Addr × Obj)) (xe : Value → Shared → Prop), Takes (X.tr pn xe) W → PassesOwn (model X.prog X.w) X.A X.env xe → PSs (X.tr pn xe) body (tb W))
    (hsu : ∀ (a : Addr) (oe : Obj) (cls : Value) (d : Option Addr) (pn : List (Addr × Obj)), Zc cls d oe → (∃ vs, oe.data = .fields vs) → PSs (X.suite a ((a, oe) :: pn)) (b₀ :: suite) (ts a cls d)) :
    PS X (.Try body [.ExceptHandler (some (.Name x np)) none (b₀ :: suite) pos'] [] [] pos) (fun D σ H => tb (wOnlyU X.K c ts Wout H D) D σ H) := ⟨fun pins s σ H D I q =>
  (ps_try_only (ts := fun a cls d D σ H' => ts a cls d D σ (unLk H H')) hs hf hc tk hb fun a oe cls d pn h1 h2 => ps_unlk (H0 := H) (fun b o u z => I.base.frzs b o u z) (hsu a oe cls d pn h1 h2)).run pins s σ H D I q⟩
end
/-! ### raise, try, max with a default -/
section
variable {z : Cz} {ρ : List Sl} {N : Zn} {t : TS} {ta : TA} {w : Wz} {i : Nat}
theorem zs_raise {C : Addr} (h : z.Eh C []) : ZS z (fun _ _ H => z.Er (.ref C) none H) ρ N := fun m F H σ D S _ _ _ _ => S.er C [] none H h ⟨S.bj.same S.base, rfl⟩
theorem zs_given {p : Prop} (q : p) (h : ZS z t ρ N) : ZS z (fun D σ H => p ∧ t D σ H) ρ N := fun m F H σ D S a b c d => ⟨q, h m F H σ D S a b c d⟩
theorem Sm.unLk {m : Fm} {F F1 H H1 H' : Hp} {σ : L2.St} {ρ1 : List Sl} (S1 : Sm z m F1 H1 σ ρ1) (S : Sm z m F H σ ρ) (le : Le H1 H') : Sm z m F1 (unLk H H') σ ρ1 := by
  have dkf : ∀ {o : HO}, isDk o = true → isFz o = false := fun {o} h => by cases o <;> first | rfl | exact nomatch h
  have same : Same H1 (Lk.unLk H H') := fun a o e => by
    rcases le a o e with q | ⟨q, ob, q2⟩
    · by_cases c : isFz o = false
      · exact unLk_of q c
      · obtain ⟨ob, u, rfl⟩ : ∃ ob u, o = .frz ob u := by
          cases o with
          | frz ob u => exact ⟨ob, u, rfl⟩
          | _ => exact absurd rfl c
        exact unLk_keep q (S.base _ _ (S1.fj _ _ _ e))
    · have so : strip o = o := by cases o <;> first | rfl | exact nomatch q
      refine (unLk_open (H0 := H) q2 fun o0 u0 h0 => ?_).trans (congrArg some so)
      have := S1.base _ _ (S.fj _ _ _ h0)
      rw [e] at this
      cases this
      exact nomatch q
  refine S1.ext (Same.refl F1) same (S1.lk.same same) (Nw.refl F1 H1) fun a ob u q => ?_
  obtain ⟨o1, u1, h1, h0⟩ := unLk_fz q
  obtain ⟨o2, u2, h2⟩ := h0
  have h3 := S1.base _ _ (S.fj _ _ _ h2)
  rcases le a _ h3 with q1 | ⟨q1, _⟩
  · rw [unLk_keep q1 h2] at q
    rw [h3, q]
  · exact nomatch q1
theorem zs_tryRet {K' : PySem.W.Frag} {c : Value} {ts : Addr → Value → Option Addr → TS} {Wout : WX}
    (hK : K' = z.K) (h : ZA z ta ρ fun ds ρ1 => w (Dt.olds ds) N.rt fun C fs => fs = [] ∧ PySem.W.exmOne z.K (.ref C) c = some true ∧
      ∀ a, ZS z (ts a (.ref C) none) (ρ1.set i (.v (.adr a))) ⟨fun ρ' => N.nx (ρ'.set i .un), N.rt, fun ρ' => N.bk (ρ'.set i .un), fun ρ' => N.ct (ρ'.set i .un)⟩) :
    ZS z (fun D σ H => tRet (tCallS (spZ z.K w) (WE (wAsU K' c i ts Wout H D)) ta) D σ H) ρ N := fun m F H σ D S kn kr kb kc => by
  subst hK
  refine h m F H σ _ S fun ds ρ1 F1 H1 vs n1 s1 S1 r1 => ?_
  refine ⟨F1, Dt.olds ds, N.rt, _, S1.le, rzl_old _ _ r1, n1, fun d fr F' H' v nd g => ?_, fun C fs dd H' e er => ?_⟩
  · obtain ⟨S2, r2⟩ := S1.got g
    exact kr _ _ _ _ _ nd (s1.trans g.1) (rt_of S2 r2)
  · obtain ⟨rfl, ex, go⟩ := e
    obtain ⟨le, hd⟩ := er
    cases hd
    refine ⟨true, ex, fun _ a ha => ?_, fun q => Bool.noConfusion q⟩
    have S3 := S1.unLk S le
    exact go a m F1 (unLk H H') _ _ (S3.setv (d := .adr a) (by simp only [Rz])) (fun ρ' F' H'' σ' n s S4 => kn _ _ _ _ n (s1.trans s) S4.setu) (fun d fr F' H'' v n s R => kr _ _ _ _ _ n (s1.trans s) R)
      (fun ρ' F' H'' σ' n s S4 => kb _ _ _ _ n (s1.trans s) S4.setu) fun ρ' F' H'' σ' n s S4 => kc _ _ _ _ n (s1.trans s) S4.setu
end
section
variable {z : Cz} {ρ : List Sl} {N : Dt → Bool → List Sl → Prop} {ta : TE} {i : Nat}
theorem ze_isE {K' : PySem.W.Frag} {D a : Addr} {c : V} {u : Value} {b : Bool} (hK : K' = z.K) (hc : ClsV c u) (h0 : ρ[i]? = some (.v (.adr a))) (hk : PySem.W.kitOne z.K (.ref D) u = some b) (n : N (.bl b) false ρ) : ZE z (tCB (rIsE K' D a) (tCons (tVar i) (tCons (tC c) tNil))) ρ N := fun m F H σ Q S k => by
  subst hK
  obtain ⟨hi, e⟩ := List.getElem?_eq_some_iff.mp h0
  have hi2 : i < σ.length := by rw [S.len]; exact hi
  obtain ⟨v, e1, r⟩ := S.slot i _ _ h0 (List.getElem?_eq_getElem hi2)
  simp only [Rz] at r
  subst r
  exact ⟨_, (List.getElem?_eq_getElem hi2).trans (congrArg some e1), c, u, b, rfl, fun w hw => hc.eq hw, hk, k _ _ _ _ _ _ n (Same.refl F) S (rzF_f rzb)⟩
theorem rzl_intsX {K : PySem.W.Frag} {B F : Hp} : ∀ {bs : List Int} {xs : List V}, Rzl K B F (bs.map Dt.int) xs → xs = bs.map V.int
  | [], _, h => h.inv0
  | b :: bs, _, h => by
    obtain ⟨v, r, rfl, h1, t⟩ := h.inv
    rw [rz_i h1, rzl_intsX t]
    rfl
theorem ze_maxDef {K' : PySem.W.Frag} {d : Int} (hK : K' = z.K) (h : ZE z ta ρ fun x _ ρ1 => ∃ (t : Bool) (ns : List Int), x = .lst t (ns.map Dt.int) ∧ N (.int (maxL d ns)) false ρ1) : ZE z (tCKw (rMaxDef K') (tCons ta tNil) (tCons (tC (.int d)) tNil)) ρ N := fun m F H σ Q S k => by
  subst hK
  refine h m F H σ _ S fun x fx ρ1 F1 H1 vx n1 s1 S1 r1 => ?_
  obtain ⟨F2, s2, S2, rx⟩ := rzF_frz S1 r1
  obtain ⟨t, ns, rfl, n⟩ := n1
  simp only [Rz] at rx
  obtain ⟨a, xs, rfl, e, _, r⟩ := rx
  refine ⟨a, ns, d, rfl, rfl, ?_, k _ _ _ _ _ _ n (s1.trans s2) S2 (rzF_f rzi)⟩
  rw [← rzl_intsX r]
  exact SqL.of (S2.le.exact e rfl)
end
section
variable {z : Cz} {ρ : List Sl} {N : Dt → Bool → List Sl → Prop} {wi : TI} {g : TG} {te : TE} {vs : List Nat}
/-- [te for g in ..], where each item's value tells more -/
theorem ze_lcR {α : Type} (as : List α) (gd : α → Dt) (f : α → Dt) (ok : α → Prop) (h : ZI z wi ρ fun ds ρ1 bp bm => ds = as.map gd ∧ bp ρ1 ∧ okW ρ1 vs = true ∧ as.length ≤ 100000 ∧
    (∀ a ∈ as, ZGw z g vs (gd a) (wipeZ ρ1 vs) fun ρ2 => ZE z te ρ2 fun y _ ρ4 => wipeZ ρ4 vs = wipeZ ρ1 vs ∧ y = f a ∧ ok a) ∧
    ((∀ a ∈ as, ok a) → N (.lst true (as.map f)) true (bm ρ1))) : ZE z (tLockLE (tLc wi g tYes te vs)) ρ N :=
  ze_lcW fun m F H σ R S k => h m F H σ R S fun ds ρ1 bp bm m' un F1 H1 Jt n1 => k ds ρ1 bp bm m' un F1 H1 Jt <| by
    obtain ⟨rfl, h1, h2, h3, h4, h5⟩ := n1
    refine ⟨h1, h2, by rw [List.length_map]; exact h3, fun i ad => ad = (as.take i).map f ∧ ∀ a ∈ as.take i, ok a, ⟨rfl, fun _ q => nomatch q⟩, fun i d ad hd ha => ?_, fun ad ha => ?_⟩
    · rw [List.getElem?_map] at hd
      cases q : as[i]? with
      | none => rw [q] at hd; cases hd
      | some a =>
        rw [q] at hd
        cases hd
        have hf := h4 a (List.mem_of_getElem? q)
        refine fun m F H σ v Q S r k => hf m F H σ v Q S r fun ρ2 F2 H2 σ2 n2 => k ρ2 F2 H2 σ2 (zt_yes ?_)
        rw [if_pos rfl]
        have et : as.take (i + 1) = as.take i ++ [a] := by rw [List.take_add_one, q]; rfl
        refine fun m F H σ Q S k => n2 m F H σ Q S fun y fy ρ4 F4 H4 v n4 => k y fy ρ4 F4 H4 v ⟨n4.1, ?_, ?_⟩
        · rw [et, List.map_append, ha.1, n4.2.1]
          rfl
        · intro b hb
          rw [et] at hb
          rcases List.mem_append.mp hb with c | c
          · exact ha.2 b c
          · rw [List.mem_singleton.mp c]
            exact n4.2.2
    · rw [List.length_map, List.take_length] at ha
      rw [ha.1]
      exact h5 ha.2
end
/-! ### zip of two sequences, each a list or a tuple -/
namespace MZ
open PySem PySem.Spec PyProof.Rows L2
def Cur (t : Bool) (h : Heap) (i l : Addr) (k : Nat) : Prop := match t with
  | true => h.IsTupleIter i l k
  | false => h.IsListIter i l k
def Src (t : Bool) (h : Heap) (l : Addr) (xs : Array Value) : Prop := match t with
  | true => h.IsTuple l xs
  | false => h.IsList l xs
theorem Cur.mv {t : Bool} {h h' : Heap} {i l : Addr} {k : Nat} (c : Cur t h i l k) (m : ∀ o, h.get? i = some o → h'.get? i = some o) : Cur t h' i l k := by
  cases t
  · exact Heap.IsListIter.at c m
  · exact Heap.IsTupleIter.at c m
theorem Src.mv {t : Bool} {h h' : Heap} {l : Addr} {xs : Array Value} (c : Src t h l xs) (m : ∀ o, h.get? l = some o → h'.get? l = some o) : Src t h' l xs := by
  cases t
  · exact Heap.IsList.at c m
  · obtain ⟨o, ho, r⟩ := c
    exact ⟨o, m o ho, r⟩
theorem Cur.lt {t : Bool} {h : Heap} {i l : Addr} {k : Nat} (c : Cur t h i l k) : i < h.objs.size := by
  cases t <;> (obtain ⟨o, ho, _⟩ := c; exact Heap.lt_size ho)
theorem Src.lt {t : Bool} {h : Heap} {l : Addr} {xs : Array Value} (c : Src t h l xs) : l < h.objs.size := by
  cases t <;> (obtain ⟨o, ho, _⟩ := c; exact Heap.lt_size ho)
theorem Cur.obj {t : Bool} {h : Heap} {i l : Addr} {k : Nat} (c : Cur t h i l k) : ∃ o, h.get? i = some o ∧ ∀ v, o.data ≠ .cell v := by
  cases t <;> (obtain ⟨o, ho, _, d⟩ := c; exact ⟨o, ho, fun v q => by rw [d] at q; cases q⟩)
section
variable {prog : Program} {w : World} {A : Around} {E : Value → Shared → Prop} {s : Shared}
theorem nextC {t : Bool} {i l : Addr} {k : Nat} {xs : Array Value} {x : Value} {Q : Value → Shared → Prop} (c : Cur t s.heap i l k) (r : Src t s.heap l xs) (hx : xs[k]? = some x)
    (q : ∀ g, Cur t g i l (k + 1) → Heap.SameBut i s.heap g → Q x { s with heap := g }) : wpAny (model prog w) A (Builtin.SmallTypes.nextOf (.ref i)) Q E s := by
  cases t
  · exact wpAny_nextOf_list_item c r hx q
  · exact RZ.nextOf_tuple_item c r hx q
theorem endC {t : Bool} {i l : Addr} {k : Nat} {xs : Array Value} {Q : Value → Shared → Prop} (hh : A.handled = none) (c : Cur t s.heap i l k) (r : Src t s.heap l xs) (hx : xs[k]? = none)
    (q : ∀ g e, Heap.ExtBut i s.heap g → (∃ o, g.get? e = some o ∧ o.cls = .type "StopIteration") → E (.ref e) { s with heap := g }) : wpAny (model prog w) A (Builtin.SmallTypes.nextOf (.ref i)) Q E s := by
  cases t
  · exact wpAny_nextOf_list_end hh c r hx q
  · exact RZ.nextOf_tuple_end hh c r hx q
end
/-- the zip at z, its two tuples, its two iterators -/
structure Zp (t1 t2 : Bool) (z TI TO i1 i2 l1 l2 : Addr) (h : Heap) (f : Value) (k1 k2 : Nat) (a b : Value) (xs ys : Array Value) : Prop where
  zp : IsZip h z TI TO f
  ti : IsPair h TI (.ref i1) (.ref i2)
  tt : IsPair h TO a b
  c1 : Cur t1 h i1 l1 k1
  c2 : Cur t2 h i2 l2 k2
  r1 : Src t1 h l1 xs
  r2 : Src t2 h l2 ys
section
variable {t1 t2 : Bool} {z TI TO i1 i2 l1 l2 : Addr} {h g : Heap} {f f' : Value} {k1 k2 : Nat} {a b a' b' : Value} {xs ys : Array Value}
theorem Zp.setf (D : ZipApart z TI TO i1 i2 l1 l2) (S : Zp t1 t2 z TI TO i1 i2 l1 l2 h f k1 k2 a b xs ys) (n : IsZip g z TI TO f') (m : ∀ c o, c ≠ z → h.get? c = some o → g.get? c = some o) : Zp t1 t2 z TI TO i1 i2 l1 l2 g f' k1 k2 a b xs ys :=
  ⟨n, m _ _ D.TIz S.ti, m _ _ D.TOz S.tt, S.c1.mv fun o => m _ o D.i1z, S.c2.mv fun o => m _ o D.i2z, S.r1.mv fun o => m _ o D.l1z, S.r2.mv fun o => m _ o D.l2z⟩
theorem Zp.put (D : ZipApart z TI TO i1 i2 l1 l2) (S : Zp t1 t2 z TI TO i1 i2 l1 l2 h f k1 k2 a b xs ys) (n : IsPair g TO a' b') (m : ∀ c o, c ≠ TO → h.get? c = some o → g.get? c = some o) : Zp t1 t2 z TI TO i1 i2 l1 l2 g f k1 k2 a' b' xs ys :=
  ⟨m _ _ D.TOz.symm S.zp, m _ _ D.TITO S.ti, n, S.c1.mv fun o => m _ o D.TOi1.symm, S.c2.mv fun o => m _ o D.TOi2.symm, S.r1.mv fun o => m _ o D.l1TO, S.r2.mv fun o => m _ o D.l2TO⟩
theorem Zp.go1 (D : ZipApart z TI TO i1 i2 l1 l2) (S : Zp t1 t2 z TI TO i1 i2 l1 l2 h f k1 k2 a b xs ys) (n : Cur t1 g i1 l1 (k1 + 1)) (m : ∀ c o, c ≠ i1 → h.get? c = some o → g.get? c = some o) : Zp t1 t2 z TI TO i1 i2 l1 l2 g f (k1 + 1) k2 a b xs ys :=
  ⟨m _ _ D.i1z.symm S.zp, m _ _ D.TIi1 S.ti, m _ _ D.TOi1 S.tt, n, S.c2.mv fun o => m _ o D.i12.symm, S.r1.mv fun o => m _ o D.l1i1, S.r2.mv fun o => m _ o D.l2i1⟩
theorem Zp.go2 (D : ZipApart z TI TO i1 i2 l1 l2) (S : Zp t1 t2 z TI TO i1 i2 l1 l2 h f k1 k2 a b xs ys) (n : Cur t2 g i2 l2 (k2 + 1)) (m : ∀ c o, c ≠ i2 → h.get? c = some o → g.get? c = some o) : Zp t1 t2 z TI TO i1 i2 l1 l2 g f k1 (k2 + 1) a b xs ys :=
  ⟨m _ _ D.i2z.symm S.zp, m _ _ D.TIi2 S.ti, m _ _ D.TOi2 S.tt, S.c1.mv fun o => m _ o D.i12, n, S.r1.mv fun o => m _ o D.l1i2, S.r2.mv fun o => m _ o D.l2i2⟩
/-- what is not touched -/
def Out (z TO i1 i2 : Addr) (h g : Heap) : Prop := ∀ c o, c ≠ z → c ≠ TO → c ≠ i1 → c ≠ i2 → h.get? c = some o → g.get? c = some o
end
section
variable {prog : Program} {w : World} {A : Around} {E : Value → Shared → Prop} {s : Shared}
variable {t1 t2 : Bool} {z TI TO i1 i2 l1 l2 : Addr} {k1 k2 : Nat} {a b x y : Value} {xs ys : Array Value}
theorem pairC (D : ZipApart z TI TO i1 i2 l1 l2) (S : Zp t1 t2 z TI TO i1 i2 l1 l2 s.heap .none k1 k2 a b xs ys) (hx : xs[k1]? = some x) (hy : ys[k2]? = some y) {Q : Value → Shared → Prop}
    (q : ∀ g, Zp t1 t2 z TI TO i1 i2 l1 l2 g (rawInt s.heap.objs.size) (k1 + 1) (k2 + 1) x y xs ys → IsPair g s.heap.objs.size x y → Out z TO i1 i2 s.heap g → Q (.ref s.heap.objs.size) { s with heap := g }) :
    wpAny (model prog w) A (Builtin.«zip.__next__» ⟨[.ref z], []⟩) (fun fin s' => ∃ v, fin = .done (.ret v) ∧ Q v s') E s := by
  show wpAny _ _ (field (.ref z) 2 >>= _) _ _ _
  apply wpAny_bind
  apply wpAny_field S.zp rfl (x := .bool false) rfl
  show wpAny _ _ (field (.ref z) 3 >>= _) _ _ _
  apply wpAny_bind
  apply wpAny_field S.zp rfl (x := .ref TI) rfl
  apply wpAny_bind
  apply wpAny_seqItems S.ti rfl
  show wpAny _ _ (Builtin.SmallTypes.ownedTupleIsFree (.ref z) >>= _) _ _ _
  apply wpAny_bind
  unfold Builtin.SmallTypes.ownedTupleIsFree
  apply wpAny_bind
  apply wpAny_field S.zp rfl (x := .none) rfl
  apply wpAny_pure
  simp only [if_true]
  apply wpAny_bind
  apply wpAny_rule
  apply wpAny_bind
  apply wpAny_field S.zp rfl (x := .ref TO) rfl
  apply wpAny_bind
  refine wpAny_setField_rec S.zp (by simp) fun g1 n1 m1 => ?_
  have S1 := S.setf D (f' := .ellipsis) n1 fun c o ne e => m1.extBut _ _ ne e
  apply wpAny_bind
  simp only [List.zipIdx_cons, List.zipIdx_nil, List.forIn_cons, List.forIn_nil]
  apply wpAny_bind
  apply wpAny_bind
  apply wpAny_onRaise
  show wpAny _ _ (Builtin.SmallTypes.nextOf (.ref i1) >>= _) _ _ _
  apply wpAny_bind
  refine nextC S1.c1 S1.r1 hx fun g2 n2 m2 => wpAny_pure ?_
  have S2 := S1.go1 D n2 fun c o ne e => m2.extBut _ _ ne e
  apply wpAny_bind
  apply wpAny_seqItems S2.tt rfl
  apply wpAny_bind
  refine wpAny_updateSeq_pair S2.tt fun g3 n3 m3 => ?_
  have S3 := S2.put D (a' := x) (b' := b) n3 fun c o ne e => m3.extBut _ _ ne e
  apply wpAny_bind
  refine wpAny_letGo (wpAny_pure ?_)
  apply wpAny_bind
  apply wpAny_bind
  apply wpAny_onRaise
  show wpAny _ _ (Builtin.SmallTypes.nextOf (.ref i2) >>= _) _ _ _
  apply wpAny_bind
  refine nextC S3.c2 S3.r2 hy fun g4 n4 m4 => wpAny_pure ?_
  have S4 := S3.go2 D n4 fun c o ne e => m4.extBut _ _ ne e
  apply wpAny_bind
  apply wpAny_seqItems S4.tt rfl
  apply wpAny_bind
  refine wpAny_updateSeq_pair S4.tt fun g5 n5 m5 => ?_
  have S5 := S4.put D (a' := x) (b' := y) n5 fun c o ne e => m5.extBut _ _ ne e
  apply wpAny_bind
  refine wpAny_letGo (wpAny_pure (wpAny_pure ?_))
  apply wpAny_bind
  apply wpAny_seqItems S5.tt rfl
  apply wpAny_bind
  refine wpAny_newTuple ?_
  have sz : g5.objs.size = s.heap.objs.size := by rw [m5.1, m4.1, m3.1, m2.1, m1.1]
  show wpAny _ _ (Builtin.SmallTypes.ownedTupleHandOut (.ref z) (.ref g5.objs.size) >>= _) _ _ _
  apply wpAny_bind
  unfold Builtin.SmallTypes.ownedTupleHandOut
  have fr : ∀ c o, g5.get? c = some o → (g5.push { cls := .type "tuple", data := .seq #[x, y] }).get? c = some o := fun c o e => Heap.get?_push_of_some _ e
  apply wpAny_bind
  refine wpAny_setField_rec (fr _ _ S5.zp) (by simp) fun g6 n6 m6 => ?_
  refine wpAny_setField_rec n6 (by simp) fun g7 n7 m7 => ?_
  have up : ∀ c o, c ≠ z → g5.get? c = some o → g7.get? c = some o := fun c o ne e => m7.extBut _ _ ne (m6.extBut _ _ ne (fr c o e))
  have n7' : IsZip g7 z TI TO (rawInt g5.objs.size) := n7
  have S7 := S5.setf D n7' up
  have zl : z < g5.objs.size := Heap.lt_size S5.zp
  have pr : IsPair g7 g5.objs.size x y := m7.extBut _ _ (Nat.ne_of_gt zl) (m6.extBut _ _ (Nat.ne_of_gt zl) (Heap.get?_push_size _ rfl))
  rw [sz] at S7 pr
  refine wpAny_pure ⟨_, rfl, ?_⟩
  show Q (.ref g5.objs.size) _
  rw [sz]
  exact q g7 S7 pr fun c o e1 e2 e3 e4 e => up c o e1 (m5.extBut _ _ e2 (m4.extBut _ _ e4 (m3.extBut _ _ e2 (m2.extBut _ _ e3 (m1.extBut _ _ e1 e)))))
theorem pairE (hh : A.handled = none) (D : ZipApart z TI TO i1 i2 l1 l2) (S : Zp t1 t2 z TI TO i1 i2 l1 l2 s.heap .none k1 k2 a b xs ys) (hend : xs[k1]? = none ∨ ys[k2]? = none) {Q : Fin → Shared → Prop}
    (q : ∀ g e, Out z TO i1 i2 s.heap g → (∃ o, g.get? e = some o ∧ o.cls = .type "StopIteration") → E (.ref e) { s with heap := g }) : wpAny (model prog w) A (Builtin.«zip.__next__» ⟨[.ref z], []⟩) Q E s := by
  show wpAny _ _ (field (.ref z) 2 >>= _) _ _ _
  apply wpAny_bind
  apply wpAny_field S.zp rfl (x := .bool false) rfl
  show wpAny _ _ (field (.ref z) 3 >>= _) _ _ _
  apply wpAny_bind
  apply wpAny_field S.zp rfl (x := .ref TI) rfl
  apply wpAny_bind
  apply wpAny_seqItems S.ti rfl
  show wpAny _ _ (Builtin.SmallTypes.ownedTupleIsFree (.ref z) >>= _) _ _ _
  apply wpAny_bind
  unfold Builtin.SmallTypes.ownedTupleIsFree
  apply wpAny_bind
  apply wpAny_field S.zp rfl (x := .none) rfl
  apply wpAny_pure
  simp only [if_true]
  apply wpAny_bind
  apply wpAny_rule
  apply wpAny_bind
  apply wpAny_field S.zp rfl (x := .ref TO) rfl
  apply wpAny_bind
  refine wpAny_setField_rec S.zp (by simp) fun g1 n1 m1 => ?_
  have S1 := S.setf D (f' := .ellipsis) n1 fun c o ne e => m1.extBut _ _ ne e
  apply wpAny_bind
  simp only [List.zipIdx_cons, List.zipIdx_nil, List.forIn_cons, List.forIn_nil]
  apply wpAny_bind
  apply wpAny_bind
  apply wpAny_onRaise
  show wpAny _ _ (Builtin.SmallTypes.nextOf (.ref i1) >>= _) _ _ _
  apply wpAny_bind
  cases hx : xs[k1]? with
  | none =>
    refine endC hh S1.c1 S1.r1 hx fun g2 e m2 he => ?_
    obtain ⟨oe, h1, h2⟩ := he
    have zz : IsZip g2 z TI TO .ellipsis := m2 _ _ D.i1z.symm S1.zp
    have ne : e ≠ z := fun q => by
      subst q
      rw [zz] at h1
      cases h1
      simp at h2
    refine wpAny_setField_rec zz (by simp) fun g3 _ m3 => ?_
    exact q g3 e (fun c o e1 _ e3 _ e => m3.extBut _ _ e1 (m2 _ _ e3 (m1.extBut _ _ e1 e))) ⟨oe, m3.extBut _ _ ne h1, h2⟩
  | some x =>
    have hy : ys[k2]? = none := by
      rcases hend with h | h
      · rw [hx] at h
        cases h
      · exact h
    refine nextC S1.c1 S1.r1 hx fun g2 n2 m2 => wpAny_pure ?_
    have S2 := S1.go1 D n2 fun c o ne e => m2.extBut _ _ ne e
    apply wpAny_bind
    apply wpAny_seqItems S2.tt rfl
    apply wpAny_bind
    refine wpAny_updateSeq_pair S2.tt fun g3 n3 m3 => ?_
    have S3 := S2.put D (a' := x) (b' := b) n3 fun c o ne e => m3.extBut _ _ ne e
    apply wpAny_bind
    refine wpAny_letGo (wpAny_pure ?_)
    apply wpAny_bind
    apply wpAny_bind
    apply wpAny_onRaise
    show wpAny _ _ (Builtin.SmallTypes.nextOf (.ref i2) >>= _) _ _ _
    apply wpAny_bind
    refine endC hh S3.c2 S3.r2 hy fun g4 e m4 he => ?_
    obtain ⟨oe, h1, h2⟩ := he
    have zz : IsZip g4 z TI TO .ellipsis := m4 _ _ D.i2z.symm S3.zp
    have ne : e ≠ z := fun q => by
      subst q
      rw [zz] at h1
      cases h1
      simp at h2
    refine wpAny_setField_rec zz (by simp) fun g5 _ m5 => ?_
    exact q g5 e (fun c o e1 e2 e3 e4 e => m5.extBut _ _ e1 (m4 _ _ e4 (m3.extBut _ _ e2 (m2.extBut _ _ e3 (m1.extBut _ _ e1 e))))) ⟨oe, m5.extBut _ _ ne h1, h2⟩
theorem nextZ (D : ZipApart z TI TO i1 i2 l1 l2) (S : Zp t1 t2 z TI TO i1 i2 l1 l2 s.heap .none k1 k2 a b xs ys) (hx : xs[k1]? = some x) (hy : ys[k2]? = some y) {Q : Option Value → Shared → Prop}
    (q : ∀ g, Zp t1 t2 z TI TO i1 i2 l1 l2 g (rawInt s.heap.objs.size) (k1 + 1) (k2 + 1) x y xs ys → IsPair g s.heap.objs.size x y → Out z TO i1 i2 s.heap g → Q (some (.ref s.heap.objs.size)) { s with heap := g }) : wpAny (model prog w) A (pyNext (.ref z)) Q E s := by
  have ty : s.TypeIs (.ref z) "zip" := ⟨_, S.zp, rfl⟩
  unfold pyNext
  apply wpAny_bind
  apply wpAny_attempt
  refine wpAny_callSpecial?_slot (name := Str.ofString "__next__") ty F.slot_zip_next ?_
  exact wpAny_call_entry F.slot_zip_next ty F.entry_zip_next (pairC D S hx hy fun g c1 c2 c3 => wpAny_pure (q g c1 c2 c3)) (F.args_zip_next_1 _)
theorem stopZ (hh : A.handled = none) (D : ZipApart z TI TO i1 i2 l1 l2) (S : Zp t1 t2 z TI TO i1 i2 l1 l2 s.heap .none k1 k2 a b xs ys) (hend : xs[k1]? = none ∨ ys[k2]? = none) {Q : Option Value → Shared → Prop}
    (q : ∀ g, Out z TO i1 i2 s.heap g → Q none { s with heap := g }) : wpAny (model prog w) A (pyNext (.ref z)) Q E s := by
  have ty : s.TypeIs (.ref z) "zip" := ⟨_, S.zp, rfl⟩
  unfold pyNext
  apply wpAny_bind
  apply wpAny_attempt
  refine wpAny_callSpecial?_slot (name := Str.ofString "__next__") ty F.slot_zip_next ?_
  refine wpAny_call_entry F.slot_zip_next ty F.entry_zip_next (pairE (A := A.in1) hh D S hend fun g e m he => ?_) (F.args_zip_next_1 _)
  obtain ⟨o, h1, h2⟩ := he
  apply wpAny_bind
  exact wpAny_isInstance (T := "StopIteration") (b := true) ⟨o, h1, h2⟩ isSubtype_stop (wpAny_pure (q g m))
end
abbrev nw1 (h : Heap) (a : Addr) : Heap := h.push ⟨.type "list_iterator", none, .fields #[.ref a, .int 0 0], #[]⟩
abbrev nw2 (h : Heap) (a b : Addr) : Heap := (nw1 h a).push ⟨.type "tuple_iterator", none, .fields #[.ref b, .int 0 0], #[]⟩
abbrev nw3 (h : Heap) (a b : Addr) : Heap := (nw2 h a b).push ⟨.type "tuple", none, .seq #[.ref h.objs.size, .ref (nw1 h a).objs.size], #[]⟩
abbrev nw4 (h : Heap) (a b : Addr) : Heap := (nw3 h a b).push ⟨.type "tuple", none, .seq #[.none, .none], #[]⟩
abbrev nw5 (h : Heap) (a b : Addr) : Heap := (nw4 h a b).push ⟨.type "zip", none, .fields #[.none, .bool false, .bool false, .ref (nw2 h a b).objs.size, .ref (nw3 h a b).objs.size], #[]⟩
theorem meetsZ (a b : Addr) (xs ys : Array Value) : Meets (Builtin.«zip.__new__» ⟨[.type "zip", .ref a, .ref b], []⟩) (fun _ R s => s.heap.IsList a xs ∧ s.heap.IsTuple b ys ∧ R (.ok (.ret (.ref (nw4 s.heap a b).objs.size))) { s with heap := nw5 s.heap a b }) := .of_wp fun prog w A R s ⟨ha, hb, q⟩ => by
  obtain ⟨hp, gs, dr, tk, os⟩ := s
  have sub := sub_zip
  have ha' : Heap.IsList (Shared.heap ⟨hp, gs, dr, tk, os⟩) a xs := ha
  have hb' : Heap.IsTuple (Shared.heap ⟨nw1 hp a, gs, dr, tk, os⟩) b ys := Heap.IsTuple.push hb _
  wp_walk using wpAny_pyIter_list ha', wpAny_pyIter_tuple hb'
  exact ⟨_, rfl, q⟩
section
variable {prog : Program} {w : World} {A : Around} {E : Value → Shared → Prop} {s : Shared}
theorem callZ {a b : Addr} {xs ys : Array Value} {Q : Value → Shared → Prop} (ha : s.heap.IsList a xs) (hb : s.heap.IsTuple b ys)
    (q : ∀ g, Zp false true (s.heap.objs.size + 4) (s.heap.objs.size + 2) (s.heap.objs.size + 3) s.heap.objs.size (s.heap.objs.size + 1) a b g .none 0 0 .none .none xs ys → (∀ c o, s.heap.get? c = some o → g.get? c = some o) → Q (.ref (s.heap.objs.size + 4)) { s with heap := g }) :
    wpAny (model prog w) A (call (.type "zip") [.ref a, .ref b]) Q E s := by
  have m := meetsZ a b xs ys
  refine callType_new F.called_zip (by decide) (F.typeCall_zip_2 _ _) (F.newCall_zip_2 _ _) (fun o => F.args_object_init_3 o _ _) F.entry_zip_new m ⟨ha, hb, ?_⟩
  have n1 : (nw1 s.heap a).objs.size = s.heap.objs.size + 1 := Heap.size_push _ _
  have n2 : (nw2 s.heap a b).objs.size = s.heap.objs.size + 2 := (Heap.size_push _ _).trans (by rw [n1])
  have n3 : (nw3 s.heap a b).objs.size = s.heap.objs.size + 3 := (Heap.size_push _ _).trans (by rw [n2])
  have n4 : (nw4 s.heap a b).objs.size = s.heap.objs.size + 4 := (Heap.size_push _ _).trans (by rw [n3])
  have u1 : ∀ c o, s.heap.get? c = some o → (nw1 s.heap a).get? c = some o := fun c o e => Heap.get?_push_of_some _ e
  have u2 : ∀ c o, (nw1 s.heap a).get? c = some o → (nw2 s.heap a b).get? c = some o := fun c o e => Heap.get?_push_of_some _ e
  have u3 : ∀ c o, (nw2 s.heap a b).get? c = some o → (nw3 s.heap a b).get? c = some o := fun c o e => Heap.get?_push_of_some _ e
  have u4 : ∀ c o, (nw3 s.heap a b).get? c = some o → (nw4 s.heap a b).get? c = some o := fun c o e => Heap.get?_push_of_some _ e
  have u5 : ∀ c o, (nw4 s.heap a b).get? c = some o → (nw5 s.heap a b).get? c = some o := fun c o e => Heap.get?_push_of_some _ e
  have g5 : (nw5 s.heap a b).get? (nw4 s.heap a b).objs.size = some _ := Heap.get?_push_size _ rfl
  have g4 : (nw5 s.heap a b).get? (nw3 s.heap a b).objs.size = some _ := u5 _ _ (Heap.get?_push_size _ rfl)
  have g3 : (nw5 s.heap a b).get? (nw2 s.heap a b).objs.size = some _ := u5 _ _ (u4 _ _ (Heap.get?_push_size _ rfl))
  have g2 : (nw5 s.heap a b).get? (nw1 s.heap a).objs.size = some _ := u5 _ _ (u4 _ _ (u3 _ _ (Heap.get?_push_size _ rfl)))
  have g1 : (nw5 s.heap a b).get? s.heap.objs.size = some _ := u5 _ _ (u4 _ _ (u3 _ _ (u2 _ _ (Heap.get?_push_size _ rfl))))
  have kp : ∀ c o, s.heap.get? c = some o → (nw5 s.heap a b).get? c = some o := fun c o e => u5 _ _ (u4 _ _ (u3 _ _ (u2 _ _ (u1 c o e))))
  show _ ∧ _
  rw [n2, n3, n4] at g5
  rw [n1, n2] at g3
  rw [n3] at g4
  rw [n1] at g2
  rw [n4]
  exact ⟨⟨_, g5, rfl⟩, q _ ⟨g5, g3, g4, ⟨_, g1, rfl, rfl⟩, ⟨_, g2, rfl, rfl⟩, Src.mv (t := false) ha fun o e => kp _ o e, Src.mv (t := true) hb fun o e => kp _ o e⟩ kp⟩
end
/-- the list at a and the tuple at b, as they stand at each turn, the items in new pairs -/
def ItM (K : PySem.W.Frag) (a b : Addr) : It :=
  ⟨fun i H => ∃ (xs ys : List V) (x y : V), SqL K H a xs ∧ SqT K H b ys ∧ xs[i]? = some x ∧ ys[i]? = some y,
    fun i H v H' => ∃ T x y, v = .ref T ∧ H T = none ∧ H' = upd H T (.tup [x, y]) ∧ (∀ xs, SqL K H a xs → xs[i]? = some x) ∧ ∀ ys, SqT K H b ys → ys[i]? = some y,
    fun i H => ∃ xs ys : List V, SqL K H a xs ∧ SqT K H b ys ∧ (xs.length ≤ i ∨ ys.length ≤ i)⟩
def tnM (a b z TI TO i1 i2 : Addr) (i : Nat) (h : Heap) : Prop := ∃ x y, IsZip h z TI TO .none ∧ IsPair h TI (.ref i1) (.ref i2) ∧ IsPair h TO x y ∧ Cur false h i1 a i ∧ Cur true h i2 b i
theorem turnM {P : Program} {w : World} {K : PySem.W.Frag} {elts : List Expr} {kk : Nat} {tpos : Pos} {a b z TI TO i1 i2 : Addr} (D : ZipApart z TI TO i1 i2 a b) :
    Turn P w K (.Tuple elts kk tpos) (ItM K a b) [z, TI, TO, i1, i2] z (tnM a b z TI TO i1 i2) where
  mem := List.mem_cons_self
  obj := fun i h ⟨x, y, s1, s2, s3, s4, s5⟩ c hc => by
    simp only [List.mem_cons, List.not_mem_nil, or_false] at hc
    rcases hc with rfl | rfl | rfl | rfl | rfl
    · exact ⟨_, s1, fun v e => nomatch e⟩
    · exact ⟨_, s2, fun v e => nomatch e⟩
    · exact ⟨_, s3, fun v e => nomatch e⟩
    · exact s4.obj
    · exact s5.obj
  keep := fun i h g ⟨x, y, s1, s2, s3, s4, s5⟩ k => ⟨x, y, k z (by simp) _ s1, k TI (by simp) _ s2, k TO (by simp) _ s3, s4.mv fun o => k i1 (by simp) o, s5.mv fun o => k i2 (by simp) o⟩
  item := by
    intro X eP ew eK hc i pins s σ H E I hf st hg
    subst eP ew eK
    obtain ⟨x0, y0, s1, s2, s3, s4, s5⟩ := st
    obtain ⟨xs, ys, x, y, qa, qb, hx, hy⟩ := hg
    obtain ⟨us, ra, pa, _⟩ := I.list qa
    obtain ⟨vs, rb, pb, _⟩ := I.tuple qb
    obtain ⟨u, hu, ru⟩ := ra.get hx
    obtain ⟨v, hv, rv⟩ := rb.get hy
    have S : Zp false true z TI TO i1 i2 a b s.heap .none i i x0 y0 us.toArray vs.toArray := ⟨s1, s2, s3, s4, s5, pa.isList, pb⟩
    refine nextZ D S (x := u) (y := v) (by simpa using hu) (by simpa using hv) fun g S' hT out => ?_
    refine ⟨_, rfl, wpAny_letOwnedTupleGo_zip (s := { s with heap := g }) S'.zp fun g' z' sb => ?_⟩
    have S2 := S'.setf D z' fun c o ne e => sb.extBut _ _ ne e
    have zl : z < s.heap.objs.size := Heap.lt_size s1
    have hT2 : IsPair g' s.heap.objs.size u v := sb.extBut _ _ (Nat.ne_of_gt zl) hT
    have lt5 : ∀ c ∈ [z, TI, TO, i1, i2], c < s.heap.objs.size := fun c hc => by
      simp only [List.mem_cons, List.not_mem_nil, or_false] at hc
      rcases hc with rfl | rfl | rfl | rfl | rfl
      · exact zl
      · exact Heap.lt_size s2
      · exact Heap.lt_size s3
      · exact s4.lt
      · exact s5.lt
    have ok : ObjOk X.prog X.w (upd H s.heap.objs.size (.tup [x, y])) g' s.heap.objs.size (.tup [x, y]) := ⟨by show 2 ≤ sizeLine; decide, [u, v], .cons ru (.cons rv .nil), _, hT2, rfl, _, rfl⟩
    have I1 : Inv X pins σ (upd H s.heap.objs.size (.tup [x, y])) { s with heap := g' } := by
      refine I.turnedNew (t' := s.toks) (ch := [z, TI, TO, i1, i2]) (fun c o nb e => ?_) hf (Nat.le_refl _) ok
      simp only [List.mem_cons, List.not_mem_nil, or_false, not_or] at nb
      exact sb.extBut _ _ nb.1 (out c o nb.1 nb.2.2.1 nb.2.2.2.1 nb.2.2.2.2 e)
    refine ⟨.ref s.heap.objs.size, _, I1, rfl, ⟨_, x, y, rfl, I.hok.fresh (Nat.le_refl _), rfl, fun l hl => ?_, fun l hl => ?_⟩, ⟨u, v, S2.zp, S2.ti, S2.tt, S2.c1, S2.c2⟩, fun c hc => ?_⟩
    · rw [I.list_inj hl qa]
      exact hx
    · rw [I.tuple_inj hl qb]
      exact hy
    · rw [upd_ne (Nat.ne_of_lt (lt5 c hc))]
      exact (hf c hc).1
  done := by
    intro X eP ew eK hc i pins s σ H E I hf st hg
    subst eP ew eK
    obtain ⟨x0, y0, s1, s2, s3, s4, s5⟩ := st
    obtain ⟨xs, ys, qa, qb, hl⟩ := hg
    obtain ⟨us, ra, pa, _⟩ := I.list qa
    obtain ⟨vs, rb, pb, _⟩ := I.tuple qb
    have la := ra.length
    have lb := rb.length
    have S : Zp false true z TI TO i1 i2 a b s.heap .none i i x0 y0 us.toArray vs.toArray := ⟨s1, s2, s3, s4, s5, pa.isList, pb⟩
    have he : us.toArray[i]? = none ∨ vs.toArray[i]? = none := by
      rcases hl with q | q
      · left
        simp only [List.getElem?_toArray, List.getElem?_eq_none_iff]
        omega
      · right
        simp only [List.getElem?_toArray, List.getElem?_eq_none_iff]
        omega
    refine stopZ (I.ok.hd hc) D S he fun g out => ⟨rfl, I.turnedL (t' := s.toks) (ch := [z, TI, TO, i1, i2]) (fun c o nb e => ?_) hf⟩
    simp only [List.mem_cons, List.not_mem_nil, or_false, not_or] at nb
    exact out c o nb.1 nb.2.2.1 nb.2.2.2.1 nb.2.2.2.2 e
  self := fun A i s Q E ⟨x, y, s1, _⟩ q => wpAny_pyIter_zip s1 q
def iZipM (K : PySem.W.Frag) (ta : TA) : TI := fun σ H R => ta σ H fun vs H1 => ∃ a b xs ys, vs = [.ref a, .ref b] ∧ SqL K H1 a xs ∧ SqT K H1 b ys ∧ R (ItM K a b) H1
theorem pi_zipM {X : Cx} {K : PySem.W.Frag} {e e2 : Expr} {ta : TA} {p pos tpos : Pos} {elts : List Expr} {kk : Nat} (eK : X.K = K) (hg : Gl X "zip") (hm : X.mg "zip" = none) (ha : PA X [e, e2] ta)
    (hs : starEach [e, e2] X.env = (false, eval e X.env) :: starEach [e2] X.env := by rfl) (hpl : (backTo pos (starEach [e2] X.env)).any (·.1) = false := by rfl) : PI X (.Tuple elts kk tpos) (.Call (.Name "zip" p) [e, e2] [] pos) (iZipM K ta) := by
  subst eK
  refine ⟨fun pins s σ H R I h => ?_⟩
  refine Call_ (ld_blt I hg hm PyProof.Rows.boot_zip (PyProof.Rows.callWith_type1 (thn (ha.run pos pins s σ H _ I h) fun us s1 got => ?_) hs hpl))
  obtain ⟨vs, H1, I1, r1, a, b, xs, ys, rfl, qa, qb, q⟩ := got
  obtain ⟨u1, u2, rfl, ra, rb⟩ := vals2 r1
  cases ra
  cases rb
  obtain ⟨la, _, pa, _⟩ := I1.list qa
  obtain ⟨lb, _, pb, _⟩ := I1.tuple qb
  have pb' : s1.heap.IsTuple b lb.toArray := pb
  have fresh : ∀ c, s1.heap.objs.size ≤ c → FpOk X pins H1 c := fun c hc => I1.fpOk hc (I1.hok.fresh hc)
  refine callZ pa.isList pb' fun g S kp => wpAny_pyIter_zip S.zp ?_
  have I2 : Inv X pins σ H1 { s1 with heap := g } := I1.kept (t' := s1.toks) kp
  obtain ⟨ob, hb, _⟩ := id pb'
  have ap := PySem.W.ktu_apart s1.heap.objs.size a b pa.lt (Heap.lt_size hb)
  refine ⟨s1.heap.objs.size + 4, [s1.heap.objs.size + 4, s1.heap.objs.size + 2, s1.heap.objs.size + 3, s1.heap.objs.size, s1.heap.objs.size + 1], _, _, H1, rfl, I2, turnM ap, ⟨_, _, S.zp, S.ti, S.tt, S.c1, S.c2⟩, fun c hc => fresh c ?_, q⟩
  simp only [List.mem_cons, List.not_mem_nil, or_false] at hc
  rcases hc with e | e | e | e | e <;> rw [e]
  · exact Nat.le_add_right _ _
  · exact Nat.le_add_right _ _
  · exact Nat.le_add_right _ _
  · exact Nat.le_refl _
  · exact Nat.le_add_right _ _
theorem walkM {K : PySem.W.Frag} {a b : Addr} {xs ys : List V} {n : Nat} (hn : n = min xs.length ys.length) : Walk (ItM K a b) n (fun H => SqL K H a xs ∧ SqT K H b ys) (YPair (fun i => xs[i]?) (fun i => ys[i]?)) := by
  subst hn
  refine ⟨fun i H hi ⟨h1, h2⟩ => ⟨xs, ys, xs[i]'(by omega), ys[i]'(by omega), h1, h2, List.getElem?_eq_getElem _, List.getElem?_eq_getElem _⟩, fun H ⟨h1, h2⟩ => ⟨xs, ys, h1, h2, by omega⟩, fun i H x H' hi ⟨h1, h2⟩ hy => ?_⟩
  obtain ⟨T, x', y', e1, e2, e3, f1, f2⟩ := hy
  exact ⟨T, x', y', e1, e2, e3, f1 xs h1, f2 ys h2⟩
end MZ
/-! ### zip, texts, tables of the module -/
section
variable {z : Cz} {ρ : List Sl} {N : Dt → Bool → List Sl → Prop} {ta tb te : TE} {t : TA} {i : Nat} {I : List Dt → List Sl → (List Sl → Prop) → (List Sl → List Sl) → Prop}
theorem flat_strs : ∀ xs : List Str, (xs.map Dt.str).mapM flatD = some (xs.map V.str)
  | [] => rfl
  | x :: xs => by rw [List.map_cons, List.mapM_cons, flat_strs xs]; rfl
theorem foldl_max {m : Int} : ∀ (ys : List Int) (y : Int), (m = y ∨ m ∈ ys) → y ≤ m → (∀ x ∈ ys, x ≤ m) → ys.foldl max y = m
  | [], y, h, _, _ => by rcases h with h | h; exact h.symm; cases h
  | x :: ys, y, h, h1, h2 => by
    rw [List.foldl_cons]
    have hx := h2 x (List.mem_cons_self)
    refine foldl_max ys (max y x) ?_ (by omega) (fun u hu => h2 u (List.mem_cons_of_mem _ hu))
    rcases h with h | h
    · left; omega
    · rcases List.mem_cons.mp h with h | h
      · left; omega
      · right; exact h
theorem maxL_of {m : Int} : ∀ {ns : List Int}, m ∈ ns → (∀ y ∈ ns, y ≤ m) → maxL 0 ns = m
  | y :: ys, h, k => foldl_max ys y (List.mem_cons.mp h) (k y (List.mem_cons_self)) fun x hx => k x (List.mem_cons_of_mem _ hx)
def zipD (xs : List Dt) (ys : List Str) : List Dt := List.zipWith (fun d y => .tup [d, .str y]) xs ys
/-- zip of a list and a written tuple of texts -/
theorem zi_zipM {K' : PySem.W.Frag} (hK : K' = z.K) (h : ZA z t ρ fun ds ρ1 => ∃ (u : Bool) (xs : List Dt) (a : Addr) (ys : List Str), ds = [.lst u xs, .adr a] ∧ tupStrs z.K a ys = true ∧ ys.length ≤ 1000 ∧ I (zipD xs ys) ρ1 bT bI) : ZI z (MZ.iZipM K' t) ρ I := fun m F H σ R S k => by
  subst hK
  refine h m F H σ _ S fun ds ρ1 F1 H1 vs n1 s1 S1 r1 => ?_
  obtain ⟨u, xs, a, ys, rfl, hs, hl, n⟩ := n1
  obtain ⟨v, r, rfl, rv, rr⟩ := r1.inv
  obtain ⟨v2, r, rfl, rv2, rr⟩ := rr.inv
  obtain rfl := rr.inv0
  obtain rfl := rz_a rv2
  simp only [Rz] at rv
  obtain ⟨b, us, rfl, e, _, rx⟩ := rv
  have hT : ∀ H, SqT z.K H a (ys.map V.str) := fun H => tupStrs_ok hs hl
  refine ⟨b, a, us, ys.map V.str, rfl, SqL.of (S1.le.exact e rfl), hT _, k _ _ _ _ _ _ _ _ _ n s1 .id S1 ⟨min us.length (ys.map V.str).length, _, _, MZ.walkM rfl, by unfold zipD; rw [List.length_zipWith, rx.len, List.length_map], fun F' H' f le _ => ⟨SqL.of (le.exact (f _ _ e) rfl), hT _⟩, fun m2 i d F' H' H'' x σ ρ eb e f S y => ?_⟩⟩
  obtain ⟨T, vx, vy, rfl, hN, rfl, e2, e3⟩ := y
  dsimp only at e2 e3
  obtain ⟨dx, hd, rd⟩ := rx.back e2
  unfold zipD at e
  rw [List.getElem?_zipWith, hd] at e
  cases q : ys[i]? with
  | none => rw [q] at e; cases e
  | some y =>
    rw [q] at e
    cases e
    rw [List.getElem?_map, q] at e3
    cases e3
    obtain ⟨f2, S2⟩ := S.new (o := .tup [vx, .str y]) hN
    exact ⟨_, f2, S2, by simp only [Rz]; exact ⟨T, _, rfl, upd_same, .cons (rz_mono (f.trans f2) _ _ rd) (.cons rzs .nil)⟩⟩
def signsD (x : Str) : List Dt := x.cps.toList.map fun c => .str ⟨#[c]⟩
theorem zi_str (h : ZE z te ρ fun d _ ρ1 => ∃ x, d = .str x ∧ I (signsD x) ρ1 bT bI) : ZI z (iStr te) ρ I := fun m F H σ R S k => by
  refine h m F H σ _ S fun d fx ρ1 F1 H1 vx n1 s1 S1 r1 => ?_
  obtain ⟨F2, s2, S2, rx⟩ := rzF_frz S1 r1
  obtain ⟨x, rfl, n⟩ := n1
  obtain rfl := rz_s rx
  refine ⟨x, rfl, k _ _ _ _ _ _ _ _ _ n (s1.trans s2) .id S2 ⟨x.cps.size, _, _, walk_str, by unfold signsD; rw [List.length_map, Array.length_toList], fun _ _ _ _ _ => trivial, fun m2 i d F' H' H'' v σ ρ eb e f S y => ?_⟩⟩
  obtain ⟨rfl, c, hc, rfl⟩ := y
  unfold signsD at e
  rw [List.getElem?_map, Array.getElem?_toList, hc] at e
  cases e
  exact ⟨F', Same.refl F', S, rzs⟩
theorem ze_ixS (h : ZE z ta ρ fun x _ ρ1 => ZE z tb ρ1 fun y _ ρ2 => ∃ s j c, x = .str s ∧ y = .int j ∧ s.length ≤ 100000 ∧ atI s.cps.toList j = some c ∧ N (.str ⟨#[c]⟩) false ρ2) : ZE z (tOp rIxS ta tb) ρ N :=
  ze_op2w (W := fun x y N ρ2 => ∃ s j c, x = .str s ∧ y = .int j ∧ s.length ≤ 100000 ∧ atI s.cps.toList j = some c ∧ N (.str ⟨#[c]⟩) false ρ2) (fun x y ρ2 N n2 m F H σ Q vx vy S r1 r2 k => by
    obtain ⟨s, j, c, rfl, rfl, hl, hc, n⟩ := n2
    exact ⟨s, j, c, rz_s r1, rz_i r2, Nat.le_trans hl (by rw [sizeLine_eq]; decide), hc, k _ _ _ _ _ _ n (Same.refl F) S (rzF_f rzs)⟩) h
theorem ze_lenS (h : ZE z ta ρ fun x _ ρ1 => ∃ s, x = .str s ∧ s.length ≤ 100000 ∧ N (.int s.length) false ρ1) : ZE z (tCB (fun xs H Q => ∃ z, xs = [.str z] ∧ z.length ≤ sizeLine ∧ Q (.int z.length) H) (tCons ta tNil)) ρ N :=
  ze_CB1 (W := fun x N ρ1 => ∃ s, x = .str s ∧ s.length ≤ 100000 ∧ N (.int s.length) false ρ1) (fun x ρ2 N n1 m F H σ Q vx S r k => by
    obtain ⟨s, rfl, hl, n⟩ := n1
    obtain rfl := rz_s r
    exact ⟨s, rfl, Nat.le_trans hl (by rw [sizeLine_eq]; decide), k _ _ _ _ _ _ n (Same.refl F) S (rzF_f rzi)⟩) h
theorem ze_inSign (h : ZE z ta ρ fun x _ ρ1 => ZE z tb ρ1 fun y _ ρ2 => ∃ c s, x = .str ⟨#[c]⟩ ∧ y = .str s ∧ N (.bl (decide (c ∈ s.cps.toList))) false ρ2) : ZE z (tOp (fun x y H Q => ∃ (c : Nat) (z : Str), x = .str ⟨#[c]⟩ ∧ y = .str z ∧ Q (.bl (decide (c ∈ z.cps.toList))) H) ta tb) ρ N :=
  ze_op2w (W := fun x y N ρ2 => ∃ c s, x = .str ⟨#[c]⟩ ∧ y = .str s ∧ N (.bl (decide (c ∈ s.cps.toList))) false ρ2) (fun x y ρ2 N n2 m F H σ Q vx vy S r1 r2 k => by
    obtain ⟨c, s, rfl, rfl, n⟩ := n2
    exact ⟨c, s, rz_s r1, rz_s r2, k _ _ _ _ _ _ n (Same.refl F) S (rzF_f rzb)⟩) h
theorem ze_notInSign (h : ZE z ta ρ fun x _ ρ1 => ZE z tb ρ1 fun y _ ρ2 => ∃ c s, x = .str ⟨#[c]⟩ ∧ y = .str s ∧ N (.bl (!decide (c ∈ s.cps.toList))) false ρ2) : ZE z (tOp (fun x y H Q => ∃ (c : Nat) (z : Str), x = .str ⟨#[c]⟩ ∧ y = .str z ∧ Q (.bl (!decide (c ∈ z.cps.toList))) H) ta tb) ρ N :=
  ze_op2w (W := fun x y N ρ2 => ∃ c s, x = .str ⟨#[c]⟩ ∧ y = .str s ∧ N (.bl (!decide (c ∈ s.cps.toList))) false ρ2) (fun x y ρ2 N n2 m F H σ Q vx vy S r1 r2 k => by
    obtain ⟨c, s, rfl, rfl, n⟩ := n2
    exact ⟨c, s, rz_s r1, rz_s r2, k _ _ _ _ _ _ n (Same.refl F) S (rzF_f rzb)⟩) h
/-- d[word], a table of the module whose values are written tuples of texts -/
def KTup (K : PySem.W.Frag) (d : Addr) (x : Str) (ys : List Str) : Bool := match PySem.W.nsIn K d x with
  | some (some (.ref a)) => tupStrs K a ys
  | _ => false
theorem ktup_get {K : PySem.W.Frag} {d : Addr} {x : Str} {ys : List Str} (h : KTup K d x ys = true) : ∃ a, PySem.W.nsIn K d x = some (some (.ref a)) ∧ tupStrs K a ys = true := by
  unfold KTup at h
  split at h
  · rename_i a e
    exact ⟨a, e, h⟩
  · cases h
def rIxKD (K : PySem.W.Frag) (w : World) (d : Addr) : R2 := fun x y H Q => ∃ z v, x = .ref d ∧ y = .str z ∧ KDct K w d z v ∧ Q v H
theorem ix_kdictK {X : Cx} {K : PySem.W.Frag} {w : World} {d : Addr} (hk : X.K = K) (hw : X.w = w) : IxR X (rIxKD K w d) := by
  subst hk hw
  intro value slice pins s σ H x y v u Q I rx ry h hs
  obtain ⟨z, r, e1, e2, e3, q⟩ := h
  exact ix_kdict value slice pins s σ H x y v u Q I rx ry ⟨d, z, r, e1, e2, e3, q⟩ hs
theorem ze_ixKD {K' : PySem.W.Frag} {w : World} {d : Addr} {es : Array DictEntry} {n : Nat} (hK : K' = z.K) (D : KDict z.K w d es n) (h : ZE z tb ρ fun y _ ρ2 => ∃ x ys, y = .str x ∧ KTup z.K d x ys = true ∧ ∀ a, tupStrs z.K a ys = true → N (.adr a) false ρ2) : ZE z (tOp (rIxKD K' w d) (tC (.ref d)) tb) ρ N := by
  subst hK
  refine ze_op2w (W := fun x y N ρ2 => x = .adr d ∧ ∃ s ys, y = .str s ∧ KTup z.K d s ys = true ∧ ∀ a, tupStrs z.K a ys = true → N (.adr a) false ρ2) (fun x y ρ2 N n2 m F H σ Q vx vy S r1 r2 k => ?_) (ze_adr ?_)
  · obtain ⟨rfl, s, ys, rfl, hk, n⟩ := n2
    obtain ⟨a, e, ha⟩ := ktup_get hk
    exact ⟨s, .ref a, rz_a r1, rz_s r2, ⟨es, _, _, D.at_, D.lit, e, rfl⟩, k _ _ _ _ _ _ (n a ha) (Same.refl F) S (rzF_f (show Rz z.K m.B F (.adr a) (.ref a) from rfl))⟩
  · exact fun m F H σ Q S k => h m F H σ Q S fun d0 fr ρ' F' H' v n f S' r => k d0 fr ρ' F' H' v ⟨rfl, n⟩ f S' r
def rLenA (K : PySem.W.Frag) : List V → Hp → VK → Prop := rLenZ K
theorem call_lenA {X : Cx} {K : PySem.W.Frag} (e : X.K = K) : CallR X (.builtin "len") (rLenA K) := call_lenZ e
theorem ze_lenAdr {K' : PySem.W.Frag} (hK : K' = z.K) (h : ZE z ta ρ fun x _ ρ1 => ∃ a ys, x = .adr a ∧ tupStrs z.K a ys = true ∧ ys.length ≤ 1000 ∧ N (.int ys.length) false ρ1) : ZE z (tCB (rLenA K') (tCons ta tNil)) ρ N :=
  ze_CB1 (W := fun x N ρ1 => ∃ a ys, x = .adr a ∧ tupStrs z.K a ys = true ∧ ys.length ≤ 1000 ∧ N (.int ys.length) false ρ1) (fun x ρ2 N n1 m F H σ Q vx S r k => by
    subst hK
    obtain ⟨a, ys, rfl, hs, hl, n⟩ := n1
    obtain rfl := rz_a r
    refine .inl ⟨a, ys.map V.str, rfl, .inr (tupStrs_ok hs hl), ?_⟩
    rw [List.length_map]
    exact k _ _ _ _ _ _ n (Same.refl F) S (rzF_f rzi)) h
theorem ze_maxL {K' : PySem.W.Frag} (hK : K' = z.K) (h : ZE z ta ρ fun x _ ρ1 => ∃ (u : Bool) (ns : List Int), x = .lst u (ns.map Dt.int) ∧ 0 < ns.length ∧ N (.int (maxL 0 ns)) false ρ1) : ZE z (tCB (rMax K') (tCons ta tNil)) ρ N :=
  ze_CB1 (W := fun x N ρ1 => ∃ (u : Bool) (ns : List Int), x = .lst u (ns.map Dt.int) ∧ 0 < ns.length ∧ N (.int (maxL 0 ns)) false ρ1) (fun x ρ2 N n1 m F H σ Q vx S r k => by
    subst hK
    obtain ⟨u, ns, rfl, hl, n⟩ := n1
    simp only [Rz] at r
    obtain ⟨a, xs, rfl, e, _, r⟩ := r
    have ex := rzl_intsX r
    refine ⟨a, ns, rfl, by rw [← ex]; exact SqL.of (S.le.exact e rfl), hl, fun m0 hm hy => ?_⟩
    have e2 : maxL 0 ns = m0 := maxL_of hm hy
    rw [e2] at n
    exact k _ _ _ _ _ _ n (Same.refl F) S (rzF_f rzi)) h
theorem ze_inK {a : Addr} (h : ZE z ta ρ fun x _ ρ1 => ∃ y xs, x = .str y ∧ tupStrs z.K a xs = true ∧ xs.length ≤ 1000 ∧ N (.bl (inV (.str y) (xs.map V.str))) false ρ1) : ZE z (tOp (rIn z.K false) ta (tC (.ref a))) ρ N := fun m F H σ Q S k => by
  refine h m F H σ _ S fun x fx ρ1 F1 H1 vx n1 s1 S1 r1 => ?_
  obtain ⟨F2, s2, S2, rx⟩ := rzF_frz S1 r1
  obtain ⟨y, xs, rfl, hk, hl, n⟩ := n1
  obtain rfl := rz_s rx
  refine ⟨a, xs.map V.str, rfl, .inr (tupStrs_ok hk hl), rfl, ?_, k _ _ _ _ _ _ n (s1.trans s2) S2 (rzF_f rzb)⟩
  exact List.all_eq_true.mpr fun v hv => by
    obtain ⟨y, _, rfl⟩ := List.mem_map.mp hv
    rfl
/-- i op= e, whole numbers -/
theorem zs_aug {D : Zn} {f : Int → Int → Int} {a : Int} (h0 : ρ[i]? = some (.v (.int a))) (h : ZE z te ρ fun y _ ρ1 => ∃ b, y = .int b ∧ D.nx (ρ1.set i (.v (.int (f a b))))) : ZS z (tAug i te (ipI f)) ρ D := fun m F H σ E S kn kr kb kc => by
  obtain ⟨v, e, r⟩ := S.getv h0
  obtain rfl := rz_i r
  refine ⟨_, e, h m F H σ _ S fun y fy ρ1 F1 H1 vy n1 s1 S1 r1 => ?_⟩
  obtain ⟨F2, s2, S2, ry⟩ := rzF_frz S1 r1
  obtain ⟨b, rfl, n⟩ := n1
  obtain rfl := rz_i ry
  exact ⟨a, b, rfl, rfl, kn _ _ _ _ n (s1.trans s2) (S2.setv rzi)⟩
theorem ze_chainI {g g' : Int → Int → Bool} {tc : TE} (h : ZE z ta ρ fun x _ ρ1 => ZE z tb ρ1 fun y _ ρ2 => ∃ i j, x = .int i ∧ y = .int j ∧ if g i j = true then ZE z tc ρ2 fun w _ ρ3 => ∃ k, w = .int k ∧ N (.bl (g' j k)) false ρ3 else N (.bl false) false ρ2) :
    ZE z (tChain (rI0 fun i j => .bl (g i j)) (rI0 fun i j => .bl (g' i j)) ta tb tc) ρ N := ze_chain (r := rEq) (r' := rEq) h
end
local macro_rules | `(tactic| walk_at "z1") => `(tactic| first | ((with_reducible apply zs_aug); exact rfl) | (with_reducible apply ze_ixS) | (with_reducible apply ze_lenS) | (with_reducible apply ze_inSign) | (with_reducible apply ze_notInSign))
/-! ### values that may be expressions -/
def isL (c : Nat) : Bool := (decide (97 ≤ c) && decide (c ≤ 122)) || (decide (65 ≤ c) && decide (c ≤ 90))
def isDg (c : Nat) : Bool := decide (48 ≤ c) && decide (c ≤ 57)
def isMk (c : Nat) : Bool := decide (c ∈ (Str.ofString "_.[]").cps.toList)
def folS (c : Nat) : Bool := isL c || isDg c || isMk c
def nameS (x : Str) : Bool := decide (1 ≤ x.cps.toList.length) && decide (x.cps.toList.length ≤ 80) && isL (x.cps.toList.headD 0) && x.cps.toList.all folS
def nameD : Dt → Bool
  | .str x => nameS x
  | _ => false
def ordD : Dt → Bool
  | .int i => decide (0 ≤ i) && decide (i ≤ 4)
  | _ => false
def ratD : Dt → Bool
  | .rat _ _ => true
  | _ => false
def posD : Dt → Bool
  | .rat n _ => decide (0 < n)
  | _ => false
def blD : Dt → Bool
  | .bl _ => true
  | _ => false
def needT : List (Str × List Str) := [("neg", ["number"]), ("add", ["number", "number"]), ("sub", ["number", "number"]), ("mul", ["number", "number"]), ("div", ["number", "number"]), ("not", ["truth"]), ("and", ["truth", "truth"]), ("or", ["truth", "truth"]), ("less", ["number", "number"]), ("atmost", ["number", "number"]), ("same", ["either", "either"]), ("if", ["truth", "either", "either"])]
def needO (w : Str) : Option (List Str) := (needT.find? fun p => decide (p.1 = w)).map (·.2)
def outT : List Str := ["var", "pre", "num", "truth", "time", "initial", "sample", "times"]
/-- a word that is looked up in the table -/
def WordOk (w : Str) : Prop := w ∈ needT.map (·.1) ∨ w ∈ outT
def singleD (w : Str) (a : Dt) : Bool := if w = "num" then ratD a else if w = "truth" then blD a else decide (w = "pre") && nameD a
def doubleD (w : Str) (a b : Dt) : Bool := if w = "var" then nameD a && ordD b else decide (w = "sample") && (ratD a && (ratD b && posD b))
def leafD (w : Str) : List Dt → Bool
  | [] => decide (w = "time") || decide (w = "initial")
  | [a] => singleD w a
  | [a, b] => doubleD w a b
  | _ => false
/-- well formed, its parts left open -/
def wfD : Dt → Bool
  | .tup (.str w :: r) => match needO w with
    | some ks => decide (r.length = ks.length)
    | none => leafD w r
  | _ => false
def partsV : Dt → List Dt
  | .tup (.str w :: r) => if (needO w).isSome = true then r else []
  | _ => []
/-- plain values, nested to the depth n -/
inductive Pv : Nat → Dt → Prop
  | non {n : Nat} : Pv n .non
  | bl {n : Nat} (b : Bool) : Pv n (.bl b)
  | int {n : Nat} (i : Int) : Pv n (.int i)
  | str {n : Nat} {x : Str} : x.length ≤ 100 → Pv n (.str x)
  | rat {n : Nat} (a b : Int) : Pv n (.rat a b)
  | lst {n : Nat} {ds : List Dt} : ds.length ≤ 100 → (∀ d ∈ ds, Pv n d) → Pv (n + 1) (.lst false ds)
  | tup {n : Nat} {ds : List Dt} : ds.length ≤ 100 → (∀ w r, ds = .str w :: r → WordOk w) → (∀ d ∈ ds, Pv n d) → Pv (n + 1) (.tup ds)
theorem Pv.old {n : Nat} {d : Dt} (h : Pv n d) : d.old = d := by
  induction h with
  | non | bl | int | str | rat => rfl
  | lst _ _ ih | tup _ _ _ ih =>
    rw [Dt.old]
    congr 1
    rw [olds_map]
    exact (List.map_congr_left ih).trans (List.map_id _)
theorem Pv.olds {n : Nat} {ds : List Dt} (h : ∀ d ∈ ds, Pv n d) : Dt.olds ds = ds := by
  rw [olds_map]
  exact (List.map_congr_left fun d hd => (h d hd).old).trans (List.map_id _)
theorem Pv.parts {n : Nat} {d : Dt} (h : Pv (n + 1) d) : ∀ e ∈ partsV d, Pv n e := by
  cases h with
  | tup _ _ k =>
    rename_i ds _ _
    intro e he
    cases ds with
    | nil => cases he
    | cons a r =>
      cases a <;> first
        | (cases he; done)
        | (simp only [partsV] at he
           split at he
           · exact k e (List.mem_cons_of_mem _ he)
           · cases he)
  | _ => intro e he; cases he
theorem inV_strs {x : Str} {xs : List Str} : inV (.str x) (xs.map V.str) = decide (x ∈ xs) := by
  unfold inV
  induction xs with
  | nil => simp
  | cons y ys ih =>
    rw [List.map_cons, List.any_cons, ih]
    by_cases e : y = x
    · subst e
      simp [eqV]
    · have : x ≠ y := fun q => e q.symm
      simp [eqV, e, this]
local macro_rules | `(tactic| walk_at "z1") => `(tactic| first
  | (with_reducible apply zs_seq) | (with_reducible apply zs_asg) | (with_reducible apply zs_setlc) | (with_reducible apply zs_if) | (with_reducible apply zs_reto; exact rfl) | (with_reducible apply zs_ret) | (with_reducible apply zs_next) | (with_reducible apply zs_drop) | (with_reducible apply zs_brk) | (with_reducible apply zs_cont) | (with_reducible apply zs_retN) | (with_reducible apply zs_dput)
  | (with_reducible apply zg_nameT) | (with_reducible apply zg_nameF) | (with_reducible apply zg_tup) | (with_reducible apply zgs_nil) | (with_reducible apply zgs_cons)
  | ((with_reducible apply ze_var); exact rfl) | ((with_reducible apply ze_varo); exact rfl) | (with_reducible apply ze_int) | (with_reducible apply ze_str) | (with_reducible apply ze_bl) | (with_reducible apply ze_non) | (with_reducible apply ze_adr) | (with_reducible apply ze_ty)
  | (with_reducible apply ze_I0) | (with_reducible apply ze_IB) | (with_reducible apply ze_I) | (with_reducible apply ze_neg) | (with_reducible apply ze_eq) | (with_reducible apply ze_ne)
  | (with_reducible apply zt_val) | (with_reducible apply zt_B) | (with_reducible apply zt_and) | (with_reducible apply zt_or) | (with_reducible apply zt_not) | (with_reducible apply zt_yes) | (with_reducible apply ze_andV) | (with_reducible apply ze_orV) | (with_reducible apply ze_notV) | (with_reducible apply ze_ifE) | (with_reducible apply ze_chain)
  | (with_reducible apply za_nil) | (with_reducible apply za_cons) | (with_reducible apply ze_tup) | (with_reducible apply ze_lst) | (with_reducible apply ze_dnewT) | (with_reducible apply ze_dnewK) | (with_reducible apply ze_fld) | (with_reducible apply ze_call) | (with_reducible apply ze_draw) | (with_reducible apply ze_ratio))
local macro_rules | `(tactic| walk_at "z1") => `(tactic| first
  | ((with_reducible apply ze_dgetv); exact rfl; walk_at "pk") | (with_reducible apply ze_dget) | ((with_reducible apply ze_dinv); exact rfl) | ((with_reducible apply ze_dnotinv); exact rfl) | (with_reducible apply ze_din) | ((with_reducible apply ze_dget2v); exact rfl; walk_at "pk"; exact rfl)
  | ((with_reducible apply ze_lenv); exact rfl; walk_at "pk"; walk_at "ln") | (with_reducible apply ze_len) | ((with_reducible apply ze_listv); exact rfl; walk_at "pk"; walk_at "li") | (with_reducible apply ze_list)
  | (with_reducible apply ze_ixT) | ((with_reducible apply ze_ixLv); exact rfl; walk_at "pk") | (with_reducible apply ze_ixL) | (with_reducible apply ze_slT) | (with_reducible apply ze_slL) | (with_reducible apply zo_no) | (with_reducible apply zo_some) | (with_reducible apply ze_cat)
  | ((with_reducible apply zt_truv); exact rfl; walk_at "pk") | (with_reducible apply zt_tru) | ((with_reducible apply ze_append); exact rfl) | ((with_reducible apply ze_pop); exact rfl) | ((with_reducible apply ze_extend); exact rfl)
  | (with_reducible apply ze_inF) | (with_reducible apply ze_inTab) | (with_reducible apply ze_isi) | (with_reducible apply ze_bin) | (with_reducible apply ze_neO) | (with_reducible apply ze_unO) | (with_reducible apply ze_sorted) | (with_reducible apply za_star) | (with_reducible apply ze_tupOf) | (with_reducible apply ze_disp) | (with_reducible apply zp_cons) | (with_reducible apply zp_nil) | (with_reducible apply ze_dictOf) | (with_reducible apply ze_sum) | (with_reducible apply ze_catT) | ((with_reducible apply ze_sortK); exact rfl) | (with_reducible apply ze_eqD) | (with_reducible apply ze_neD) | (with_reducible apply ze_inD) | (with_reducible apply ze_notInD))
local macro_rules | `(tactic| walk_at "pk") => `(tactic| first | exact Or.inl rfl | exact Or.inr (Or.inl rfl) | exact Or.inr (Or.inr ⟨_, rfl⟩))
local macro_rules | `(tactic| walk_at "ln") => `(tactic| first | exact .lst _ _ | exact .tup _ | exact .dic _ _ _ | exact .dit _ _ _)
local macro_rules | `(tactic| walk_at "li") => `(tactic| first | exact .lst _ _ | exact .tup _ | exact .dic _ _ _ | exact .dit _ _ _)
local macro_rules | `(tactic| walk_at "z2") => `(tactic| first
  | (refine ⟨_, rfl, cutN, ?_⟩) | (refine ⟨_, _, rfl, rfl, ?_⟩) | (refine ⟨_, rfl, ?_⟩) | (refine ⟨_, .ii _ _, ?_⟩) | (refine ⟨_, .ss _ _, ?_⟩) | (refine ⟨_, .bb _ _, ?_⟩) | (refine ⟨_, _, _, rfl, rfl, rfl, ?_⟩) | (refine ⟨_, .lst _ _, ?_⟩) | (refine ⟨_, .tup _, ?_⟩) | (refine ⟨Nat.le_of_ble_eq_true rfl, ?_⟩) | (refine ⟨by decide, ?_⟩)
  | (refine ⟨Sum.inr _, rfl, ?_⟩) | (rw [cut1]) | (refine zT (by decide) ?_) | (refine zF (by decide) ?_)
  | (refine ⟨_, _, rfl, Or.inr (Or.inl rfl), ?_⟩) | (refine ⟨_, _, rfl, Or.inl rfl, ?_⟩)
  | (refine ⟨_, _, _, rfl, rfl, atI_k (k := 0) rfl, ?_⟩) | (refine ⟨_, _, _, rfl, rfl, atI_k (k := 1) rfl, ?_⟩) | (refine ⟨_, _, _, rfl, rfl, atI_k (k := 2) rfl, ?_⟩) | (refine ⟨_, _, _, rfl, rfl, atI_k (k := 3) rfl, ?_⟩))
local macro_rules | `(tactic| walk_at "zz") => `(tactic| repeat first | walk_at "z1" | walk_at "z2")
local macro_rules | `(tactic| walk_at "z1") => `(tactic| ((with_reducible apply zs_reto); exact rfl))
theorem ze_isiT {z : Cz} {ρ : List Sl} {N : Dt → Bool → List Sl → Prop} {te : TE} {n : String} (h : ZE z te ρ fun x _ ρ1 => ∃ t b, TyD z.K x t ∧ PySem.W.kitOne z.K t (.type n) = some b ∧ N (.bl b) false ρ1) : ZE z (tCB (rIsi z.K) (tCons te (tCons (tC (.ty n)) tNil))) ρ N := ze_isi (.ty n) h
theorem ze_isiO {z : Cz} {ρ : List Sl} {N : Dt → Bool → List Sl → Prop} {te : TE} {D : Addr} (h : ZE z te ρ fun x _ ρ1 => ∃ t b, TyD z.K x t ∧ PySem.W.kitOne z.K t (.ref D) = some b ∧ N (.bl b) false ρ1) : ZE z (tCB (rIsi z.K) (tCons te (tCons (tC (.ref D)) tNil))) ρ N := ze_isi (.own _) h
local macro_rules | `(tactic| walk_at "z1") => `(tactic| first | (with_reducible apply ze_isiT) | (with_reducible apply ze_isiO) | (with_reducible apply ze_chainI))
section
variable {P : Program} {w : World} {K : PySem.W.Frag} {mg : Str → Option Value} {base : Heap}
theorem sign_lt (a b : Nat) : (([a] : List Nat) < [b]) ↔ a < b := by
  constructor
  · intro h
    cases h with
    | rel h => exact h
    | cons h => cases h
  · intro h
    exact .rel h
theorem ge1 (c k : Nat) : (!decide (([c] : List Nat) < [k])) = decide (k ≤ c) := by
  by_cases h : c < k
  · rw [decide_eq_true ((sign_lt c k).mpr h), decide_eq_false (show ¬ k ≤ c from by omega)] <;> rfl
  · rw [decide_eq_false (fun e => h ((sign_lt c k).mp e)), decide_eq_true (show k ≤ c from by omega)] <;> rfl
theorem st0 : (Str.ofString "0").cps.toList = [48] := by decide +kernel
theorem st9 : (Str.ofString "9").cps.toList = [57] := by decide +kernel
theorem sta : (Str.ofString "a").cps.toList = [97] := by decide +kernel
theorem stz : (Str.ofString "z").cps.toList = [122] := by decide +kernel
theorem stA : (Str.ofString "A").cps.toList = [65] := by decide +kernel
theorem stZ : (Str.ofString "Z").cps.toList = [90] := by decide +kernel
/-- a chain of two comparisons of texts, one sign each -/
theorem ze_chainS {z : Cz} {ρ : List Sl} {N : Dt → Bool → List Sl → Prop} {ta tb tc : TE} (h : ZE z ta ρ fun x _ ρ1 => ZE z tb ρ1 fun y _ ρ2 => ∃ s a c, x = .str s ∧ (a ≤ a ∧ s.cps.toList = [a]) ∧ y = .str ⟨#[c]⟩ ∧ if decide (a ≤ c) = true then ZE z tc ρ2 fun u _ ρ3 => ∃ s k, u = .str s ∧ (k ≤ k ∧ s.cps.toList = [k]) ∧ N (.bl (decide (c ≤ k))) false ρ3 else N (.bl false) false ρ2) :
    ZE z (tChain (fun x y H Q => ∃ i j, x = V.str i ∧ y = V.str j ∧ Q (V.bl (!decide (j.cps.toList < i.cps.toList))) H) (fun x y H Q => ∃ i j, x = V.str i ∧ y = V.str j ∧ Q (V.bl (!decide (j.cps.toList < i.cps.toList))) H) ta tb tc) ρ N := fun m F H σ Q S k => by
  refine h m F H σ _ S fun x fx ρ1 F1 H1 vx n1 s1 S1 r1 => ?_
  obtain ⟨F2, s2, S2, rx⟩ := rzF_frz S1 r1
  refine n1 m F2 H1 σ _ S2 fun y fy ρ2 F3 H2 vy n2 s3 S3 r3 => ?_
  obtain ⟨F4, s4, S4, ry⟩ := rzF_frz S3 r3
  obtain ⟨s, a, c, rfl, ⟨_, hs⟩, rfl, n⟩ := n2
  refine ⟨s, ⟨#[c]⟩, rz_s (rz_mono (s3.trans s4) _ _ rx), rz_s ry, decide (a ≤ c), by rw [hs]; exact congrArg V.bl (ge1 c a), ?_⟩
  by_cases q : decide (a ≤ c) = true
  · rw [if_pos q] at n ⊢
    refine n m F4 H2 σ _ S4 fun u fu ρ3 F5 H3 vu n3 s5 S5 r5 => ?_
    obtain ⟨F6, s6, S6, ru⟩ := rzF_frz S5 r5
    obtain ⟨s', l, rfl, ⟨_, hs'⟩, n⟩ := n3
    refine ⟨⟨#[c]⟩, s', rz_s ry, rz_s ru, ?_⟩
    rw [hs', show (!decide (([l] : List Nat) < (⟨#[c]⟩ : Str).cps.toList)) = decide (c ≤ l) from ge1 l c]
    exact k _ _ _ _ _ _ n ((((s1.trans s2).trans (s3.trans s4)).trans s5).trans s6) S6 (rzF_f rzb)
  · rw [if_neg q] at n ⊢
    exact k _ _ _ _ _ _ n ((s1.trans s2).trans (s3.trans s4)) S4 (rzF_f rzb)
local macro_rules | `(tactic| walk_at "z1") => `(tactic| (with_reducible apply ze_chainS))
def wSign (f : Nat → Bool) : Wz := fun ds Nv _ => ∃ c : Nat, ds = [.str ⟨#[c]⟩] ∧ Nv (.bl (f c)) false
theorem ok_is_digit (T : Top w K mg) : FnOk P w K mg base CX0 1 (He.ga K ("is_digit" : Str)) (fdOf K d_is_digit) ["character"] (spZ K (wSign isDg)) := by
  refine (T.f_is_digit).ok sc_is_digit (fun vs H Q E h => spz_len h (n := 1) fun ds Nv Ne hw => ?_) (fun cdv A outer s H vs Q E hr h => ?_)
  · obtain ⟨_, rfl, _⟩ := hw
    rfl
  · refine z_fn h (PSs.nox (pss_one (ps_ret (pe_chain op_le_str op_le_str pe_str (pv 0) pe_str)))) fun ds Nv Ne hw => ?_
    obtain ⟨c, rfl, k⟩ := hw
    unfold isDg at k
    walk_at "zz"
    refine ⟨_, 48, c, rfl, ⟨Nat.le_refl _, st0⟩, rfl, zB (fun h => ?_) (fun h => ?_)⟩
    · rw [h, Bool.true_and] at k
      walk_at "zz"
      exact ⟨_, 57, rfl, ⟨Nat.le_refl _, st9⟩, k⟩
    · rw [h, Bool.false_and] at k
      exact k
theorem ok_is_letter (T : Top w K mg) : FnOk P w K mg base CX0 1 (He.ga K ("is_letter" : Str)) (fdOf K d_is_letter) ["character"] (spZ K (wSign isL)) := by
  refine (T.f_is_letter).ok sc_is_letter (fun vs H Q E h => spz_len h (n := 1) fun ds Nv Ne hw => ?_) (fun cdv A outer s H vs Q E hr h => ?_)
  · obtain ⟨_, rfl, _⟩ := hw
    rfl
  · refine z_fn h (PSs.nox (pss_one (ps_ret (pe_or (pe_chain op_le_str op_le_str pe_str (pv 0) pe_str) (pe_one (pe_chain op_le_str op_le_str pe_str (pv 0) pe_str)))))) fun ds Nv Ne hw => ?_
    obtain ⟨c, rfl, k⟩ := hw
    have up : ∀ b, ((decide (97 ≤ c) && decide (c ≤ 122)) = false → b = (decide (65 ≤ c) && decide (c ≤ 90)) → Nv (.bl b) false) := fun b h e => by
      unfold isL at k
      rw [h, Bool.false_or] at k
      rw [e]
      exact k
    walk_at "zz"
    refine ⟨_, 97, c, rfl, ⟨Nat.le_refl _, sta⟩, rfl, zB (fun h => ?_) (fun h => ?_)⟩
    · walk_at "zz"
      refine ⟨_, 122, rfl, ⟨Nat.le_refl _, stz⟩, _, rfl, zB (fun h2 => ?_) (fun h2 => ?_)⟩
      · unfold isL at k
        rw [h, h2] at k
        exact k
      · walk_at "zz"
        refine ⟨_, 65, c, rfl, ⟨Nat.le_refl _, stA⟩, rfl, zB (fun h3 => ?_) (fun h3 => ?_)⟩
        · walk_at "zz"
          exact ⟨_, 90, rfl, ⟨Nat.le_refl _, stZ⟩, up _ (by rw [h, h2]; rfl) (by rw [h3, Bool.true_and])⟩
        · exact up _ (by rw [h, h2]; rfl) (by rw [h3, Bool.false_and])
    · refine ⟨_, rfl, zF Bool.false_ne_true ?_⟩
      walk_at "zz"
      refine ⟨_, 65, c, rfl, ⟨Nat.le_refl _, stA⟩, rfl, zB (fun h3 => ?_) (fun h3 => ?_)⟩
      · walk_at "zz"
        exact ⟨_, 90, rfl, ⟨Nat.le_refl _, stZ⟩, up _ (by rw [h]; rfl) (by rw [h3, Bool.true_and])⟩
      · exact up _ (by rw [h]; rfl) (by rw [h3, Bool.false_and])
theorem ok__may_follow (T : Top w K mg) : FnOk P w K mg base CX0 2 (He.ga K ("_may_follow" : Str)) (fdOf K d__may_follow) ["character"] (spZ K (wSign folS)) := by
  refine (T.f__may_follow).ok sc__may_follow (fun vs H Q E h => spz_len h (n := 1) fun ds Nv Ne hw => ?_) (fun cdv A outer s H vs Q E hr h => ?_)
  · obtain ⟨_, rfl, _⟩ := hw
    rfl
  · refine z_fn h (PSs.nox (pss_one (ps_ret (pe_or (pe_call (ok_is_letter (K := K) T) (hr.mono (by decide)) rfl T.g_is_letter T.f_is_letter.kp T.b_is_letter .nil pass0 (pa_cons (pv 0) pa_nil)) (pe_or (pe_call (ok_is_digit (K := K) T) (hr.mono (by decide)) rfl T.g_is_digit T.f_is_digit.kp T.b_is_digit .nil pass0 (pa_cons (pv 0) pa_nil)) (pe_one (pe_cmpR op_in_sign (pv 0) pe_str (by rfl)))))))) fun ds Nv Ne hw => ?_
    obtain ⟨c, rfl, k⟩ := hw
    unfold folS at k
    walk_at "zz"
    refine zB (fun h => ?_) (fun h => ?_)
    · rw [h, Bool.true_or, Bool.true_or] at k
      exact k
    · rw [h, Bool.false_or] at k
      walk_at "zz"
      refine zB (fun h => ?_) (fun h => ?_)
      · rw [h, Bool.true_or] at k
        exact k
      · rw [h, Bool.false_or] at k
        walk_at "zz"
        exact k
def strD : Dt → Bool
  | .str _ => true
  | _ => false
def tupD : Dt → Bool
  | .tup _ => true
  | _ => false
def intD : Dt → Bool
  | .int _ => true
  | .bl _ => true
  | _ => false
theorem isi_str (T : Top w K mg) {n : Nat} {d : Dt} (h : Pv n d) : ∃ t, TyD K d t ∧ PySem.W.kitOne K t (.type "str") = some (strD d) := by
  cases h with
  | non => exact ⟨_, .non, of_decide_eq_true T.x_kit_t_NoneType_t_str⟩
  | bl b => exact ⟨_, .bl _, of_decide_eq_true T.x_kit_t_bool_t_str⟩
  | int i => exact ⟨_, .int _, of_decide_eq_true T.x_kit_t_int_t_str⟩
  | str _ => exact ⟨_, .str _, of_decide_eq_true T.x_kit_t_str_t_str⟩
  | rat a b => exact ⟨_, .rat _ _ T.x_isi_Ratio T.cls_Ratio, of_decide_eq_true T.x_kit_Ratio_t_str⟩
  | lst _ _ => exact ⟨_, .lst _ _, of_decide_eq_true T.x_kit_t_list_t_str⟩
  | tup _ _ _ => exact ⟨_, .tup _, of_decide_eq_true T.x_kit_t_tuple_t_str⟩
theorem isi_tup (T : Top w K mg) {n : Nat} {d : Dt} (h : Pv n d) : ∃ t, TyD K d t ∧ PySem.W.kitOne K t (.type "tuple") = some (tupD d) := by
  cases h with
  | non => exact ⟨_, .non, of_decide_eq_true T.x_kit_t_NoneType_t_tuple⟩
  | bl b => exact ⟨_, .bl _, of_decide_eq_true T.x_kit_t_bool_t_tuple⟩
  | int i => exact ⟨_, .int _, of_decide_eq_true T.x_kit_t_int_t_tuple⟩
  | str _ => exact ⟨_, .str _, of_decide_eq_true T.x_kit_t_str_t_tuple⟩
  | rat a b => exact ⟨_, .rat _ _ T.x_isi_Ratio T.cls_Ratio, of_decide_eq_true T.x_kit_Ratio_t_tuple⟩
  | lst _ _ => exact ⟨_, .lst _ _, of_decide_eq_true T.x_kit_t_list_t_tuple⟩
  | tup _ _ _ => exact ⟨_, .tup _, of_decide_eq_true T.x_kit_t_tuple_t_tuple⟩
theorem isi_bl (T : Top w K mg) {n : Nat} {d : Dt} (h : Pv n d) : ∃ t, TyD K d t ∧ PySem.W.kitOne K t (.type "bool") = some (blD d) := by
  cases h with
  | non => exact ⟨_, .non, of_decide_eq_true T.x_kit_t_NoneType_t_bool⟩
  | bl b => exact ⟨_, .bl _, of_decide_eq_true T.x_kit_t_bool_t_bool⟩
  | int i => exact ⟨_, .int _, of_decide_eq_true T.x_kit_t_int_t_bool⟩
  | str _ => exact ⟨_, .str _, of_decide_eq_true T.x_kit_t_str_t_bool⟩
  | rat a b => exact ⟨_, .rat _ _ T.x_isi_Ratio T.cls_Ratio, of_decide_eq_true T.x_kit_Ratio_t_bool⟩
  | lst _ _ => exact ⟨_, .lst _ _, of_decide_eq_true T.x_kit_t_list_t_bool⟩
  | tup _ _ _ => exact ⟨_, .tup _, of_decide_eq_true T.x_kit_t_tuple_t_bool⟩
theorem isi_int (T : Top w K mg) {n : Nat} {d : Dt} (h : Pv n d) : ∃ t, TyD K d t ∧ PySem.W.kitOne K t (.type "int") = some (intD d) := by
  cases h with
  | non => exact ⟨_, .non, of_decide_eq_true T.x_kit_t_NoneType_t_int⟩
  | bl b => exact ⟨_, .bl _, of_decide_eq_true T.x_kit_t_bool_t_int⟩
  | int i => exact ⟨_, .int _, of_decide_eq_true T.x_kit_t_int_t_int⟩
  | str _ => exact ⟨_, .str _, of_decide_eq_true T.x_kit_t_str_t_int⟩
  | rat a b => exact ⟨_, .rat _ _ T.x_isi_Ratio T.cls_Ratio, of_decide_eq_true T.x_kit_Ratio_t_int⟩
  | lst _ _ => exact ⟨_, .lst _ _, of_decide_eq_true T.x_kit_t_list_t_int⟩
  | tup _ _ _ => exact ⟨_, .tup _, of_decide_eq_true T.x_kit_t_tuple_t_int⟩
theorem isi_rat (T : Top w K mg) {n : Nat} {d : Dt} (h : Pv n d) : ∃ t, TyD K d t ∧ PySem.W.kitOne K t (.ref (He.ga K "Ratio")) = some (ratD d) := by
  cases h with
  | non => exact ⟨_, .non, of_decide_eq_true T.x_kit_t_NoneType_Ratio⟩
  | bl b => exact ⟨_, .bl _, of_decide_eq_true T.x_kit_t_bool_Ratio⟩
  | int i => exact ⟨_, .int _, of_decide_eq_true T.x_kit_t_int_Ratio⟩
  | str _ => exact ⟨_, .str _, of_decide_eq_true T.x_kit_t_str_Ratio⟩
  | rat a b => exact ⟨_, .rat _ _ T.x_isi_Ratio T.cls_Ratio, of_decide_eq_true T.x_kit_Ratio_Ratio⟩
  | lst _ _ => exact ⟨_, .lst _ _, of_decide_eq_true T.x_kit_t_list_Ratio⟩
  | tup _ _ _ => exact ⟨_, .tup _, of_decide_eq_true T.x_kit_t_tuple_Ratio⟩
def wName : Wz := fun ds Nv _ => ∃ n d, ds = [d] ∧ Pv n d ∧ Nv (.bl (nameD d)) false
theorem ok_is_name (T : Top w K mg) : FnOk P w K mg base CX0 3 (He.ga K ("is_name" : Str)) (fdOf K d_is_name) ["value"] (spZ K wName) := by
  refine (T.f_is_name).ok sc_is_name (fun vs H Q E h => spz_len h (n := 1) fun ds Nv Ne hw => ?_) (fun cdv A outer s H vs Q E hr h => ?_)
  · obtain ⟨_, _, rfl, _⟩ := hw
    rfl
  · refine z_fn h (PSs.nox (pss_cons (ps_if (PW.pt (pw_or (pt_not (pt_val (pe_callB (call_isiK' (K := K) rfl) (by rfl) T.n_isinstance (by decide +kernel) (pa_cons (pv 0) (pa_cons (pe_bltn (v := .ty "str") rfl T.n_str (by decide +kernel) rfl) pa_nil))))) (pw_or1 (pt_not (pt_chain op_le op_le pe_int (pe_callB call_len_str (by rfl) T.n_len PySem.boot_len (pa_cons (pv 0) pa_nil)) (pe_globE rfl T.i_MOST_CHARACTERS))))))
    (pss_one (ps_ret pe_bl))
    pss_nil)
    (pss_one (ps_ret (pe_and (pe_call (ok_is_letter (K := K) T) (hr.mono (by decide)) rfl T.g_is_letter T.f_is_letter.kp T.b_is_letter .nil pass0 (pa_cons (pe_ix ix_str (pv 0) pe_int (fun _ _ => rfl)) pa_nil)) (pe_one (pe_callB (cr_all rfl) (by rfl) T.n_all (by decide +kernel) (pa_cons (pe_lockL (pe_lc (own := [(("character" : Str), 1)]) (g := (gName 1)) (tt := tYes) rfl sc_is_name.nd (pi_str (pv 0)) (blkOk_by (N := ["value", "character"]) (sc := defScope s_is_name) (by decide +kernel)) (fun _ _ _ _ _ => (pg_name (i := 1) sc_is_name.nd rfl (Or.inl rfl))) (fun _ _ _ _ _ => pts_nil) (fun _ _ _ _ _ => (pe_call (ok__may_follow (K := K) T) (hr.mono (by decide)) rfl T.g__may_follow T.f__may_follow.kp T.b__may_follow .nil pass0 (pa_cons (pv 1) pa_nil))))) pa_nil)))))))) fun ds Nv Ne hw => ?_
    obtain ⟨n, d, rfl, hd, k⟩ := hw
    obtain ⟨t, h1, h2⟩ := isi_str T hd
    walk_at "zz"
    refine ⟨t, _, h1, h2, _, rfl, zB (fun c => ?_) (fun c => ?_)⟩
    · walk_at "zz"
      have e : nameD d = false := by
        cases d <;> first | rfl | cases c
      rw [e] at k
      exact k
    · cases hd <;> first | (cases c; done) | skip
      rename_i x hx
      have hl : x.length = x.cps.toList.length := by simp [Str.length]
      walk_at "zz"
      refine ⟨by omega, ?_⟩
      walk_at "zz"
      have no : ((decide (1 ≤ x.cps.toList.length) && decide (x.cps.toList.length ≤ 80)) = false) → nameD (.str x) = false := fun h => by
        show nameS x = false
        unfold nameS
        rw [h]
        rfl
      refine zB (fun h1 => ?_) (fun h1 => ?_)
      · walk_at "zz"
        refine zB (fun h2 => ?_) (fun h2 => ?_)
        · have h2' : ¬ ((x.length : Int) ≤ 80) := by simpa using h2
          walk_at "zz"
          rw [no (by rw [decide_eq_false (show ¬ x.cps.toList.length ≤ 80 by omega), Bool.and_false])] at k
          exact k
        · have h1' : (1 : Int) ≤ (x.length : Int) := of_decide_eq_true h1
          have h2' : ((x.length : Int) ≤ 80) := by simpa using h2
          obtain ⟨c, cs, hcs⟩ : ∃ c cs, x.cps.toList = c :: cs := by
            cases hq : x.cps.toList with
            | nil => rw [hq] at hl; simp at hl; omega
            | cons c cs => exact ⟨c, cs, rfl⟩
          have e : nameD (.str x) = (isL c && x.cps.toList.all folS) := by
            show nameS x = _
            unfold nameS
            rw [decide_eq_true (show 1 ≤ x.cps.toList.length by omega), decide_eq_true (show x.cps.toList.length ≤ 80 by omega), hcs]
            rfl
          rw [e] at k
          walk_at "zz"
          refine ⟨x, 0, c, rfl, rfl, by omega, atI_k (k := 0) (by rw [hcs]; rfl), ?_⟩
          walk_at "zz"
          refine zB (fun h3 => ?_) (fun h3 => ?_)
          · rw [h3, Bool.true_and] at k
            walk_at "zz"
            refine ze_lcM x.cps.toList (fun c => .str ⟨#[c]⟩) (fun c => some (.bl (folS c))) (zi_str ?_)
            walk_at "zz"
            refine ⟨rfl, trivial, rfl, by omega, fun c hc => ?_, true, x.cps.toList.map folS, ?_, ?_⟩
            · refine zgw_name (by decide) ?_
              walk_at "zz"
              exact ⟨rfl, rfl⟩
            · refine congrArg (Dt.lst true) ?_
              rw [List.map_map]
              induction x.cps.toList with
              | nil => rfl
              | cons a r ih => rw [List.filterMap_cons, ih]; rfl
            · rw [List.all_map]
              exact k
          · rw [h3, Bool.false_and] at k
            exact k
      · have h1' : ¬ ((1 : Int) ≤ (x.length : Int)) := of_decide_eq_false h1
        rw [no (by rw [decide_eq_false (show ¬ 1 ≤ x.cps.toList.length by omega), Bool.false_and])] at k
        walk_at "zz"
        exact k
def wOrd : Wz := fun ds Nv _ => ∃ n d, ds = [d] ∧ Pv n d ∧ Nv (.bl (ordD d)) false
theorem ok__is_order (T : Top w K mg) : FnOk P w K mg base CX0 1 (He.ga K ("_is_order" : Str)) (fdOf K d__is_order) ["value"] (spZ K wOrd) := by
  refine (T.f__is_order).ok sc__is_order (fun vs H Q E h => spz_len h (n := 1) fun ds Nv Ne hw => ?_) (fun cdv A outer s H vs Q E hr h => ?_)
  · obtain ⟨_, _, rfl, _⟩ := hw
    rfl
  · refine z_fn h (PSs.nox (pss_one (ps_ret (pe_and (pe_callB (call_isiK' (K := K) rfl) (by rfl) T.n_isinstance (by decide +kernel) (pa_cons (pv 0) (pa_cons (pe_bltn (v := .ty "int") rfl T.n_int (by decide +kernel) rfl) pa_nil))) (pe_and (pe_not (pe_callB (call_isiK' (K := K) rfl) (by rfl) T.n_isinstance (by decide +kernel) (pa_cons (pv 0) (pa_cons (pe_bltn (v := .ty "bool") rfl T.n_bool (by decide +kernel) rfl) pa_nil)))) (pe_one (pe_chain op_le op_le pe_int (pv 0) (pe_globE rfl T.i_MOST_ORDER)))))))) fun ds Nv Ne hw => ?_
    obtain ⟨n, d, rfl, hd, k⟩ := hw
    obtain ⟨t, h1, h2⟩ := isi_int T hd
    obtain ⟨t', h1', h2'⟩ := isi_bl T hd
    walk_at "zz"
    refine ⟨t, _, h1, h2, _, rfl, zB (fun c => ?_) (fun c => ?_)⟩
    · walk_at "zz"
      refine ⟨t', _, h1', h2', _, rfl, _, rfl, zB (fun c2 => ?_) (fun c2 => ?_)⟩
      · cases d <;> first | (cases c; done) | (cases c2; done) | skip
        rename_i i
        walk_at "zz"
        refine zB (fun h1 => ?_) (fun h1 => ?_)
        · walk_at "zz"
          have k : Nv (.bl (decide (0 ≤ i) && decide (i ≤ 4))) false := k
          rw [h1, Bool.true_and] at k
          exact k
        · have k : Nv (.bl (decide (0 ≤ i) && decide (i ≤ 4))) false := k
          rw [h1, Bool.false_and] at k
          exact k
      · have e : ordD d = false := by
          cases d <;> first | rfl | (cases c; done) | exact absurd c2 (by simp [blD])
        rw [e] at k
        exact k
    · have e : ordD d = false := by
        cases d <;> first | rfl | cases c
      rw [e] at k
      exact k
/-- the word, what stands behind it -/
def wSingle : Wz := fun ds Nv _ => ∃ n x d, ds = [.str x, d] ∧ Pv n d ∧ Nv (.bl (singleD x d)) false
theorem ok__is_single (T : Top w K mg) : FnOk P w K mg base CX0 4 (He.ga K ("_is_single" : Str)) (fdOf K d__is_single) ["word", "given"] (spZ K wSingle) := by
  refine (T.f__is_single).ok sc__is_single (fun vs H Q E h => spz_len h (n := 2) fun ds Nv Ne hw => ?_) (fun cdv A outer s H vs Q E hr h => ?_)
  · obtain ⟨_, _, _, rfl, _⟩ := hw
    rfl
  · refine z_fn h (PSs.nox (pss_cons (ps_if (pt_cmpR op_eq (pv 0) pe_str (nomark _))
    (pss_one (ps_ret (pe_callB (call_isiK' (K := K) rfl) (by rfl) T.n_isinstance (by decide +kernel) (pa_cons (pv 1) (pa_cons (pe_glob (v := .ref (He.ga K ("Ratio" : Str))) rfl T.g_Ratio rfl) pa_nil)))))
    pss_nil)
    (pss_cons (ps_if (pt_cmpR op_eq (pv 0) pe_str (nomark _))
    (pss_one (ps_ret (pe_callB (call_isiK' (K := K) rfl) (by rfl) T.n_isinstance (by decide +kernel) (pa_cons (pv 1) (pa_cons (pe_bltn (v := .ty "bool") rfl T.n_bool (by decide +kernel) rfl) pa_nil)))))
    pss_nil)
    (pss_one (ps_ret (pe_and (pe_cmpR op_eq (pv 0) pe_str (nomark _)) (pe_one (pe_call (ok_is_name (K := K) T) (hr.mono (by decide)) rfl T.g_is_name T.f_is_name.kp T.b_is_name .nil pass0 (pa_cons (pv 1) pa_nil))))))))) fun ds Nv Ne hw => ?_
    obtain ⟨n, x, d, rfl, hd, k⟩ := hw
    unfold singleD at k
    walk_at "zz"
    refine zD (fun c1 => ?_) (fun c1 => ?_)
    · rw [if_pos c1] at k
      obtain ⟨t, h1, h2⟩ := isi_rat T hd
      walk_at "zz"
      exact ⟨t, _, h1, h2, k⟩
    · rw [if_neg c1] at k
      walk_at "zz"
      refine zD (fun c2 => ?_) (fun c2 => ?_)
      · rw [if_pos c2] at k
        obtain ⟨t, h1, h2⟩ := isi_bl T hd
        walk_at "zz"
        exact ⟨t, _, h1, h2, k⟩
      · rw [if_neg c2] at k
        walk_at "zz"
        refine zB (fun c3 => ?_) (fun c3 => ?_)
        · rw [c3, Bool.true_and] at k
          walk_at "zz"
          exact ⟨n, d, olds1 hd.old, hd, k⟩
        · rw [c3, Bool.false_and] at k
          exact k
def wDouble : Wz := fun ds Nv _ => ∃ n x d e, ds = [.str x, d, e] ∧ Pv n d ∧ Pv n e ∧ Nv (.bl (doubleD x d e)) false
theorem ok__is_double (T : Top w K mg) : FnOk P w K mg base CX0 4 (He.ga K ("_is_double" : Str)) (fdOf K d__is_double) ["word", "first", "second"] (spZ K wDouble) := by
  refine (T.f__is_double).ok sc__is_double (fun vs H Q E h => spz_len h (n := 3) fun ds Nv Ne hw => ?_) (fun cdv A outer s H vs Q E hr h => ?_)
  · obtain ⟨_, _, _, _, rfl, _⟩ := hw
    rfl
  · refine z_fn h (PSs.nox (pss_cons (ps_if (pt_cmpR op_eq (pv 0) pe_str (nomark _))
    (pss_one (ps_ret (pe_and (pe_call (ok_is_name (K := K) T) (hr.mono (by decide)) rfl T.g_is_name T.f_is_name.kp T.b_is_name .nil pass0 (pa_cons (pv 1) pa_nil)) (pe_one (pe_call (ok__is_order (K := K) T) (hr.mono (by decide)) rfl T.g__is_order T.f__is_order.kp T.b__is_order .nil pass0 (pa_cons (pv 2) pa_nil))))))
    pss_nil)
    (pss_one (ps_ret (pe_and (pe_cmpR op_eq (pv 0) pe_str (nomark _)) (pe_and (pe_callB (call_isiK' (K := K) rfl) (by rfl) T.n_isinstance (by decide +kernel) (pa_cons (pv 1) (pa_cons (pe_glob (v := .ref (He.ga K ("Ratio" : Str))) rfl T.g_Ratio rfl) pa_nil))) (pe_and (pe_callB (call_isiK' (K := K) rfl) (by rfl) T.n_isinstance (by decide +kernel) (pa_cons (pv 2) (pa_cons (pe_glob (v := .ref (He.ga K ("Ratio" : Str))) rfl T.g_Ratio rfl) pa_nil))) (pe_one (pe_cmpR op_gt (pe_fldK (K := K) rfl (pv 2) rfl) pe_int (nomark _)))))))))) fun ds Nv Ne hw => ?_
    obtain ⟨n, x, d, e, rfl, hd, he, k⟩ := hw
    unfold doubleD at k
    walk_at "zz"
    refine zD (fun c1 => ?_) (fun c1 => ?_)
    · rw [if_pos c1] at k
      walk_at "zz"
      refine ⟨n, d, olds1 hd.old, hd, _, rfl, zB (fun c2 => ?_) (fun c2 => ?_)⟩
      · rw [c2, Bool.true_and] at k
        walk_at "zz"
        exact ⟨n, e, olds1 he.old, he, k⟩
      · rw [c2, Bool.false_and] at k
        exact k
    · rw [if_neg c1] at k
      walk_at "zz"
      refine zB (fun c2 => ?_) (fun c2 => ?_)
      · rw [c2, Bool.true_and] at k
        obtain ⟨t, h1, h2⟩ := isi_rat T hd
        obtain ⟨t', h1', h2'⟩ := isi_rat T he
        walk_at "zz"
        refine ⟨t, _, h1, h2, _, rfl, zB (fun c3 => ?_) (fun c3 => ?_)⟩
        · rw [c3, Bool.true_and] at k
          walk_at "zz"
          refine ⟨t', _, h1', h2', _, rfl, zB (fun c4 => ?_) (fun c4 => ?_)⟩
          · rw [c4, Bool.true_and] at k
            cases e <;> first | (cases c4; done) | skip
            walk_at "zz"
            refine ⟨_, _, .top _ _, T.cls_Ratio, T.na_Ratio_top, ?_⟩
            walk_at "zz"
            exact k
          · rw [c4, Bool.false_and] at k
            exact k
        · rw [c3, Bool.false_and] at k
          exact k
      · rw [c2, Bool.false_and] at k
        exact k
theorem need_tab (T : Top w K mg) {x : Str} (h : WordOk x) : inTab K (He.ga K ("NEEDED_KINDS" : Str)) x (needO x).isSome = true := by
  rcases h with h | h
  · have e : (needO x).isSome = true := by
      simp only [needT, List.map_cons, List.map_nil, List.mem_cons, List.not_mem_nil, or_false] at h
      rcases h with rfl | rfl | rfl | rfl | rfl | rfl | rfl | rfl | rfl | rfl | rfl | rfl <;> decide +kernel
    rw [e]
    exact List.all_eq_true.mp T.x_tin_NEEDED_KINDS _ h
  · have e : (needO x).isSome = false := by
      simp only [outT, List.mem_cons, List.not_mem_nil, or_false] at h
      rcases h with rfl | rfl | rfl | rfl | rfl | rfl | rfl | rfl <;> decide +kernel
    rw [e]
    exact List.all_eq_true.mp T.x_tout_NEEDED_KINDS _ h
theorem need_get (T : Top w K mg) {x : Str} {ks : List Str} (h : needO x = some ks) : KTup K (He.ga K ("NEEDED_KINDS" : Str)) x ks = true ∧ ks.length ≤ 3 := by
  unfold needO at h
  obtain ⟨p, hp, rfl⟩ := Option.map_eq_some_iff.mp h
  have h1 := List.find?_some hp
  have h2 := List.mem_of_find?_eq_some hp
  have e : p.1 = x := by simpa using h1
  refine ⟨?_, ?_⟩
  · rw [← e]
    exact List.all_eq_true.mp T.x_needs p h2
  · have : ∀ p ∈ needT, p.2.length ≤ 3 := by decide
    exact this p h2
end
section
variable {P : Program} {w : World} {K : PySem.W.Frag} {mg : Str → Option Value} {base : Heap}
def wWf : Wz := fun ds Nv _ => ∃ n d, ds = [d] ∧ Pv n d ∧ Nv (.bl (wfD d)) false
theorem ok_is_well_formed (T : Top w K mg) : FnOk P w K mg base CX0 5 (He.ga K ("is_well_formed" : Str)) (fdOf K d_is_well_formed) ["value"] (spZ K wWf) := by
  obtain ⟨es, nn, D⟩ := T.tab_NEEDED_KINDS
  refine (T.f_is_well_formed).ok sc_is_well_formed (fun vs H Q E h => spz_len h (n := 1) fun ds Nv Ne hw => ?_) (fun cdv A outer s H vs Q E hr h => ?_)
  · obtain ⟨_, _, rfl, _⟩ := hw
    rfl
  · refine z_fn h (PSs.nox (pss_cons (ps_if (PW.pt (pw_or (pt_not (pt_val (pe_callB (call_isiK' (K := K) rfl) (by rfl) T.n_isinstance (by decide +kernel) (pa_cons (pv 0) (pa_cons (pe_bltn (v := .ty "tuple") rfl T.n_tuple (by decide +kernel) rfl) pa_nil))))) (pw_or (pt_cmpR op_eq (pe_callB (call_lenZ (K := K) rfl) (by rfl) T.n_len PySem.boot_len (pa_cons (pv 0) pa_nil)) pe_int (nomark _)) (pw_or1 (pt_not (pt_val (pe_callB (call_isiK' (K := K) rfl) (by rfl) T.n_isinstance (by decide +kernel) (pa_cons (pe_ix (ix_tupK (K := K) rfl) (pv 0) pe_int (fun _ _ => rfl)) (pa_cons (pe_bltn (v := .ty "str") rfl T.n_str (by decide +kernel) rfl) pa_nil)))))))))
    (pss_one (ps_ret pe_bl))
    pss_nil)
    (pss_cons (ps_set (i := 1) sc_is_well_formed.nd rfl (Or.inl rfl) (pe_ix (ix_tupK (K := K) rfl) (pv 0) pe_int (fun _ _ => rfl)))
    (pss_cons (ps_if (pt_cmpR (op_in_kd (T.tab_NEEDED_KINDS.choose_spec.choose_spec)) (pv 1) (pe_globE rfl T.k_NEEDED_KINDS) (by rfl))
    (pss_one (ps_ret (pe_cmpR op_eq (pe_callB (call_lenZ (K := K) rfl) (by rfl) T.n_len PySem.boot_len (pa_cons (pv 0) pa_nil)) (pe_op op_add pe_int (pe_callB (call_lenA (K := K) rfl) (by rfl) T.n_len PySem.boot_len (pa_cons (pe_ix (ix_kdictK (K := K) (w := w) (d := He.ga K ("NEEDED_KINDS" : Str)) rfl rfl) (pe_globE rfl T.k_NEEDED_KINDS) (pv 1) (fun _ _ => rfl)) pa_nil))) (nomark _))))
    pss_nil)
    (pss_cons (ps_if (pt_cmpR op_eq (pe_callB (call_lenZ (K := K) rfl) (by rfl) T.n_len PySem.boot_len (pa_cons (pv 0) pa_nil)) pe_int (nomark _))
    (pss_one (ps_ret (pe_cmpR (op_inK (K := K) rfl) (pv 1) (pe_tup (pa_cons pe_str (pa_cons pe_str pa_nil))) (by rfl))))
    pss_nil)
    (pss_cons (ps_if (pt_cmpR op_eq (pe_callB (call_lenZ (K := K) rfl) (by rfl) T.n_len PySem.boot_len (pa_cons (pv 0) pa_nil)) pe_int (nomark _))
    (pss_one (ps_ret (pe_call (ok__is_single (K := K) T) (hr.mono (by decide)) rfl T.g__is_single T.f__is_single.kp T.b__is_single .nil pass0 (pa_cons (pv 1) (pa_cons (pe_ix (ix_tupK (K := K) rfl) (pv 0) pe_int (fun _ _ => rfl)) pa_nil)))))
    pss_nil)
    (pss_one (ps_ret (pe_and (pe_cmpR op_eq (pe_callB (call_lenZ (K := K) rfl) (by rfl) T.n_len PySem.boot_len (pa_cons (pv 0) pa_nil)) pe_int (nomark _)) (pe_one (pe_call (ok__is_double (K := K) T) (hr.mono (by decide)) rfl T.g__is_double T.f__is_double.kp T.b__is_double .nil pass0 (pa_cons (pv 1) (pa_cons (pe_ix (ix_tupK (K := K) rfl) (pv 0) pe_int (fun _ _ => rfl)) (pa_cons (pe_ix (ix_tupK (K := K) rfl) (pv 0) pe_int (fun _ _ => rfl)) pa_nil)))))))))))))) fun ds Nv Ne hw => ?_
    obtain ⟨n, d, rfl, hd, k⟩ := hw
    obtain ⟨t, h1, h2⟩ := isi_tup T hd
    walk_at "zz"
    refine ⟨t, _, h1, h2, _, rfl, zB (fun c => ?_) (fun c => ?_)⟩
    · walk_at "zz"
      have e : wfD d = false := by
        cases d <;> first | rfl | cases c
      rw [e] at k
      exact k
    · cases hd <;> first | (cases c; done) | skip
      rename_i n ds hl hw hp
      cases ds with
      | nil =>
        walk_at "zz"
        exact k
      | cons a r =>
        obtain ⟨t', h1', h2'⟩ := isi_str T (hp a List.mem_cons_self)
        walk_at "zz"
        refine zF (by simp; omega) ?_
        walk_at "zz"
        refine ⟨t', _, h1', h2', _, rfl, zB (fun c2 => ?_) (fun c2 => ?_)⟩
        · walk_at "zz"
          have e : wfD (.tup (a :: r)) = false := by
            cases a <;> first | rfl | cases c2
          rw [e] at k
          exact k
        · cases a <;> first | (cases c2; done) | skip
          rename_i x
          have hx := hw x r rfl
          walk_at "zz"
          refine ⟨x, _, rfl, need_tab T hx, _, rfl, ?_⟩
          cases hn : needO x with
          | some ks =>
            have e : wfD (.tup (.str x :: r)) = decide (r.length = ks.length) := by
              show (match needO x with | some ks => decide (r.length = ks.length) | none => leafD x r) = _
              rw [hn]
            rw [e] at k
            obtain ⟨g1, g2⟩ := need_get T hn
            refine zT rfl ?_
            walk_at "zz"
            refine ze_lenAdr rfl ?_
            refine ze_ixKD rfl D ?_
            walk_at "zz"
            refine ⟨x, ks, rfl, g1, fun a ha => ⟨a, ks, rfl, ha, by omega, ?_⟩⟩
            walk_at "zz"
            have e2 : decide (((Dt.str x :: r).length : Int) = 1 + (ks.length : Int)) = decide (r.length = ks.length) := by
              rw [List.length_cons]
              exact decide_eq_decide.mpr (by omega)
            rw [e2]
            exact k
          | none =>
            have e : wfD (.tup (.str x :: r)) = leafD x r := by
              show (match needO x with | some ks => decide (r.length = ks.length) | none => leafD x r) = _
              rw [hn]
            rw [e] at k
            refine zF (fun q => nomatch q) ?_
            have he := fun y hy => hp y (List.mem_cons_of_mem _ hy)
            match r, k, he with
            | [], k, he =>
              have k : Nv (.bl (decide (x = "time") || decide (x = "initial"))) false := k
              walk_at "zz"
              refine zT rfl ?_
              walk_at "zz"
              refine ⟨_, [("time" : Str), ("initial" : Str)].map V.str, _, rfl, .inr rfl, rfl, ?_⟩
              rw [inV_strs]
              have e2 : (if false = true then !decide (x ∈ [("time" : Str), ("initial" : Str)]) else decide (x ∈ [("time" : Str), ("initial" : Str)])) = (decide (x = "time") || decide (x = "initial")) := by
                rw [if_neg Bool.false_ne_true, ← Bool.decide_or]
                exact decide_eq_decide.mpr (by simp)
              rw [e2]
              exact k
            | [b], k, he =>
              walk_at "zz"
              refine zF (by simp) ?_
              walk_at "zz"
              refine zT rfl ?_
              walk_at "zz"
              exact ⟨n, x, b, by simp only [Dt.olds, (he b List.mem_cons_self).old]; rfl, he b List.mem_cons_self, k⟩
            | [b, b2], k, he =>
              walk_at "zz"
              refine zF (by simp) ?_
              walk_at "zz"
              refine zF (by simp) ?_
              walk_at "zz"
              refine zT rfl ?_
              walk_at "zz"
              exact ⟨n, x, b, b2, by simp only [Dt.olds, (he b List.mem_cons_self).old, (he b2 (by simp)).old]; rfl, he b List.mem_cons_self, he b2 (by simp), k⟩
            | b :: b2 :: b3 :: r, k, he =>
              walk_at "zz"
              refine zF (by simp only [List.length_cons, decide_eq_true_eq]; omega) ?_
              walk_at "zz"
              refine zF (by simp only [List.length_cons, decide_eq_true_eq]; omega) ?_
              walk_at "zz"
              refine zF (by simp only [List.length_cons, decide_eq_true_eq]; omega) ?_
              exact k
def wPartsV : Wz := fun ds Nv _ => ∃ n d, ds = [d] ∧ Pv (n + 1) d ∧ wfD d = true ∧ Nv (.lst true (partsV d)) true
theorem ok_parts_of (T : Top w K mg) : FnOk P w K mg base CX0 1 (He.ga K ("parts_of" : Str)) (fdOf K d_parts_of) ["expression"] (spZ K wPartsV) := by
  refine (T.f_parts_of).ok sc_parts_of (fun vs H Q E h => spz_len h (n := 1) fun ds Nv Ne hw => ?_) (fun cdv A outer s H vs Q E hr h => ?_)
  · obtain ⟨_, _, rfl, _⟩ := hw
    rfl
  · refine z_fn h (PSs.nox (pss_one (ps_ret (pe_ifExp (pt_cmpR (op_in_kd (T.tab_NEEDED_KINDS.choose_spec.choose_spec)) (pe_ix (ix_tupK (K := K) rfl) (pv 0) pe_int (fun _ _ => rfl)) (pe_globE rfl T.k_NEEDED_KINDS) (by rfl)) (pe_callTy (call_listZ (K := K) rfl rfl) (by rfl) T.n_list (by decide +kernel) (pa_cons (pe_slice sl_tup (pv 0) (po_some pe_int) po_none) pa_nil)) (pe_lst pa_nil))))) fun ds Nv Ne hw => ?_
    obtain ⟨n, d, rfl, hd, hwf, k⟩ := hw
    obtain ⟨x, r, rfl⟩ : ∃ x r, d = .tup (.str x :: r) := by
      cases d <;> first | (cases hwf; done) | skip
      rename_i ds
      cases ds with
      | nil => cases hwf
      | cons a r => cases a <;> first | (cases hwf; done) | exact ⟨_, _, rfl⟩
    cases hd with
    | tup _ hx _ =>
      walk_at "zz"
      refine ⟨x, _, rfl, need_tab T (hx x r rfl), _, rfl, zB (fun c => ?_) (fun c => ?_)⟩
      · walk_at "zz"
        rw [show partsV (.tup (.str x :: r)) = r from if_pos c] at k
        exact k
      · walk_at "zz"
        rw [show partsV (.tup (.str x :: r)) = [] from if_neg (by rw [c]; exact Bool.false_ne_true)] at k
        exact k
end
/-! ### tables of texts, of any kind of value -/
section
variable {α : Type}
def tabD (t : Bool) (f : α → Dt) (os : List (Str × α)) : Dt := .dic t (os.map fun p => Sum.inr p.1) (os.map fun p => f p.2)
def putG (os : List (Str × α)) (x : Str) (o : α) : List (Str × α) := if x ∈ os.map (·.1) then os.map (fun p => if p.1 = x then (p.1, o) else p) else os ++ [(x, o)]
def getG (os : List (Str × α)) (x : Str) : Option α := (os.find? fun p => decide (p.1 = x)).map (·.2)
theorem tab_in {os : List (Str × α)} {x : Str} : ((Sum.inr x : Key) ∈ os.map fun p => (Sum.inr p.1 : Key)) ↔ x ∈ os.map (·.1) := by simp
theorem PutD.tab {f : α → Dt} {os : List (Str × α)} {x : Str} {o : α} (h : os.length < 100000) : PutD (tabD true f os) (.str x) (f o) (tabD true f (putG os x o)) := by
  have e1 : putKs (os.map fun p => (Sum.inr p.1 : Key)) (.inr x) = (putG os x o).map fun p => (Sum.inr p.1 : Key) := by
    unfold putKs putG
    by_cases h : x ∈ os.map (·.1)
    · rw [if_pos h, if_pos (tab_in.mpr h), List.map_map]
      refine List.map_congr_left fun p _ => ?_
      show (Sum.inr p.1 : Key) = Sum.inr (if p.1 = x then (p.1, o) else p).1
      split <;> rfl
    · rw [if_neg h, if_neg fun q => h (tab_in.mp q), List.map_append]
      rfl
  have e2 : putDs (os.map fun p => (Sum.inr p.1 : Key)) (os.map fun p => f p.2) (.inr x) (f o) = (putG os x o).map fun p => f p.2 := by
    unfold putDs putG
    by_cases h : x ∈ os.map (·.1)
    · rw [if_pos h, if_pos (tab_in.mpr h), List.map_map, List.zipWith_map, List.zipWith_self]
      refine List.map_congr_left fun p _ => ?_
      show _ = f _
      by_cases e : p.1 = x
      · simp [e]
      · simp [e]
    · rw [if_neg h, if_neg fun q => h (tab_in.mp q), List.map_append]
      rfl
  unfold tabD
  rw [← e1, ← e2]
  exact .str (by rw [List.length_map]; exact h)
theorem putG_len {os : List (Str × α)} {x : Str} {o : α} : (putG os x o).length ≤ os.length + 1 := by
  unfold putG
  split
  · rw [List.length_map]; omega
  · simp
theorem putG_in {os : List (Str × α)} {x : Str} {o : α} (h : x ∈ os.map (·.1)) : (putG os x o).map (·.1) = os.map (·.1) := by
  unfold putG
  rw [if_pos h, List.map_map]
  refine List.map_congr_left fun p _ => ?_
  show (if p.1 = x then (p.1, o) else p).1 = p.1
  split <;> rfl
theorem putG_out {os : List (Str × α)} {x : Str} {o : α} (h : ¬ x ∈ os.map (·.1)) : putG os x o = os ++ [(x, o)] := if_neg h
theorem putG_nodup {os : List (Str × α)} {x : Str} {o : α} (nd : (os.map (·.1)).Nodup) : ((putG os x o).map (·.1)).Nodup := by
  by_cases h : x ∈ os.map (·.1)
  · rw [putG_in h]; exact nd
  · rw [putG_out h, List.map_append, List.nodup_append]
    exact ⟨nd, by simp, fun a ha b hb => by simp at hb; subst hb; exact fun q => h (q ▸ ha)⟩
theorem putG_mem {os : List (Str × α)} {x : Str} {o : α} {p : Str × α} (h : p ∈ putG os x o) : p ∈ os ∨ p = (x, o) := by
  unfold putG at h
  split at h
  · obtain ⟨q, hq, e⟩ := List.mem_map.mp h
    by_cases c : q.1 = x
    · rw [if_pos c] at e
      right
      rw [← e, c]
    · rw [if_neg c] at e
      left
      rw [← e]
      exact hq
  · rcases List.mem_append.mp h with h | h
    · exact .inl h
    · exact .inr (List.mem_singleton.mp h)
theorem tab_lookG {f : α → Dt} {x : Str} : ∀ (os : List (Str × α)), look (os.map fun p => (Sum.inr p.1 : Key)) (os.map fun p => f p.2) (Sum.inr x) = (getG os x).map f
  | [] => rfl
  | p :: r => by
    rw [List.map_cons, List.map_cons]
    unfold look getG
    by_cases h : p.1 = x
    · rw [if_pos (by rw [h]), List.find?_cons, decide_eq_true h]
      rfl
    · rw [if_neg (fun q => h (Sum.inr.inj q)), List.find?_cons, decide_eq_false h, tab_lookG r]
      rfl
theorem GetD.tab {f : α → Dt} {t : Bool} {x : Str} (os : List (Str × α)) : GetD (tabD t f os) (.str x) ((getG os x).map f) := GetD.str (tab_lookG os)
theorem getG_none {os : List (Str × α)} {x : Str} : getG os x = none ↔ ¬ x ∈ os.map (·.1) := by
  unfold getG
  rw [Option.map_eq_none_iff, List.find?_eq_none]
  constructor
  · intro h q
    obtain ⟨p, hp, e⟩ := List.mem_map.mp q
    exact h p hp (by simpa using e)
  · intro h p hp c
    exact h (List.mem_map.mpr ⟨p, hp, by simpa using c⟩)
theorem getG_some {os : List (Str × α)} {x : Str} (h : x ∈ os.map (·.1)) : ∃ o, getG os x = some o ∧ (x, o) ∈ os := by
  cases e : getG os x with
  | none => exact absurd h (getG_none.mp e)
  | some o =>
    refine ⟨o, rfl, ?_⟩
    unfold getG at e
    obtain ⟨p, hp, rfl⟩ := Option.map_eq_some_iff.mp e
    have h1 := List.find?_some hp
    have h2 := List.mem_of_find?_eq_some hp
    have : p.1 = x := by simpa using h1
    rw [← this]
    exact h2
theorem getG_put {os : List (Str × α)} {x y : Str} {o : α} : getG (putG os x o) y = if x = y then some o else getG os y := by
  unfold putG
  by_cases h : x ∈ os.map (·.1)
  · rw [if_pos h]
    induction os with
    | nil => cases h
    | cons p r ih =>
      rw [List.map_cons]
      unfold getG
      rw [List.find?_cons, List.find?_cons]
      by_cases c : p.1 = x
      · rw [if_pos c]
        by_cases d : x = y
        · simp [c, d]
        · have : ¬ p.1 = y := fun q => d (by rw [← c, q])
          simp only [decide_eq_false this, if_neg d]
          by_cases h3 : x ∈ r.map (·.1)
          · have := ih h3
            unfold getG at this
            rw [this, if_neg d]
          · have e : r.map (fun p => if p.1 = x then (p.1, o) else p) = r := by
              refine (List.map_congr_left fun q hq => ?_).trans (List.map_id r)
              rw [if_neg fun z => h3 (List.mem_map.mpr ⟨q, hq, z⟩)]
              rfl
            rw [e]
      · rw [if_neg c]
        have h3 : x ∈ r.map (·.1) := by
          rw [List.map_cons] at h
          exact (List.mem_cons.mp h).resolve_left fun q => c q.symm
        have := ih h3
        unfold getG at this
        by_cases d : p.1 = y
        · have : ¬ x = y := fun q => c (by rw [d, q])
          simp [d, this]
        · simp only [decide_eq_false d]
          exact this
  · rw [if_neg h]
    unfold getG
    rw [List.find?_append]
    by_cases d : x = y
    · subst d
      have : os.find? (fun p => decide (p.1 = x)) = none := by
        rw [List.find?_eq_none]
        intro p hp c
        exact h (List.mem_map.mpr ⟨p, hp, by simpa using c⟩)
      simp [this]
    · simp [d]
end
local macro_rules | `(tactic| walk_at "z1") => `(tactic| first | (with_reducible apply ze_inK))
/-! ### kinds -/
def fitS (a b : Str) : Bool := decide (a = b) || decide (("either" : Str) ∈ [a, b])
def numW : List Str := ["num", "time", "var", "neg", "add", "sub", "mul", "div"]
def usualS (w : Str) : Str := if w ∈ numW then "number" else "truth"
def lastS (kinds : List Str) : Str := kinds.getD (kinds.length - 1) ""
def last2S (kinds : List Str) : Str := kinds.getD (kinds.length - 2) ""
def joinS (w : Str) (kinds ks : List Str) : Str :=
  if (decide (("" : Str) ∈ kinds) || !((List.zipWith fitS kinds ks).all id)) = true then ""
  else if (decide (w ∈ [("same" : Str), ("if" : Str)]) && !fitS (last2S kinds) (lastS kinds)) = true then ""
  else if w = "if" then (if last2S kinds = "either" then lastS kinds else last2S kinds) else usualS w
abbrev KTb : Type := List (Str × Str)
def nameK (kt : KTb) : List Dt → Str
  | .str x :: _ => (getG kt x).getD "either"
  | _ => ""
def ord0 : List Dt → Bool
  | [_, .int i] => decide (i = 0)
  | _ => false
def kindV (kt : KTb) : Nat → Dt → Str
  | n + 1, .tup (.str w :: r) => match needO w with
    | some ks => joinS w (r.map (kindV kt n)) ks
    | none => if (decide (w = "pre") || (decide (w = "var") && ord0 r)) = true then nameK kt r else usualS w
  | _, _ => ""
def goodV : Nat → Dt → Bool
  | 0, _ => false
  | n + 1, d => wfD d && (partsV d).all (goodV n)
theorem wf_shape {d : Dt} (h : wfD d = true) : ∃ x r, d = .tup (.str x :: r) := by
  cases d <;> first | (cases h; done) | skip
  rename_i ds
  cases ds with
  | nil => cases h
  | cons a r => cases a <;> first | (cases h; done) | exact ⟨_, _, rfl⟩
section
variable {P : Program} {w : World} {K : PySem.W.Frag} {mg : Str → Option Value} {base : Heap}
def wFit : Wz := fun ds Nv _ => ∃ a b, ds = [.str a, .str b] ∧ Nv (.bl (fitS a b)) false
theorem ok__fit (T : Top w K mg) : FnOk P w K mg base CX0 1 (He.ga K ("_fit" : Str)) (fdOf K d__fit) ["kind", "other"] (spZ K wFit) := by
  refine (T.f__fit).ok sc__fit (fun vs H Q E h => spz_len h (n := 2) fun ds Nv Ne hw => ?_) (fun cdv A outer s H vs Q E hr h => ?_)
  · obtain ⟨_, _, rfl, _⟩ := hw
    rfl
  · refine z_fn h (PSs.nox (pss_one (ps_ret (pe_or (pe_cmpR op_eq (pv 0) (pv 1) (nomark _)) (pe_one (pe_cmpR (op_inK (K := K) rfl) pe_str (pe_tup (pa_cons (pv 0) (pa_cons (pv 1) pa_nil))) (by rfl))))))) fun ds Nv Ne hw => ?_
    obtain ⟨a, b, rfl, k⟩ := hw
    unfold fitS at k
    walk_at "zz"
    refine zB (fun c => ?_) (fun c => ?_)
    · rw [c, Bool.true_or] at k
      exact k
    · rw [c, Bool.false_or] at k
      walk_at "zz"
      refine ⟨_, [a, b].map V.str, _, rfl, .inr rfl, rfl, ?_⟩
      rw [inV_strs]
      exact k
def wUsual : Wz := fun ds Nv _ => ∃ a, ds = [.str a] ∧ Nv (.str (usualS a)) false
theorem ok__usual_kind (T : Top w K mg) : FnOk P w K mg base CX0 1 (He.ga K ("_usual_kind" : Str)) (fdOf K d__usual_kind) ["word"] (spZ K wUsual) := by
  refine (T.f__usual_kind).ok sc__usual_kind (fun vs H Q E h => spz_len h (n := 1) fun ds Nv Ne hw => ?_) (fun cdv A outer s H vs Q E hr h => ?_)
  · obtain ⟨_, rfl, _⟩ := hw
    rfl
  · refine z_fn h (PSs.nox (pss_one (ps_ret (pe_ifExp (pt_cmpR (op_inK (K := K) rfl) (pv 0) (pe_globE rfl T.k_NUMBER_WORDS) (by rfl)) pe_str pe_str)))) fun ds Nv Ne hw => ?_
    obtain ⟨a, rfl, k⟩ := hw
    unfold usualS at k
    walk_at "zz"
    refine ⟨a, numW, rfl, T.x_t_NUMBER_WORDS, by decide, _, rfl, ?_⟩
    rw [inV_strs]
    refine zD (fun c => ?_) (fun c => ?_)
    · rw [if_pos c] at k
      walk_at "zz"
      exact k
    · rw [if_neg c] at k
      walk_at "zz"
      exact k
theorem zip_kinds : ∀ (kinds ks : List Str), zipD (kinds.map Dt.str) ks = (kinds.zip ks).map fun p => .tup [.str p.1, .str p.2]
  | [], _ => rfl
  | _ :: _, [] => rfl
  | a :: as, b :: bs => congrArg (_ :: ·) (zip_kinds as bs)
theorem zip_fit : ∀ (kinds ks : List Str), List.zipWith fitS kinds ks = (kinds.zip ks).map fun p => fitS p.1 p.2
  | [], _ => rfl
  | _ :: _, [] => rfl
  | a :: as, b :: bs => congrArg (_ :: ·) (zip_fit as bs)
theorem fm_somes {α : Type} {f : α → Dt} : ∀ {xs : List α}, xs.filterMap (fun a => some (f a)) = xs.map f
  | [] => rfl
  | x :: xs => by rw [List.filterMap_cons, fm_somes]; rfl
theorem at_last2 {kinds : List Str} (h : 2 ≤ kinds.length) : atI (kinds.map Dt.str) (-2) = some (.str (last2S kinds)) := by
  unfold atI ixN last2S
  rw [List.length_map]
  rw [if_neg (by decide), if_pos (by omega)]
  rw [show (-2 + (kinds.length : Int)).toNat = kinds.length - 2 by omega]
  show (kinds.map Dt.str)[kinds.length - 2]? = _
  rw [List.getElem?_map, List.getD_eq_getElem?_getD, List.getElem?_eq_getElem (by omega)]
  rfl
theorem at_last {kinds : List Str} (h : 1 ≤ kinds.length) : atI (kinds.map Dt.str) (-1) = some (.str (lastS kinds)) := by
  unfold atI ixN lastS
  rw [List.length_map]
  rw [if_neg (by decide), if_pos (by omega)]
  rw [show (-1 + (kinds.length : Int)).toNat = kinds.length - 1 by omega]
  show (kinds.map Dt.str)[kinds.length - 1]? = _
  rw [List.getElem?_map, List.getD_eq_getElem?_getD, List.getElem?_eq_getElem (by omega)]
  rfl
def wJoinS : Wz := fun ds Nv _ => ∃ x ks kinds t, ds = [.str x, .lst t (kinds.map Dt.str)] ∧ needO x = some ks ∧ kinds.length = ks.length ∧ Nv (.str (joinS x kinds ks)) false
set_option maxHeartbeats 4000000 in
theorem ok_joined_kind (T : Top w K mg) : FnOk P w K mg base CX0 2 (He.ga K ("joined_kind" : Str)) (fdOf K d_joined_kind) ["word", "kinds"] (spZ K wJoinS) := by
  obtain ⟨es, nn, D⟩ := T.tab_NEEDED_KINDS
  refine (T.f_joined_kind).ok sc_joined_kind (fun vs H Q E h => spz_len h (n := 2) fun ds Nv Ne hw => ?_) (fun cdv A outer s H vs Q E hr h => ?_)
  · obtain ⟨_, _, _, _, rfl, _⟩ := hw
    rfl
  · refine z_fn h (PSs.nox (pss_cons (ps_if (PW.pt (pw_or (pt_cmpR (op_inK (K := K) rfl) pe_str (pv 1) (by rfl)) (pw_or1 (pt_not (pt_val (pe_callB (cr_all rfl) (by rfl) T.n_all (by decide +kernel) (pa_cons (pe_lockL (pe_lc (own := [(("kind" : Str), 2), (("needed" : Str), 3)]) (g := (gTup K 2 (gCons (gName 2) (gCons (gName 3) gNil)))) (tt := tYes) rfl sc_joined_kind.nd (MZ.pi_zipM (K := K) rfl rfl T.n_zip (pa_cons (pv 1) (pa_cons (pe_ix (ix_kdictK (K := K) (w := w) (d := He.ga K ("NEEDED_KINDS" : Str)) rfl rfl) (pe_globE rfl T.k_NEEDED_KINDS) (pv 0) (fun _ _ => rfl)) pa_nil))) (blkOk_by (N := ["word", "kinds", "kind", "needed"]) (sc := defScope s_joined_kind) (by decide +kernel)) (fun _ _ _ _ _ => (pg_tup (by rfl) (pgs_cons (pg_name (i := 2) sc_joined_kind.nd rfl (Or.inl rfl)) (pgs_cons (pg_name (i := 3) sc_joined_kind.nd rfl (Or.inl rfl)) pgs_nil)))) (fun _ _ _ _ _ => pts_nil) (fun _ _ _ _ _ => (pe_call (ok__fit (K := K) T) (hr.mono (by decide)) rfl T.g__fit T.f__fit.kp T.b__fit .nil pass0 (pa_cons (pv 2) (pa_cons (pv 3) pa_nil)))))) pa_nil)))))))
    (pss_one (ps_ret pe_str))
    pss_nil)
    (pss_cons (ps_if (PW.pt (pw_and (pt_cmpR (op_inK (K := K) rfl) (pv 0) (pe_tup (pa_cons pe_str (pa_cons pe_str pa_nil))) (by rfl)) (pw_and1 (pt_not (pt_val (pe_call (ok__fit (K := K) T) (hr.mono (by decide)) rfl T.g__fit T.f__fit.kp T.b__fit .nil pass0 (pa_cons (pe_ix (ix_listK (K := K) rfl) (pv 1) (pe_un un_neg pe_int) (fun _ _ => rfl)) (pa_cons (pe_ix (ix_listK (K := K) rfl) (pv 1) (pe_un un_neg pe_int) (fun _ _ => rfl)) pa_nil))))))))
    (pss_one (ps_ret pe_str))
    pss_nil)
    (pss_cons (ps_if (pt_cmpR op_eq (pv 0) pe_str (nomark _))
    (pss_one (ps_ret (pe_ifExp (pt_cmpR op_eq (pe_ix (ix_listK (K := K) rfl) (pv 1) (pe_un un_neg pe_int) (fun _ _ => rfl)) pe_str (nomark _)) (pe_ix (ix_listK (K := K) rfl) (pv 1) (pe_un un_neg pe_int) (fun _ _ => rfl)) (pe_ix (ix_listK (K := K) rfl) (pv 1) (pe_un un_neg pe_int) (fun _ _ => rfl)))))
    pss_nil)
    (pss_one (ps_ret (pe_call (ok__usual_kind (K := K) T) (hr.mono (by decide)) rfl T.g__usual_kind T.f__usual_kind.kp T.b__usual_kind .nil pass0 (pa_cons (pv 0) pa_nil)))))))) fun ds Nv Ne hw => ?_
    obtain ⟨x, ks, kinds, t, rfl, hn, hl, k⟩ := hw
    obtain ⟨g1, g2⟩ := need_get T hn
    unfold joinS at k
    walk_at "zz"
    refine ⟨_, kinds.map V.str, _, rfl, .inl ⟨t, rfl⟩, flat_strs kinds, ?_⟩
    rw [inV_strs, if_neg Bool.false_ne_true]
    refine ⟨_, rfl, zB (fun c => ?_) (fun c => ?_)⟩
    · rw [c, Bool.true_or, if_pos rfl] at k
      walk_at "zz"
      exact k
    · rw [c, Bool.false_or] at k
      walk_at "zz"
      refine ze_lcM (kinds.zip ks) (fun p => .tup [.str p.1, .str p.2]) (fun p => some (.bl (fitS p.1 p.2))) (zi_zipM rfl ?_)
      walk_at "zz"
      refine ze_ixKD rfl D ?_
      walk_at "zz"
      refine ⟨x, ks, rfl, g1, fun a ha => ?_⟩
      walk_at "zz"
      refine ⟨t, kinds.map Dt.str, a, ks, rfl, ha, by omega, zip_kinds kinds ks, trivial, rfl, by rw [List.length_zip]; omega, fun p hp => ?_, true, (kinds.zip ks).map fun p => fitS p.1 p.2, ?_, ?_⟩
      · refine zgw_tup rfl (zgws_cons (zgw_name (by decide) (zgws_cons (zgw_name (by decide) (zgws_nil ?_)))))
        walk_at "zz"
        exact rfl
      · rw [fm_somes, List.map_map]
        rfl
      rw [← zip_fit]
      refine ⟨_, rfl, zB (fun c2 => ?_) (fun c2 => ?_)⟩
      · rw [c2, if_pos rfl] at k
        walk_at "zz"
        exact k
      · rw [c2, if_neg Bool.false_ne_true] at k
        walk_at "zz"
        refine ⟨_, [("same" : Str), ("if" : Str)].map V.str, _, rfl, .inr rfl, rfl, ?_⟩
        rw [inV_strs, if_neg Bool.false_ne_true]
        refine ⟨_, rfl, zB (fun c3 => ?_) (fun c3 => ?_)⟩
        · have h2 : 2 ≤ kinds.length := by
            rw [hl]
            have q : x = "same" ∨ x = "if" := by simpa using of_decide_eq_true c3
            rcases q with rfl | rfl <;> (cases hn; decide)
          rw [c3, Bool.true_and] at k
          walk_at "zz"
          refine ⟨_, _, _, _, _, rfl, .inl rfl, rfl, at_last2 h2, ?_⟩
          walk_at "zz"
          refine ⟨_, _, _, _, _, rfl, .inl rfl, rfl, at_last (by omega), ?_⟩
          walk_at "zz"
          refine ⟨_, _, rfl, _, rfl, zB (fun c4 => ?_) (fun c4 => ?_)⟩
          · rw [c4, if_pos rfl] at k
            walk_at "zz"
            exact k
          · rw [c4, if_neg Bool.false_ne_true] at k
            walk_at "zz"
            refine zD (fun c5 => ?_) (fun c5 => ?_)
            · rw [if_pos c5] at k
              have h2 : 2 ≤ kinds.length := by
                rw [hl]
                subst c5
                cases hn
                decide
              walk_at "zz"
              refine ⟨_, _, _, _, _, rfl, .inl rfl, rfl, at_last2 h2, ?_⟩
              walk_at "zz"
              refine zD (fun c6 => ?_) (fun c6 => ?_)
              · rw [if_pos c6] at k
                walk_at "zz"
                refine ⟨_, _, _, _, _, rfl, .inl rfl, rfl, at_last (by omega), ?_⟩
                walk_at "zz"
                exact k
              · rw [if_neg c6] at k
                walk_at "zz"
                refine ⟨_, _, _, _, _, rfl, .inl rfl, rfl, at_last2 h2, ?_⟩
                walk_at "zz"
                exact k
            · rw [if_neg c5] at k
              walk_at "zz"
              exact k
        · rw [c3, Bool.false_and, if_neg Bool.false_ne_true] at k
          walk_at "zz"
          refine zD (fun c5 => ?_) (fun c5 => ?_)
          · rw [if_pos c5] at k
            have h2 : 2 ≤ kinds.length := by
              rw [hl]
              subst c5
              cases hn
              decide
            walk_at "zz"
            refine ⟨_, _, _, _, _, rfl, .inl rfl, rfl, at_last2 h2, ?_⟩
            walk_at "zz"
            refine zD (fun c6 => ?_) (fun c6 => ?_)
            · rw [if_pos c6] at k
              walk_at "zz"
              refine ⟨_, _, _, _, _, rfl, .inl rfl, rfl, at_last (by omega), ?_⟩
              walk_at "zz"
              exact k
            · rw [if_neg c6] at k
              walk_at "zz"
              refine ⟨_, _, _, _, _, rfl, .inl rfl, rfl, at_last2 h2, ?_⟩
              walk_at "zz"
              exact k
          · rw [if_neg c5] at k
            walk_at "zz"
            exact k
/-- up to the depth n -/
def wKind (n : Nat) : Wz := fun ds Nv _ => ∃ kt d m, ds = [d, tabD false Dt.str kt] ∧ Pv m d ∧ goodV n d = true ∧ Nv (.str (kindV kt n d)) false
theorem tab_olds {t : Bool} {kt : KTb} : (tabD t Dt.str kt).old = tabD false Dt.str kt := by
  have h : ∀ r : KTb, Dt.olds (r.map fun p => Dt.str p.2) = r.map fun p => Dt.str p.2 := fun r => by
    induction r with
    | nil => rfl
    | cons p r ih =>
      rw [List.map_cons, Dt.olds, ih]
      rfl
  simp only [tabD, Dt.old, h]
set_option maxHeartbeats 4000000 in
theorem kind_step (T : Top w K mg) (n : Nat) (ih_kind_of : FnOk P w K mg base CX0 (n + 3) (He.ga K ("kind_of" : Str)) (fdOf K d_kind_of) ["expression", "kinds"] (spZ K (wKind n))) :
    FnOk P w K mg base CX0 (n + 4) (He.ga K ("kind_of" : Str)) (fdOf K d_kind_of) ["expression", "kinds"] (spZ K (wKind (n + 1))) := by
  refine (T.f_kind_of).ok sc_kind_of (fun vs H Q E h => spz_len h (n := 2) fun ds Nv Ne hw => ?_) (fun cdv A outer s H vs Q E hr h => ?_)
  · obtain ⟨_, _, _, rfl, _⟩ := hw
    rfl
  · refine z_fn h (PSs.nox (pss_cons (ps_set (i := 2) sc_kind_of.nd rfl (Or.inl rfl) (pe_ix (ix_tupK (K := K) rfl) (pv 0) pe_int (fun _ _ => rfl)))
    (pss_cons (ps_if (pt_cmpR (op_in_kd (T.tab_NEEDED_KINDS.choose_spec.choose_spec)) (pv 2) (pe_globE rfl T.k_NEEDED_KINDS) (by rfl))
    (pss_one (ps_ret (pe_call (ok_joined_kind (K := K) T) (hr.mono (by omega)) rfl T.g_joined_kind T.f_joined_kind.kp T.b_joined_kind .nil pass0 (pa_cons (pv 2) (pa_cons (pe_lockL (pe_lc (own := [(("part" : Str), 3)]) (g := (gName 3)) (tt := tYes) rfl sc_kind_of.nd (pi_listK (K := K) rfl (pe_call (ok_parts_of (K := K) T) (hr.mono (by omega)) rfl T.g_parts_of T.f_parts_of.kp T.b_parts_of .nil pass0 (pa_cons (pv 0) pa_nil))) (blkOk_by (N := ["expression", "kinds", "word", "part"]) (sc := defScope s_kind_of) (by decide +kernel)) (fun _ _ _ _ _ => (pg_name (i := 3) sc_kind_of.nd rfl (Or.inl rfl))) (fun _ _ _ _ _ => pts_nil) (fun _ _ _ _ _ => (pe_call ih_kind_of (hr.mono (by omega)) rfl T.g_kind_of T.f_kind_of.kp T.b_kind_of .nil pass0 (pa_cons (pv 3) (pa_cons (pv 1) pa_nil)))))) pa_nil)))))
    pss_nil)
    (pss_cons (ps_if (PW.pt (pw_or (pt_cmpR op_eq (pv 2) pe_str (nomark _)) (pw_or1 (PW.pt (pw_and (pt_cmpR op_eq (pv 2) pe_str (nomark _)) (pw_and1 (pt_cmpR op_eq (pe_ix (ix_tupK (K := K) rfl) (pv 0) pe_int (fun _ _ => rfl)) pe_int (nomark _))))))))
    (pss_one (ps_ret (pe_dget2 (hu_of hr) (pv 1) (pe_ix (ix_tupK (K := K) rfl) (pv 0) pe_int (fun _ _ => rfl)) pe_str ⟨rfl, rfl, rfl, rfl⟩)))
    pss_nil)
    (pss_one (ps_ret (pe_call (ok__usual_kind (K := K) T) (hr.mono (by omega)) rfl T.g__usual_kind T.f__usual_kind.kp T.b__usual_kind .nil pass0 (pa_cons (pv 2) pa_nil)))))))) fun ds Nv Ne hw => ?_
    obtain ⟨kt, d, m, rfl, hp, hg, k⟩ := hw
    have hg' : wfD d = true ∧ (partsV d).all (goodV n) = true := by
      have q : (wfD d && (partsV d).all (goodV n)) = true := hg
      exact Bool.and_eq_true_iff.mp q
    obtain ⟨hwf, hall⟩ := hg'
    obtain ⟨x, r, rfl⟩ := wf_shape hwf
    obtain ⟨m, rfl⟩ : ∃ m', m = m' + 1 := by
      cases hp
      exact ⟨_, rfl⟩
    have hpp := hp.parts
    have hx : WordOk x := by
      cases hp with
      | tup _ h _ => exact h x r rfl
    walk_at "zz"
    refine ⟨x, _, rfl, need_tab T hx, _, rfl, zB (fun c => ?_) (fun c => ?_)⟩
    · obtain ⟨ks, hn⟩ := Option.isSome_iff_exists.mp c
      have hr : partsV (.tup (.str x :: r)) = r := if_pos c
      have hl : r.length = ks.length := by
        have q : (match needO x with | some ks => decide (r.length = ks.length) | none => leafD x r) = true := hwf
        rw [hn] at q
        exact of_decide_eq_true q
      have e : kindV kt (n + 1) (.tup (.str x :: r)) = joinS x (r.map (kindV kt n)) ks := by
        show (match needO x with | some ks => joinS x (r.map (kindV kt n)) ks | none => if (decide (x = "pre") || (decide (x = "var") && ord0 r)) = true then nameK kt r else usualS x) = _
        rw [hn]
      rw [e] at k
      rw [hr] at hall hpp
      have hlen : r.length ≤ 100 := by
        cases hp with
        | tup h _ _ => simp only [List.length_cons] at h; omega
      walk_at "zz"
      refine ze_lcM r id (fun p => some (.str (kindV kt n p))) (zi_list ?_)
      walk_at "zz"
      refine ⟨m, .tup (.str x :: r), olds1 hp.old, hp, hwf, ?_⟩
      rw [hr]
      refine ⟨true, r, rfl, (List.map_id r).symm, trivial, rfl, by omega, fun p hpr => ?_, ?_⟩
      · refine zgw_name (by decide) ?_
        walk_at "zz"
        refine ⟨kt, p, m, ?_, hpp p hpr, List.all_eq_true.mp hall p hpr, rfl, rfl⟩
        simp only [Dt.olds, tab_olds, id, (hpp p hpr).old]
      · rw [fm_somes]
        walk_at "zz"
        refine ⟨x, ks, r.map (kindV kt n), false, ?_, hn, by rw [List.length_map]; exact hl, k⟩
        rw [List.map_map]
        have q : ∀ l : List Dt, Dt.olds (l.map fun p => Dt.str (kindV kt n p)) = l.map fun p => Dt.str (kindV kt n p) := fun l => by
          induction l with
          | nil => rfl
          | cons a l ih =>
            rw [List.map_cons, Dt.olds, ih]
            rfl
        simp only [Dt.olds, Dt.old, q]
        rfl
    · have hn : needO x = none := by
        cases q : needO x with
        | none => rfl
        | some ks => rw [q] at c; cases c
      have hlf : leafD x r = true := by
        have q : (match needO x with | some ks => decide (r.length = ks.length) | none => leafD x r) = true := hwf
        rw [hn] at q
        exact q
      have e : kindV kt (n + 1) (.tup (.str x :: r)) = if (decide (x = "pre") || (decide (x = "var") && ord0 r)) = true then nameK kt r else usualS x := by
        show (match needO x with | some ks => joinS x (r.map (kindV kt n)) ks | none => if (decide (x = "pre") || (decide (x = "var") && ord0 r)) = true then nameK kt r else usualS x) = _
        rw [hn]
      rw [e] at k
      walk_at "zz"
      refine zD (fun c1 => ?_) (fun c1 => ?_)
      · rw [if_pos (by rw [decide_eq_true c1]; rfl)] at k
        subst c1
        obtain ⟨y, rfl⟩ : ∃ y, r = [.str y] := by
          match r, hlf with
          | [], h => exact absurd h (by decide)
          | [a], h =>
            have q : nameD a = true := h
            cases a <;> first | (cases q; done) | exact ⟨_, rfl⟩
          | [a, b], h =>
            have q : doubleD "pre" a b = true := h
            unfold doubleD at q
            rw [if_neg (by decide), decide_eq_false (by decide), Bool.false_and] at q
            cases q
          | _ :: _ :: _ :: _, h => cases h
        refine zT rfl ?_
        walk_at "zz"
        refine ⟨_, _, _, rfl, .inl rfl, GetD.tab kt, ?_⟩
        have e2 : ((getG kt y).map Dt.str).getD (.str "either") = .str ((getG kt y).getD "either") := by cases getG kt y <;> rfl
        rw [e2]
        exact k
      · walk_at "zz"
        refine zB (fun c2 => ?_) (fun c2 => ?_)
        · have c2' : x = "var" := of_decide_eq_true c2
          subst c2'
          obtain ⟨y, i, rfl⟩ : ∃ y i, r = [.str y, .int i] := by
            match r, hlf with
            | [], h => exact absurd h (by decide)
            | [a], h =>
              have q : singleD "var" a = true := h
              unfold singleD at q
              rw [if_neg (by decide), if_neg (by decide), decide_eq_false (by decide), Bool.false_and] at q
              cases q
            | [a, b], h =>
              have q : doubleD "var" a b = true := h
              unfold doubleD at q
              rw [if_pos rfl] at q
              obtain ⟨q1, q2⟩ := Bool.and_eq_true_iff.mp q
              cases a <;> first | (cases q1; done) | skip
              cases b <;> first | (cases q2; done) | exact ⟨_, _, rfl⟩
            | _ :: _ :: _ :: _, h => cases h
          have e3 : (decide (("var" : Str) = "pre") || (decide (("var" : Str) = "var") && ord0 [.str y, .int i])) = decide (i = 0) := by
            rw [decide_eq_false (by decide), decide_eq_true rfl]
            rfl
          rw [e3] at k
          walk_at "zz"
          refine zD (fun c3 => ?_) (fun c3 => ?_)
          · rw [if_pos (decide_eq_true c3)] at k
            walk_at "zz"
            refine ⟨_, _, _, rfl, .inl rfl, GetD.tab kt, ?_⟩
            have e2 : ((getG kt y).map Dt.str).getD (.str "either") = .str ((getG kt y).getD "either") := by cases getG kt y <;> rfl
            rw [e2]
            exact k
          · rw [if_neg (by rw [decide_eq_false c3]; exact Bool.false_ne_true)] at k
            walk_at "zz"
            exact k
        · rw [decide_eq_false c1, c2, Bool.false_and, Bool.false_or, if_neg Bool.false_ne_true] at k
          walk_at "zz"
          exact k
theorem ok_kind_of (T : Top w K mg) : ∀ n : Nat, FnOk P w K mg base CX0 (n + 3) (He.ga K ("kind_of" : Str)) (fdOf K d_kind_of) ["expression", "kinds"] (spZ K (wKind n))
  | 0 => ⟨fun _ _ _ _ ⟨_, _, _, _, _, _, ⟨_, _, _, _, _, h, _⟩, _⟩ => (nomatch h), fun _ _ _ _ _ _ _ _ _ _ _ _ _ ⟨_, _, _, _, _, _, ⟨_, _, _, _, _, h, _⟩, _⟩ => (nomatch h)⟩
  | n + 1 => kind_step T n (ok_kind_of T n)
end
local macro_rules | `(tactic| walk_at "z1") => `(tactic| first | ((with_reducible apply ze_maxDef); exact rfl))
/-! ### is_expression, size, depth -/
def sizeV : Nat → Dt → Nat
  | 0, _ => 1
  | n + 1, d => 1 + ((partsV d).map (sizeV n)).sum
def depthV : Nat → Dt → Int
  | 0, _ => 1
  | n + 1, d => 1 + maxL 0 ((partsV d).map (depthV n))
def isE0 (d : Dt) : Bool := goodV 30 d && decide (sizeV 30 d ≤ 200)
def isEV (d : Dt) : Bool := isE0 d && !decide (kindV [] 30 d = "")
abbrev StV : Type := List (Dt × Nat)
def stD (st : StV) : List Dt := st.map fun p => .tup [p.1, .int (p.2 : Int)]
def goodSt (st : StV) : Bool := st.all fun p => goodV (31 - p.2) p.1
def sumSt (st : StV) : Nat := (st.map fun p => sizeV (31 - p.2) p.1).sum
def ansSt (k : Nat) (st : StV) : Bool := goodSt st && decide (k + sumSt st ≤ 200)
theorem stD_snoc {st : StV} {d : Dt} {l : Nat} : stD (st ++ [(d, l)]) = stD st ++ [.tup [d, .int (l : Int)]] := by
  unfold stD
  rw [List.map_append, List.map_singleton]
theorem sizeV_pos : ∀ (n : Nat) (d : Dt), 1 ≤ sizeV n d
  | 0, _ => Nat.le_refl 1
  | _ + 1, _ => Nat.le_add_right 1 _
theorem goodSt_snoc {st : StV} {p : Dt × Nat} : goodSt (st ++ [p]) = (goodSt st && goodV (31 - p.2) p.1) := by
  unfold goodSt
  rw [List.all_append, List.all_cons, List.all_nil, Bool.and_true]
theorem sumSt_app {st su : StV} : sumSt (st ++ su) = sumSt st + sumSt su := by
  unfold sumSt
  rw [List.map_append, List.sum_append]
theorem sumSt_one {p : Dt × Nat} : sumSt [p] = sizeV (31 - p.2) p.1 := by simp [sumSt]
theorem ans_far {k l : Nat} {st : StV} {d : Dt} (h : 30 < l) : ansSt k (st ++ [(d, l)]) = false := by
  unfold ansSt
  rw [goodSt_snoc, show 31 - (d, l).2 = 0 from by show 31 - l = 0; omega]
  simp [goodV]
theorem ans_many {st : StV} {p : Dt × Nat} : ansSt 200 (st ++ [p]) = false := by
  unfold ansSt
  rw [sumSt_app, sumSt_one, decide_eq_false (by have := sizeV_pos (31 - p.2) p.1; omega), Bool.and_false]
theorem ans_bad {k l : Nat} {st : StV} {d : Dt} (h : wfD d = false) : ansSt k (st ++ [(d, l)]) = false := by
  unfold ansSt
  have e : goodV (31 - l) d = false := by
    cases 31 - l with
    | zero => rfl
    | succ n =>
      show (wfD d && _) = false
      rw [h, Bool.false_and]
  rw [goodSt_snoc, show goodV (31 - (d, l).2) (d, l).1 = false from e, Bool.and_false, Bool.false_and]
theorem ans_step {k l : Nat} {st : StV} {d : Dt} (h : wfD d = true) (hl : l ≤ 30) : ansSt (k + 1) (st ++ (partsV d).map fun e => (e, l + 1)) = ansSt k (st ++ [(d, l)]) := by
  obtain ⟨n, hn⟩ : ∃ n, 31 - l = n + 1 := ⟨30 - l, by omega⟩
  have hn' : 31 - (l + 1) = n := by omega
  unfold ansSt
  rw [goodSt_snoc, sumSt_app, sumSt_app, sumSt_one]
  have e1 : goodSt (st ++ (partsV d).map fun e => (e, l + 1)) = (goodSt st && goodV (31 - l) d) := by
    unfold goodSt
    rw [List.all_append, List.all_map, hn]
    congr 1
    show _ = (wfD d && (partsV d).all (goodV n))
    rw [h, Bool.true_and, ← hn']
    rfl
  have e2 : sumSt ((partsV d).map fun e => (e, l + 1)) = ((partsV d).map (sizeV n)).sum := by
    unfold sumSt
    rw [List.map_map, ← hn']
    rfl
  have e3 : sizeV (31 - (d, l).2) (d, l).1 = 1 + ((partsV d).map (sizeV n)).sum := by
    show sizeV (31 - l) d = _
    rw [hn]
    rfl
  rw [e1, e2, e3]
  congr 1
  exact decide_eq_decide.mpr (by omega)
section
variable {P : Program} {w : World} {K : PySem.W.Frag} {mg : Str → Option Value} {base : Heap}
def wIsE : Wz := fun ds Nv _ => ∃ m d, ds = [d] ∧ Pv m d ∧ Nv (.bl (isEV d)) false
set_option maxHeartbeats 4000000 in
theorem ok_is_expression (T : Top w K mg) : FnOk P w K mg base CX0 36 (He.ga K ("is_expression" : Str)) (fdOf K d_is_expression) ["value"] (spZ K wIsE) := by
  have ih_kind_of := ok_kind_of (P := P) (w := w) (base := base) T 30
  refine (T.f_is_expression).ok sc_is_expression (fun vs H Q E h => spz_len h (n := 1) fun ds Nv Ne hw => ?_) (fun cdv A outer s H vs Q E hr h => ?_)
  · obtain ⟨_, _, rfl, _⟩ := hw
    rfl
  · refine z_fn h (PSs.nox (pss_cons (ps_set (i := 1) sc_is_expression.nd rfl (Or.inl rfl) (pe_lst (pa_cons (pe_tup (pa_cons (pv 0) (pa_cons pe_int pa_nil))) pa_nil)))
    (pss_cons (ps_set (i := 2) sc_is_expression.nd rfl (Or.inl rfl) pe_int)
    (pss_cons (ps_while PassesOwn.never (pt_truth (pv 1) (by intro _; rfl))
    (pss_cons (ps_asg (pe_bm0 PySem.F.plainAttrs_list PySem.F.slot_list_pop PySem.F.type_list_pop mt_pop (pv 1)) (pg_tup (by rfl) (pgs_cons (pg_name (i := 3) sc_is_expression.nd rfl (Or.inl rfl)) (pgs_cons (pg_name (i := 4) sc_is_expression.nd rfl (Or.inr rfl)) pgs_nil))))
    (pss_cons (ps_aug (i := 2) sc_is_expression.nd rfl (Or.inl rfl) pe_int ip_add)
    (pss_cons (ps_if (PW.pt (pw_or (pt_cmpR op_gt (pv 2) (pe_globE rfl T.i_MOST_SIZE) (nomark _)) (pw_or (pt_cmpR op_gt (pv 4) (pe_globE rfl T.i_MOST_DEPTH) (nomark _)) (pw_or1 (pt_not (pt_val (pe_call (ok_is_well_formed (K := K) T) (hr.mono (by omega)) rfl T.g_is_well_formed T.f_is_well_formed.kp T.b_is_well_formed .nil pass0 (pa_cons (pv 3) pa_nil))))))))
    (pss_one (ps_ret pe_bl))
    pss_nil)
    (pss_one (ps_expr (pe_bm PySem.F.plainAttrs_list PySem.F.slot_list_extend PySem.F.type_list_extend mt_extend (pv 1) (pa_cons (pe_lockL (pe_lc (own := [(("inner" : Str), 5)]) (g := (gName 5)) (tt := tYes) rfl sc_is_expression.nd (pi_listK (K := K) rfl (pe_call (ok_parts_of (K := K) T) (hr.mono (by omega)) rfl T.g_parts_of T.f_parts_of.kp T.b_parts_of .nil pass0 (pa_cons (pv 3) pa_nil))) (blkOk_by (N := ["value", "waiting", "seen", "part", "level", "inner"]) (sc := defScope s_is_expression) (by decide +kernel)) (fun _ _ _ _ _ => (pg_name (i := 5) sc_is_expression.nd rfl (Or.inl rfl))) (fun _ _ _ _ _ => pts_nil) (fun _ _ _ _ _ => (pe_tup (pa_cons (pv 5) (pa_cons (pe_op op_add (pv 4) pe_int) pa_nil)))))) pa_nil))))))))
    (pss_one (ps_ret (pe_cmpR op_ne (pe_call ih_kind_of (hr.mono (by omega)) rfl T.g_kind_of T.f_kind_of.kp T.b_kind_of .nil pass0 (pa_cons (pv 0) (pa_cons pe_dnewK pa_nil))) pe_str (nomark _)))))))) fun ds Nv Ne hw => ?_
    obtain ⟨m, d, rfl, hd, k⟩ := hw
    walk_at "zz"
    refine zs_while (fun n ρ => ∃ (j : Nat) (st : StV) (s3 s4 : Sl), n = 201 - j ∧ j ≤ 200 ∧ ρ = [.v d, .o (.lst true (stD st)), .v (.int (j : Int)), s3, s4, .un] ∧ ansSt j st = isE0 d ∧ (∀ p ∈ st, (∃ m, Pv m p.1) ∧ p.2 ≤ 31) ∧ st.length ≤ 1 + 100 * j) ?_ ?_
    · refine ⟨_, 0, [(d, 1)], .un, .un, rfl, by omega, rfl, ?_, fun p hp => ?_, Nat.le_refl _⟩
      · show (goodSt ([] ++ [(d, 1)]) && decide (0 + sumSt [(d, 1)] ≤ 200)) = _
        rw [goodSt_snoc, sumSt_one, Nat.zero_add]
        rfl
      · rw [List.mem_singleton.mp hp]
        exact ⟨⟨m, hd⟩, (show 1 ≤ 31 by decide)⟩
    · rintro n ρ1 ⟨j, st, s3, s4, rfl, hj, rfl, ha, hst, hlen⟩
      refine zt_truv (i := 1) rfl (Or.inr (Or.inl rfl)) ?_
      have kf : isE0 d = false → Nv (.bl false) false := fun h => by
        unfold isEV at k
        rw [h, Bool.false_and] at k
        exact k
      cases hes : st.reverse with
      | nil =>
        have : st = [] := List.reverse_eq_nil_iff.mp hes
        subst this
        refine zF (by simp [stD]) ?_
        have hA : isE0 d = true := by
          rw [← ha]
          show (true && decide (j + 0 ≤ 200)) = true
          rw [decide_eq_true (by omega)]
          rfl
        unfold isEV at k
        rw [hA, Bool.true_and] at k
        have hg : goodV 30 d = true := (Bool.and_eq_true_iff.mp hA).1
        walk_at "zz"
        refine ⟨[], d, m, by simp only [Dt.olds, Dt.old, hd.old]; rfl, hd, hg, ?_⟩
        walk_at "zz"
        exact k
      | cons f r =>
        have : st = r.reverse ++ [f] := by rw [← List.reverse_reverse st, hes, List.reverse_cons]
        subst this
        obtain ⟨e, l⟩ := f
        obtain ⟨⟨me, hpe⟩, hle⟩ := hst (e, l) (by simp)
        have hle' : l ≤ 31 := hle
        rw [List.length_append, List.length_singleton] at hlen
        refine zT (by simp [stD]) ?_
        rw [stD_snoc]
        walk_at "zz"
        · rfl
        walk_at "zz"
        refine zD (fun c1 => ?_) (fun c1 => ?_)
        · have e1 : j = 200 := by omega
          walk_at "zz"
          rw [e1, ans_many] at ha
          exact kf ha.symm
        walk_at "zz"
        refine zD (fun c2 => ?_) (fun c2 => ?_)
        · walk_at "zz"
          rw [ans_far (by omega)] at ha
          exact kf ha.symm
        walk_at "zz"
        refine ⟨me, e, olds1 hpe.old, hpe, _, rfl, zB (fun c3 => ?_) (fun c3 => ?_)⟩
        · walk_at "zz"
          rw [ans_bad (by simpa using c3)] at ha
          exact kf ha.symm
        have hwf : wfD e = true := by simpa using c3
        have hl30 : l ≤ 30 := by omega
        obtain ⟨x, q, rfl⟩ := wf_shape hwf
        obtain ⟨me, rfl⟩ : ∃ m', me = m' + 1 := by
          cases hpe
          exact ⟨_, rfl⟩
        have hfew : (partsV (.tup (.str x :: q))).length ≤ 100 := by
          cases hpe with
          | tup hh _ _ =>
            simp only [List.length_cons] at hh
            simp only [partsV]
            split
            · omega
            · exact Nat.zero_le _
        walk_at "zz"
        refine ze_lcM (partsV (.tup (.str x :: q))) id (fun p => some (.tup [p, .int ((l : Int) + 1)])) (zi_list ?_)
        walk_at "zz"
        refine ⟨me, .tup (.str x :: q), olds1 hpe.old, hpe, hwf, true, _, rfl, (List.map_id _).symm, trivial, rfl, by omega, fun p hp => ?_, ?_⟩
        · refine zgw_name (by decide) ?_
          walk_at "zz"
          exact ⟨rfl, rfl⟩
        · rw [fm_somes]
          have hsl : (stD r.reverse).length = r.reverse.length := by unfold stD; rw [List.length_map]
          refine ⟨stD r.reverse, true, _, rfl, rfl, by rw [List.length_map, hsl]; omega, 201 - (j + 1), by omega, j + 1, r.reverse ++ (partsV (.tup (.str x :: q))).map fun p => (p, l + 1), .v (.tup (.str x :: q)), .v (.int (l : Int)), rfl, by omega, ?_, ?_, ?_, ?_⟩
          · have e1 : stD (r.reverse ++ (partsV (.tup (.str x :: q))).map fun p => (p, l + 1)) = stD r.reverse ++ (partsV (.tup (.str x :: q))).map fun p => .tup [p, .int ((l : Int) + 1)] := by
              unfold stD
              rw [List.map_append, List.map_map]
              rfl
            rw [e1]
            rfl
          · rw [ans_step hwf hl30]
            exact ha
          · intro p hp
            rcases List.mem_append.mp hp with hp | hp
            · exact hst p (List.mem_append_left _ hp)
            · obtain ⟨y, hy, rfl⟩ := List.mem_map.mp hp
              exact ⟨⟨me, hpe.parts y hy⟩, (show l + 1 ≤ 31 by omega)⟩
          · rw [List.length_append, List.length_map]
            omega
def wSizeV (n : Nat) : Wz := fun ds Nv _ => ∃ m d, ds = [d] ∧ Pv m d ∧ goodV n d = true ∧ Nv (.int (sizeV n d : Nat)) false
def wDepthV (n : Nat) : Wz := fun ds Nv _ => ∃ m d, ds = [d] ∧ Pv m d ∧ goodV n d = true ∧ Nv (.int (depthV n d)) false
theorem good_split {n m : Nat} {d : Dt} (hp : Pv m d) (h : goodV (n + 1) d = true) : wfD d = true ∧ (∀ e ∈ partsV d, goodV n e = true) ∧ ∃ m', m = m' + 1 ∧ ∀ e ∈ partsV d, Pv m' e := by
  have q : (wfD d && (partsV d).all (goodV n)) = true := h
  obtain ⟨h1, h2⟩ := Bool.and_eq_true_iff.mp q
  refine ⟨h1, fun e he => List.all_eq_true.mp h2 e he, ?_⟩
  obtain ⟨x, r, rfl⟩ := wf_shape h1
  obtain ⟨m', rfl⟩ : ∃ m', m = m' + 1 := by
    cases hp
    exact ⟨_, rfl⟩
  exact ⟨m', rfl, hp.parts⟩
theorem few_parts {m : Nat} {d : Dt} (hp : Pv m d) : (partsV d).length ≤ 100 := by
  cases hp with
  | tup hh _ _ =>
    rename_i ds _ _
    cases ds with
    | nil => exact Nat.zero_le _
    | cons a r =>
      simp only [List.length_cons] at hh
      cases a <;> first
        | exact Nat.zero_le _
        | (simp only [partsV]
           split
           · omega
           · exact Nat.zero_le _)
  | _ => exact Nat.zero_le _
theorem sum_cast : ∀ xs : List Nat, ((xs.map fun (n : Nat) => (n : Int)).sum) = ((xs.sum : Nat) : Int)
  | [] => rfl
  | x :: xs => by rw [List.map_cons, List.sum_cons, List.sum_cons, sum_cast xs]; omega
end
/-! ### texts and lists repeated, range with a step -/
section
variable {z : Cz} {ρ : List Sl} {N : Dt → Bool → List Sl → Prop} {ta tb te : TE} {t : TA} {i : Nat} {I : List Dt → List Sl → (List Sl → Prop) → (List Sl → List Sl) → Prop}
theorem ze_mulStr (h : ZE z ta ρ fun x _ ρ1 => ZE z tb ρ1 fun y _ ρ2 => ∃ s n, x = .str s ∧ y = .int n ∧ PySem.MulOk s n ∧ N (.str (PySem.Txt.mul s n)) false ρ2) : ZE z (tOp (fun x y H Q => ∃ z n, x = .str z ∧ y = .int n ∧ PySem.MulOk z n ∧ Q (.str (PySem.Txt.mul z n)) H) ta tb) ρ N :=
  ze_op2w (W := fun x y N ρ2 => ∃ s n, x = .str s ∧ y = .int n ∧ PySem.MulOk s n ∧ N (.str (PySem.Txt.mul s n)) false ρ2) (fun x y ρ2 N n2 m F H σ Q vx vy S r1 r2 k => by
    obtain ⟨s, n, rfl, rfl, hm, n⟩ := n2
    exact ⟨s, _, rz_s r1, rz_i r2, hm, k _ _ _ _ _ _ n (Same.refl F) S (rzF_f rzs)⟩) h
theorem rzl_rep {K : PySem.W.Frag} {B F : Hp} {ds : List Dt} {xs : List V} (r : Rzl K B F ds xs) : ∀ n : Nat, Rzl K B F (List.replicate n ds).flatten (List.replicate n xs).flatten
  | 0 => .nil
  | n + 1 => by
    rw [List.replicate_succ, List.replicate_succ, List.flatten_cons, List.flatten_cons]
    exact r.app (rzl_rep r n)
theorem ze_rep (h : ZE z ta ρ fun x _ ρ1 => ZE z tb ρ1 fun y _ ρ2 => ∃ u ds k, x = .lst u ds ∧ y = .int k ∧ 0 ≤ k ∧ k ≤ 1000 ∧ ds.length * k.toNat ≤ 100000 ∧ N (.lst true (List.replicate k.toNat ds).flatten) true ρ2) : ZE z (tOp rRep ta tb) ρ N :=
  ze_op2w (W := fun x y N ρ2 => ∃ u ds k, x = .lst u ds ∧ y = .int k ∧ 0 ≤ k ∧ k ≤ 1000 ∧ ds.length * k.toNat ≤ 100000 ∧ N (.lst true (List.replicate k.toNat ds).flatten) true ρ2) (fun x y ρ2 N n2 m F H σ Q vx vy S r1 r2 k => by
    obtain ⟨u, ds, j, rfl, rfl, h0, h1, hl, n⟩ := n2
    simp only [Rz] at r1
    obtain ⟨a, xs, rfl, e, _, r1⟩ := r1
    obtain rfl := rz_i r2
    exact ⟨a, j, xs, rfl, rfl, S.le.exact e rfl, by omega, by omega, Nat.le_trans (by rw [r1.len]; exact hl) (by rw [sizeLine_eq]; decide), fun p hp => k _ _ _ _ _ _ n (Same.refl F) (S.newO hp) (rzF_new S hp (.lst (rzl_rep r1 _)))⟩) h
theorem rgc2 {L : Nat} (h : 1 ≤ L) (hL : L ≤ 1000) : RgC 0 ((L : Int) - 1) 2 (L / 2) := by
  have e : Builtin.Range.rangeSize 0 ((L : Int) - 1) 2 = ((L / 2 : Nat) : Int) := by
    unfold Builtin.Range.rangeSize
    rw [if_pos (by decide)]
    split
    · omega
    · omega
  refine ⟨by decide, by decide, ?_, e⟩
  unfold Builtin.Range.small
  rw [e, if_pos (by decide)]
  have f : ∀ j : Int, -2000 ≤ j → j ≤ 2000 → Builtin.Range.rangeFitsLong j = true := fun j h1 h2 => by
    unfold Builtin.Range.rangeFitsLong
    simp only [Bool.and_eq_true, decide_eq_true_eq]
    exact ⟨by omega, by omega⟩
  rw [f _ (by omega) (by omega), f _ (by omega) (by omega), f _ (by omega) (by omega), f _ (by omega) (by omega), f _ (by omega) (by omega)]
  simp
theorem zi_range3 (h : ZA z t ρ fun ds ρ1 => ∃ (i j c : Int) (n : Nat), ds = [.int i, .int j, .int c] ∧ RgC i j c n ∧ I ((List.range n).map fun (k : Nat) => Dt.int (i + (k : Int) * c)) ρ1 bT bI) : ZI z (iRng3 t) ρ I := fun m F H σ R S k => by
  refine h m F H σ _ S fun ds ρ1 F1 H1 vs n1 s1 S1 r1 => ?_
  obtain ⟨a, b, c, n, rfl, hr, nn⟩ := n1
  obtain ⟨v, r, rfl, rv, rr⟩ := r1.inv
  obtain ⟨v2, r, rfl, rv2, rr⟩ := rr.inv
  obtain ⟨v3, r, rfl, rv3, rr⟩ := rr.inv
  obtain rfl := rr.inv0
  obtain rfl := rz_i rv
  obtain rfl := rz_i rv2
  obtain rfl := rz_i rv3
  refine ⟨a, b, c, n, rfl, hr, k _ _ _ _ _ _ _ _ _ nn s1 .id S1 ⟨n, _, _, walk_rangeC, by simp, fun _ _ _ _ _ => trivial, fun m2 i d F' H' H'' x σ ρ eb e f S y => ?_⟩⟩
  obtain ⟨rfl, rfl⟩ := y
  rw [List.getElem?_map] at e
  cases q : (List.range n)[i]? with
  | none => rw [q] at e; cases e
  | some k =>
    rw [q] at e
    cases e
    have e2 : k = i := by
      rw [List.getElem?_range] at q
      · exact (Option.some.inj q).symm
      · exact (List.getElem?_eq_some_iff.mp q).1 |> fun h => by simpa using h
    subst e2
    exact ⟨F', Same.refl F', S, rzi⟩
end
/-! ### methods of texts, f-strings, slices of texts, int of a text -/
section
variable {z : Cz} {ρ : List Sl} {N : Dt → Bool → List Sl → Prop} {ta tb te to : TE} {t : TA} {i : Nat} {K' : PySem.W.Frag}
theorem sL {n : Nat} (h : n ≤ 100000) : n ≤ sizeLine := by rw [sizeLine_eq]; omega
theorem ze_bm {r : V → List V → Hp → VK → Prop} {W : Str → List Dt → (Dt → Bool → List Sl → Prop) → List Sl → Prop}
    (w : ∀ a ds ρ2 N, W a ds N ρ2 → ∀ m F H σ Q vs, Sm z m F H σ ρ2 → Rzl z.K m.B F ds vs → (∀ d fr ρ' F' H' v, N d fr ρ' → Same F F' → Sm z m F' H' σ ρ' → RzF z m F' H' σ ρ' fr d v → Q v H') → r (.str a) vs H Q)
    (h : ZE z to ρ fun x _ ρ1 => ∃ a, x = .str a ∧ ZA z t ρ1 fun ds ρ2 => W a ds N ρ2) : ZE z (tBM K' "str" r to t) ρ N := fun m F H σ Q S k => by
  refine h m F H σ _ S fun x fx ρ1 F1 H1 vx n1 s1 S1 r1 => ?_
  obtain ⟨F2, s2, S2, rx⟩ := rzF_frz S1 r1
  obtain ⟨a, rfl, n1⟩ := n1
  obtain rfl := rz_s rx
  refine ⟨rfl, ?_⟩
  exact n1 m F2 H1 σ _ S2 fun ds ρ2 F3 H3 vs n2 s3 S3 r3 => w a ds ρ2 N n2 m F3 H3 σ Q vs S3 r3 fun d fr ρ' F' H' v n sf => k d fr ρ' F' H' v n (((s1.trans s2).trans s3).trans sf)
theorem ze_bm0 {r : V → List V → Hp → VK → Prop} {W : Str → (Dt → Bool → List Sl → Prop) → List Sl → Prop}
    (w : ∀ a ρ2 N, W a N ρ2 → ∀ m F H σ Q, Sm z m F H σ ρ2 → (∀ d fr ρ' F' H' v, N d fr ρ' → Same F F' → Sm z m F' H' σ ρ' → RzF z m F' H' σ ρ' fr d v → Q v H') → r (.str a) [] H Q)
    (h : ZE z to ρ fun x _ ρ1 => ∃ a, x = .str a ∧ W a N ρ1) : ZE z (tBM0 K' "str" r to) ρ N := fun m F H σ Q S k => by
  refine h m F H σ _ S fun x fx ρ1 F1 H1 vx n1 s1 S1 r1 => ?_
  obtain ⟨F2, s2, S2, rx⟩ := rzF_frz S1 r1
  obtain ⟨a, rfl, n1⟩ := n1
  obtain rfl := rz_s rx
  refine ⟨rfl, ?_⟩
  exact w a ρ1 N n1 m F2 H1 σ Q S2 fun d fr ρ' F' H' v n sf => k d fr ρ' F' H' v n ((s1.trans s2).trans sf)
theorem ze_startswith (h : ZE z to ρ fun x _ ρ1 => ∃ a, x = .str a ∧ ZA z t ρ1 fun ds ρ2 => ∃ b, ds = [.str b] ∧ N (.bl (Txt.startswith a b)) false ρ2) : ZE z (tBM K' "str" (fun x xs H Q => ∃ a b, x = .str a ∧ xs = [.str b] ∧ Q (.bl (Txt.startswith a b)) H) to t) ρ N :=
  ze_bm (W := fun a ds N ρ2 => ∃ b, ds = [.str b] ∧ N (.bl (Txt.startswith a b)) false ρ2) (fun a ds ρ2 N n m F H σ Q vs S r k => by
    obtain ⟨b, rfl, n⟩ := n
    obtain ⟨v, r', rfl, rv, rr⟩ := r.inv
    obtain rfl := rr.inv0
    exact ⟨a, b, rfl, by rw [rz_s rv], k _ _ _ _ _ _ n (Same.refl F) S (rzF_f rzb)⟩) h
theorem ze_txt1 {g : Str → Str → Str} (h : ZE z to ρ fun x _ ρ1 => ∃ a, x = .str a ∧ ZA z t ρ1 fun ds ρ2 => ∃ b, ds = [.str b] ∧ a.length ≤ 100000 ∧ N (.str (g a b)) false ρ2) : ZE z (tBM K' "str" (fun x xs H Q => ∃ a b, x = .str a ∧ xs = [.str b] ∧ a.length ≤ sizeLine ∧ Q (.str (g a b)) H) to t) ρ N :=
  ze_bm (W := fun a ds N ρ2 => ∃ b, ds = [.str b] ∧ a.length ≤ 100000 ∧ N (.str (g a b)) false ρ2) (fun a ds ρ2 N n m F H σ Q vs S r k => by
    obtain ⟨b, rfl, hl, n⟩ := n
    obtain ⟨v, r', rfl, rv, rr⟩ := r.inv
    obtain rfl := rr.inv0
    exact ⟨a, b, rfl, by rw [rz_s rv], sL hl, k _ _ _ _ _ _ n (Same.refl F) S (rzF_f rzs)⟩) h
theorem ze_txt0B {g : Str → Bool} (h : ZE z to ρ fun x _ ρ1 => ∃ a, x = .str a ∧ N (.bl (g a)) false ρ1) : ZE z (tBM0 K' "str" (fun x xs H Q => ∃ a, x = .str a ∧ xs = [] ∧ True ∧ Q (.bl (g a)) H) to) ρ N :=
  ze_bm0 (W := fun a N ρ2 => N (.bl (g a)) false ρ2) (fun a ρ2 N n m F H σ Q S k => ⟨a, rfl, rfl, trivial, k _ _ _ _ _ _ n (Same.refl F) S (rzF_f rzb)⟩) h
theorem ze_partition (h : ZE z to ρ fun x _ ρ1 => ∃ a, x = .str a ∧ ZA z t ρ1 fun ds ρ2 => ∃ b, ds = [.str b] ∧ (b.length == 0) = false ∧ a.length ≤ 100000 ∧ N (.tup [.str (Txt.partition a b).1, .str (Txt.partition a b).2.1, .str (Txt.partition a b).2.2]) false ρ2) :
    ZE z (tBM K' "str" (fun x xs H Q => ∃ a b, x = .str a ∧ xs = [.str b] ∧ (b.length == 0) = false ∧ a.length ≤ sizeLine ∧ ∀ p, H p = none → Q (.ref p) (upd H p (.tup [.str (Txt.partition a b).1, .str (Txt.partition a b).2.1, .str (Txt.partition a b).2.2]))) to t) ρ N :=
  ze_bm (W := fun a ds N ρ2 => ∃ b, ds = [.str b] ∧ (b.length == 0) = false ∧ a.length ≤ 100000 ∧ N (.tup [.str (Txt.partition a b).1, .str (Txt.partition a b).2.1, .str (Txt.partition a b).2.2]) false ρ2) (fun a ds ρ2 N n m F H σ Q vs S r k => by
    obtain ⟨b, rfl, hb, hl, n⟩ := n
    obtain ⟨v, r', rfl, rv, rr⟩ := r.inv
    obtain rfl := rr.inv0
    refine ⟨a, b, rfl, by rw [rz_s rv], hb, sL hl, fun p hp => ?_⟩
    obtain ⟨s2, S2⟩ := S.new (o := .tup [.str (Txt.partition a b).1, .str (Txt.partition a b).2.1, .str (Txt.partition a b).2.2]) hp
    exact k _ _ _ _ _ _ n s2 S2 (show Rz z.K m.B _ (.tup _) _ by simp only [Rz]; exact ⟨p, _, rfl, upd_same, .cons rzs (.cons rzs (.cons rzs .nil))⟩)) h
theorem rzl_txts {K : PySem.W.Frag} {B F : Hp} : ∀ {xs : List Str}, Rzl K B F (xs.map Dt.str) (xs.map V.str)
  | [] => .nil
  | _ :: _ => .cons rzs rzl_txts
theorem rzl_txtsI {K : PySem.W.Frag} {B F : Hp} : ∀ {xs : List Str} {vs : List V}, Rzl K B F (xs.map Dt.str) vs → vs = xs.map V.str
  | [], vs, r => r.inv0
  | x :: xs, vs, r => by
    obtain ⟨v, r', rfl, rv, rr⟩ := r.inv
    rw [rz_s rv, rzl_txtsI rr, List.map_cons]
theorem ze_split (h : ZE z to ρ fun x _ ρ1 => ∃ a, x = .str a ∧ ZA z t ρ1 fun ds ρ2 => ∃ b, ds = [.str b] ∧ (b.length == 0) = false ∧ a.length ≤ 99000 ∧ N (.lst true ((Txt.split a b).map Dt.str)) true ρ2) :
    ZE z (tBM K' "str" (fun x xs H Q => ∃ a b, x = .str a ∧ xs = [.str b] ∧ (b.length == 0) = false ∧ a.length + 2 ≤ sizeLine ∧ rNewStrs (Txt.split a b) H Q) to t) ρ N :=
  ze_bm (W := fun a ds N ρ2 => ∃ b, ds = [.str b] ∧ (b.length == 0) = false ∧ a.length ≤ 99000 ∧ N (.lst true ((Txt.split a b).map Dt.str)) true ρ2) (fun a ds ρ2 N n m F H σ Q vs S r k => by
    obtain ⟨b, rfl, hb, hl, n⟩ := n
    obtain ⟨v, r', rfl, rv, rr⟩ := r.inv
    obtain rfl := rr.inv0
    exact ⟨a, b, rfl, by rw [rz_s rv], hb, sL (by omega), fun p hp => k _ _ _ _ _ _ n (Same.refl F) (S.newO hp) (rzF_new S hp (.lst rzl_txts))⟩) h
theorem ze_join {K2 : PySem.W.Frag} (hK : K2 = z.K) (h : ZE z to ρ fun x _ ρ1 => ∃ a, x = .str a ∧ ZA z t ρ1 fun ds ρ2 => ∃ (xs : List Str), ((∃ u, ds = [.lst u (xs.map Dt.str)]) ∨ ds = [.tup (xs.map Dt.str)]) ∧ (xs.map (·.length)).sum + xs.length * a.length ≤ 100000 ∧ N (.str (Txt.join a xs)) false ρ2) :
    ZE z (tBM K' "str" (fun x xs H Q => ∃ a p, ∃ ys : List Str, x = .str a ∧ xs = [.ref p] ∧ (SqL K2 H p (ys.map V.str) ∨ SqT K2 H p (ys.map V.str)) ∧ (ys.map (·.length)).sum + ys.length * a.length ≤ 16777216 ∧ Q (.str (Txt.join a ys)) H) to t) ρ N :=
  ze_bm (W := fun a ds N ρ2 => ∃ (xs : List Str), ((∃ u, ds = [.lst u (xs.map Dt.str)]) ∨ ds = [.tup (xs.map Dt.str)]) ∧ (xs.map (·.length)).sum + xs.length * a.length ≤ 100000 ∧ N (.str (Txt.join a xs)) false ρ2) (fun a ds ρ2 N n m F H σ Q vs S r k => by
    subst hK
    obtain ⟨xs, hd, hl, n⟩ := n
    rcases hd with ⟨u, rfl⟩ | rfl
    · obtain ⟨v, r', rfl, rv, rr⟩ := r.inv
      obtain rfl := rr.inv0
      simp only [Rz] at rv
      obtain ⟨p, ys, rfl, e, _, r2⟩ := rv
      obtain rfl := rzl_txtsI r2
      exact ⟨a, p, xs, rfl, rfl, .inl (SqL.of (S.le.exact e rfl)), by omega, k _ _ _ _ _ _ n (Same.refl F) S (rzF_f rzs)⟩
    · obtain ⟨v, r', rfl, rv, rr⟩ := r.inv
      obtain rfl := rr.inv0
      simp only [Rz] at rv
      obtain ⟨p, ys, rfl, e, r2⟩ := rv
      obtain rfl := rzl_txtsI r2
      exact ⟨a, p, xs, rfl, rfl, .inr (SqT.of (S.le.exact e rfl)), by omega, k _ _ _ _ _ _ n (Same.refl F) S (rzF_f rzs)⟩) h
theorem ze_slS {tl th : TO} (h : ZE z te ρ fun x _ ρ1 => ZO z tl ρ1 fun lo ρ2 => ZO z th ρ2 fun hi ρ3 => ∃ a, x = .str a ∧ a.length ≤ 100000 ∧ N (.str (cutS a lo hi)) false ρ3) : ZE z (tSl rSlS te tl th) ρ N := fun m F H σ Q S k => by
  refine h m F H σ _ S fun x fx ρ1 F1 H1 vx n1 s1 S1 r1 => ?_
  obtain ⟨F2, s2, S2, rx⟩ := rzF_frz S1 r1
  refine n1 m F2 H1 σ _ S2 fun lo ρ2 F3 H3 n2 s3 S3 => n2 m F3 H3 σ _ S3 fun hi ρ3 F4 H4 n3 s4 S4 => ?_
  obtain ⟨a, rfl, hl, n⟩ := n3
  obtain rfl := rz_s rx
  exact ⟨a, rfl, sL hl, k _ _ _ _ _ _ n ((s1.trans s2).trans (s3.trans s4)) S4 (rzF_f rzs)⟩
theorem ze_intTxt (h : ZE z ta ρ fun x _ ρ1 => ∃ a n, x = .str a ∧ PySem.intText? a = some n ∧ a.length ≤ 640 ∧ N (.int n) false ρ1) : ZE z (tCB (fun xs H Q => ∃ a n, xs = [.str a] ∧ PySem.intText? a = some n ∧ a.length ≤ 640 ∧ Q (.int n) H) (tCons ta tNil)) ρ N :=
  ze_CB1 (W := fun x N ρ1 => ∃ a n, x = .str a ∧ PySem.intText? a = some n ∧ a.length ≤ 640 ∧ N (.int n) false ρ1) (fun x ρ2 N n1 m F H σ Q vx S r k => by
    obtain ⟨a, n, rfl, e, hl, q⟩ := n1
    obtain rfl := rz_s r
    exact ⟨a, n, rfl, e, hl, k _ _ _ _ _ _ q (Same.refl F) S (rzF_f rzi)⟩) h
/-- the parts of an f-string -/
def ZJ (z : Cz) : List TE → Str → List Sl → (Str → List Sl → Prop) → Prop
  | [], acc, ρ, L => L acc ρ
  | t :: ts, acc, ρ, L => ZE z t ρ fun x _ ρ1 => ∃ y, x = .str y ∧ (acc ++ y).length ≤ 100000 ∧ ZJ z ts (acc ++ y) ρ1 L
theorem zj_run {m : Fm} {σ : L2.St} {Q : Str → Hp → Prop} {L : Str → List Sl → Prop} : ∀ {ts : List TE} {acc : Str} {ρ : List Sl} {F H : Hp}, ZJ z ts acc ρ L → Sm z m F H σ ρ → (∀ out ρ' F' H', L out ρ' → Same F F' → Sm z m F' H' σ ρ' → Q out H') → tJs ts acc σ H Q
  | [], acc, ρ, F, H, h, S, k => k _ _ _ _ h (Same.refl F) S
  | t :: ts, acc, ρ, F, H, h, S, k => by
    refine h m F H σ _ S fun x fx ρ1 F1 H1 vx n1 s1 S1 r1 => ?_
    obtain ⟨F2, s2, S2, rx⟩ := rzF_frz S1 r1
    obtain ⟨y, rfl, hl, n⟩ := n1
    obtain rfl := rz_s rx
    exact ⟨y, rfl, sL hl, zj_run n S2 fun out ρ' F' H' q s => k out ρ' F' H' q ((s1.trans s2).trans s)⟩
theorem ze_fstr {ts : List TE} (h : ZJ z ts Str.empty ρ fun out ρ1 => N (.str out) false ρ1) : ZE z (fun σ H Q => tJs ts Str.empty σ H fun out H1 => Q (.str out) H1) ρ N := fun m F H σ Q S k =>
  zj_run h S fun out ρ' F' H' q s S' => k _ _ _ _ _ _ q s S' (rzF_f rzs)
theorem zj_nil {acc : Str} {L : Str → List Sl → Prop} (h : L acc ρ) : ZJ z [] acc ρ L := h
theorem zj_cons {ts : List TE} {acc : Str} {L : Str → List Sl → Prop} (h : ZE z te ρ fun x _ ρ1 => ∃ y, x = .str y ∧ (acc ++ y).length ≤ 100000 ∧ ZJ z ts (acc ++ y) ρ1 L) : ZJ z (te :: ts) acc ρ L := h
theorem ze_fmt (h : ZE z te ρ fun x _ ρ1 => ∃ y, x = .str y ∧ y.length ≤ 100000 ∧ N (.str y) false ρ1) : ZE z (tFmt te) ρ N := fun m F H σ Q S k => by
  refine h m F H σ _ S fun x fx ρ1 F1 H1 vx n1 s1 S1 r1 => ?_
  obtain ⟨F2, s2, S2, rx⟩ := rzF_frz S1 r1
  obtain ⟨y, rfl, hl, n⟩ := n1
  obtain rfl := rz_s rx
  exact .inl ⟨y, rfl, sL hl, k _ _ _ _ _ _ n (s1.trans s2) S2 (rzF_f rzs)⟩
end
/-! ### the law's expressions, drawn -/
structure NmT where
  vs : List (Str × Int)
  ps : List Str
  ts : List Str
  us : List Str
structure NmOk (N : Str → Prop) (m : NmT) : Prop where
  v : ∀ r ∈ m.vs, N r.1 ∧ 0 ≤ r.2 ∧ r.2 ≤ 4
  p : ∀ x ∈ m.ps, N x
  t : ∀ x ∈ m.ts, N x
  u : ∀ x ∈ m.us, N x
  lv : m.vs.length ≤ 1000
  lp : m.ps.length ≤ 1000
  lt : m.ts.length ≤ 1000
  lu : m.us.length ≤ 1000
def rowD (r : Str × Int) : Dt := .tup [.str r.1, .int r.2]
def nmD (t : Bool) (m : NmT) : Dt := .dic t [.inr "vars", .inr "pres", .inr "truths", .inr "tvars"] [.lst t (m.vs.map rowD), .lst t (m.ps.map .str), .lst t (m.ts.map .str), .lst t (m.us.map .str)]
theorem olds_strs : ∀ xs : List Str, Dt.olds (xs.map Dt.str) = xs.map Dt.str
  | [] => rfl
  | x :: xs => by rw [List.map_cons, Dt.olds, olds_strs xs]; rfl
theorem olds_rows : ∀ xs : List (Str × Int), Dt.olds (xs.map rowD) = xs.map rowD
  | [] => rfl
  | x :: xs => by rw [List.map_cons, Dt.olds, olds_rows xs]; rfl
theorem nmD_old {t : Bool} {m : NmT} : (nmD t m).old = nmD false m := by simp only [nmD, Dt.old, Dt.olds, olds_strs, olds_rows]
theorem gd_vars {t : Bool} {m : NmT} : GetD (nmD t m) (.str "vars") (some (.lst t (m.vs.map rowD))) := GetD.str (by rfl)
theorem gd_pres {t : Bool} {m : NmT} : GetD (nmD t m) (.str "pres") (some (.lst t (m.ps.map .str))) := GetD.str (by rfl)
theorem gd_truths {t : Bool} {m : NmT} : GetD (nmD t m) (.str "truths") (some (.lst t (m.ts.map .str))) := GetD.str (by rfl)
theorem gd_tvars {t : Bool} {m : NmT} : GetD (nmD t m) (.str "tvars") (some (.lst t (m.us.map .str))) := GetD.str (by rfl)
theorem rat_small {n d : Int} (hd : 0 < d) (h1 : n.natAbs ≤ 100) (h2 : d.natAbs ≤ 100) : RatOk (pn n d) (pd n d) := by
  exact ⟨low_of (by omega), Nat.le_trans (pn_le (by omega)) h1, Nat.le_trans (pd_le (by omega)) h2⟩
theorem atI_of {α : Type} {xs : List α} {j : Int} (h0 : 0 ≤ j) (h1 : j < (xs.length : Int)) : ∃ x ∈ xs, atI xs j = some x ∧ xs[j.toNat]? = some x := by
  have hk : j.toNat < xs.length := by omega
  have e : j = ((j.toNat : Nat) : Int) := by omega
  refine ⟨xs[j.toNat], List.getElem_mem hk, ?_, List.getElem?_eq_getElem hk⟩
  have q : atI xs ((j.toNat : Nat) : Int) = some xs[j.toNat] := atI_k (List.getElem?_eq_getElem hk)
  rw [← e] at q
  exact q
theorem atI_map {α : Type} {f : α → Dt} {xs : List α} {j : Int} (h0 : 0 ≤ j) (h1 : j < (xs.length : Int)) : ∃ x ∈ xs, atI (xs.map f) j = some (f x) := by
  obtain ⟨x, hx, _, h⟩ := atI_of h0 h1
  refine ⟨x, hx, ?_⟩
  have e : j = ((j.toNat : Nat) : Int) := by omega
  rw [e]
  refine atI_k ?_
  rw [List.getElem?_map, h]
  rfl
theorem sgc_bits {n d : Int} (h : d ≠ 0) (l : d.natAbs < 18446744073709551616) : Bits 8000 (sgc n d) := Bits.small (Nat.lt_of_le_of_lt (sgc_abs h) l) (by decide)
theorem pn_pos {n d : Int} (hn : 0 < n) (hd : 0 < d) : 0 < pn n d := by
  have a := pn_mul n d
  have g : 0 < sgc n d := by
    have b := pd_mul n d
    have c := (low_of (n := n) (d := d) (by omega)).pos
    rcases Int.lt_or_le 0 (sgc n d) with h | h
    · exact h
    · have := Int.mul_le_mul_of_nonneg_left h (Int.le_of_lt c)
      omega
  rcases Int.lt_or_le 0 (pn n d) with h | h
  · exact h
  · have := Int.mul_le_mul_of_nonneg_right h (Int.le_of_lt g)
    omega
section
variable {P : Program} {w : World} {K : PySem.W.Frag} {mg : Str → Option Value} {base : Heap}
def wSmall : Wz := fun ds Nv _ => ds = [.strm] ∧ ∀ n d, RatOk n d → Nv (.rat n d) false
theorem ok__law_small_ratio (T : Top w K mg) : FnOk P w K mg base CX0 3 (He.ga K ("_law_small_ratio" : Str)) (fdOf K d__law_small_ratio) ["stream"] (spZ K wSmall) := by
  obtain ⟨ds1, B1⟩ := T.b1_Ratio___init__
  refine (T.f__law_small_ratio).ok sc__law_small_ratio (fun vs H Q E h => spz_len h (n := 1) fun ds Nv Ne hw => ?_) (fun cdv A outer s H vs Q E hr h => ?_)
  · obtain ⟨rfl, _⟩ := hw
    rfl
  · refine z_fn h (PSs.nox (pss_one (ps_ret (pe_make (C := He.ga K ("Ratio" : Str)) T.mk_Ratio (ok_Ratio___init__ (K := K) T) (hr.mono (by decide)) rfl T.g_Ratio (B1.2) (B1.1) passL (pa_cons (pe_op op_sub (pe_call (ok__law_draw (K := K) T) (hr.mono (by decide)) rfl T.g__law_draw T.f__law_draw.kp T.b__law_draw .nil pass0 (pa_cons (pv 0) (pa_cons pe_int pa_nil))) pe_int) (pa_cons (pe_op op_add pe_int (pe_call (ok__law_draw (K := K) T) (hr.mono (by decide)) rfl T.g__law_draw T.f__law_draw.kp T.b__law_draw .nil pass0 (pa_cons (pv 0) (pa_cons pe_int pa_nil)))) pa_nil)))))) fun ds Nv Ne hw => ?_
    obtain ⟨rfl, k⟩ := hw
    walk_at "zz"
    intro v a0 a1
    walk_at "zz"
    intro u b0 b1
    walk_at "zz"
    exact ⟨v - 6, 1 + u, .inl ⟨rfl, rfl⟩, by omega, sgc_bits (by omega) (by omega), k _ _ (rat_small (by omega) (by omega) (by omega))⟩
end
/-! ### the law's expressions, drawn, with their kinds -/
def nbL : List Str := ["add", "sub", "mul", "div"]
def tbL : List Str := ["and", "or"]
def cbL : List Str := ["less", "atmost"]
/-- expressions whose kinds fit: true for truths -/
inductive ExT (N : Str → Prop) : Bool → Nat → Ex → Prop
  | var {t : Bool} {d : Nat} {x : Str} {o : Int} : N x → 0 ≤ o → o ≤ 4 → (t = true → o = 0) → ExT N t (d + 1) (.var x o)
  | pre {t : Bool} {d : Nat} {x : Str} : N x → ExT N t (d + 1) (.pre x)
  | num {d : Nat} {a b : Int} : RatOk a b → ExT N false (d + 1) (.lit "num" [.rat a b])
  | time {d : Nat} : ExT N false (d + 1) (.lit "time" [])
  | truth {d : Nat} (b : Bool) : ExT N true (d + 1) (.lit "truth" [.bl b])
  | initial {d : Nat} : ExT N true (d + 1) (.lit "initial" [])
  | sample {d : Nat} {a b a2 b2 : Int} : RatOk a b → RatOk a2 b2 → 0 < a2 → ExT N true (d + 1) (.lit "sample" [.rat a b, .rat a2 b2])
  | neg {d : Nat} {e : Ex} : ExT N false d e → ExT N false (d + 1) (.un "neg" e)
  | not {d : Nat} {e : Ex} : ExT N true d e → ExT N true (d + 1) (.un "not" e)
  | ari {d : Nat} {w : Str} {e f : Ex} : w ∈ nbL → ExT N false d e → ExT N false d f → ExT N false (d + 1) (.bin w e f)
  | log {d : Nat} {w : Str} {e f : Ex} : w ∈ tbL → ExT N true d e → ExT N true d f → ExT N true (d + 1) (.bin w e f)
  | cmp {d : Nat} {w : Str} {e f : Ex} : w ∈ cbL → ExT N false d e → ExT N false d f → ExT N true (d + 1) (.bin w e f)
  | same {d : Nat} {t : Bool} {e f : Ex} : ExT N t d e → ExT N t d f → ExT N true (d + 1) (.bin "same" e f)
  | tern {d : Nat} {t : Bool} {e f g : Ex} : ExT N true d e → ExT N t d f → ExT N t d g → ExT N t (d + 1) (.tern e f g)
theorem ExT.ok {N : Str → Prop} {t : Bool} {d : Nat} {e : Ex} (h : ExT N t d e) : ExOk N d e := by
  induction h with
  | var a b c _ => exact .var a b c
  | pre a => exact .pre a
  | num a => exact .lit (.num a)
  | time => exact .lit .time
  | truth b => exact .lit (.truth b)
  | initial => exact .lit .initial
  | sample a b c => exact .lit (.sample a b c)
  | neg _ i => exact .un (by decide +kernel) i
  | not _ i => exact .un (by decide +kernel) i
  | ari a _ _ i j => exact .bin ((by decide +kernel : ∀ w ∈ nbL, w ∈ binL) _ a) i j
  | log a _ _ i j => exact .bin ((by decide +kernel : ∀ w ∈ tbL, w ∈ binL) _ a) i j
  | cmp a _ _ i j => exact .bin ((by decide +kernel : ∀ w ∈ cbL, w ∈ binL) _ a) i j
  | same _ _ i j => exact .bin (by decide +kernel) i j
  | tern _ _ _ i j k => exact .tern i j k
theorem ExT.up {N : Str → Prop} {t : Bool} {e : Ex} {d : Nat} (h : ExT N t d e) : ∀ {d' : Nat}, d ≤ d' → ExT N t d' e := by
  induction h with
  | var a b c x => intro d' hd; obtain ⟨m, rfl⟩ : ∃ m, d' = m + 1 := ⟨d' - 1, by omega⟩; exact .var a b c x
  | pre a => intro d' hd; obtain ⟨m, rfl⟩ : ∃ m, d' = m + 1 := ⟨d' - 1, by omega⟩; exact .pre a
  | num a => intro d' hd; obtain ⟨m, rfl⟩ : ∃ m, d' = m + 1 := ⟨d' - 1, by omega⟩; exact .num a
  | time => intro d' hd; obtain ⟨m, rfl⟩ : ∃ m, d' = m + 1 := ⟨d' - 1, by omega⟩; exact .time
  | truth b => intro d' hd; obtain ⟨m, rfl⟩ : ∃ m, d' = m + 1 := ⟨d' - 1, by omega⟩; exact .truth b
  | initial => intro d' hd; obtain ⟨m, rfl⟩ : ∃ m, d' = m + 1 := ⟨d' - 1, by omega⟩; exact .initial
  | sample a b c => intro d' hd; obtain ⟨m, rfl⟩ : ∃ m, d' = m + 1 := ⟨d' - 1, by omega⟩; exact .sample a b c
  | neg _ i => intro d' hd; obtain ⟨m, rfl⟩ : ∃ m, d' = m + 1 := ⟨d' - 1, by omega⟩; exact .neg (i (by omega))
  | not _ i => intro d' hd; obtain ⟨m, rfl⟩ : ∃ m, d' = m + 1 := ⟨d' - 1, by omega⟩; exact .not (i (by omega))
  | ari a _ _ i j => intro d' hd; obtain ⟨m, rfl⟩ : ∃ m, d' = m + 1 := ⟨d' - 1, by omega⟩; exact .ari a (i (by omega)) (j (by omega))
  | log a _ _ i j => intro d' hd; obtain ⟨m, rfl⟩ : ∃ m, d' = m + 1 := ⟨d' - 1, by omega⟩; exact .log a (i (by omega)) (j (by omega))
  | cmp a _ _ i j => intro d' hd; obtain ⟨m, rfl⟩ : ∃ m, d' = m + 1 := ⟨d' - 1, by omega⟩; exact .cmp a (i (by omega)) (j (by omega))
  | same _ _ i j => intro d' hd; obtain ⟨m, rfl⟩ : ∃ m, d' = m + 1 := ⟨d' - 1, by omega⟩; exact .same (i (by omega)) (j (by omega))
  | tern _ _ _ i j k => intro d' hd; obtain ⟨m, rfl⟩ : ∃ m, d' = m + 1 := ⟨d' - 1, by omega⟩; exact .tern (i (by omega)) (j (by omega)) (k (by omega))
section
variable {P : Program} {w : World} {K : PySem.W.Frag} {mg : Str → Option Value} {base : Heap}
def truL : List Str := ["and", "or", "same"]
def cmpL : List Str := ["less", "atmost", "same", "less"]
theorem truT {N : Str → Prop} {d : Nat} {y : Str} {e f : Ex} (h : y ∈ truL) (a : ExT N true d e) (b : ExT N true d f) : ExT N true (d + 1) (.bin y e f) := by
  by_cases q : y = "same"
  · subst q
    exact .same a b
  · refine .log ?_ a b
    unfold truL at h
    unfold tbL
    simp only [List.mem_cons, List.not_mem_nil, or_false] at h ⊢
    rcases h with h | h | h
    · exact .inl h
    · exact .inr h
    · exact (q h).elim
theorem cmpT {N : Str → Prop} {d : Nat} {y : Str} {e f : Ex} (h : y ∈ cmpL) (a : ExT N false d e) (b : ExT N false d f) : ExT N true (d + 1) (.bin y e f) := by
  by_cases q : y = "same"
  · subst q
    exact .same a b
  · refine .cmp ?_ a b
    unfold cmpL at h
    unfold cbL
    simp only [List.mem_cons, List.not_mem_nil, or_false] at h ⊢
    rcases h with h | h | h | h
    · exact .inl h
    · exact .inr h
    · exact (q h).elim
    · exact .inl h
def numL : List Str := ["add", "sub", "mul", "div", "add"]
theorem numL_nb : ∀ x ∈ numL, x ∈ nbL := by decide +kernel
def wGenT (N : Str → Prop) (m : NmT) (t : Bool) (d : Nat) : Wz := fun ds Nv _ => ds = [.strm, .int (d : Int), nmD false m] ∧ NmOk N m ∧ ∀ e, ExT N t (d + 1) e → Nv (exD e) false
def wGenTP (N : Str → Prop) (m : NmT) (t : Bool) : Nat → Wz
  | 0 => fun _ _ _ => False
  | d + 1 => wGenT N m t d
set_option maxHeartbeats 4000000 in
theorem numT_step (T : Top w K mg) (N : Str → Prop) (m : NmT) (d : Nat) (ih__law_number : FnOk P w K mg base CX0 (d + 3) (He.ga K ("_law_number" : Str)) (fdOf K d__law_number) ["stream", "deep", "names"] (spZ K (wGenTP N m false d)))
    (ih__law_truth : FnOk P w K mg base CX0 (d + 3) (He.ga K ("_law_truth" : Str)) (fdOf K d__law_truth) ["stream", "deep", "names"] (spZ K (wGenTP N m true d))) :
    FnOk P w K mg base CX0 (d + 4) (He.ga K ("_law_number" : Str)) (fdOf K d__law_number) ["stream", "deep", "names"] (spZ K (wGenT N m false d)) := by
  refine (T.f__law_number).ok sc__law_number (fun vs H Q E h => spz_len h (n := 3) fun ds Nv Ne hw => ?_) (fun cdv A outer s H vs Q E hr h => ?_)
  · obtain ⟨rfl, _⟩ := hw
    rfl
  · refine z_fn h (PSs.nox (pss_cons (ps_set (i := 3) sc__law_number.nd rfl (Or.inl rfl) (pe_call (ok__law_draw (K := K) T) (hr.mono (by omega)) rfl T.g__law_draw T.f__law_draw.kp T.b__law_draw .nil pass0 (pa_cons (pv 0) (pa_cons pe_int pa_nil))))
    (C8.pss_cut (ps_if (PW.pt (pw_or (pt_cmpR op_eq (pv 1) pe_int (nomark _)) (pw_or1 (pt_cmpR op_lt (pv 3) pe_int (nomark _)))))
    (pss_cons (ps_set (i := 3) sc__law_number.nd rfl (Or.inl rfl) (pe_call (ok__law_draw (K := K) T) (hr.mono (by omega)) rfl T.g__law_draw T.f__law_draw.kp T.b__law_draw .nil pass0 (pa_cons (pv 0) (pa_cons pe_int pa_nil))))
    (C8.pss_cut (ps_if (PW.pt (pw_and (pt_cmpR op_lt (pv 3) pe_int (nomark _)) (pw_and1 (pt_cmpR op_gt (pe_callB (call_lenZ (K := K) rfl) (by rfl) T.n_len PySem.boot_len (pa_cons (pe_dget (hu_of hr) (pv 2) pe_str (fun _ _ => rfl)) pa_nil)) pe_int (nomark _)))))
    (pss_cons (ps_set (i := 4) sc__law_number.nd rfl (Or.inl rfl) (pe_ix (ix_listK (K := K) rfl) (pe_dget (hu_of hr) (pv 2) pe_str (fun _ _ => rfl)) (pe_call (ok__law_draw (K := K) T) (hr.mono (by omega)) rfl T.g__law_draw T.f__law_draw.kp T.b__law_draw .nil pass0 (pa_cons (pv 0) (pa_cons (pe_callB (call_lenZ (K := K) rfl) (by rfl) T.n_len PySem.boot_len (pa_cons (pe_dget (hu_of hr) (pv 2) pe_str (fun _ _ => rfl)) pa_nil)) pa_nil))) (fun _ _ => rfl)))
    (pss_one (ps_ret (pe_tup (pa_cons pe_str (pa_cons (pe_ix (ix_tupK (K := K) rfl) (pv 4) pe_int (fun _ _ => rfl)) (pa_cons (pe_call (ok__law_draw (K := K) T) (hr.mono (by omega)) rfl T.g__law_draw T.f__law_draw.kp T.b__law_draw .nil pass0 (pa_cons (pv 0) (pa_cons (pe_op op_add pe_int (pe_ix (ix_tupK (K := K) rfl) (pv 4) pe_int (fun _ _ => rfl))) pa_nil))) pa_nil)))))))
    pss_nil)
    (C8.pss_cut (ps_if (PW.pt (pw_and (pt_cmpR op_eq (pv 3) pe_int (nomark _)) (pw_and1 (pt_cmpR op_gt (pe_callB (call_lenZ (K := K) rfl) (by rfl) T.n_len PySem.boot_len (pa_cons (pe_dget (hu_of hr) (pv 2) pe_str (fun _ _ => rfl)) pa_nil)) pe_int (nomark _)))))
    (pss_one (ps_ret (pe_tup (pa_cons pe_str (pa_cons (pe_ix (ix_listK (K := K) rfl) (pe_dget (hu_of hr) (pv 2) pe_str (fun _ _ => rfl)) (pe_call (ok__law_draw (K := K) T) (hr.mono (by omega)) rfl T.g__law_draw T.f__law_draw.kp T.b__law_draw .nil pass0 (pa_cons (pv 0) (pa_cons (pe_callB (call_lenZ (K := K) rfl) (by rfl) T.n_len PySem.boot_len (pa_cons (pe_dget (hu_of hr) (pv 2) pe_str (fun _ _ => rfl)) pa_nil)) pa_nil))) (fun _ _ => rfl)) pa_nil)))))
    pss_nil)
    (pss_cons (ps_if (pt_cmpR op_eq (pv 3) pe_int (nomark _))
    (pss_one (ps_ret (pe_tup (pa_cons pe_str pa_nil))))
    pss_nil)
    (pss_one (ps_ret (pe_tup (pa_cons pe_str (pa_cons (pe_call (ok__law_small_ratio (K := K) T) (hr.mono (by omega)) rfl T.g__law_small_ratio T.f__law_small_ratio.kp T.b__law_small_ratio .nil pass0 (pa_cons (pv 0) pa_nil)) pa_nil)))))))))
    pss_nil)
    (pss_cons (ps_if (pt_cmpR op_eq (pv 3) pe_int (nomark _))
    (pss_one (ps_ret (pe_tup (pa_cons pe_str (pa_cons (pe_call ih__law_number (hr.mono (by omega)) rfl T.g__law_number T.f__law_number.kp T.b__law_number .nil pass0 (pa_cons (pv 0) (pa_cons (pe_op op_sub (pv 1) pe_int) (pa_cons (pv 2) pa_nil)))) pa_nil)))))
    pss_nil)
    (pss_cons (ps_if (pt_cmpR op_eq (pv 3) pe_int (nomark _))
    (pss_cons (ps_set (i := 5) sc__law_number.nd rfl (Or.inl rfl) (pe_call ih__law_truth (hr.mono (by omega)) rfl T.g__law_truth T.f__law_truth.kp T.b__law_truth .nil pass0 (pa_cons (pv 0) (pa_cons (pe_op op_sub (pv 1) pe_int) (pa_cons (pv 2) pa_nil)))))
    (pss_one (ps_ret (pe_tup (pa_cons pe_str (pa_cons (pv 5) (pa_cons (pe_call ih__law_number (hr.mono (by omega)) rfl T.g__law_number T.f__law_number.kp T.b__law_number .nil pass0 (pa_cons (pv 0) (pa_cons (pe_op op_sub (pv 1) pe_int) (pa_cons (pv 2) pa_nil)))) (pa_cons (pe_call ih__law_number (hr.mono (by omega)) rfl T.g__law_number T.f__law_number.kp T.b__law_number .nil pass0 (pa_cons (pv 0) (pa_cons (pe_op op_sub (pv 1) pe_int) (pa_cons (pv 2) pa_nil)))) pa_nil))))))))
    pss_nil)
    (pss_cons (ps_set (i := 6) sc__law_number.nd rfl (Or.inl rfl) (pe_ix (ix_listK (K := K) rfl) (pe_lst (pa_cons pe_str (pa_cons pe_str (pa_cons pe_str (pa_cons pe_str (pa_cons pe_str pa_nil)))))) (pe_op op_sub (pv 3) pe_int) (fun _ _ => rfl)))
    (pss_one (ps_ret (pe_tup (pa_cons (pv 6) (pa_cons (pe_call ih__law_number (hr.mono (by omega)) rfl T.g__law_number T.f__law_number.kp T.b__law_number .nil pass0 (pa_cons (pv 0) (pa_cons (pe_op op_sub (pv 1) pe_int) (pa_cons (pv 2) pa_nil)))) (pa_cons (pe_call ih__law_number (hr.mono (by omega)) rfl T.g__law_number T.f__law_number.kp T.b__law_number .nil pass0 (pa_cons (pv 0) (pa_cons (pe_op op_sub (pv 1) pe_int) (pa_cons (pv 2) pa_nil)))) pa_nil)))))))))))) fun ds Nv Ne hw => ?_
    obtain ⟨rfl, hn, k⟩ := hw
    walk_at "zz"
    intro v0 a0 a1
    walk_at "zz"
    refine zs_cut (fun ρ => ρ = [.v .strm, .v (.int d), .v (nmD false m), .v (.int v0), .un, .un, .un] ∧ ¬ d = 0 ∧ 5 ≤ v0) ?_ ?_
    · walk_at "zz"
      refine zD (fun c1 => ?_) (fun c1 => ?_)
      rotate_left
      walk_at "zz"
      refine zD (fun c2 => ?_) (fun c2 => ?_)
      rotate_left
      · walk_at "zz"
        exact ⟨rfl, fun z => c1 (by rw [z]; rfl), by omega⟩
      all_goals
        walk_at "zz"
        intro v1 b0 b1
        walk_at "zz"
        refine zs_cut (fun ρ => ρ = [.v .strm, .v (.int d), .v (nmD false m), .v (.int v1), .un, .un, .un]) ?_ ?_
        · walk_at "zz"
          refine zD (fun c3 => ?_) (fun c3 => ?_)
          · walk_at "zz"
            refine ⟨_, _, _, rfl, .inl rfl, gd_vars, ?_⟩
            walk_at "zz"
            refine zD (fun c4 => ?_) (fun c4 => ?_)
            · walk_at "zz"
              refine ⟨_, _, _, rfl, .inl rfl, gd_vars, ?_⟩
              walk_at "zz"
              refine ⟨_, _, _, rfl, .inl rfl, gd_vars, ?_⟩
              walk_at "zz"
              have hlen := hn.lv
              refine ⟨c4, by rw [List.length_map]; omega, fun v2 d0 d1 => ?_⟩
              obtain ⟨r, hr2, hi⟩ := atI_map (f := rowD) (xs := m.vs) (j := v2) d0 (by rw [List.length_map] at d1; exact d1)
              obtain ⟨hx, o0, o4⟩ := hn.v r hr2
              refine ⟨_, _, _, _, rfl, rfl, hi, ?_⟩
              walk_at "zz"
              refine ⟨by omega, by omega, fun v3 e0 e1 => ?_⟩
              walk_at "zz"
              exact k (.var r.1 v3) (.var hx e0 (by omega) (fun z => Bool.noConfusion z))
            · walk_at "zz"
              exact rfl
          · walk_at "zz"
            exact rfl
        · rintro ρ rfl
          refine zs_cut (fun ρ => ρ = [.v .strm, .v (.int d), .v (nmD false m), .v (.int v1), .un, .un, .un]) ?_ ?_
          · walk_at "zz"
            refine zD (fun c3 => ?_) (fun c3 => ?_)
            · walk_at "zz"
              refine ⟨_, _, _, rfl, .inl rfl, gd_pres, ?_⟩
              walk_at "zz"
              refine zD (fun c4 => ?_) (fun c4 => ?_)
              · walk_at "zz"
                refine ⟨_, _, _, rfl, .inl rfl, gd_pres, ?_⟩
                walk_at "zz"
                refine ⟨_, _, _, rfl, .inl rfl, gd_pres, ?_⟩
                walk_at "zz"
                have hlen := hn.lp
                refine ⟨c4, by rw [List.length_map]; omega, fun v2 d0 d1 => ?_⟩
                obtain ⟨x, hx, hi⟩ := atI_map (f := Dt.str) (xs := m.ps) (j := v2) d0 (by rw [List.length_map] at d1; exact d1)
                refine ⟨_, _, _, _, rfl, rfl, hi, ?_⟩
                walk_at "zz"
                exact k (.pre x) (.pre (hn.p x hx))
              · walk_at "zz"
                exact rfl
            · walk_at "zz"
              exact rfl
          · rintro ρ rfl
            walk_at "zz"
            refine zD (fun c5 => ?_) (fun c5 => ?_)
            · walk_at "zz"
              exact k (.lit "time" []) .time
            · walk_at "zz"
              refine ⟨rfl, fun n1 d1 ok1 => ?_⟩
              walk_at "zz"
              exact k (.lit "num" [.rat n1 d1]) (.num ok1)
    · rintro ρ ⟨rfl, hd, h5⟩
      obtain ⟨d, rfl⟩ : ∃ m, d = m + 1 := ⟨d - 1, by omega⟩
      have ed : ((d + 1 : Nat) : Int) - 1 = (d : Int) := by omega
      have eds : Dt.olds [.strm, .int (((d + 1 : Nat) : Int) - 1), nmD false m] = [.strm, .int (d : Int), nmD false m] := by rw [ed]; simp only [Dt.olds, Dt.old, nmD_old]
      walk_at "zz"
      refine zD (fun c5 => ?_) (fun c5 => ?_)
      · walk_at "zz"
        refine ⟨eds, hn, fun e1 ok1 => ?_⟩
        walk_at "zz"
        exact k _ (.neg ok1)
      · walk_at "zz"
        refine zD (fun c6 => ?_) (fun c6 => ?_)
        · walk_at "zz"
          refine ⟨eds, hn, fun e1 ok1 => ?_⟩
          walk_at "zz"
          refine ⟨eds, hn, fun e2 ok2 => ?_⟩
          walk_at "zz"
          refine ⟨eds, hn, fun e3 ok3 => ?_⟩
          walk_at "zz"
          exact k _ (.tern ok1 ok2 ok3)
        · walk_at "zz"
          obtain ⟨y, hy, hi⟩ := atI_map (f := Dt.str) (xs := numL) (j := v0 - 7) (by omega) (by show v0 - 7 < 5; omega)
          refine ⟨_, _, _, _, rfl, rfl, hi, ?_⟩
          walk_at "zz"
          refine ⟨eds, hn, fun e1 ok1 => ?_⟩
          walk_at "zz"
          refine ⟨eds, hn, fun e2 ok2 => ?_⟩
          walk_at "zz"
          exact k _ (.ari (numL_nb y hy) ok1 ok2)
set_option maxHeartbeats 4000000 in
theorem truT_step (T : Top w K mg) (N : Str → Prop) (m : NmT) (d : Nat) (ih__law_number : FnOk P w K mg base CX0 (d + 3) (He.ga K ("_law_number" : Str)) (fdOf K d__law_number) ["stream", "deep", "names"] (spZ K (wGenTP N m false d)))
    (ih__law_truth : FnOk P w K mg base CX0 (d + 3) (He.ga K ("_law_truth" : Str)) (fdOf K d__law_truth) ["stream", "deep", "names"] (spZ K (wGenTP N m true d))) :
    FnOk P w K mg base CX0 (d + 4) (He.ga K ("_law_truth" : Str)) (fdOf K d__law_truth) ["stream", "deep", "names"] (spZ K (wGenT N m true d)) := by
  obtain ⟨ds1, B1⟩ := T.b1_Ratio___init__
  refine (T.f__law_truth).ok sc__law_truth (fun vs H Q E h => spz_len h (n := 3) fun ds Nv Ne hw => ?_) (fun cdv A outer s H vs Q E hr h => ?_)
  · obtain ⟨rfl, _⟩ := hw
    rfl
  · refine z_fn h (PSs.nox (pss_cons (ps_set (i := 3) sc__law_truth.nd rfl (Or.inl rfl) (pe_call (ok__law_draw (K := K) T) (hr.mono (by omega)) rfl T.g__law_draw T.f__law_draw.kp T.b__law_draw .nil pass0 (pa_cons (pv 0) (pa_cons pe_int pa_nil))))
    (C8.pss_cut (ps_if (PW.pt (pw_or (pt_cmpR op_eq (pv 1) pe_int (nomark _)) (pw_or1 (pt_cmpR op_lt (pv 3) pe_int (nomark _)))))
    (pss_cons (ps_set (i := 3) sc__law_truth.nd rfl (Or.inl rfl) (pe_call (ok__law_draw (K := K) T) (hr.mono (by omega)) rfl T.g__law_draw T.f__law_draw.kp T.b__law_draw .nil pass0 (pa_cons (pv 0) (pa_cons pe_int pa_nil))))
    (C8.pss_cut (ps_if (PW.pt (pw_and (pt_cmpR op_eq (pv 3) pe_int (nomark _)) (pw_and1 (pt_cmpR op_gt (pe_callB (call_lenZ (K := K) rfl) (by rfl) T.n_len PySem.boot_len (pa_cons (pe_dget (hu_of hr) (pv 2) pe_str (fun _ _ => rfl)) pa_nil)) pe_int (nomark _)))))
    (pss_one (ps_ret (pe_tup (pa_cons pe_str (pa_cons (pe_ix (ix_listK (K := K) rfl) (pe_dget (hu_of hr) (pv 2) pe_str (fun _ _ => rfl)) (pe_call (ok__law_draw (K := K) T) (hr.mono (by omega)) rfl T.g__law_draw T.f__law_draw.kp T.b__law_draw .nil pass0 (pa_cons (pv 0) (pa_cons (pe_callB (call_lenZ (K := K) rfl) (by rfl) T.n_len PySem.boot_len (pa_cons (pe_dget (hu_of hr) (pv 2) pe_str (fun _ _ => rfl)) pa_nil)) pa_nil))) (fun _ _ => rfl)) pa_nil)))))
    pss_nil)
    (C8.pss_cut (ps_if (PW.pt (pw_and (pt_cmpR op_eq (pv 3) pe_int (nomark _)) (pw_and1 (pt_cmpR op_gt (pe_callB (call_lenZ (K := K) rfl) (by rfl) T.n_len PySem.boot_len (pa_cons (pe_dget (hu_of hr) (pv 2) pe_str (fun _ _ => rfl)) pa_nil)) pe_int (nomark _)))))
    (pss_one (ps_ret (pe_tup (pa_cons pe_str (pa_cons (pe_ix (ix_listK (K := K) rfl) (pe_dget (hu_of hr) (pv 2) pe_str (fun _ _ => rfl)) (pe_call (ok__law_draw (K := K) T) (hr.mono (by omega)) rfl T.g__law_draw T.f__law_draw.kp T.b__law_draw .nil pass0 (pa_cons (pv 0) (pa_cons (pe_callB (call_lenZ (K := K) rfl) (by rfl) T.n_len PySem.boot_len (pa_cons (pe_dget (hu_of hr) (pv 2) pe_str (fun _ _ => rfl)) pa_nil)) pa_nil))) (fun _ _ => rfl)) (pa_cons pe_int pa_nil))))))
    pss_nil)
    (pss_cons (ps_if (pt_cmpR op_eq (pv 3) pe_int (nomark _))
    (pss_one (ps_ret (pe_tup (pa_cons pe_str pa_nil))))
    pss_nil)
    (pss_cons (ps_if (pt_cmpR op_eq (pv 3) pe_int (nomark _))
    (pss_one (ps_ret (pe_tup (pa_cons pe_str (pa_cons (pe_call (ok__law_small_ratio (K := K) T) (hr.mono (by omega)) rfl T.g__law_small_ratio T.f__law_small_ratio.kp T.b__law_small_ratio .nil pass0 (pa_cons (pv 0) pa_nil)) (pa_cons (pe_make (C := He.ga K ("Ratio" : Str)) T.mk_Ratio (ok_Ratio___init__ (K := K) T) (hr.mono (by omega)) rfl T.g_Ratio (B1.2) (B1.1) passL (pa_cons (pe_op op_add pe_int (pe_call (ok__law_draw (K := K) T) (hr.mono (by omega)) rfl T.g__law_draw T.f__law_draw.kp T.b__law_draw .nil pass0 (pa_cons (pv 0) (pa_cons pe_int pa_nil)))) (pa_cons (pe_op op_add pe_int (pe_call (ok__law_draw (K := K) T) (hr.mono (by omega)) rfl T.g__law_draw T.f__law_draw.kp T.b__law_draw .nil pass0 (pa_cons (pv 0) (pa_cons pe_int pa_nil)))) pa_nil))) pa_nil))))))
    pss_nil)
    (pss_one (ps_ret (pe_tup (pa_cons pe_str (pa_cons (pe_cmpR op_eq (pe_call (ok__law_draw (K := K) T) (hr.mono (by omega)) rfl T.g__law_draw T.f__law_draw.kp T.b__law_draw .nil pass0 (pa_cons (pv 0) (pa_cons pe_int pa_nil))) pe_int (nomark _)) pa_nil))))))))))
    pss_nil)
    (pss_cons (ps_if (pt_cmpR op_eq (pv 3) pe_int (nomark _))
    (pss_one (ps_ret (pe_tup (pa_cons pe_str (pa_cons (pe_call ih__law_truth (hr.mono (by omega)) rfl T.g__law_truth T.f__law_truth.kp T.b__law_truth .nil pass0 (pa_cons (pv 0) (pa_cons (pe_op op_sub (pv 1) pe_int) (pa_cons (pv 2) pa_nil)))) pa_nil)))))
    pss_nil)
    (pss_cons (ps_if (pt_cmpR op_eq (pv 3) pe_int (nomark _))
    (pss_cons (ps_set (i := 4) sc__law_truth.nd rfl (Or.inl rfl) (pe_call ih__law_truth (hr.mono (by omega)) rfl T.g__law_truth T.f__law_truth.kp T.b__law_truth .nil pass0 (pa_cons (pv 0) (pa_cons (pe_op op_sub (pv 1) pe_int) (pa_cons (pv 2) pa_nil)))))
    (pss_one (ps_ret (pe_tup (pa_cons pe_str (pa_cons (pv 4) (pa_cons (pe_call ih__law_truth (hr.mono (by omega)) rfl T.g__law_truth T.f__law_truth.kp T.b__law_truth .nil pass0 (pa_cons (pv 0) (pa_cons (pe_op op_sub (pv 1) pe_int) (pa_cons (pv 2) pa_nil)))) (pa_cons (pe_call ih__law_truth (hr.mono (by omega)) rfl T.g__law_truth T.f__law_truth.kp T.b__law_truth .nil pass0 (pa_cons (pv 0) (pa_cons (pe_op op_sub (pv 1) pe_int) (pa_cons (pv 2) pa_nil)))) pa_nil))))))))
    pss_nil)
    (pss_cons (ps_if (pt_cmpR op_lt (pv 3) pe_int (nomark _))
    (pss_cons (ps_set (i := 5) sc__law_truth.nd rfl (Or.inl rfl) (pe_ix (ix_listK (K := K) rfl) (pe_lst (pa_cons pe_str (pa_cons pe_str (pa_cons pe_str pa_nil)))) (pe_op op_sub (pv 3) pe_int) (fun _ _ => rfl)))
    (pss_one (ps_ret (pe_tup (pa_cons (pv 5) (pa_cons (pe_call ih__law_truth (hr.mono (by omega)) rfl T.g__law_truth T.f__law_truth.kp T.b__law_truth .nil pass0 (pa_cons (pv 0) (pa_cons (pe_op op_sub (pv 1) pe_int) (pa_cons (pv 2) pa_nil)))) (pa_cons (pe_call ih__law_truth (hr.mono (by omega)) rfl T.g__law_truth T.f__law_truth.kp T.b__law_truth .nil pass0 (pa_cons (pv 0) (pa_cons (pe_op op_sub (pv 1) pe_int) (pa_cons (pv 2) pa_nil)))) pa_nil)))))))
    pss_nil)
    (pss_cons (ps_set (i := 5) sc__law_truth.nd rfl (Or.inl rfl) (pe_ix (ix_listK (K := K) rfl) (pe_lst (pa_cons pe_str (pa_cons pe_str (pa_cons pe_str (pa_cons pe_str pa_nil))))) (pe_op op_sub (pv 3) pe_int) (fun _ _ => rfl)))
    (pss_one (ps_ret (pe_tup (pa_cons (pv 5) (pa_cons (pe_call ih__law_number (hr.mono (by omega)) rfl T.g__law_number T.f__law_number.kp T.b__law_number .nil pass0 (pa_cons (pv 0) (pa_cons (pe_op op_sub (pv 1) pe_int) (pa_cons (pv 2) pa_nil)))) (pa_cons (pe_call ih__law_number (hr.mono (by omega)) rfl T.g__law_number T.f__law_number.kp T.b__law_number .nil pass0 (pa_cons (pv 0) (pa_cons (pe_op op_sub (pv 1) pe_int) (pa_cons (pv 2) pa_nil)))) pa_nil))))))))))))) fun ds Nv Ne hw => ?_
    obtain ⟨rfl, hn, k⟩ := hw
    walk_at "zz"
    intro v0 a0 a1
    walk_at "zz"
    refine zs_cut (fun ρ => ρ = [.v .strm, .v (.int d), .v (nmD false m), .v (.int v0), .un, .un] ∧ ¬ d = 0 ∧ 3 ≤ v0) ?_ ?_
    · walk_at "zz"
      refine zD (fun c1 => ?_) (fun c1 => ?_)
      rotate_left
      walk_at "zz"
      refine zD (fun c2 => ?_) (fun c2 => ?_)
      rotate_left
      · walk_at "zz"
        exact ⟨rfl, fun z => c1 (by rw [z]; rfl), by omega⟩
      all_goals
        walk_at "zz"
        intro v1 b0 b1
        walk_at "zz"
        refine zs_cut (fun ρ => ρ = [.v .strm, .v (.int d), .v (nmD false m), .v (.int v1), .un, .un]) ?_ ?_
        · walk_at "zz"
          refine zD (fun c3 => ?_) (fun c3 => ?_)
          · walk_at "zz"
            refine ⟨_, _, _, rfl, .inl rfl, gd_truths, ?_⟩
            walk_at "zz"
            refine zD (fun c4 => ?_) (fun c4 => ?_)
            · walk_at "zz"
              refine ⟨_, _, _, rfl, .inl rfl, gd_truths, ?_⟩
              walk_at "zz"
              refine ⟨_, _, _, rfl, .inl rfl, gd_truths, ?_⟩
              walk_at "zz"
              have hlen := hn.lt
              refine ⟨c4, by rw [List.length_map]; omega, fun v2 d0 d1 => ?_⟩
              obtain ⟨x, hx, hi⟩ := atI_map (f := Dt.str) (xs := m.ts) (j := v2) d0 (by rw [List.length_map] at d1; exact d1)
              refine ⟨_, _, _, _, rfl, rfl, hi, ?_⟩
              walk_at "zz"
              exact k (.pre x) (.pre (hn.t x hx))
            · walk_at "zz"
              exact rfl
          · walk_at "zz"
            exact rfl
        · rintro ρ rfl
          refine zs_cut (fun ρ => ρ = [.v .strm, .v (.int d), .v (nmD false m), .v (.int v1), .un, .un]) ?_ ?_
          · walk_at "zz"
            refine zD (fun c3 => ?_) (fun c3 => ?_)
            · walk_at "zz"
              refine ⟨_, _, _, rfl, .inl rfl, gd_tvars, ?_⟩
              walk_at "zz"
              refine zD (fun c4 => ?_) (fun c4 => ?_)
              · walk_at "zz"
                refine ⟨_, _, _, rfl, .inl rfl, gd_tvars, ?_⟩
                walk_at "zz"
                refine ⟨_, _, _, rfl, .inl rfl, gd_tvars, ?_⟩
                walk_at "zz"
                have hlen := hn.lu
                refine ⟨c4, by rw [List.length_map]; omega, fun v2 d0 d1 => ?_⟩
                obtain ⟨x, hx, hi⟩ := atI_map (f := Dt.str) (xs := m.us) (j := v2) d0 (by rw [List.length_map] at d1; exact d1)
                refine ⟨_, _, _, _, rfl, rfl, hi, ?_⟩
                walk_at "zz"
                exact k (.var x 0) (.var (hn.u x hx) (by decide) (by decide) (fun _ => rfl))
              · walk_at "zz"
                exact rfl
            · walk_at "zz"
              exact rfl
          · rintro ρ rfl
            walk_at "zz"
            refine zD (fun c5 => ?_) (fun c5 => ?_)
            · walk_at "zz"
              exact k (.lit "initial" []) .initial
            · walk_at "zz"
              refine zD (fun c6 => ?_) (fun c6 => ?_)
              · walk_at "zz"
                refine ⟨rfl, fun n1 d1 ok1 => ?_⟩
                walk_at "zz"
                intro v2 d0 d1
                walk_at "zz"
                intro v3 e0 e1
                walk_at "zz"
                refine ⟨1 + v2, 1 + v3, .inl ⟨rfl, rfl⟩, by omega, sgc_bits (by omega) (by omega), ?_⟩
                walk_at "zz"
                exact k (.lit "sample" [.rat n1 _, .rat _ _]) (.sample ok1 (rat_small (by omega) (by omega) (by omega)) (pn_pos (by omega) (by omega)))
              · walk_at "zz"
                intro v2 d0 d1
                walk_at "zz"
                exact k (.lit "truth" [.bl _]) (.truth _)
    · rintro ρ ⟨rfl, hd, h5⟩
      obtain ⟨d, rfl⟩ : ∃ m, d = m + 1 := ⟨d - 1, by omega⟩
      have ed : ((d + 1 : Nat) : Int) - 1 = (d : Int) := by omega
      have eds : Dt.olds [.strm, .int (((d + 1 : Nat) : Int) - 1), nmD false m] = [.strm, .int (d : Int), nmD false m] := by rw [ed]; simp only [Dt.olds, Dt.old, nmD_old]
      walk_at "zz"
      refine zD (fun c5 => ?_) (fun c5 => ?_)
      · walk_at "zz"
        refine ⟨eds, hn, fun e1 ok1 => ?_⟩
        walk_at "zz"
        exact k _ (.not ok1)
      · walk_at "zz"
        refine zD (fun c6 => ?_) (fun c6 => ?_)
        · walk_at "zz"
          refine ⟨eds, hn, fun e1 ok1 => ?_⟩
          walk_at "zz"
          refine ⟨eds, hn, fun e2 ok2 => ?_⟩
          walk_at "zz"
          refine ⟨eds, hn, fun e3 ok3 => ?_⟩
          walk_at "zz"
          exact k _ (.tern ok1 ok2 ok3)
        · walk_at "zz"
          refine zD (fun c7 => ?_) (fun c7 => ?_)
          · walk_at "zz"
            obtain ⟨y, hy, hi⟩ := atI_map (f := Dt.str) (xs := truL) (j := v0 - 5) (by omega) (by show v0 - 5 < 3; omega)
            refine ⟨_, _, _, _, rfl, rfl, hi, ?_⟩
            walk_at "zz"
            refine ⟨eds, hn, fun e1 ok1 => ?_⟩
            walk_at "zz"
            refine ⟨eds, hn, fun e2 ok2 => ?_⟩
            walk_at "zz"
            exact k _ (truT hy ok1 ok2)
          · walk_at "zz"
            obtain ⟨y, hy, hi⟩ := atI_map (f := Dt.str) (xs := cmpL) (j := v0 - 8) (by omega) (by show v0 - 8 < 4; omega)
            refine ⟨_, _, _, _, rfl, rfl, hi, ?_⟩
            walk_at "zz"
            refine ⟨eds, hn, fun e1 ok1 => ?_⟩
            walk_at "zz"
            refine ⟨eds, hn, fun e2 ok2 => ?_⟩
            walk_at "zz"
            exact k _ (cmpT hy ok1 ok2)
theorem ok_genT (T : Top w K mg) (N : Str → Prop) (m : NmT) : ∀ d : Nat,
    FnOk P w K mg base CX0 (d + 3) (He.ga K ("_law_number" : Str)) (fdOf K d__law_number) ["stream", "deep", "names"] (spZ K (wGenTP N m false d)) ∧
    FnOk P w K mg base CX0 (d + 3) (He.ga K ("_law_truth" : Str)) (fdOf K d__law_truth) ["stream", "deep", "names"] (spZ K (wGenTP N m true d))
  | 0 => ⟨⟨fun _ _ _ _ ⟨_, _, _, _, _, _, h, _⟩ => False.elim h, fun _ _ _ _ _ _ _ _ _ _ _ _ _ ⟨_, _, _, _, _, _, h, _⟩ => False.elim h⟩, ⟨fun _ _ _ _ ⟨_, _, _, _, _, _, h, _⟩ => False.elim h, fun _ _ _ _ _ _ _ _ _ _ _ _ _ ⟨_, _, _, _, _, _, h, _⟩ => False.elim h⟩⟩
  | d + 1 => ⟨numT_step T N m d (ok_genT T N m d).1 (ok_genT T N m d).2, truT_step T N m d (ok_genT T N m d).1 (ok_genT T N m d).2⟩
end
local macro_rules | `(tactic| walk_at "z1") => `(tactic| first | ((with_reducible apply ze_maxL); exact rfl))
/-! ### the law's names, sizes, kinds -/
def NS (x : Str) : Prop := x.length ≤ 100 ∧ nameS x = true
def nm7 : NmT := ⟨[("a", 4), ("b", 0), ("x1", 2), ("c.d", 1), ("e[2].f_g", 0), ("R1", 3), ("tank.Kp", 0)], ["a", "b", "c.d", "R1"], ["p", "q.r", "On"], ["p", "s1", "On"]⟩
theorem nm7_ok : NmOk NS nm7 := ⟨by unfold NS nm7; decide +kernel, by unfold NS nm7; decide +kernel, by unfold NS nm7; decide +kernel, by unfold NS nm7; decide +kernel, by decide, by decide, by decide, by decide⟩
theorem Pv.up {n : Nat} {d : Dt} (h : Pv n d) : ∀ {n' : Nat}, n ≤ n' → Pv n' d := by
  induction h with
  | non => exact fun _ => .non
  | bl b => exact fun _ => .bl b
  | int i => exact fun _ => .int i
  | str h => exact fun _ => .str h
  | rat a b => exact fun _ => .rat a b
  | lst h _ ih =>
    intro n' hn
    obtain ⟨m, rfl⟩ : ∃ m, n' = m + 1 := ⟨n' - 1, by omega⟩
    exact .lst h fun d hd => ih d hd (by omega)
  | tup h hw _ ih =>
    intro n' hn
    obtain ⟨m, rfl⟩ : ∃ m, n' = m + 1 := ⟨n' - 1, by omega⟩
    exact .tup h hw fun d hd => ih d hd (by omega)
theorem ex_pv {n : Nat} {e : Ex} (ok : ExOk NS n e) : Pv n (exD e) := by
  have wd : ∀ {x : Str} {r : List Dt}, WordOk x → ∀ w q, (Dt.str x :: r) = .str w :: q → WordOk w := fun h w q e => by
    cases e
    exact h
  have wo : ∀ {x : Str}, x ∈ outT → WordOk x := fun h => .inr h
  have wn : ∀ {x : Str}, x ∈ needT.map (·.1) → WordOk x := fun h => .inl h
  have m1 : ∀ {n : Nat} {a : Dt}, Pv n a → ∀ d ∈ [a], Pv n d := fun h d hd => by
    rw [List.mem_singleton.mp hd]
    exact h
  have m2 : ∀ {n : Nat} {a b : Dt}, Pv n a → Pv n b → ∀ d ∈ [a, b], Pv n d := fun h1 h2 d hd => by
    simp only [List.mem_cons, List.not_mem_nil, or_false] at hd
    rcases hd with rfl | rfl <;> assumption
  have m3 : ∀ {n : Nat} {a b c : Dt}, Pv n a → Pv n b → Pv n c → ∀ d ∈ [a, b, c], Pv n d := fun h1 h2 h3 d hd => by
    simp only [List.mem_cons, List.not_mem_nil, or_false] at hd
    rcases hd with rfl | rfl | rfl <;> assumption
  have m4 : ∀ {n : Nat} {a b c e : Dt}, Pv n a → Pv n b → Pv n c → Pv n e → ∀ d ∈ [a, b, c, e], Pv n d := fun h1 h2 h3 h4 d hd => by
    simp only [List.mem_cons, List.not_mem_nil, or_false] at hd
    rcases hd with rfl | rfl | rfl | rfl <;> assumption
  have st : ∀ {n : Nat} {x : Str}, WordOk x → Pv n (.str x) := fun {n x} h => .str (by
    rcases h with h | h
    · revert x
      decide +kernel
    · revert x
      decide +kernel)
  induction ok with
  | var h _ _ => exact .tup (Nat.le_of_ble_eq_true rfl) (wd (wo (by decide))) (m3 (st (wo (by decide))) (.str h.1) (.int _))
  | pre h => exact .tup (Nat.le_of_ble_eq_true rfl) (wd (wo (by decide))) (m2 (st (wo (by decide))) (.str h.1))
  | lit h =>
    cases h with
    | num _ => exact .tup (Nat.le_of_ble_eq_true rfl) (wd (wo (by decide))) (m2 (st (wo (by decide))) (.rat _ _))
    | truth _ => exact .tup (Nat.le_of_ble_eq_true rfl) (wd (wo (by decide))) (m2 (st (wo (by decide))) (.bl _))
    | time => exact .tup (Nat.le_of_ble_eq_true rfl) (wd (wo (by decide))) (m1 (st (wo (by decide))))
    | initial => exact .tup (Nat.le_of_ble_eq_true rfl) (wd (wo (by decide))) (m1 (st (wo (by decide))))
    | sample _ _ _ => exact .tup (Nat.le_of_ble_eq_true rfl) (wd (wo (by decide))) (m3 (st (wo (by decide))) (.rat _ _) (.rat _ _))
  | @un d w e hw _ ih =>
    have h : WordOk w := wn (by revert hw; revert w; decide +kernel)
    exact .tup (Nat.le_of_ble_eq_true rfl) (wd h) (m2 (st h) ih)
  | @bin d w e f hw _ _ i1 i2 =>
    have h : WordOk w := wn (by revert hw; revert w; decide +kernel)
    exact .tup (Nat.le_of_ble_eq_true rfl) (wd h) (m3 (st h) i1 i2)
  | tern _ _ _ i1 i2 i3 =>
    have h : WordOk "if" := wn (by decide)
    exact .tup (Nat.le_of_ble_eq_true rfl) (wd h) (m4 (st h) i1 i2 i3)
theorem good_of {n : Nat} {d : Dt} (h1 : wfD d = true) (h2 : ∀ e ∈ partsV d, goodV n e = true) : goodV (n + 1) d = true := by
  show (wfD d && (partsV d).all (goodV n)) = true
  rw [h1, Bool.true_and]
  exact List.all_eq_true.mpr h2
theorem ex_good {n : Nat} {e : Ex} (ok : ExOk NS n e) : goodV n (exD e) = true := by
  have no : ∀ {d : Dt} {n : Nat}, partsV d = [] → ∀ e ∈ partsV d, goodV n e = true := fun h e he => by
    rw [h] at he
    cases he
  induction ok with
  | @var d x o h h0 h4 =>
    refine good_of ?_ (no rfl)
    show (nameS x && (decide (0 ≤ o) && decide (o ≤ 4))) = true
    rw [h.2, decide_eq_true h0, decide_eq_true h4]
    rfl
  | @pre d x h =>
    refine good_of ?_ (no rfl)
    show nameS x = true
    exact h.2
  | lit h =>
    cases h with
    | num _ => exact good_of rfl (no rfl)
    | truth _ => exact good_of rfl (no rfl)
    | time => exact good_of rfl (no rfl)
    | initial => exact good_of rfl (no rfl)
    | @sample n d n2 d2 _ _ h =>
      refine good_of ?_ (no rfl)
      show (true && decide (0 < n2)) = true
      rw [decide_eq_true h]
      rfl
  | @un d w e hw _ ih =>
    simp only [unL, List.mem_cons, List.not_mem_nil, or_false] at hw
    rcases hw with rfl | rfl <;>
    · refine good_of rfl fun f hf => ?_
      rw [List.mem_singleton.mp hf]
      exact ih
  | @bin d w e f hw _ _ i1 i2 =>
    simp only [binL, List.mem_cons, List.not_mem_nil, or_false] at hw
    rcases hw with rfl | rfl | rfl | rfl | rfl | rfl | rfl | rfl | rfl <;>
    · refine good_of rfl fun g hg => ?_
      have hg' : g ∈ [exD e, exD f] := hg
      simp only [List.mem_cons, List.not_mem_nil, or_false] at hg'
      rcases hg' with rfl | rfl <;> assumption
  | @tern d e f g _ _ _ i1 i2 i3 =>
    refine good_of rfl fun q hq => ?_
    have hq' : q ∈ [exD e, exD f, exD g] := hq
    simp only [List.mem_cons, List.not_mem_nil, or_false] at hq'
    rcases hq' with rfl | rfl | rfl <;> assumption
def leafL : List Str := ["num", "truth", "time", "initial", "var", "pre", "sample"]
/-- which words are well formed -/
theorem wf_word {x : Str} {r : List Dt} (hx : WordOk x) (h : wfD (.tup (.str x :: r)) = true) : ((needO x).isSome = true ∧ x ∉ leafL) ∨ (needO x = none ∧ x ∈ leafL ∧ leafD x r = true) := by
  rcases hx with hx | hx
  · left
    clear h
    revert hx
    revert x
    decide +kernel
  · have e : x ∈ leafL ∧ needO x = none ∨ x = "times" := by
      revert hx
      clear h
      revert x
      decide +kernel
    rcases e with ⟨h1, h2⟩ | rfl
    · have q : (match needO x with | some ks => decide (r.length = ks.length) | none => leafD x r) = true := h
      rw [h2] at q
      exact .inr ⟨h2, h1, q⟩
    · exfalso
      have q : leafD "times" r = true := h
      match r, q with
      | [], q => exact absurd q (by decide)
      | [a], q =>
        have q : singleD "times" a = true := q
        unfold singleD at q
        rw [if_neg (by decide), if_neg (by decide), decide_eq_false (by decide), Bool.false_and] at q
        cases q
      | [a, b], q =>
        have q : doubleD "times" a b = true := q
        unfold doubleD at q
        rw [if_neg (by decide), decide_eq_false (by decide), Bool.false_and] at q
        cases q
      | _ :: _ :: _ :: _, q => cases q
section
variable {P : Program} {w : World} {K : PySem.W.Frag} {mg : Str → Option Value} {base : Heap}
def wNames : Wz := fun ds Nv _ => ds = [] ∧ Nv (nmD true nm7) true
theorem ok__law_names (T : Top w K mg) : FnOk P w K mg base CX0 1 (He.ga K ("_law_names" : Str)) (fdOf K d__law_names) [] (spZ K wNames) := by
  refine (T.f__law_names).ok sc__law_names (fun vs H Q E h => spz_len h (n := 0) fun ds Nv Ne hw => ?_) (fun cdv A outer s H vs Q E hr h => ?_)
  · obtain ⟨rfl, _⟩ := hw
    rfl
  · refine z_fn h (PSs.nox (pss_cons (ps_set (i := 0) sc__law_names.nd rfl (Or.inl rfl) (pe_lst (pa_cons (pe_tup (pa_cons pe_str (pa_cons pe_int pa_nil))) (pa_cons (pe_tup (pa_cons pe_str (pa_cons pe_int pa_nil))) (pa_cons (pe_tup (pa_cons pe_str (pa_cons pe_int pa_nil))) (pa_cons (pe_tup (pa_cons pe_str (pa_cons pe_int pa_nil))) (pa_cons (pe_tup (pa_cons pe_str (pa_cons pe_int pa_nil))) (pa_cons (pe_tup (pa_cons pe_str (pa_cons pe_int pa_nil))) (pa_cons (pe_tup (pa_cons pe_str (pa_cons pe_int pa_nil))) pa_nil)))))))))
    (pss_one (ps_ret (pe_disp (pps_cons pe_str (pv 0) (pps_cons pe_str (pe_lst (pa_cons pe_str (pa_cons pe_str (pa_cons pe_str (pa_cons pe_str pa_nil))))) (pps_cons pe_str (pe_lst (pa_cons pe_str (pa_cons pe_str (pa_cons pe_str pa_nil)))) (pps_cons pe_str (pe_lst (pa_cons pe_str (pa_cons pe_str (pa_cons pe_str pa_nil)))) pps_nil)))) rfl rfl (List.cons_ne_nil _ _) (by decide)))))) fun ds Nv Ne hw => ?_
    obtain ⟨rfl, k⟩ := hw
    walk_at "zz"
    exact k
def wPartsL : Wz := fun ds Nv _ => ∃ m d, ds = [d] ∧ Pv m d ∧ wfD d = true ∧ Nv (.tup (partsV d)) false
theorem ok__law_parts (T : Top w K mg) : FnOk P w K mg base CX0 1 (He.ga K ("_law_parts" : Str)) (fdOf K d__law_parts) ["value"] (spZ K wPartsL) := by
  refine (T.f__law_parts).ok sc__law_parts (fun vs H Q E h => spz_len h (n := 1) fun ds Nv Ne hw => ?_) (fun cdv A outer s H vs Q E hr h => ?_)
  · obtain ⟨_, _, rfl, _⟩ := hw
    rfl
  · refine z_fn h (PSs.nox (pss_cons (ps_if (pt_cmpR (op_inK (K := K) rfl) (pe_ix (ix_tupK (K := K) rfl) (pv 0) pe_int (fun _ _ => rfl)) (pe_tup (pa_cons pe_str (pa_cons pe_str (pa_cons pe_str (pa_cons pe_str (pa_cons pe_str (pa_cons pe_str (pa_cons pe_str pa_nil)))))))) (by rfl))
    (pss_one (ps_ret (pe_tup pa_nil)))
    pss_nil)
    (pss_one (ps_ret (pe_slice sl_tup (pv 0) (po_some pe_int) po_none))))) fun ds Nv Ne hw => ?_
    obtain ⟨m, d, rfl, hp, hwf, k⟩ := hw
    obtain ⟨x, r, rfl⟩ := wf_shape hwf
    have hx : WordOk x := by
      cases hp with
      | tup _ h _ => exact h x r rfl
    walk_at "zz"
    refine ⟨_, leafL.map V.str, _, rfl, .inr rfl, rfl, _, rfl, ?_⟩
    rw [inV_strs, if_neg Bool.false_ne_true]
    rcases wf_word hx hwf with ⟨h1, h2⟩ | ⟨h1, h2, _⟩
    · refine zF (by simpa using h2) ?_
      walk_at "zz"
      rw [show partsV (.tup (.str x :: r)) = r from if_pos h1] at k
      exact k
    · refine zT (by simpa using h2) ?_
      walk_at "zz"
      rw [show partsV (.tup (.str x :: r)) = [] from if_neg (by rw [h1]; exact Bool.false_ne_true)] at k
      exact k
end
section
variable {P : Program} {w : World} {K : PySem.W.Frag} {mg : Str → Option Value} {base : Heap}
set_option maxHeartbeats 8000000 in
theorem lsize_step (T : Top w K mg) (n : Nat) (ih__law_size : FnOk P w K mg base CX0 (n + 2) (He.ga K ("_law_size" : Str)) (fdOf K d__law_size) ["value"] (spZ K (wSizeV n))) :
    FnOk P w K mg base CX0 (n + 3) (He.ga K ("_law_size" : Str)) (fdOf K d__law_size) ["value"] (spZ K (wSizeV (n + 1))) := by
  refine (T.f__law_size).ok sc__law_size (fun vs H Q E h => spz_len h (n := 1) fun ds Nv Ne hw => ?_) (fun cdv A outer s H vs Q E hr h => ?_)
  · obtain ⟨_, _, rfl, _⟩ := hw
    rfl
  · refine z_fn h (PSs.nox (pss_one (ps_ret (pe_op op_add pe_int (pe_callB (cr_sum rfl) (by rfl) T.n_sum (by decide +kernel) (pa_cons (pe_lockL (pe_lc (own := [(("part" : Str), 1)]) (g := (gName 1)) (tt := tYes) rfl sc__law_size.nd (pi_tupK (K := K) rfl (pe_call (ok__law_parts (K := K) T) (hr.mono (by omega)) rfl T.g__law_parts T.f__law_parts.kp T.b__law_parts .nil pass0 (pa_cons (pv 0) pa_nil))) (blkOk_by (N := ["value", "part"]) (sc := defScope s__law_size) (by decide +kernel)) (fun _ _ _ _ _ => (pg_name (i := 1) sc__law_size.nd rfl (Or.inl rfl))) (fun _ _ _ _ _ => pts_nil) (fun _ _ _ _ _ => (pe_call ih__law_size (hr.mono (by omega)) rfl T.g__law_size T.f__law_size.kp T.b__law_size .nil pass0 (pa_cons (pv 1) pa_nil))))) pa_nil)))))) fun ds Nv Ne hw => ?_
    obtain ⟨m, d, rfl, hp, hg, k⟩ := hw
    obtain ⟨hwf, hgp, m, rfl, hpp⟩ := good_split hp hg
    have hfew := few_parts hp
    walk_at "zz"
    refine ze_lcM (partsV d) id (fun e => some (.int (sizeV n e : Nat))) (zi_tup ?_)
    walk_at "zz"
    refine ⟨m + 1, d, olds1 hp.old, hp, hwf, _, rfl, (List.map_id _).symm, trivial, rfl, by omega, fun f hf => ?_, true, (partsV d).map fun e => ((sizeV n e : Nat) : Int), by rw [fm_somes, List.map_map]; rfl, ?_⟩
    · refine zgw_name (by decide) ?_
      walk_at "zz"
      exact ⟨m, f, olds1 (hpp f hf).old, hpp f hf, hgp f hf, rfl, rfl⟩
    · walk_at "zz"
      have e : ((partsV d).map fun e => ((sizeV n e : Nat) : Int)) = ((partsV d).map (sizeV n)).map fun (n : Nat) => (n : Int) := by rw [List.map_map]; rfl
      rw [e, sum_cast]
      have e2 : ((sizeV (n + 1) d : Nat) : Int) = 1 + ((((partsV d).map (sizeV n)).sum : Nat) : Int) := by
        show ((1 + ((partsV d).map (sizeV n)).sum : Nat) : Int) = _
        omega
      rw [← e2]
      exact k
theorem ok__law_size (T : Top w K mg) : ∀ n : Nat, FnOk P w K mg base CX0 (n + 2) (He.ga K ("_law_size" : Str)) (fdOf K d__law_size) ["value"] (spZ K (wSizeV n))
  | 0 => ⟨fun _ _ _ _ ⟨_, _, _, _, _, _, ⟨_, _, _, _, h, _⟩, _⟩ => (nomatch h), fun _ _ _ _ _ _ _ _ _ _ _ _ _ ⟨_, _, _, _, _, _, ⟨_, _, _, _, h, _⟩, _⟩ => (nomatch h)⟩
  | n + 1 => lsize_step T n (ok__law_size T n)
end
theorem ze_revL {z : Cz} {ρ : List Sl} {N : Dt → Bool → List Sl → Prop} {ta : TE} {K' : PySem.W.Frag} (h : ZE z ta ρ fun x _ ρ1 => ∃ t ds, x = .lst t ds ∧ N (.lst true ds.reverse) true ρ1) : ZE z (tRevL K' ta) ρ N := fun m F H σ Q S k => by
  refine h m F H σ _ S fun x fx ρ1 F1 H1 vx n1 s1 S1 r1 => ?_
  obtain ⟨F2, s2, S2, rx⟩ := rzF_frz S1 r1
  obtain ⟨t, ds, rfl, n⟩ := n1
  simp only [Rz] at rx
  obtain ⟨a, xs, rfl, e, _, r⟩ := rx
  exact ⟨a, xs, rfl, SqL.of (S2.le.exact e rfl), fun p hp => k _ _ _ _ _ _ n (s1.trans s2) (S2.newO hp) (rzF_new S2 hp (.lst r.rev))⟩
theorem ze_abs {z : Cz} {ρ : List Sl} {N : Dt → Bool → List Sl → Prop} {ta : TE} (h : ZE z ta ρ fun x _ ρ1 => ∃ j : Int, x = .int j ∧ N (.int (j.natAbs : Int)) false ρ1) : ZE z (tCB (fun xs H Q => ∃ i : Int, xs = [V.int i] ∧ Q (V.int (if i < 0 then -i else i)) H) (tCons ta tNil)) ρ N :=
  ze_CB1 (W := fun x N ρ1 => ∃ j : Int, x = .int j ∧ N (.int (j.natAbs : Int)) false ρ1) (fun x ρ2 N n1 m F H σ Q vx S r k => by
    obtain ⟨j, rfl, q⟩ := n1
    have e : (if j < 0 then -j else j) = (j.natAbs : Int) := by split <;> omega
    exact ⟨j, by rw [rz_i r], by rw [e]; exact k _ _ _ _ _ _ q (Same.refl F) S (rzF_f rzi)⟩) h
local macro_rules | `(tactic| walk_at "z1") => `(tactic| first | (with_reducible apply ze_abs) | ((with_reducible apply ze_join); exact rfl) | (with_reducible apply ze_fstr) | (with_reducible apply zj_cons) | (with_reducible apply zj_nil) | (with_reducible apply ze_fmt) | (with_reducible apply ze_mulStr) | (with_reducible apply ze_revL))
/-! ### texts of numbers -/
def intS (j : Int) : Str := (toString j : String)
def ratT (n d : Int) : Str := if d = 1 then intS n else intS n ++ ("/" : Str) ++ intS d
def sgnS (j : Int) : Str := if j < 0 then "-" else ""
theorem small_all {p : Int → Prop} [DecidablePred p] (h : ∀ k : Nat, k < 201 → p ((k : Int) - 100)) {j : Int} (hj : j.natAbs ≤ 100) : p j := by
  have := h (j + 100).toNat (by omega)
  rwa [show (((j + 100).toNat : Nat) : Int) - 100 = j from by omega] at this
theorem int_parts {j : Int} (hj : j.natAbs ≤ 100) : sgnS j ++ Txt.join "" [intS (j.natAbs : Int)] = intS j :=
  small_all (p := fun j => sgnS j ++ Txt.join "" [intS (j.natAbs : Int)] = intS j) (by decide +kernel) hj
theorem log_small {j : Int} (hj : j.natAbs ≤ 100) : (j.natAbs : Int).natAbs.log2 < 1920 := Nat.lt_of_le_of_lt (Nat.log2_le_self _) (by omega)
theorem log_smallI {j : Int} (hj : j.natAbs ≤ 100) : j.natAbs.log2 < 1920 := Nat.lt_of_le_of_lt (Nat.log2_le_self _) (by omega)
theorem int_len {j : Int} (hj : j.natAbs ≤ 100) : (intS j).length ≤ 4 :=
  small_all (p := fun j => (intS j).length ≤ 4) (by decide +kernel) hj
theorem len_app (a b : Str) : (a ++ b).length = a.length + b.length := by
  show (a.cps ++ b.cps).size = _
  rw [Array.size_append]
  rfl
theorem app_assoc (a b c : Str) : a ++ b ++ c = a ++ (b ++ c) := by
  show (⟨a.cps ++ b.cps ++ c.cps⟩ : Str) = ⟨a.cps ++ (b.cps ++ c.cps)⟩
  rw [Array.append_assoc]
theorem emp_app (a : Str) : Str.empty ++ a = a := by
  show (⟨#[] ++ a.cps⟩ : Str) = a
  rw [Array.empty_append]
section
variable {P : Program} {w : World} {K : PySem.W.Frag} {mg : Str → Option Value} {base : Heap}
def wIntT : Wz := fun ds Nv _ => ∃ j : Int, ds = [.int j] ∧ j.natAbs ≤ 100 ∧ Nv (.str (intS j)) false
theorem ok__integer_text (T : Top w K mg) : FnOk P w K mg base CX0 1 (He.ga K ("_integer_text" : Str)) (fdOf K d__integer_text) ["number"] (spZ K wIntT) := by
  refine (T.f__integer_text).ok sc__integer_text (fun vs H Q E h => spz_len h (n := 1) fun ds Nv Ne hw => ?_) (fun cdv A outer s H vs Q E hr h => ?_)
  · obtain ⟨_, rfl, _⟩ := hw
    rfl
  · refine z_fn h (PSs.nox (pss_cons (ps_set (i := 1) sc__integer_text.nd rfl (Or.inl rfl) (pe_ifExp (pt_cmpR op_lt (pv 0) pe_int (nomark _)) pe_str pe_str))
    (pss_cons (ps_set (i := 2) sc__integer_text.nd rfl (Or.inl rfl) (pe_callB call_abs (by rfl) T.n_abs (by decide +kernel) (pa_cons (pv 0) pa_nil)))
    (pss_cons (ps_set (i := 3) sc__integer_text.nd rfl (Or.inl rfl) (pe_lst pa_nil))
    (pss_cons (ps_while PassesOwn.never (pt_cmpR op_ge (pv 2) (pe_globE rfl T.i_CHUNK) (nomark _))
    (pss_cons (ps_asg (pe_callB call_divmodW (by rfl) T.n_divmod (by decide +kernel) (pa_cons (pv 2) (pa_cons (pe_globE rfl T.i_CHUNK) pa_nil))) (pg_tup (by rfl) (pgs_cons (pg_name (i := 2) sc__integer_text.nd rfl (Or.inl rfl)) (pgs_cons (pg_name (i := 4) sc__integer_text.nd rfl (Or.inl rfl)) pgs_nil))))
    (pss_one (ps_expr (pe_bm PySem.F.plainAttrs_list PySem.F.slot_list_append PySem.F.type_list_append mt_append (pv 3) (pa_cons (pe_bm PySem.F.plainAttrs_str PySem.F.slot_str_zfill PySem.F.type_str_zfill mt_zfill (pe_callTy call_str_int (by rfl) T.n_str (by decide +kernel) (pa_cons (pv 4) pa_nil)) (pa_cons (pe_globE rfl T.i_CHUNK_DIGITS) pa_nil)) pa_nil))))))
    (pss_cons (ps_expr (pe_bm PySem.F.plainAttrs_list PySem.F.slot_list_append PySem.F.type_list_append mt_append (pv 3) (pa_cons (pe_callTy call_str_int (by rfl) T.n_str (by decide +kernel) (pa_cons (pv 2) pa_nil)) pa_nil)))
    (pss_one (ps_ret (pe_op op_add_str (pv 1) (pe_bm PySem.F.plainAttrs_str PySem.F.slot_str_join PySem.F.type_str_join mt_join pe_str (pa_cons (pe_revL (pv 3)) pa_nil))))))))))) fun ds Nv Ne hw => ?_
    obtain ⟨j, rfl, hj, k⟩ := hw
    walk_at "zz"
    refine zD (fun c => ?_) (fun c => ?_)
    all_goals
      walk_at "zz"
      refine zs_while (fun _ ρ => ρ = [.v (.int j), .v (.str (sgnS j)), .v (.int (j.natAbs : Int)), .o (.lst true []), .un]) ⟨0, by simp only [sgnS, c]; rfl⟩ ?_
      rintro _ ρ rfl
      walk_at "zz"
      refine zD (fun q => ?_) (fun q => ?_)
      · omega
      · walk_at "zz"
        refine ⟨log_small hj, [], rfl, by decide, ?_⟩
        walk_at "zz"
        refine ⟨true, [.str (intS (j.natAbs : Int))], rfl, ?_⟩
        walk_at "zz"
        refine ⟨[intS (j.natAbs : Int)], .inl ⟨_, rfl⟩, ?_⟩
        have l1 := int_len (j := (j.natAbs : Int)) (by omega)
        have l2 := congrArg Str.length (int_parts hj)
        have l3 := int_len hj
        rw [len_app] at l2
        refine ⟨by simp only [List.map_cons, List.map_nil, List.sum_cons, List.sum_nil, List.length_singleton]; have : (Str.ofString "").length = 0 := (by decide +kernel); omega, ?_⟩
        walk_at "zz"
        refine ⟨by omega, ?_⟩
        rw [int_parts hj]
        exact k
/-- what stands behind a word -/
def atT : At → Str
  | .rat n d => ratT n d
  | .bl b => if b = true then "true" else "false"
def AtS : At → Prop
  | .rat n d => RatOk n d
  | .bl _ => True
theorem rat_len {n d : Int} (h : RatOk n d) : (ratT n d).length ≤ 9 := by
  unfold ratT
  have a := int_len h.2.1
  have b := int_len h.2.2
  split
  · omega
  · rw [len_app, len_app]
    have : ("/" : Str).length = 1 := by decide +kernel
    omega
def wRatT : Wz := fun ds Nv _ => ∃ a, ds = [atD a] ∧ AtS a ∧ Nv (.str (atT a)) false
theorem ok_ratio_text (T : Top w K mg) : FnOk P w K mg base CX0 2 (He.ga K ("ratio_text" : Str)) (fdOf K d_ratio_text) ["value"] (spZ K wRatT) := by
  refine (T.f_ratio_text).ok sc_ratio_text (fun vs H Q E h => spz_len h (n := 1) fun ds Nv Ne hw => ?_) (fun cdv A outer s H vs Q E hr h => ?_)
  · obtain ⟨_, rfl, _⟩ := hw
    rfl
  · refine z_fn h (PSs.nox (pss_cons (ps_if (pt_val (pe_callB (call_isiK' (K := K) rfl) (by rfl) T.n_isinstance (by decide +kernel) (pa_cons (pv 0) (pa_cons (pe_bltn (v := .ty "bool") rfl T.n_bool (by decide +kernel) rfl) pa_nil))))
    (pss_one (ps_ret (pe_ifExp (pt_truth (pv 0) (by intro _; rfl)) pe_str pe_str)))
    pss_nil)
    (pss_cons (ps_if (pt_cmpR op_eq (pe_fldK (K := K) rfl (pv 0) rfl) pe_int (nomark _))
    (pss_one (ps_ret (pe_call (ok__integer_text (K := K) T) (hr.mono (by decide)) rfl T.g__integer_text T.f__integer_text.kp T.b__integer_text .nil pass0 (pa_cons (pe_fldK (K := K) rfl (pv 0) rfl) pa_nil))))
    pss_nil)
    (pss_one (ps_ret (pe_joined (.cons (pe_fmt (pe_call (ok__integer_text (K := K) T) (hr.mono (by decide)) rfl T.g__integer_text T.f__integer_text.kp T.b__integer_text .nil pass0 (pa_cons (pe_fldK (K := K) rfl (pv 0) rfl) pa_nil))) (.cons pe_str (.cons (pe_fmt (pe_call (ok__integer_text (K := K) T) (hr.mono (by decide)) rfl T.g__integer_text T.f__integer_text.kp T.b__integer_text .nil pass0 (pa_cons (pe_fldK (K := K) rfl (pv 0) rfl) pa_nil))) .nil))))))))) fun ds Nv Ne hw => ?_
    obtain ⟨a, rfl, ha, k⟩ := hw
    cases a with
    | bl b =>
      have e : atD (.bl b) = .bl b := rfl
      rw [e]
      walk_at "zz"
      refine ⟨_, true, .bl _, of_decide_eq_true T.x_kit_t_bool_t_bool, ?_⟩
      walk_at "zz"
      refine zt_tru ?_
      walk_at "zz"
      refine ⟨b, .bl b, ?_⟩
      cases b with
      | true =>
        rw [if_pos rfl]
        walk_at "zz"
        exact k
      | false =>
        rw [if_neg (by decide)]
        walk_at "zz"
        exact k
    | rat n d =>
      have e : atD (.rat n d) = .rat n d := rfl
      rw [e]
      walk_at "zz"
      refine ⟨_, false, .rat _ _ T.x_isi_Ratio T.cls_Ratio, of_decide_eq_true T.x_kit_Ratio_t_bool, ?_⟩
      walk_at "zz"
      refine ⟨_, _, .bot _ _, T.cls_Ratio, T.na_Ratio_bottom, ?_⟩
      walk_at "zz"
      refine zD (fun c => ?_) (fun c => ?_)
      · walk_at "zz"
        refine ⟨_, _, .top _ _, T.cls_Ratio, T.na_Ratio_top, ?_⟩
        walk_at "zz"
        refine ⟨ha.2.1, ?_⟩
        have e2 : atT (.rat n d) = intS n := if_pos c
        rw [← e2]
        exact k
      · walk_at "zz"
        refine ⟨_, _, .top _ _, T.cls_Ratio, T.na_Ratio_top, ?_⟩
        walk_at "zz"
        have l1 := int_len ha.2.1
        have l2 := int_len ha.2.2
        have l3 : ("/" : Str).length = 1 := by decide +kernel
        refine ⟨ha.2.1, _, rfl, by omega, _, rfl, by rw [emp_app]; omega, ?_⟩
        rw [emp_app]
        walk_at "zz"
        refine ⟨by rw [len_app]; omega, ?_⟩
        walk_at "zz"
        refine ⟨_, _, .bot _ _, T.cls_Ratio, T.na_Ratio_bottom, ?_⟩
        walk_at "zz"
        refine ⟨ha.2.2, _, rfl, by omega, _, rfl, by rw [len_app, len_app]; omega, ?_⟩
        walk_at "zz"
        have e2 : atT (.rat n d) = intS n ++ ("/" : Str) ++ intS d := if_neg c
        rw [e2] at k
        exact k
def wRatL : Wz := fun ds Nv _ => ∃ n d, ds = [.rat n d] ∧ RatOk n d ∧ Nv (.str (ratT n d)) false
theorem ok__law_number_text (T : Top w K mg) : FnOk P w K mg base CX0 2 (He.ga K ("_law_number_text" : Str)) (fdOf K d__law_number_text) ["ratio"] (spZ K wRatL) := by
  refine (T.f__law_number_text).ok sc__law_number_text (fun vs H Q E h => spz_len h (n := 1) fun ds Nv Ne hw => ?_) (fun cdv A outer s H vs Q E hr h => ?_)
  · obtain ⟨_, _, rfl, _⟩ := hw
    rfl
  · refine z_fn h (PSs.nox (pss_cons (ps_if (pt_cmpR op_eq (pe_fldK (K := K) rfl (pv 0) rfl) pe_int (nomark _))
    (pss_one (ps_ret (pe_callTy call_str_int (by rfl) T.n_str (by decide +kernel) (pa_cons (pe_fldK (K := K) rfl (pv 0) rfl) pa_nil))))
    pss_nil)
    (pss_one (ps_ret (pe_op op_add_str (pe_op op_add_str (pe_callTy call_str_int (by rfl) T.n_str (by decide +kernel) (pa_cons (pe_fldK (K := K) rfl (pv 0) rfl) pa_nil)) pe_str) (pe_callTy call_str_int (by rfl) T.n_str (by decide +kernel) (pa_cons (pe_fldK (K := K) rfl (pv 0) rfl) pa_nil))))))) fun ds Nv Ne hw => ?_
    obtain ⟨n, d, rfl, ha, k⟩ := hw
    walk_at "zz"
    refine ⟨_, _, .bot _ _, T.cls_Ratio, T.na_Ratio_bottom, ?_⟩
    walk_at "zz"
    refine zD (fun c => ?_) (fun c => ?_)
    · walk_at "zz"
      refine ⟨_, _, .top _ _, T.cls_Ratio, T.na_Ratio_top, ?_⟩
      walk_at "zz"
      refine ⟨log_smallI ha.2.1, ?_⟩
      have e2 : ratT n d = intS n := if_pos c
      rw [e2] at k
      exact k
    · walk_at "zz"
      refine ⟨_, _, .top _ _, T.cls_Ratio, T.na_Ratio_top, ?_⟩
      walk_at "zz"
      have l1 := int_len ha.2.1
      have l2 := int_len ha.2.2
      have l3 : ("/" : Str).length = 1 := by decide +kernel
      refine ⟨log_smallI ha.2.1, ?_⟩
      walk_at "zz"
      refine ⟨show (intS n).length + _ ≤ _ by omega, ?_⟩
      walk_at "zz"
      refine ⟨_, _, .bot _ _, T.cls_Ratio, T.na_Ratio_bottom, ?_⟩
      walk_at "zz"
      refine ⟨log_smallI ha.2.2, ?_⟩
      refine ⟨intS n ++ ("/" : Str), intS d, rfl, rfl, by rw [len_app]; omega, ?_⟩
      have e2 : ratT n d = intS n ++ ("/" : Str) ++ intS d := if_neg c
      rw [e2] at k
      exact k
end
local macro_rules | `(tactic| walk_at "z1") => `(tactic| first | (with_reducible apply ze_inStrs))
/-! ### texts of expressions -/
def NS9 (x : Str) : Prop := x.length ≤ 20 ∧ NS x
def nodeT (w : Str) (ts : List Str) : Str := w ++ ("(" : Str) ++ Txt.join "," ts ++ (")" : Str)
def litT (w : Str) : List At → Str
  | [] => w
  | [a] => atT a
  | a :: b :: _ => ("sample(" : Str) ++ atT a ++ ("," : Str) ++ atT b ++ (")" : Str)
def txE : Ex → Str
  | .var x o => ("@" : Str) ++ x ++ Txt.mul "'" o
  | .pre x => ("pre@" : Str) ++ x
  | .lit w ats => litT w ats
  | .un w e => nodeT w [txE e]
  | .bin w e f => nodeT w [txE e, txE f]
  | .tern e f g => nodeT "if" [txE e, txE f, txE g]
theorem join1 (g a : Str) : Txt.join g [a] = a := rfl
theorem join2 (g a b : Str) : Txt.join g [a, b] = a ++ g ++ b := rfl
theorem join3 (g a b c : Str) : Txt.join g [a, b, c] = a ++ g ++ b ++ g ++ c := rfl
def nodeL : List Str := ["neg", "not", "add", "sub", "mul", "div", "and", "or", "same", "less", "atmost", "if"]
theorem un_node : ∀ w ∈ unL, w ∈ nodeL := by decide +kernel
theorem bin_node : ∀ w ∈ binL, w ∈ nodeL := by decide +kernel
theorem node_need : ∀ w ∈ nodeL, (needO w).isSome = true := by decide +kernel
theorem node_len : ∀ w ∈ nodeL, w.length ≤ 6 := by decide +kernel
theorem node_nn : ∀ w ∈ nodeL, w ∉ (["num", "truth"] : List Str) := by decide +kernel
theorem node_nt : ∀ w ∈ nodeL, w ∉ (["time", "initial"] : List Str) := by decide +kernel
theorem node_ns : ∀ w ∈ nodeL, w ≠ "num" ∧ w ≠ "truth" ∧ w ≠ "var" ∧ w ≠ "pre" ∧ w ≠ "sample" := by decide +kernel
theorem ExOk.mono {N N' : Str → Prop} {e : Ex} {d : Nat} (h : ExOk N d e) (k : ∀ x, N x → N' x) : ExOk N' d e := by
  induction h with
  | var a b c => exact .var (k _ a) b c
  | pre a => exact .pre (k _ a)
  | lit a => exact .lit a
  | un a _ i => exact .un a i
  | bin a _ _ i j => exact .bin a i j
  | tern _ _ _ i j l => exact .tern i j l
inductive Shp (N : Str → Prop) (n : Nat) : Ex → Prop
  | var {x : Str} {o : Int} : N x → 0 ≤ o → o ≤ 4 → Shp N n (.var x o)
  | pre {x : Str} : N x → Shp N n (.pre x)
  | lit {w : Str} {ats : List At} : LitOk w ats → Shp N n (.lit w ats)
  | node {e : Ex} (x : Str) (es : List Ex) : x ∈ nodeL → exD e = .tup (.str x :: es.map exD) → txE e = nodeT x (es.map txE) → es.length ≤ 3 → 1 ≤ es.length → (∀ f ∈ es, ExOk N n f) → Shp N n e
theorem shp {N : Str → Prop} {n : Nat} {e : Ex} (ok : ExOk N (n + 1) e) : Shp N n e := by
  cases ok with
  | var a b c => exact .var a b c
  | pre a => exact .pre a
  | lit a => exact .lit a
  | @un _ w e hw i => exact .node w [e] (un_node w hw) rfl rfl (by simp) (by simp) (by intro f hf; simp only [List.mem_singleton] at hf; subst hf; exact i)
  | @bin _ w e f hw i j => exact .node w [e, f] (bin_node w hw) rfl rfl (by simp) (by simp) (by intro g hg; simp only [List.mem_cons, List.not_mem_nil, or_false] at hg; rcases hg with rfl | rfl <;> assumption)
  | @tern _ e f g i j k => exact .node "if" [e, f, g] (by decide +kernel) rfl rfl (by simp) (by simp) (by intro h hg; simp only [List.mem_cons, List.not_mem_nil, or_false] at hg; rcases hg with rfl | rfl | rfl <;> assumption)
theorem mul_ap {o : Int} (h0 : 0 ≤ o) (h4 : o ≤ 4) : PySem.MulOk ("'" : Str) o ∧ (Txt.mul "'" o).length ≤ 4 := by
  have : o = 0 ∨ o = 1 ∨ o = 2 ∨ o = 3 ∨ o = 4 := by omega
  rcases this with rfl | rfl | rfl | rfl | rfl <;> exact ⟨by unfold PySem.MulOk; decide +kernel, by decide +kernel⟩
theorem three_pos (n : Nat) : 1 ≤ 3 ^ n := Nat.pos_of_ne_zero (by simp)
theorem node_sum {n : Nat} {es : List Ex} (h1 : 1 ≤ es.length) (h : es.length ≤ 3) (hl : ∀ f ∈ es, (txE f).length + 30 ≤ 60 * 3 ^ n) : ((es.map txE).map (·.length)).sum + 40 ≤ 3 * (60 * 3 ^ n) := by
  have : ∀ xs : List Ex, (∀ f ∈ xs, (txE f).length + 30 ≤ 60 * 3 ^ n) → ((xs.map txE).map (·.length)).sum + 30 * xs.length ≤ xs.length * (60 * 3 ^ n) := by
    intro xs
    induction xs with
    | nil => intro _; simp
    | cons x xs ih =>
      intro k
      have a := ih fun f hf => k f (List.mem_cons_of_mem _ hf)
      have b := k x List.mem_cons_self
      simp only [List.map_cons, List.sum_cons, List.length_cons, Nat.add_mul, Nat.one_mul]
      omega
  have q := this es hl
  have p := three_pos n
  have c : es.length = 1 ∨ es.length = 2 ∨ es.length = 3 := by omega
  rcases c with c | c | c <;> (rw [c] at q; omega)
theorem join_len : ∀ ts : List Str, 1 ≤ ts.length → ts.length ≤ 3 → (Txt.join "," ts).length ≤ (ts.map (·.length)).sum + 2
  | [a], _, _ => by rw [join1]; simp only [List.map_cons, List.map_nil, List.sum_cons, List.sum_nil]; omega
  | [a, b], _, _ => by
    have : ("," : Str).length = 1 := by decide +kernel
    rw [join2, len_app, len_app]; simp only [List.map_cons, List.map_nil, List.sum_cons, List.sum_nil]; omega
  | [a, b, c], _, _ => by
    have : ("," : Str).length = 1 := by decide +kernel
    rw [join3, len_app, len_app, len_app, len_app]; simp only [List.map_cons, List.map_nil, List.sum_cons, List.sum_nil]; omega
  | _ :: _ :: _ :: _ :: _, _, h => by simp only [List.length_cons] at h; omega
theorem node_len2 (w : Str) (ts : List Str) : (nodeT w ts).length = w.length + (Txt.join "," ts).length + 2 := by
  unfold nodeT
  have a : ("(" : Str).length = 1 := by decide +kernel
  have b : (")" : Str).length = 1 := by decide +kernel
  rw [len_app, len_app, len_app]
  omega
theorem lit_len {w : Str} {ats : List At} (h : LitOk w ats) : (litT w ats).length ≤ 30 := by
  cases h with
  | num h => have := rat_len h; show (ratT _ _).length ≤ 30; omega
  | truth b => cases b <;> decide +kernel
  | time => decide +kernel
  | initial => decide +kernel
  | sample h g _ =>
    have a := rat_len h
    have b := rat_len g
    show (("sample(" : Str) ++ ratT _ _ ++ ("," : Str) ++ ratT _ _ ++ (")" : Str)).length ≤ 30
    have c : ("," : Str).length = 1 := by decide +kernel
    have d : (")" : Str).length = 1 := by decide +kernel
    have e : ("sample(" : Str).length = 7 := by decide +kernel
    rw [len_app, len_app, len_app, len_app]
    omega
theorem tx_len : ∀ {n : Nat} {e : Ex}, ExOk NS9 n e → (txE e).length + 30 ≤ 60 * 3 ^ n
  | 0, _, h => by cases h
  | n + 1, e, h => by
    have hp := three_pos n
    have hs : 60 * 3 ^ (n + 1) = 3 * (60 * 3 ^ n) := by rw [Nat.pow_succ]; omega
    rw [hs]
    cases shp h with
    | @var x o a b c =>
      have m := (mul_ap b c).2
      have l := a.1
      have d : ("@" : Str).length = 1 := by decide +kernel
      show (("@" : Str) ++ x ++ Txt.mul "'" o).length + 30 ≤ _
      rw [len_app, len_app]
      omega
    | @pre x a =>
      have l := a.1
      have d : ("pre@" : Str).length = 4 := by decide +kernel
      show (("pre@" : Str) ++ x).length + 30 ≤ _
      rw [len_app]
      omega
    | @lit w ats a =>
      have := lit_len a
      show (litT w ats).length + 30 ≤ _
      omega
    | node x es hx hd ht l3 l1 hf =>
      rw [ht, node_len2]
      have a := node_sum (n := n) l1 l3 fun f g => tx_len (hf f g)
      have b := join_len (es.map txE) (by rw [List.length_map]; exact l1) (by rw [List.length_map]; exact l3)
      have c := node_len x hx
      omega
section
variable {P : Program} {w : World} {K : PySem.W.Frag} {mg : Str → Option Value} {base : Heap}
def wTx (n : Nat) : Wz := fun ds Nv _ => ∃ e, ds = [exD e] ∧ ExOk NS9 n e ∧ n ≤ 6 ∧ Nv (.str (txE e)) false
set_option maxHeartbeats 8000000 in
theorem tx_step (T : Top w K mg) (n : Nat) (ih_expression_text : FnOk P w K mg base CX0 (n + 3) (He.ga K ("expression_text" : Str)) (fdOf K d_expression_text) ["expression"] (spZ K (wTx n))) :
    FnOk P w K mg base CX0 (n + 4) (He.ga K ("expression_text" : Str)) (fdOf K d_expression_text) ["expression"] (spZ K (wTx (n + 1))) := by
  refine (T.f_expression_text).ok sc_expression_text (fun vs H Q E h => spz_len h (n := 1) fun ds Nv Ne hw => ?_) (fun cdv A outer s H vs Q E hr h => ?_)
  · obtain ⟨_, rfl, _⟩ := hw
    rfl
  · refine z_fn h (PSs.nox (pss_cons (ps_set (i := 1) sc_expression_text.nd rfl (Or.inl rfl) (pe_ix (ix_tupK (K := K) rfl) (pv 0) pe_int (fun _ _ => rfl)))
    (pss_cons (ps_if (pt_cmpR (op_inK (K := K) rfl) (pv 1) (pe_tup (pa_cons pe_str (pa_cons pe_str pa_nil))) (by rfl))
    (pss_one (ps_ret (pe_call (ok_ratio_text (K := K) T) (hr.mono (by omega)) rfl T.g_ratio_text T.f_ratio_text.kp T.b_ratio_text .nil pass0 (pa_cons (pe_ix (ix_tupK (K := K) rfl) (pv 0) pe_int (fun _ _ => rfl)) pa_nil))))
    pss_nil)
    (pss_cons (ps_if (pt_cmpR (op_inK (K := K) rfl) (pv 1) (pe_tup (pa_cons pe_str (pa_cons pe_str pa_nil))) (by rfl))
    (pss_one (ps_ret (pv 1)))
    pss_nil)
    (pss_cons (ps_if (pt_cmpR op_eq (pv 1) pe_str (nomark _))
    (pss_one (ps_ret (pe_op op_add_str (pe_op op_add_str pe_str (pe_ix (ix_tupK (K := K) rfl) (pv 0) pe_int (fun _ _ => rfl))) (pe_op op_mul_str pe_str (pe_ix (ix_tupK (K := K) rfl) (pv 0) pe_int (fun _ _ => rfl))))))
    pss_nil)
    (pss_cons (ps_if (pt_cmpR op_eq (pv 1) pe_str (nomark _))
    (pss_one (ps_ret (pe_op op_add_str pe_str (pe_ix (ix_tupK (K := K) rfl) (pv 0) pe_int (fun _ _ => rfl)))))
    pss_nil)
    (pss_cons (ps_if (pt_cmpR op_eq (pv 1) pe_str (nomark _))
    (pss_one (ps_ret (pe_joined (.cons pe_str (.cons (pe_fmt (pe_call (ok_ratio_text (K := K) T) (hr.mono (by omega)) rfl T.g_ratio_text T.f_ratio_text.kp T.b_ratio_text .nil pass0 (pa_cons (pe_ix (ix_tupK (K := K) rfl) (pv 0) pe_int (fun _ _ => rfl)) pa_nil))) (.cons pe_str (.cons (pe_fmt (pe_call (ok_ratio_text (K := K) T) (hr.mono (by omega)) rfl T.g_ratio_text T.f_ratio_text.kp T.b_ratio_text .nil pass0 (pa_cons (pe_ix (ix_tupK (K := K) rfl) (pv 0) pe_int (fun _ _ => rfl)) pa_nil))) (.cons pe_str .nil))))))))
    pss_nil)
    (pss_cons (ps_set (i := 2) sc_expression_text.nd rfl (Or.inl rfl) (pe_bm PySem.F.plainAttrs_str PySem.F.slot_str_join PySem.F.type_str_join mt_join pe_str (pa_cons (pe_lockL (pe_lc (own := [(("part" : Str), 3)]) (g := (gName 3)) (tt := tYes) rfl sc_expression_text.nd (pi_listK (K := K) rfl (pe_call (ok_parts_of (K := K) T) (hr.mono (by omega)) rfl T.g_parts_of T.f_parts_of.kp T.b_parts_of .nil pass0 (pa_cons (pv 0) pa_nil))) (blkOk_by (N := ["expression", "word", "inner", "part"]) (sc := defScope s_expression_text) (by decide +kernel)) (fun _ _ _ _ _ => (pg_name (i := 3) sc_expression_text.nd rfl (Or.inl rfl))) (fun _ _ _ _ _ => pts_nil) (fun _ _ _ _ _ => (pe_call ih_expression_text (hr.mono (by omega)) rfl T.g_expression_text T.f_expression_text.kp T.b_expression_text .nil pass0 (pa_cons (pv 3) pa_nil))))) pa_nil)))
    (pss_one (ps_ret (pe_joined (.cons (pe_fmt (pv 1)) (.cons pe_str (.cons (pe_fmt (pv 2)) (.cons pe_str .nil))))))))))))))) fun ds Nv Ne hw => ?_
    obtain ⟨e, rfl, ok, hn, k⟩ := hw
    cases shp ok with
    | @var x o a b c =>
      have hm := mul_ap b c
      have hl := a.1
      walk_at "zz"
      refine ⟨_, [("num" : Str), ("truth" : Str)].map V.str, _, rfl, .inr rfl, rfl, ?_⟩
      rw [inV_strs, if_neg Bool.false_ne_true]
      refine ⟨_, rfl, zF (by decide +kernel) ?_⟩
      walk_at "zz"
      refine ⟨_, [("time" : Str), ("initial" : Str)].map V.str, _, rfl, .inr rfl, rfl, ?_⟩
      rw [inV_strs, if_neg Bool.false_ne_true]
      refine ⟨_, rfl, zF (by decide +kernel) ?_⟩
      walk_at "zz"
      refine ⟨by rw [show (Str.ofString "@").length = 1 from (by decide +kernel)]; omega, ?_⟩
      walk_at "zz"
      refine ⟨hm.1, ?_⟩
      refine ⟨("@" : Str) ++ x, Txt.mul "'" o, rfl, rfl, by rw [len_app, show ("@" : Str).length = 1 from (by decide +kernel)]; have := hm.2; omega, ?_⟩
      exact k
    | @pre x a =>
      have hl := a.1
      walk_at "zz"
      refine ⟨_, [("num" : Str), ("truth" : Str)].map V.str, _, rfl, .inr rfl, rfl, ?_⟩
      rw [inV_strs, if_neg Bool.false_ne_true]
      refine ⟨_, rfl, zF (by decide +kernel) ?_⟩
      walk_at "zz"
      refine ⟨_, [("time" : Str), ("initial" : Str)].map V.str, _, rfl, .inr rfl, rfl, ?_⟩
      rw [inV_strs, if_neg Bool.false_ne_true]
      refine ⟨_, rfl, zF (by decide +kernel) ?_⟩
      walk_at "zz"
      refine ⟨by rw [show (Str.ofString "pre@").length = 4 from (by decide +kernel)]; omega, ?_⟩
      exact k
    | @lit w ats a =>
      cases a with
      | @num n1 d1 h1 =>
        walk_at "zz"
        refine ⟨_, [("num" : Str), ("truth" : Str)].map V.str, _, rfl, .inr rfl, rfl, ?_⟩
        rw [inV_strs, if_neg Bool.false_ne_true]
        refine ⟨_, rfl, zT (by decide +kernel) ?_⟩
        walk_at "zz"
        exact ⟨.rat n1 d1, rfl, h1, k⟩
      | truth b =>
        walk_at "zz"
        refine ⟨_, [("num" : Str), ("truth" : Str)].map V.str, _, rfl, .inr rfl, rfl, ?_⟩
        rw [inV_strs, if_neg Bool.false_ne_true]
        refine ⟨_, rfl, zT (by decide +kernel) ?_⟩
        walk_at "zz"
        exact ⟨.bl b, rfl, trivial, k⟩
      | time =>
        walk_at "zz"
        refine ⟨_, [("num" : Str), ("truth" : Str)].map V.str, _, rfl, .inr rfl, rfl, ?_⟩
        rw [inV_strs, if_neg Bool.false_ne_true]
        refine ⟨_, rfl, zF (by decide +kernel) ?_⟩
        walk_at "zz"
        refine ⟨_, [("time" : Str), ("initial" : Str)].map V.str, _, rfl, .inr rfl, rfl, ?_⟩
        rw [inV_strs, if_neg Bool.false_ne_true]
        refine ⟨_, rfl, zT (by decide +kernel) ?_⟩
        walk_at "zz"
        exact k
      | initial =>
        walk_at "zz"
        refine ⟨_, [("num" : Str), ("truth" : Str)].map V.str, _, rfl, .inr rfl, rfl, ?_⟩
        rw [inV_strs, if_neg Bool.false_ne_true]
        refine ⟨_, rfl, zF (by decide +kernel) ?_⟩
        walk_at "zz"
        refine ⟨_, [("time" : Str), ("initial" : Str)].map V.str, _, rfl, .inr rfl, rfl, ?_⟩
        rw [inV_strs, if_neg Bool.false_ne_true]
        refine ⟨_, rfl, zT (by decide +kernel) ?_⟩
        walk_at "zz"
        exact k
      | @sample n1 d1 n2 d2 h1 h2 h3 =>
        walk_at "zz"
        refine ⟨_, [("num" : Str), ("truth" : Str)].map V.str, _, rfl, .inr rfl, rfl, ?_⟩
        rw [inV_strs, if_neg Bool.false_ne_true]
        refine ⟨_, rfl, zF (by decide +kernel) ?_⟩
        walk_at "zz"
        refine ⟨_, [("time" : Str), ("initial" : Str)].map V.str, _, rfl, .inr rfl, rfl, ?_⟩
        rw [inV_strs, if_neg Bool.false_ne_true]
        refine ⟨_, rfl, zF (by decide +kernel) ?_⟩
        walk_at "zz"
        have la := rat_len h1
        have lb := rat_len h2
        have l1 : (Str.ofString "sample(").length = 7 := by decide +kernel
        have l2 : (Str.ofString ",").length = 1 := by decide +kernel
        have l3 : (Str.ofString ")").length = 1 := by decide +kernel
        refine ⟨.rat n1 d1, rfl, h1, _, rfl, show (ratT n1 d1).length ≤ _ by omega, _, rfl, ?_, ?_⟩
        · show (Str.empty ++ Str.ofString "sample(" ++ ratT n1 d1).length ≤ _
          rw [emp_app, len_app]
          omega
        rw [emp_app]
        walk_at "zz"
        have l0 : (Str.ofString "sample(" ++ atT (At.rat n1 d1)).length ≤ 20 := by
          show (Str.ofString "sample(" ++ ratT n1 d1).length ≤ _
          rw [len_app]
          omega
        refine ⟨by rw [len_app]; omega, ?_⟩
        walk_at "zz"
        refine ⟨.rat n2 d2, rfl, h2, _, rfl, show (ratT n2 d2).length ≤ _ by omega, _, rfl, ?_, ?_⟩
        · show (Str.ofString "sample(" ++ atT (At.rat n1 d1) ++ Str.ofString "," ++ ratT n2 d2).length ≤ _
          rw [len_app, len_app]
          omega
        walk_at "zz"
        have l9 : (Str.ofString "sample(" ++ atT (At.rat n1 d1) ++ Str.ofString "," ++ atT (At.rat n2 d2)).length ≤ 40 := by
          show (Str.ofString "sample(" ++ atT (At.rat n1 d1) ++ Str.ofString "," ++ ratT n2 d2).length ≤ _
          rw [len_app, len_app]
          omega
        refine ⟨by rw [len_app]; omega, ?_⟩
        walk_at "zz"
        exact k
    | node x es hx hd ht l3 l1 hf =>
      rw [hd]
      obtain ⟨e1, e2, e3, e4, e5⟩ := node_ns x hx
      walk_at "zz"
      refine ⟨_, [("num" : Str), ("truth" : Str)].map V.str, _, rfl, .inr rfl, rfl, ?_⟩
      rw [inV_strs, if_neg Bool.false_ne_true]
      refine ⟨_, rfl, zF (fun h => node_nn x hx (of_decide_eq_true h)) ?_⟩
      walk_at "zz"
      refine ⟨_, [("time" : Str), ("initial" : Str)].map V.str, _, rfl, .inr rfl, rfl, ?_⟩
      rw [inV_strs, if_neg Bool.false_ne_true]
      refine ⟨_, rfl, zF (fun h => node_nt x hx (of_decide_eq_true h)) ?_⟩
      walk_at "zz"
      refine zF (fun h => e3 (of_decide_eq_true h)) ?_
      walk_at "zz"
      refine zF (fun h => e4 (of_decide_eq_true h)) ?_
      walk_at "zz"
      refine zF (fun h => e5 (of_decide_eq_true h)) ?_
      have okS : ExOk NS (n + 1) e := ok.mono fun _ h => h.2
      have hp : Pv (n + 1) (.tup (.str x :: es.map exD)) := hd ▸ ex_pv okS
      have hg : goodV (n + 1) (.tup (.str x :: es.map exD)) = true := hd ▸ ex_good okS
      obtain ⟨hwf, _, _⟩ := good_split hp hg
      have hparts : partsV (.tup (.str x :: es.map exD)) = es.map exD := if_pos (node_need x hx)
      have hb := node_sum (n := n) l1 l3 fun f g => tx_len (hf f g)
      have hb2 : 3 * (60 * 3 ^ n) ≤ 50000 := by
        have : 3 ^ n ≤ 3 ^ 5 := Nat.pow_le_pow_right (by decide) (by omega)
        have : (3 : Nat) ^ 5 = 243 := by decide
        omega
      have l2 : (Str.ofString ",").length = 1 := by decide +kernel
      walk_at "zz"
      refine ze_lcM es exD (fun f => some (.str (txE f))) (zi_list ?_)
      walk_at "zz"
      refine ⟨n, _, olds1 hp.old, hp, hwf, true, _, rfl, hparts, trivial, rfl, by omega, fun f hfm => ?_, ?_⟩
      · refine zgw_name (by decide) ?_
        walk_at "zz"
        exact ⟨f, olds1 (exD_old f), hf f hfm, by omega, rfl, rfl⟩
      · walk_at "zz"
        refine ⟨es.map txE, .inl ⟨_, by rw [fm_somes, List.map_map]; rfl⟩, by rw [l2, List.length_map]; omega, ?_⟩
        walk_at "zz"
        have lx := node_len x hx
        have lj := join_len (es.map txE) (by rw [List.length_map]; exact l1) (by rw [List.length_map]; exact l3)
        have lp : (Str.ofString "(").length = 1 := by decide +kernel
        have lq : (Str.ofString ")").length = 1 := by decide +kernel
        refine ⟨by omega, _, rfl, by rw [emp_app]; omega, ?_⟩
        rw [emp_app]
        walk_at "zz"
        refine ⟨by rw [len_app]; omega, ?_⟩
        walk_at "zz"
        refine ⟨by omega, _, rfl, by rw [len_app, len_app]; omega, ?_⟩
        walk_at "zz"
        refine ⟨by rw [len_app, len_app, len_app]; omega, ?_⟩
        walk_at "zz"
        rw [ht] at k
        exact k
theorem ok_expression_text (T : Top w K mg) : ∀ n : Nat, FnOk P w K mg base CX0 (n + 3) (He.ga K ("expression_text" : Str)) (fdOf K d_expression_text) ["expression"] (spZ K (wTx n))
  | 0 => ⟨fun _ _ _ _ ⟨_, _, _, _, _, _, ⟨_, _, h, _⟩, _⟩ => (nomatch h), fun _ _ _ _ _ _ _ _ _ _ _ _ _ ⟨_, _, _, _, _, _, ⟨_, _, h, _⟩, _⟩ => (nomatch h)⟩
  | n + 1 => tx_step T n (ok_expression_text T n)
end
local macro_rules | `(tactic| walk_at "z1") => `(tactic| first | ((with_reducible apply ze_intOf); exact rfl))
/-! ### the law's texts of expressions -/
section
variable {P : Program} {w : World} {K : PySem.W.Frag} {mg : Str → Option Value} {base : Heap}
set_option maxHeartbeats 8000000 in
theorem ltx_step (T : Top w K mg) (n : Nat) (ih__law_text : FnOk P w K mg base CX0 (n + 3) (He.ga K ("_law_text" : Str)) (fdOf K d__law_text) ["value"] (spZ K (wTx n))) :
    FnOk P w K mg base CX0 (n + 4) (He.ga K ("_law_text" : Str)) (fdOf K d__law_text) ["value"] (spZ K (wTx (n + 1))) := by
  refine (T.f__law_text).ok sc__law_text (fun vs H Q E h => spz_len h (n := 1) fun ds Nv Ne hw => ?_) (fun cdv A outer s H vs Q E hr h => ?_)
  · obtain ⟨_, rfl, _⟩ := hw
    rfl
  · refine z_fn h (PSs.nox (pss_cons (ps_set (i := 1) sc__law_text.nd rfl (Or.inl rfl) (pe_ix (ix_tupK (K := K) rfl) (pv 0) pe_int (fun _ _ => rfl)))
    (pss_cons (ps_if (pt_cmpR op_eq (pv 1) pe_str (nomark _))
    (pss_one (ps_ret (pe_call (ok__law_number_text (K := K) T) (hr.mono (by omega)) rfl T.g__law_number_text T.f__law_number_text.kp T.b__law_number_text .nil pass0 (pa_cons (pe_ix (ix_tupK (K := K) rfl) (pv 0) pe_int (fun _ _ => rfl)) pa_nil))))
    pss_nil)
    (pss_cons (ps_if (pt_cmpR op_eq (pv 1) pe_str (nomark _))
    (pss_one (ps_ret (pe_ix (ix_listK (K := K) rfl) (pe_lst (pa_cons pe_str (pa_cons pe_str pa_nil))) (pe_callTy call_int1 (by rfl) T.n_int (by decide +kernel) (pa_cons (pe_ix (ix_tupK (K := K) rfl) (pv 0) pe_int (fun _ _ => rfl)) pa_nil)) (fun _ _ => rfl))))
    pss_nil)
    (pss_cons (ps_if (pt_cmpR op_eq (pv 1) pe_str (nomark _))
    (pss_one (ps_ret (pe_op op_add_str (pe_op op_add_str pe_str (pe_ix (ix_tupK (K := K) rfl) (pv 0) pe_int (fun _ _ => rfl))) (pe_op op_mul_str pe_str (pe_ix (ix_tupK (K := K) rfl) (pv 0) pe_int (fun _ _ => rfl))))))
    pss_nil)
    (pss_cons (ps_if (pt_cmpR op_eq (pv 1) pe_str (nomark _))
    (pss_one (ps_ret (pe_op op_add_str pe_str (pe_ix (ix_tupK (K := K) rfl) (pv 0) pe_int (fun _ _ => rfl)))))
    pss_nil)
    (pss_cons (ps_if (pt_cmpR op_eq (pv 1) pe_str (nomark _))
    (pss_one (ps_ret (pe_op op_add_str (pe_op op_add_str (pe_op op_add_str (pe_op op_add_str pe_str (pe_call (ok__law_number_text (K := K) T) (hr.mono (by omega)) rfl T.g__law_number_text T.f__law_number_text.kp T.b__law_number_text .nil pass0 (pa_cons (pe_ix (ix_tupK (K := K) rfl) (pv 0) pe_int (fun _ _ => rfl)) pa_nil))) pe_str) (pe_call (ok__law_number_text (K := K) T) (hr.mono (by omega)) rfl T.g__law_number_text T.f__law_number_text.kp T.b__law_number_text .nil pass0 (pa_cons (pe_ix (ix_tupK (K := K) rfl) (pv 0) pe_int (fun _ _ => rfl)) pa_nil))) pe_str)))
    pss_nil)
    (pss_cons (ps_if (pt_cmpR op_eq (pe_callB (call_lenZ (K := K) rfl) (by rfl) T.n_len PySem.boot_len (pa_cons (pv 0) pa_nil)) pe_int (nomark _))
    (pss_one (ps_ret (pv 1)))
    pss_nil)
    (pss_one (ps_ret (pe_op op_add_str (pe_op op_add_str (pe_op op_add_str (pv 1) pe_str) (pe_bm PySem.F.plainAttrs_str PySem.F.slot_str_join PySem.F.type_str_join mt_join pe_str (pa_cons (pe_lockL (pe_lc (own := [(("part" : Str), 2)]) (g := (gName 2)) (tt := tYes) rfl sc__law_text.nd (pi_tupK (K := K) rfl (pe_slice sl_tup (pv 0) (po_some pe_int) po_none)) (blkOk_by (N := ["value", "word", "part"]) (sc := defScope s__law_text) (by decide +kernel)) (fun _ _ _ _ _ => (pg_name (i := 2) sc__law_text.nd rfl (Or.inl rfl))) (fun _ _ _ _ _ => pts_nil) (fun _ _ _ _ _ => (pe_call ih__law_text (hr.mono (by omega)) rfl T.g__law_text T.f__law_text.kp T.b__law_text .nil pass0 (pa_cons (pv 2) pa_nil))))) pa_nil))) pe_str))))))))))) fun ds Nv Ne hw => ?_
    obtain ⟨e, rfl, ok, hn, k⟩ := hw
    cases shp ok with
    | @var x o a b c =>
      have hm := mul_ap b c
      have hl := a.1
      walk_at "zz"
      refine ⟨by rw [show (Str.ofString "@").length = 1 from (by decide +kernel)]; omega, ?_⟩
      walk_at "zz"
      refine ⟨hm.1, ?_⟩
      refine ⟨("@" : Str) ++ x, Txt.mul "'" o, rfl, rfl, by rw [len_app, show ("@" : Str).length = 1 from (by decide +kernel)]; have := hm.2; omega, ?_⟩
      exact k
    | @pre x a =>
      have hl := a.1
      walk_at "zz"
      refine ⟨by rw [show (Str.ofString "pre@").length = 4 from (by decide +kernel)]; omega, ?_⟩
      exact k
    | @lit w ats a =>
      cases a with
      | @num n1 d1 h1 =>
        walk_at "zz"
        exact ⟨n1, d1, rfl, h1, k⟩
      | truth b =>
        walk_at "zz"
        refine .inr ⟨b, rfl, true, _, _, .str (atT (.bl b)), rfl, rfl, by cases b <;> rfl, ?_⟩
        exact k
      | time =>
        walk_at "zz"
        show Nv (.str ("time" : Str)) false
        exact k
      | initial =>
        walk_at "zz"
        show Nv (.str ("initial" : Str)) false
        exact k
      | @sample n1 d1 n2 d2 h1 h2 h3 =>
        have la := rat_len h1
        have lb := rat_len h2
        have l1 : (Str.ofString "sample(").length = 7 := by decide +kernel
        have l2 : (Str.ofString ",").length = 1 := by decide +kernel
        have l3 : (Str.ofString ")").length = 1 := by decide +kernel
        walk_at "zz"
        refine ⟨n1, d1, rfl, h1, _, _, rfl, rfl, by omega, ?_⟩
        walk_at "zz"
        refine ⟨by rw [len_app]; omega, ?_⟩
        walk_at "zz"
        refine ⟨n2, d2, rfl, h2, _, _, rfl, rfl, by rw [len_app, len_app]; omega, ?_⟩
        walk_at "zz"
        refine ⟨by rw [len_app, len_app, len_app]; omega, ?_⟩
        exact k
    | node x es hx hd ht l3 l1 hf =>
      rw [hd]
      obtain ⟨e1, e2, e3, e4, e5⟩ := node_ns x hx
      walk_at "zz"
      refine zF (fun h => e1 (of_decide_eq_true h)) ?_
      walk_at "zz"
      refine zF (fun h => e2 (of_decide_eq_true h)) ?_
      walk_at "zz"
      refine zF (fun h => e3 (of_decide_eq_true h)) ?_
      walk_at "zz"
      refine zF (fun h => e4 (of_decide_eq_true h)) ?_
      walk_at "zz"
      refine zF (fun h => e5 (of_decide_eq_true h)) ?_
      walk_at "zz"
      refine zF (fun h => by have q := of_decide_eq_true h; rw [List.length_cons, List.length_map] at q; have : es.length = 0 := (by omega); omega) ?_
      walk_at "zz"
      have hb := node_sum (n := n) l1 l3 fun f g => tx_len (hf f g)
      have hb2 : 3 * (60 * 3 ^ n) ≤ 50000 := by
        have : 3 ^ n ≤ 3 ^ 5 := Nat.pow_le_pow_right (by decide) (by omega)
        have : (3 : Nat) ^ 5 = 243 := by decide
        omega
      have l2 : (Str.ofString ",").length = 1 := by decide +kernel
      have lx := node_len x hx
      have lj := join_len (es.map txE) (by rw [List.length_map]; exact l1) (by rw [List.length_map]; exact l3)
      have lp : (Str.ofString "(").length = 1 := by decide +kernel
      have lq : (Str.ofString ")").length = 1 := by decide +kernel
      refine ⟨by omega, ?_⟩
      walk_at "zz"
      refine ze_lcM es exD (fun f => some (.str (txE f))) (zi_tup ?_)
      walk_at "zz"
      refine ⟨rfl, trivial, rfl, by omega, fun f hfm => ?_, ?_⟩
      · refine zgw_name (by decide) ?_
        walk_at "zz"
        exact ⟨f, olds1 (exD_old f), hf f hfm, by omega, rfl, rfl⟩
      · walk_at "zz"
        refine ⟨es.map txE, .inl ⟨_, by rw [fm_somes, List.map_map]; rfl⟩, by rw [l2, List.length_map]; omega, ?_⟩
        refine ⟨_, _, rfl, rfl, by rw [len_app]; omega, ?_⟩
        walk_at "zz"
        refine ⟨by rw [len_app, len_app]; omega, ?_⟩
        rw [ht] at k
        exact k
theorem ok__law_text (T : Top w K mg) : ∀ n : Nat, FnOk P w K mg base CX0 (n + 3) (He.ga K ("_law_text" : Str)) (fdOf K d__law_text) ["value"] (spZ K (wTx n))
  | 0 => ⟨fun _ _ _ _ ⟨_, _, _, _, _, _, ⟨_, _, h, _⟩, _⟩ => (nomatch h), fun _ _ _ _ _ _ _ _ _ _ _ _ _ ⟨_, _, _, _, _, _, ⟨_, _, h, _⟩, _⟩ => (nomatch h)⟩
  | n + 1 => ltx_step T n (ok__law_text T n)
end
/-! ### how many truths stand in a value -/
section
variable {P : Program} {w : World} {K : PySem.W.Frag} {mg : Str → Option Value} {base : Heap}
/-- how many truths stand in it -/
def trD : Nat → Dt → Int
  | 0, _ => 0
  | n + 1, .tup ds => (ds.map (trD n)).sum
  | _ + 1, .bl _ => 1
  | _ + 1, _ => 0
def wTr (n : Nat) : Wz := fun ds Nv _ => ∃ m d, ds = [d] ∧ Pv m d ∧ m < n ∧ Nv (.int (trD n d)) false
set_option maxHeartbeats 8000000 in
theorem tr_step (T : Top w K mg) (n : Nat) (ih__law_truths : FnOk P w K mg base CX0 (n + 1) (He.ga K ("_law_truths" : Str)) (fdOf K d__law_truths) ["value"] (spZ K (wTr n))) :
    FnOk P w K mg base CX0 (n + 2) (He.ga K ("_law_truths" : Str)) (fdOf K d__law_truths) ["value"] (spZ K (wTr (n + 1))) := by
  refine (T.f__law_truths).ok sc__law_truths (fun vs H Q E h => spz_len h (n := 1) fun ds Nv Ne hw => ?_) (fun cdv A outer s H vs Q E hr h => ?_)
  · obtain ⟨_, _, rfl, _⟩ := hw
    rfl
  · refine z_fn h (PSs.nox (pss_cons (ps_if (pt_val (pe_callB (call_isiK' (K := K) rfl) (by rfl) T.n_isinstance (by decide +kernel) (pa_cons (pv 0) (pa_cons (pe_bltn (v := .ty "tuple") rfl T.n_tuple (by decide +kernel) rfl) pa_nil))))
    (pss_one (ps_ret (pe_callB (cr_sum rfl) (by rfl) T.n_sum (by decide +kernel) (pa_cons (pe_lockL (pe_lc (own := [(("part" : Str), 1)]) (g := (gName 1)) (tt := tYes) rfl sc__law_truths.nd (pi_tupK (K := K) rfl (pv 0)) (blkOk_by (N := ["value", "part"]) (sc := defScope s__law_truths) (by decide +kernel)) (fun _ _ _ _ _ => (pg_name (i := 1) sc__law_truths.nd rfl (Or.inl rfl))) (fun _ _ _ _ _ => pts_nil) (fun _ _ _ _ _ => (pe_call ih__law_truths (hr.mono (by omega)) rfl T.g__law_truths T.f__law_truths.kp T.b__law_truths .nil pass0 (pa_cons (pv 1) pa_nil))))) pa_nil))))
    pss_nil)
    (pss_one (ps_ret (pe_callTy call_int1 (by rfl) T.n_int (by decide +kernel) (pa_cons (pe_callB (call_isiK' (K := K) rfl) (by rfl) T.n_isinstance (by decide +kernel) (pa_cons (pv 0) (pa_cons (pe_bltn (v := .ty "bool") rfl T.n_bool (by decide +kernel) rfl) pa_nil))) pa_nil)))))) fun ds Nv Ne hw => ?_
    obtain ⟨m, d, rfl, hp, hm, k⟩ := hw
    cases hp with
    | @tup m ds hl _ hk =>
      walk_at "zz"
      refine ⟨_, true, .tup _, of_decide_eq_true T.x_kit_t_tuple_t_tuple, ?_⟩
      walk_at "zz"
      refine ze_lcM ds id (fun e => some (.int (trD n e))) (zi_tup ?_)
      walk_at "zz"
      refine ⟨(List.map_id _).symm, trivial, rfl, by omega, fun f hf => ?_, ?_⟩
      · refine zgw_name (by decide) ?_
        walk_at "zz"
        exact ⟨m, f, olds1 (hk f hf).old, hk f hf, by omega, rfl, rfl⟩
      · walk_at "zz"
        refine ⟨true, ds.map (trD n), by rw [fm_somes, List.map_map]; rfl, ?_⟩
        walk_at "zz"
        exact k
    | bl b =>
      walk_at "zz"
      refine ⟨_, false, .bl _, of_decide_eq_true T.x_kit_t_bool_t_tuple, ?_⟩
      walk_at "zz"
      refine ⟨_, true, .bl _, of_decide_eq_true T.x_kit_t_bool_t_bool, ?_⟩
      exact .inr ⟨true, rfl, k⟩
    | non =>
      walk_at "zz"
      refine ⟨_, false, .non, of_decide_eq_true T.x_kit_t_NoneType_t_tuple, ?_⟩
      walk_at "zz"
      refine ⟨_, false, .non, of_decide_eq_true T.x_kit_t_NoneType_t_bool, ?_⟩
      exact .inr ⟨false, rfl, k⟩
    | int i =>
      walk_at "zz"
      refine ⟨_, false, .int _, of_decide_eq_true T.x_kit_t_int_t_tuple, ?_⟩
      walk_at "zz"
      refine ⟨_, false, .int _, of_decide_eq_true T.x_kit_t_int_t_bool, ?_⟩
      exact .inr ⟨false, rfl, k⟩
    | str h =>
      walk_at "zz"
      refine ⟨_, false, .str _, of_decide_eq_true T.x_kit_t_str_t_tuple, ?_⟩
      walk_at "zz"
      refine ⟨_, false, .str _, of_decide_eq_true T.x_kit_t_str_t_bool, ?_⟩
      exact .inr ⟨false, rfl, k⟩
    | rat a b =>
      walk_at "zz"
      refine ⟨_, false, .rat _ _ T.x_isi_Ratio T.cls_Ratio, of_decide_eq_true T.x_kit_Ratio_t_tuple, ?_⟩
      walk_at "zz"
      refine ⟨_, false, .rat _ _ T.x_isi_Ratio T.cls_Ratio, of_decide_eq_true T.x_kit_Ratio_t_bool, ?_⟩
      exact .inr ⟨false, rfl, k⟩
    | lst hl hk =>
      walk_at "zz"
      refine ⟨_, false, .lst _ _, of_decide_eq_true T.x_kit_t_list_t_tuple, ?_⟩
      walk_at "zz"
      refine ⟨_, false, .lst _ _, of_decide_eq_true T.x_kit_t_list_t_bool, ?_⟩
      exact .inr ⟨false, rfl, k⟩
theorem ok__law_truths (T : Top w K mg) : ∀ n : Nat, FnOk P w K mg base CX0 (n + 1) (He.ga K ("_law_truths" : Str)) (fdOf K d__law_truths) ["value"] (spZ K (wTr n))
  | 0 => ⟨fun _ _ _ _ ⟨_, _, _, _, _, _, ⟨_, _, _, _, h, _⟩, _⟩ => absurd h (Nat.not_lt_zero _), fun _ _ _ _ _ _ _ _ _ _ _ _ _ ⟨_, _, _, _, _, _, ⟨_, _, _, _, h, _⟩, _⟩ => absurd h (Nat.not_lt_zero _)⟩
  | n + 1 => tr_step T n (ok__law_truths T n)
end
/-! ### the kinds and the sizes of the law's expressions -/
def kn (t : Bool) : Str := if t = true then "truth" else "number"
theorem kind_leaf {t : Bool} {s : Str} (h : s = kn t) : s = "either" ∨ s = kn t := .inr h
set_option maxHeartbeats 4000000 in
theorem ex_kind {N : Str → Prop} {t : Bool} {n : Nat} {e : Ex} (h : ExT N t n e) : kindV [] n (exD e) = "either" ∨ kindV [] n (exD e) = kn t := by
  induction h with
  | @var t d x o _ h0 h4 ht =>
    have q : kindV [] (d + 1) (exD (.var x o)) = if (decide (("var" : Str) = "pre") || (decide (("var" : Str) = "var") && decide (o = 0))) = true then (("either" : Str)) else usualS "var" := rfl
    rw [q]
    by_cases c : o = 0
    · subst c
      exact .inl (by decide +kernel)
    · cases t with
      | true => exact (c (ht rfl)).elim
      | false =>
        rw [decide_eq_false c]
        exact .inr (by decide +kernel)
  | pre _ => exact .inl rfl
  | num _ => exact .inr (Eq.trans (b := usualS "num") rfl (by decide +kernel))
  | time => exact .inr (Eq.trans (b := usualS "time") rfl (by decide +kernel))
  | truth _ => exact .inr (Eq.trans (b := usualS "truth") rfl (by decide +kernel))
  | initial => exact .inr (Eq.trans (b := usualS "initial") rfl (by decide +kernel))
  | sample _ _ _ => exact .inr (Eq.trans (b := usualS "sample") rfl (by decide +kernel))
  | @neg d e _ ih =>
    show joinS "neg" [kindV [] d (exD e)] ["number"] = _ ∨ joinS "neg" [kindV [] d (exD e)] ["number"] = _
    rcases ih with h | h <;> rw [h] <;> exact .inr (by decide +kernel)
  | @not d e _ ih =>
    show joinS "not" [kindV [] d (exD e)] ["truth"] = _ ∨ joinS "not" [kindV [] d (exD e)] ["truth"] = _
    rcases ih with h | h <;> rw [h] <;> exact .inr (by decide +kernel)
  | @ari d w e f hw _ _ i1 i2 =>
    have q : kindV [] (d + 1) (exD (.bin w e f)) = joinS w [kindV [] d (exD e), kindV [] d (exD f)] ["number", "number"] := by
      simp only [nbL, List.mem_cons, List.not_mem_nil, or_false] at hw
      rcases hw with rfl | rfl | rfl | rfl <;> rfl
    rw [q]
    simp only [nbL, List.mem_cons, List.not_mem_nil, or_false] at hw
    rcases hw with rfl | rfl | rfl | rfl <;> rcases i1 with h | h <;> rcases i2 with g | g <;> rw [h, g] <;> exact .inr (by decide +kernel)
  | @log d w e f hw _ _ i1 i2 =>
    have q : kindV [] (d + 1) (exD (.bin w e f)) = joinS w [kindV [] d (exD e), kindV [] d (exD f)] ["truth", "truth"] := by
      simp only [tbL, List.mem_cons, List.not_mem_nil, or_false] at hw
      rcases hw with rfl | rfl <;> rfl
    rw [q]
    simp only [tbL, List.mem_cons, List.not_mem_nil, or_false] at hw
    rcases hw with rfl | rfl <;> rcases i1 with h | h <;> rcases i2 with g | g <;> rw [h, g] <;> exact .inr (by decide +kernel)
  | @cmp d w e f hw _ _ i1 i2 =>
    have q : kindV [] (d + 1) (exD (.bin w e f)) = joinS w [kindV [] d (exD e), kindV [] d (exD f)] ["number", "number"] := by
      simp only [cbL, List.mem_cons, List.not_mem_nil, or_false] at hw
      rcases hw with rfl | rfl <;> rfl
    rw [q]
    simp only [cbL, List.mem_cons, List.not_mem_nil, or_false] at hw
    rcases hw with rfl | rfl <;> rcases i1 with h | h <;> rcases i2 with g | g <;> rw [h, g] <;> exact .inr (by decide +kernel)
  | @same d t e f _ _ i1 i2 =>
    show joinS "same" [kindV [] d (exD e), kindV [] d (exD f)] ["either", "either"] = _ ∨ joinS "same" [kindV [] d (exD e), kindV [] d (exD f)] ["either", "either"] = _
    cases t <;> rcases i1 with h | h <;> rcases i2 with g | g <;> rw [h, g] <;> exact .inr (by decide +kernel)
  | @tern d t e f g _ _ _ i1 i2 i3 =>
    show joinS "if" [kindV [] d (exD e), kindV [] d (exD f), kindV [] d (exD g)] ["truth", "either", "either"] = _ ∨ joinS "if" [kindV [] d (exD e), kindV [] d (exD f), kindV [] d (exD g)] ["truth", "either", "either"] = _
    cases t <;> rcases i1 with h | h <;> rcases i2 with g | g <;> rcases i3 with l | l <;> rw [h, g, l] <;> first | exact .inr (by decide +kernel) | exact .inl (by decide +kernel)
theorem ex_kind_ne {N : Str → Prop} {t : Bool} {n : Nat} {e : Ex} (h : ExT N t n e) : kindV [] n (exD e) ≠ "" := by
  rcases ex_kind h with q | q
  · rw [q]; decide +kernel
  · rw [q]; cases t <;> decide +kernel
theorem ex_isE {t : Bool} {n : Nat} {e : Ex} (h : ExT NS9 t n e) (hn : n ≤ 30) : isEV (exD e) = decide (sizeV 30 (exD e) ≤ 200) := by
  have h' := h.up hn
  unfold isEV isE0
  rw [ex_good (h'.ok.mono fun _ k => k.2), decide_eq_false (ex_kind_ne h'), Bool.true_and]
  exact Bool.and_true _
theorem leaf_parts {N : Str → Prop} {e : Ex} {w : Str} {ats : List At} (h : LitOk w ats) : partsV (exD (.lit w ats)) = [] := by
  cases h <;> rfl
theorem ex_size {N : Str → Prop} : ∀ {n : Nat} {e : Ex} (m : Nat), ExOk N n e → 2 * sizeV m (exD e) + 1 ≤ 3 ^ n
  | 0, _, _, h => by cases h
  | n + 1, e, 0, h => by
    have := three_pos n
    rw [Nat.pow_succ]
    show 2 * 1 + 1 ≤ _
    omega
  | n + 1, e, m + 1, h => by
    have hp := three_pos n
    rw [Nat.pow_succ]
    show 2 * (1 + ((partsV (exD e)).map (sizeV m)).sum) + 1 ≤ _
    cases shp h with
    | var _ _ _ => show 2 * (1 + 0) + 1 ≤ _; omega
    | pre _ => show 2 * (1 + 0) + 1 ≤ _; omega
    | lit a => cases a <;> (show 2 * (1 + 0) + 1 ≤ _; omega)
    | node x es hx hd ht l3 l1 hf =>
      have e1 : partsV (exD e) = es.map exD := by rw [hd]; exact if_pos (node_need x hx)
      rw [e1, List.map_map]
      have : ∀ xs : List Ex, (∀ f ∈ xs, ExOk N n f) → 2 * (xs.map (sizeV m ∘ exD)).sum + xs.length ≤ xs.length * 3 ^ n := by
        intro xs
        induction xs with
        | nil => intro _; simp
        | cons y ys ih =>
          intro k
          have a := ih fun f hf => k f (List.mem_cons_of_mem _ hf)
          have b := ex_size m (k y List.mem_cons_self)
          simp only [List.map_cons, List.sum_cons, List.length_cons, Nat.add_mul, Nat.one_mul, Function.comp_apply]
          omega
      have q := this es hf
      have c : es.length = 1 ∨ es.length = 2 ∨ es.length = 3 := by omega
      rcases c with c | c | c <;> (rw [c] at q; omega)
/-! ### texts taken apart -/
section
open TL
/-- lists of signs, joined by one sign -/
def JL (c : Nat) : List (List Nat) → List Nat
  | [] => []
  | [x] => x
  | x :: y :: r => x ++ c :: JL c (y :: r)
theorem tl_join (c : Nat) : ∀ ps : List Str, tl (Str.join ⟨#[c]⟩ ps) = JL c (ps.map tl)
  | [] => rfl
  | [_] => rfl
  | x :: y :: r => by
    show tl (x ++ ⟨#[c]⟩ ++ Str.join ⟨#[c]⟩ (y :: r)) = tl x ++ c :: JL c ((y :: r).map tl)
    rw [tl_append, tl_append, tl_join c (y :: r), List.append_assoc]
    rfl
theorem seg_eq {c : Nat} : ∀ {x y A B : List Nat}, c ∉ x → c ∉ y → x ++ c :: A = y ++ c :: B → x = y ∧ A = B
  | [], [], _, _, _, _, h => ⟨rfl, (List.cons.inj h).2⟩
  | [], b :: y, _, _, _, hy, h => (hy (by rw [(List.cons.inj h).1]; exact List.mem_cons_self)).elim
  | a :: x, [], _, _, hx, _, h => (hx (by rw [← (List.cons.inj h).1]; exact List.mem_cons_self)).elim
  | a :: x, b :: y, _, _, hx, hy, h => by
    obtain ⟨e1, e2⟩ := List.cons.inj h
    obtain ⟨e3, e4⟩ := seg_eq (fun k => hx (List.mem_cons_of_mem _ k)) (fun k => hy (List.mem_cons_of_mem _ k)) e2
    exact ⟨by rw [e1, e3], e4⟩
theorem JL_inj {c : Nat} : ∀ {X Y : List (List Nat)}, X ≠ [] → Y ≠ [] → (∀ x ∈ X, c ∉ x) → (∀ y ∈ Y, c ∉ y) → JL c X = JL c Y → X = Y
  | [], _, h, _, _, _, _ => (h rfl).elim
  | _ :: _, [], _, h, _, _, _ => (h rfl).elim
  | [x], [y], _, _, _, _, h => by rw [show x = y from h]
  | [x], y :: z :: r, _, _, hx, _, h => by
    have h' : x = y ++ c :: JL c (z :: r) := h
    exact (hx x List.mem_cons_self (by rw [h']; exact List.mem_append_right _ List.mem_cons_self)).elim
  | x :: z :: r, [y], _, _, _, hy, h => by
    have h' : x ++ c :: JL c (z :: r) = y := h
    exact (hy y List.mem_cons_self (by rw [← h']; exact List.mem_append_right _ List.mem_cons_self)).elim
  | x :: x2 :: r, y :: y2 :: s, _, _, hx, hy, h => by
    have h' : x ++ c :: JL c (x2 :: r) = y ++ c :: JL c (y2 :: s) := h
    obtain ⟨e1, e2⟩ := seg_eq (hx x List.mem_cons_self) (hy y List.mem_cons_self) h'
    have e3 := JL_inj (X := x2 :: r) (Y := y2 :: s) (by simp) (by simp) (fun k m => hx k (List.mem_cons_of_mem _ m)) (fun k m => hy k (List.mem_cons_of_mem _ m)) e2
    rw [e1, e3]
theorem split_join {c : Nat} {ps : List Str} (hn : ps ≠ []) (hf : ∀ p ∈ ps, c ∉ tl p) : Txt.split (Str.join ⟨#[c]⟩ ps) ⟨#[c]⟩ = ps := by
  have e := StrLaws.join_split (Str.join ⟨#[c]⟩ ps) ⟨#[c]⟩
  have f := StrLaws.split_free (Str.join ⟨#[c]⟩ ps) c
  have n := PyProof.Rows.split_pos (Str.join ⟨#[c]⟩ ps) ⟨#[c]⟩
  generalize Txt.split (Str.join ⟨#[c]⟩ ps) ⟨#[c]⟩ = qs at e f n
  have e' := congrArg tl e
  rw [tl_join, tl_join] at e'
  have m := JL_inj (c := c) (X := qs.map tl) (Y := ps.map tl) (by cases qs with | nil => cases n | cons _ _ => simp) (by cases ps with | nil => exact (hn rfl).elim | cons _ _ => simp)
    (fun x hx => by obtain ⟨q, hq, rfl⟩ := List.mem_map.mp hx; exact f q hq) (fun x hx => by obtain ⟨q, hq, rfl⟩ := List.mem_map.mp hx; exact hf q hq) e'
  have inj : ∀ {a b : List Str}, a.map tl = b.map tl → a = b := by
    intro a
    induction a with
    | nil => intro b h; cases b with | nil => rfl | cons _ _ => cases h
    | cons x xs ih =>
      intro b h
      cases b with
      | nil => cases h
      | cons y ys =>
        obtain ⟨e1, e2⟩ := List.cons.inj h
        rw [ext_tl e1, ih e2]
  exact inj m
/-- a text that ends in k times the sign c, and has it not ahead of that -/
theorem rstrip_many {c : Nat} {s : Str} (h : ∀ t, (tl s).getLast? = some t → t ≠ c) (k : Nat) : Txt.rstripChars (s ++ ⟨(List.replicate k c).toArray⟩) ⟨#[c]⟩ = s := by
  have hw : ((tl (s ++ ⟨(List.replicate k c).toArray⟩)).reverse.takeWhile (fun n => (⟨#[c]⟩ : Str).cps.contains n)).length = k := by
    rw [tl_append, List.reverse_append]
    have e1 : tl (⟨(List.replicate k c).toArray⟩ : Str) = List.replicate k c := rfl
    rw [e1, List.reverse_replicate]
    have go : ∀ k : Nat, ((List.replicate k c ++ (tl s).reverse).takeWhile (fun n => (⟨#[c]⟩ : Str).cps.contains n)).length = k := by
      intro k
      induction k with
      | zero =>
        rw [List.replicate_zero, List.nil_append]
        cases q : (tl s).reverse with
        | nil => rfl
        | cons t r =>
          have : (tl s).getLast? = some t := by
            rw [List.getLast?_eq_head?_reverse, q]
            rfl
          have ne := h t this
          rw [List.takeWhile_cons, if_neg (by simpa using ne)]
          rfl
      | succ k ih =>
        rw [List.replicate_succ, List.cons_append, List.takeWhile_cons, if_pos (by simp), List.length_cons, ih]
    exact go k
  unfold Txt.rstripChars Txt.stripBy
  have hl : (s ++ ⟨(List.replicate k c).toArray⟩ : Str).length = s.length + k := by
    rw [len_app]
    show s.length + (List.replicate k c).toArray.size = _
    simp
  have hhi : stripHi (fun n => (⟨#[c]⟩ : Str).cps.contains n) true (s ++ ⟨(List.replicate k c).toArray⟩) 0 = s.length := by
    unfold stripHi
    rw [if_pos rfl, List.drop_zero]
    have := hw
    rw [show (s ++ ⟨(List.replicate k c).toArray⟩ : Str).cps.toList = tl (s ++ ⟨(List.replicate k c).toArray⟩) from rfl, this, hl]
    omega
  have hsub : PySem.Builtin.Str.strSub (s ++ ⟨(List.replicate k c).toArray⟩) 0 s.length = s := by
    refine ext_tl ?_
    show (PySem.Builtin.Str.strSub _ 0 s.length).cps.toList = _
    rw [PySem.StrLaws.strSub_toList, List.drop_zero, Nat.sub_zero]
    rw [show (s ++ ⟨(List.replicate k c).toArray⟩ : Str).cps.toList = tl s ++ tl (⟨(List.replicate k c).toArray⟩ : Str) from tl_append _ _]
    exact List.take_left' (by simp [Str.length])
  have hlo : stripLo ((⟨#[c]⟩ : Str).cps.contains) false (s ++ ⟨(List.replicate k c).toArray⟩) = 0 := rfl
  split
  · rename_i q
    unfold stripSame at q
    rw [hlo, show stripHi ((⟨#[c]⟩ : Str).cps.contains) true (s ++ ⟨(List.replicate k c).toArray⟩) 0 = s.length from hhi, hl] at q
    have k0 : k = 0 := by
      have := (Bool.and_eq_true_iff.mp q).2
      have := of_decide_eq_true this
      omega
    subst k0
    refine ext_tl ?_
    rw [tl_append]
    exact List.append_nil _
  · unfold stripped
    rw [hlo, show stripHi ((⟨#[c]⟩ : Str).cps.contains) true (s ++ ⟨(List.replicate k c).toArray⟩) 0 = s.length from hhi]
    exact hsub
end
/-! ### reading small numbers -/
def dgS (n : Int) : Str := Txt.removeprefix (intS n) "-"
def rdB (n : Int) : Bool := Txt.isascii (dgS n) && Txt.isdigit (dgS n) && decide (1 ≤ (dgS n).length) && decide ((dgS n).length ≤ 3) && (decide (intS n = "0") || !decide ((dgS n).cps.toList.headD 0 = 48)) && decide (PySem.intText? (("0" : Str) ++ cutS (dgS n) none (some ((dgS n).length : Int))) = some (n.natAbs : Int)) && (decide (intS n = dgS n) == decide (0 ≤ n))
theorem rd_all {n : Int} (h : n.natAbs ≤ 100) : rdB n = true := small_all (p := fun n => rdB n = true) (by decide +kernel) h
theorem rgc64 {L : Nat} (h1 : 1 ≤ L) (h3 : L ≤ 3) : RgC (L : Int) (L : Int) 64 0 := by
  have : L = 1 ∨ L = 2 ∨ L = 3 := by omega
  rcases this with rfl | rfl | rfl <;> exact ⟨by decide, by decide, by decide, by decide⟩
theorem cmul0 : CMulW 0 64 := by unfold CMulW; decide +kernel
section
variable {P : Program} {w : World} {K : PySem.W.Frag} {mg : Str → Option Value} {base : Heap}
/-! ### BadText(at) -/
def okIx : V → Prop := fun v => ∃ i : Int, v = .int i ∧ i.natAbs.log2 < 1920
theorem ok_BadText___init__ (T : Top w K mg) : FnOk P w K mg base CX0 1 (He.ma K (He.ga K ("BadText" : Str)) ("__init__" : Str)) (fdOf K d_BadText___init__) ["self", "at"] (spExc K (He.ga K "BadText") "at" okIx) := by
  refine (T.f_BadText___init__).ok sc_BadText___init__ (fun vs H Q E h => ?_) (fun cdv A outer s H vs Q E hr h => ?_)
  · obtain ⟨a, v, rfl, _⟩ := h
    rfl
  · obtain ⟨a, v, rfl, ha, ⟨i, rfl, hi⟩, k⟩ := h
    refine ⟨_, PSs.nox (pss_cons (ps_expr (pe_lwinit T.x_lw_LinkworkError rfl T.g_LinkworkError (pa_cons (pv 0) (pa_cons (pe_joined (.cons pe_str (.cons (pe_fmt (pv 1)) (.cons pe_str .nil)))) pa_nil))))
    (pss_one (ps_ost (pv 0) (pv 1)))), ?_⟩
    walk_at "go"
    have hl := int_text_length_le (k := 1920) (by decide) hi
    have l1 : (Str.empty ++ Str.ofString "the text cannot be read from the index " ++ toString i).length ≤ 2000 := by
      rw [PySem.Str.length_append, PySem.Str.length_append]
      have e0 : (Str.ofString (toString i)).length = (toString i).length := PySem.ofString_length _
      have e1 : Str.empty.length = 0 := by decide +kernel
      have e2 : (Str.ofString "the text cannot be read from the index ").length = 39 := by decide +kernel
      omega
    refine .inr ⟨i, rfl, hi, _, rfl, Nat.le_trans l1 (by rw [sizeLine_eq]; decide), ?_⟩
    refine ⟨_, rfl, ?_, ?_⟩
    · rw [PySem.Str.length_append]
      have e2 : (Str.ofString " on").length = 3 := by decide +kernel
      rw [e2, sizeLine_eq]
      omega
    · refine ⟨a, _, _, rfl, by show 1 ≤ 1000; decide, (oexB_ok T.x_oex_BadText).1, ha, ?_⟩
      refine ⟨_, rfl, _, rfl, a, _, rfl, (oexB_ok T.x_oex_BadText).1, He.eqO_ok T.x_xf_BadText_at, .inl ⟨ha, fun dx nd ne => ?_⟩⟩
      exact k dx nd ne
end
local macro_rules | `(tactic| walk_at "z1") => `(tactic| first | (with_reducible apply ze_callR) | (with_reducible apply ze_partition) | (with_reducible apply ze_txt1) | (with_reducible apply ze_txt0B) | (with_reducible apply ze_slS) | (with_reducible apply ze_intTxt))
section
variable {P : Program} {w : World} {K : PySem.W.Frag} {mg : Str → Option Value} {base : Heap}
def wReadI : Wz := fun ds Nv _ => ∃ n : Int, ds = [.str (intS n)] ∧ n.natAbs ≤ 100 ∧ Nv (.int n) false
set_option maxHeartbeats 4000000 in
theorem ok__read_integer (T : Top w K mg) : FnOk P w K mg base (L2.CX P w) 3 (He.ga K ("_read_integer" : Str)) (fdOf K d__read_integer) ["text"] (spZ K wReadI) := by
  refine (T.f__read_integer).ok sc__read_integer (fun vs H Q E h => spz_len h (n := 1) fun ds Nv Ne hw => ?_) (fun cdv A outer s H vs Q E hr h => ?_)
  · obtain ⟨_, rfl, _⟩ := hw
    rfl
  · refine z_fn h ((pss_cons (ps_set (i := 1) sc__read_integer.nd rfl (Or.inl rfl) (pe_bm PySem.F.plainAttrs_str PySem.F.slot_str_removeprefix PySem.F.type_str_removeprefix mt_removeprefix (pv 0) (pa_cons pe_str pa_nil)))
    (pss_cons (ps_if (pt_not (PW.pt (pw_and (pt_val (pe_bm0 PySem.F.plainAttrs_str PySem.F.slot_str_isascii PySem.F.type_str_isascii mt_isascii (pv 1))) (pw_and1 (pt_val (pe_bm0 PySem.F.plainAttrs_str PySem.F.slot_str_isdigit PySem.F.type_str_isdigit mt_isdigit (pv 1)))))))
    (pss_one (ps_raise rfl (takes_of rfl rfl rfl rfl) (pmk_oex (oexB_ok T.x_oex_BadText).1 (oexB_ok T.x_oex_BadText).2.1 (oexB_ok T.x_oex_BadText).2.2 (ok_BadText___init__ (K := K) T) (hr.mono (by decide)) T.b_BadText___init__ .nil pass0 rfl T.g_BadText (pa_cons pe_int pa_nil))))
    pss_nil)
    (C8.pss_cut (ps_if (PW.pt (pw_and (pt_cmpR op_eq (pe_ix ix_str (pv 1) pe_int (fun _ _ => rfl)) pe_str (nomark _)) (pw_and1 (pt_cmpR op_ne (pv 0) pe_str (nomark _)))))
    (pss_one (ps_raise rfl (takes_of rfl rfl rfl rfl) (pmk_oex (oexB_ok T.x_oex_BadText).1 (oexB_ok T.x_oex_BadText).2.1 (oexB_ok T.x_oex_BadText).2.2 (ok_BadText___init__ (K := K) T) (hr.mono (by decide)) T.b_BadText___init__ .nil pass0 rfl T.g_BadText (pa_cons pe_int pa_nil))))
    pss_nil)
    (pss_cons (ps_set (i := 2) sc__read_integer.nd rfl (Or.inl rfl) (pe_op op_sub (pe_callB call_len_str (by rfl) T.n_len PySem.boot_len (pa_cons (pv 1) pa_nil)) (pe_op op_mulW (pe_op op_fdivG (pe_callB call_len_str (by rfl) T.n_len PySem.boot_len (pa_cons (pv 1) pa_nil)) (pe_globE rfl T.i_CHUNK_DIGITS)) (pe_globE rfl T.i_CHUNK_DIGITS))))
    (pss_cons (ps_set (i := 3) sc__read_integer.nd rfl (Or.inl rfl) (pe_callTy call_int_str (by rfl) T.n_int (by decide +kernel) (pa_cons (pe_op op_add_str pe_str (pe_slice sl_str (pv 1) po_none (po_some (pv 2)))) pa_nil)))
    (pss_cons (ps_lockL (ps_for (passes_of rfl) rfl (pi_range3 rfl T.n_range (pa_cons (pv 2) (pa_cons (pe_callB call_len_str (by rfl) T.n_len PySem.boot_len (pa_cons (pv 1) pa_nil)) (pa_cons (pe_globE rfl T.i_CHUNK_DIGITS) pa_nil)))) (pg_name (i := 4) sc__read_integer.nd rfl (Or.inl rfl))
    (pss_one (ps_set (i := 3) sc__read_integer.nd rfl (Or.inl rfl) (pe_op op_add (pe_op op_mulW (pv 3) (pe_globE rfl T.i_CHUNK)) (pe_callTy call_int_str (by rfl) T.n_int (by decide +kernel) (pa_cons (pe_slice sl_str (pv 1) (po_some (pv 4)) (po_some (pe_op op_add (pv 4) (pe_globE rfl T.i_CHUNK_DIGITS)))) pa_nil)))))))
    (pss_one (ps_ret (pe_ifExp (pt_cmpR op_ne (pv 0) (pv 1) (nomark _)) (pe_un un_neg (pv 3)) (pv 3))))))))))) fun ds Nv Ne hw => ?_
    obtain ⟨n, rfl, hn, k⟩ := hw
    have hb := rd_all hn
    unfold rdB at hb
    simp only [Bool.and_eq_true, decide_eq_true_eq] at hb
    obtain ⟨⟨⟨⟨⟨⟨b1, b2⟩, b3⟩, b4⟩, b5⟩, b6⟩, b7⟩ := hb
    have hl := int_len hn
    walk_at "zz"
    refine ⟨by omega, ?_⟩
    rw [show Txt.removeprefix (intS n) (Str.ofString "-") = dgS n from rfl]
    walk_at "zz"
    refine zT b1 ?_
    walk_at "zz"
    rw [b2]
    refine zF (by decide) ?_
    walk_at "zz"
    refine zs_cut (fun ρ => ρ = [.v (.str (intS n)), .v (.str (dgS n)), .un, .un, .un]) ?_ ?_
    rotate_left
    · rintro ρ rfl
      walk_at "zz"
      refine ⟨by omega, ?_⟩
      walk_at "zz"
      refine ⟨by omega, ?_⟩
      walk_at "zz"
      refine ⟨cdivG (b := 8) (by decide) (by decide) (by decide) (by decide), ?_⟩
      walk_at "zz"
      have hz : ((dgS n).length : Int).fdiv 64 = 0 := by
        have : (dgS n).length = 1 ∨ (dgS n).length = 2 ∨ (dgS n).length = 3 := by omega
        rcases this with h | h | h <;> rw [h] <;> decide
      rw [hz]
      refine ⟨cmul0, (dgS n).length, 0, rfl, rfl, ?_⟩
      rw [show ((dgS n).length : Int) - 0 = (dgS n).length from by omega]
      walk_at "zz"
      have hcl := cutS_length (dgS n) none (some ((dgS n).length : Int))
      have h0 : (Str.ofString "0").length = 1 := by decide +kernel
      refine ⟨by omega, _, _, rfl, rfl, by omega, _, _, rfl, b6, by rw [len_app]; omega, ?_⟩
      walk_at "zz"
      refine zs_forL (zi_range3 ?_)
      walk_at "zz"
      refine ⟨by omega, ?_⟩
      walk_at "zz"
      refine ⟨_, _, _, 0, rfl, rgc64 b3 b4, ?_⟩
      refine ⟨fun _ ρ => ρ = [.v (.str (intS n)), .v (.str (dgS n)), .v (.int (dgS n).length), .v (.int n.natAbs), .un], rfl, ?_, ?_⟩
      · rintro ρ rfl
        refine ⟨trivial, ?_⟩
        walk_at "zz"
        have e : decide (intS n = dgS n) = decide (0 ≤ n) := eq_of_beq b7
        rw [e]
        by_cases g : 0 ≤ n
        · rw [decide_eq_true g]
          refine zF (by decide) ?_
          walk_at "zz"
          rw [show ((n.natAbs : Nat) : Int) = n from by omega]
          exact k
        · rw [decide_eq_false g]
          refine zT (by decide) ?_
          walk_at "zz"
          rw [show -((n.natAbs : Nat) : Int) = n from by omega]
          exact k
      · intro i d ρ hd
        cases hd
    walk_at "zz"
    obtain ⟨c, r, hc⟩ : ∃ c r, (dgS n).cps.toList = c :: r := by
      cases q : (dgS n).cps.toList with
      | nil =>
        have : (dgS n).length = 0 := by show (dgS n).cps.size = 0; rw [← Array.length_toList, q]; rfl
        omega
      | cons c r => exact ⟨c, r, rfl⟩
    rw [hc] at b5
    refine ⟨_, 0, c, rfl, rfl, by omega, by rw [hc]; exact atI_k (k := 0) rfl, ?_⟩
    walk_at "zz"
    refine zD (fun q => ?_) (fun q => ?_)
    · have c48 : c = 48 := by
        have := congrArg (fun s : Str => s.cps.toList.headD 0) q
        exact this
      have t0 : intS n = "0" := by
        have b5' : decide (intS n = "0") = true ∨ _ := Bool.or_eq_true_iff.mp b5
        rcases b5' with h | h
        · exact of_decide_eq_true h
        · rw [c48] at h
          have : (!decide ((48 :: r).headD 0 = 48)) = false := rfl
          rw [this] at h
          cases h
      walk_at "zz"
      refine zF (by rw [t0]; decide +kernel) ?_
      walk_at "zz"
      exact rfl
    · walk_at "zz"
      exact rfl
end
/-! ### several except clauses, what an error left locked opened again -/
def wManyU (K : PySem.W.Frag) (l : List (Value × (Addr → Value → Option Addr → TS))) (Wout : WX) (H : Hp) (D : Ends) : WX :=
  wMany K Wout D (l.map fun p => (p.1, fun a cls d D σ H' => p.2 a cls d D σ (unLk H H')))
theorem hds_unlk {X : Cx} {H0 : Hp} (hz : ∀ b o u, X.H_0 b = some (.frz o u) → H0 b = some (.frz o u)) {hds : List ExceptHandler} {l : List (Value × (Addr → Value → Option Addr → TS))} (h : HdsOk X hds l) :
    HdsOk X hds (l.map fun p => (p.1, fun a cls d D σ H' => p.2 a cls d D σ (unLk H0 H'))) := by
  induction h with
  | nil => exact .nil
  | @cons x c ts b₀ suite np pos' hds2 l2 hc hsu r ih => exact .cons hc (fun a oe cls d pn h1 h2 => ps_unlk (H0 := H0) hz (hsu a oe cls d pn h1 h2)) ih
section
variable {X : Cx} {body : List Stmt} {h₀ : ExceptHandler} {hds : List ExceptHandler} {l : List (Value × (Addr → Value → Option Addr → TS))} {pos : Pos} {tb : WX → TS} {Wout : WX}
theorem ps_tryM (hs : X.stack = X.env :: X.outer) (hf : X.env.frame = some X.env.locals) (tk : Takes X Wout)
    (hb : ∀ (W : WX) (pn : List (Addr × Obj)) (xe : Value → Shared → Prop), Takes (X.tr pn xe) W → PassesOwn (model X.prog X.w) X.A X.env xe → PSs (X.tr pn xe) body (tb W))
    (hh : HdsOk X (h₀ :: hds) l) : PS X (.Try body (h₀ :: hds) [] [] pos) (fun D σ H => tb (wManyU X.K l Wout H D) D σ H) := ⟨fun pins s σ H D I q =>
  (ps_try_many hs hf tk hb (hds_unlk (H0 := H) (fun b o u z => I.base.frzs b o u z) hh)).run pins s σ H D I q⟩
end
/-! ### what catches -/
section
variable {z : Cz} {ρ : List Sl} {N : Zn} {ta : TA} {w : Wz} {i : Nat}
/-- an error of the class C, thrown where the locals are ρ, is caught -/
def Catch (z : Cz) (N : Zn) (W : Hp → Ends → WX) (ρ1 : List Sl) (C : Addr) : Prop := ∀ (m : Fm) (F F1 H H1 H' : Hp) (σ : L2.St) (D : Ends) (ρ0 : List Sl), Sm z m F H σ ρ0 → Same F F1 → Sm z m F1 H1 σ ρ1 → Le H1 H' →
  (∀ ρ' F' H' σ', N.nx ρ' → Same F F' → Sm z m F' H' σ' ρ' → D.nx σ' H') → (∀ d fr F' H' v, N.rt d fr → Same F F' → RtR z m F' H' fr d v → D.rt v H') →
  (∀ ρ' F' H' σ', N.bk ρ' → Same F F' → Sm z m F' H' σ' ρ' → D.bk σ' H') → (∀ ρ' F' H' σ', N.ct ρ' → Same F F' → Sm z m F' H' σ' ρ' → D.ct σ' H') → W H D (.ref C) none σ H'
theorem catch_as {K' : PySem.W.Frag} {c : Value} {ts : Addr → Value → Option Addr → TS} {Wout : WX} {ρ1 : List Sl} {C : Addr} (hK : K' = z.K) (ex : PySem.W.exmOne z.K (.ref C) c = some true)
    (h : ∀ a, ZS z (ts a (.ref C) none) (ρ1.set i (.v (.adr a))) ⟨fun ρ' => N.nx (ρ'.set i .un), N.rt, fun ρ' => N.bk (ρ'.set i .un), fun ρ' => N.ct (ρ'.set i .un)⟩) : Catch z N (wAsU K' c i ts Wout) ρ1 C :=
  fun m F F1 H H1 H' σ D ρ0 S s1 S1 le kn kr kb kc => by
  subst hK
  refine ⟨true, ex, fun _ a ha => ?_, fun q => Bool.noConfusion q⟩
  have S3 := S1.unLk S le
  exact h a m F1 (unLk H H') _ _ (S3.setv (d := .adr a) (by simp only [Rz])) (fun ρ' F' H'' σ' n s S4 => kn _ _ _ _ n (s1.trans s) S4.setu) (fun d fr F' H'' v n s R => kr _ _ _ _ _ n (s1.trans s) R)
    (fun ρ' F' H'' σ' n s S4 => kb _ _ _ _ n (s1.trans s) S4.setu) fun ρ' F' H'' σ' n s S4 => kc _ _ _ _ n (s1.trans s) S4.setu
theorem catch_only {K' : PySem.W.Frag} {c : Value} {ts : Addr → Value → Option Addr → TS} {Wout : WX} {ρ1 : List Sl} {C : Addr} (hK : K' = z.K) (ex : PySem.W.exmOne z.K (.ref C) c = some true)
    (h : ∀ a, ZS z (ts a (.ref C) none) ρ1 N) : Catch z N (wOnlyU K' c ts Wout) ρ1 C :=
  fun m F F1 H H1 H' σ D ρ0 S s1 S1 le kn kr kb kc => by
  subst hK
  refine ⟨true, ex, fun _ a ha => ?_, fun q => Bool.noConfusion q⟩
  exact h a m F1 (unLk H H') _ _ (S1.unLk S le) (fun ρ' F' H'' σ' n s S4 => kn _ _ _ _ n (s1.trans s) S4) (fun d fr F' H'' v n s R => kr _ _ _ _ _ n (s1.trans s) R)
    (fun ρ' F' H'' σ' n s S4 => kb _ _ _ _ n (s1.trans s) S4) fun ρ' F' H'' σ' n s S4 => kc _ _ _ _ n (s1.trans s) S4
theorem catch_yes {K' : PySem.W.Frag} {c : Value} {ts : Addr → Value → Option Addr → TS} {r : List (Value × (Addr → Value → Option Addr → TS))} {Wout : WX} {ρ1 : List Sl} {C : Addr} (hK : K' = z.K) (ex : PySem.W.exmOne z.K (.ref C) c = some true)
    (h : ∀ a, ZS z (ts a (.ref C) none) ρ1 N) : Catch z N (wManyU K' ((c, ts) :: r) Wout) ρ1 C :=
  fun m F F1 H H1 H' σ D ρ0 S s1 S1 le kn kr kb kc => by
  subst hK
  refine ⟨true, ex, fun _ a ha => ?_, fun q => Bool.noConfusion q⟩
  exact h a m F1 (unLk H H') _ _ (S1.unLk S le) (fun ρ' F' H'' σ' n s S4 => kn _ _ _ _ n (s1.trans s) S4) (fun d fr F' H'' v n s R => kr _ _ _ _ _ n (s1.trans s) R)
    (fun ρ' F' H'' σ' n s S4 => kb _ _ _ _ n (s1.trans s) S4) fun ρ' F' H'' σ' n s S4 => kc _ _ _ _ n (s1.trans s) S4
theorem catch_no {K' : PySem.W.Frag} {c : Value} {ts : Addr → Value → Option Addr → TS} {r : List (Value × (Addr → Value → Option Addr → TS))} {Wout : WX} {ρ1 : List Sl} {C : Addr} (hK : K' = z.K) (ex : PySem.W.exmOne z.K (.ref C) c = some false)
    (h : Catch z N (wManyU K' r Wout) ρ1 C) : Catch z N (wManyU K' ((c, ts) :: r) Wout) ρ1 C :=
  fun m F F1 H H1 H' σ D ρ0 S s1 S1 le kn kr kb kc => by
  subst hK
  exact ⟨false, ex, fun q => Bool.noConfusion q, fun _ => h m F F1 H H1 H' σ D ρ0 S s1 S1 le kn kr kb kc⟩
/-- try: return f(..) -/
theorem zs_tryRetC {W : Hp → Ends → WX} (h : ZA z ta ρ fun ds ρ1 => w (Dt.olds ds) N.rt fun C fs => fs = [] ∧ Catch z N W ρ1 C) :
    ZS z (fun D σ H => tRet (tCallS (spZ z.K w) (WE (W H D)) ta) D σ H) ρ N := fun m F H σ D S kn kr kb kc => by
  refine h m F H σ _ S fun ds ρ1 F1 H1 vs n1 s1 S1 r1 => ?_
  refine ⟨F1, Dt.olds ds, N.rt, _, S1.le, rzl_old _ _ r1, n1, fun d fr F' H' v nd g => ?_, fun C fs dd H' e er => ?_⟩
  · obtain ⟨S2, r2⟩ := S1.got g
    exact kr _ _ _ _ _ nd (s1.trans g.1) (rt_of S2 r2)
  · obtain ⟨rfl, e⟩ := e
    obtain ⟨le, hd⟩ := er
    cases hd
    exact e m F F1 H H1 H' σ D ρ S s1 S1 le kn kr kb kc
/-- try: x = f(..) -/
theorem zs_trySetC {W : Hp → Ends → WX} {g : TG} (h : ZA z ta ρ fun ds ρ1 => w (Dt.olds ds) (fun d fr => ZG z g d fr ρ1 N.nx) fun C fs => fs = [] ∧ Catch z N W ρ1 C) :
    ZS z (fun D σ H => tAsg (tCallS (spZ z.K w) (WE (W H D)) ta) g D σ H) ρ N := fun m F H σ D S kn kr kb kc => by
  refine h m F H σ _ S fun ds ρ1 F1 H1 vs n1 s1 S1 r1 => ?_
  refine ⟨F1, Dt.olds ds, (fun d fr => ZG z g d fr ρ1 N.nx), _, S1.le, rzl_old _ _ r1, n1, fun d fr F' H' v nd q => ?_, fun C fs dd H' e er => ?_⟩
  · obtain ⟨S2, r2⟩ := S1.got q
    exact nd m F' H' σ v _ S2 r2 fun ρ' F'' H'' σ' n s S3 => kn _ _ _ _ n ((s1.trans q.1).trans s) S3
  · obtain ⟨rfl, e⟩ := e
    obtain ⟨le, hd⟩ := er
    cases hd
    exact e m F F1 H H1 H' σ D ρ S s1 S1 le kn kr kb kc
/-- try: f(..) -/
theorem zs_tryDropC {W : Hp → Ends → WX} (h : ZA z ta ρ fun ds ρ1 => w (Dt.olds ds) (fun _ _ => N.nx ρ1) fun C fs => fs = [] ∧ Catch z N W ρ1 C) :
    ZS z (fun D σ H => tDrop (tCallS (spZ z.K w) (WE (W H D)) ta) D σ H) ρ N := fun m F H σ D S kn kr kb kc => by
  refine h m F H σ _ S fun ds ρ1 F1 H1 vs n1 s1 S1 r1 => ?_
  refine ⟨F1, Dt.olds ds, (fun _ _ => N.nx ρ1), _, S1.le, rzl_old _ _ r1, n1, fun d fr F' H' v nd q => ?_, fun C fs dd H' e er => ?_⟩
  · obtain ⟨S2, r2⟩ := S1.got q
    exact kn _ _ _ _ nd (s1.trans q.1) S2
  · obtain ⟨rfl, e⟩ := e
    obtain ⟨le, hd⟩ := er
    cases hd
    exact e m F F1 H H1 H' σ D ρ S s1 S1 le kn kr kb kc
/-- try: x = f(..), then what raises nothing -/
theorem zs_trySeqC {W : Hp → Ends → WX} {g : TG} {tb : TS} (h : ZA z ta ρ fun ds ρ1 => w (Dt.olds ds) (fun d fr => ZG z g d fr ρ1 fun ρ2 => ZS z tb ρ2 N) fun C fs => fs = [] ∧ Catch z N W ρ1 C) :
    ZS z (fun D σ H => tSeq (tAsg (tCallS (spZ z.K w) (WE (W H D)) ta) g) tb D σ H) ρ N := fun m F H σ D S kn kr kb kc => by
  refine h m F H σ _ S fun ds ρ1 F1 H1 vs n1 s1 S1 r1 => ?_
  refine ⟨F1, Dt.olds ds, (fun d fr => ZG z g d fr ρ1 fun ρ2 => ZS z tb ρ2 N), _, S1.le, rzl_old _ _ r1, n1, fun d fr F' H' v nd q => ?_, fun C fs dd H' e er => ?_⟩
  · obtain ⟨S2, r2⟩ := S1.got q
    exact nd m F' H' σ v _ S2 r2 fun ρ' F'' H'' σ' n s S3 => n m F'' H'' σ' D S3 (fun _ _ _ _ a b c => kn _ _ _ _ a (((s1.trans q.1).trans s).trans b) c) (fun _ _ _ _ _ a b c => kr _ _ _ _ _ a (((s1.trans q.1).trans s).trans b) c)
      (fun _ _ _ _ a b c => kb _ _ _ _ a (((s1.trans q.1).trans s).trans b) c) fun _ _ _ _ a b c => kc _ _ _ _ a (((s1.trans q.1).trans s).trans b) c
  · obtain ⟨rfl, e⟩ := e
    obtain ⟨le, hd⟩ := er
    cases hd
    exact e m F F1 H H1 H' σ D ρ S s1 S1 le kn kr kb kc
end
/-- Ratio(n, d), or ByZero -/
theorem ze_ratioR {z : Cz} {ρ : List Sl} {N : Dt → Bool → List Sl → Prop} {t : TA} {dvs : List V} (h : ZA z t ρ fun ds ρ1 => ∃ n d, ((ds = [.int n, .int d] ∧ dvs = []) ∨ (ds = [.int n] ∧ dvs = [.int d])) ∧ (d ≠ 0 → Bits 8000 (sgc n d)) ∧ (d ≠ 0 → N (.rat (pn n d) (pd n d)) false ρ1) ∧ (d = 0 → z.Eh (He.ga z.K "ByZero") [])) :
    ZE z (tMake (He.ga z.K "Ratio") (spInit z.K) dvs z.Er t) ρ N := fun m F H σ Q S k => by
  refine h m F H σ _ S fun ds ρ1 F1 H1 vs n1 s1 S1 r1 x dx hx hd ne => ?_
  obtain ⟨n, d, hds, hb, n1, ne0⟩ := n1
  have ev : vs ++ dvs = [.int n, .int d] := by
    rcases hds with ⟨rfl, rfl⟩ | ⟨rfl, rfl⟩
    · obtain ⟨v, r, rfl, q1, q2⟩ := r1.inv
      obtain ⟨v2, r, rfl, q3, q4⟩ := q2.inv
      rw [rz_i q1, rz_i q3, q4.inv0]
      rfl
    · obtain ⟨v, r, rfl, q1, q2⟩ := r1.inv
      rw [rz_i q1, q2.inv0]
      rfl
  rw [ev]
  refine ⟨x, dx, n, d, rfl, upd_same, hb, fun h0 => ?_, fun h0 => ⟨rfl, ?_⟩⟩
  · exact S1.er _ [] none _ (ne0 h0) ⟨(S1.bj.same S1.base).same (same_mk hx hd), rfl⟩
  · rw [upd_upd]
    obtain ⟨s2, S2⟩ := sm_ins (C := He.ga z.K "Ratio") (fs := rfl2 (pn n d) (pd n d)) S1 hx hd ne
    exact k _ _ _ _ _ _ (n1 h0) (s1.trans s2) S2 (rzF_f (show Rz z.K m.B _ (.rat _ _) _ by simp only [Rz]; exact ⟨x, dx, rfl, upd_same⟩))
theorem zg_lst {z : Cz} {ρ : List Sl} {K : PySem.W.Frag} {n : Nat} {gs : TGs} {t : Bool} {ds : List Dt} {fr : Bool} {L : List Sl → Prop} (hl : ds.length = n) (h : ZGs z gs ds ρ L) : ZG z (gLst K n gs) (.lst t ds) fr ρ L := fun m F H σ v Q S r k => by
  obtain ⟨F1, s1, S1, r⟩ := rzF_frz S r
  simp only [Rz] at r
  obtain ⟨a, xs, rfl, e, _, r⟩ := r
  exact ⟨a, xs, rfl, SqL.of (S1.le.exact e rfl), by rw [r.len, hl], h m F1 H σ xs Q S1 r fun ρ2 F2 H2 σ2 n2 s2 => k ρ2 F2 H2 σ2 n2 (s1.trans s2)⟩
theorem ze_gcd {z : Cz} {ρ : List Sl} {N : Dt → Bool → List Sl → Prop} {t : TA} (h : ZA z t ρ fun ds ρ1 => ∃ a b : Int, ds = [.int a, .int b] ∧ N (.int ((Nat.gcd a.natAbs b.natAbs : Nat) : Int)) false ρ1) : ZE z (tCB rGcd t) ρ N := fun m F H σ Q S k => by
  refine h m F H σ _ S fun ds ρ1 F1 H1 vs n1 s1 S1 r1 => ?_
  obtain ⟨a, b, rfl, n⟩ := n1
  obtain ⟨v, r, rfl, rv, rr⟩ := r1.inv
  obtain ⟨v2, r, rfl, rv2, rr⟩ := rr.inv
  obtain rfl := rr.inv0
  obtain rfl := rz_i rv
  obtain rfl := rz_i rv2
  exact ⟨a, b, rfl, k _ _ _ _ _ _ n s1 S1 (rzF_f rzi)⟩
local macro_rules | `(tactic| walk_at "z1") => `(tactic| first | (with_reducible apply ze_gcd) | ((with_reducible apply zg_tup); exact rfl) | (with_reducible apply ze_ratioR))
/-! ### reading the texts of fractions -/
section
open TL
variable {P : Program} {w : World} {K : PySem.W.Frag} {mg : Str → Option Value} {base : Heap}
theorem slash_free {n : Int} (h : n.natAbs ≤ 100) : 47 ∉ tl (intS n) := small_all (p := fun n => 47 ∉ tl (intS n)) (by decide +kernel) h
theorem part_one {n : Int} (h : n.natAbs ≤ 100) : Txt.partition (intS n) "/" = (intS n, Str.empty, Str.empty) := partition_none (show tl ("/" : Str) = 47 :: [] by decide +kernel) (slash_free h)
theorem part_two {n d : Int} (h : n.natAbs ≤ 100) : Txt.partition (intS n ++ ("/" : Str) ++ intS d) "/" = (intS n, ("/" : Str), intS d) := partition_app (show tl ("/" : Str) = 47 :: [] by decide +kernel) (slash_free h)
def wReadR : Wz := fun ds Nv _ => ∃ n d : Int, ds = [.str (ratT n d)] ∧ RatOk n d ∧ Nv (.rat n d) false
set_option maxHeartbeats 4000000 in
theorem ok_read_ratio (T : Top w K mg) : FnOk P w K mg base (L2.CX P w) 5 (He.ga K ("read_ratio" : Str)) (fdOf K d_read_ratio) ["line"] (spZ K wReadR) := by
  obtain ⟨ds1, B1⟩ := T.b1_Ratio___init__
  obtain ⟨ds0, B0⟩ := T.b0_Ratio___init__
  refine (T.f_read_ratio).ok sc_read_ratio (fun vs H Q E h => spz_len h (n := 1) fun ds Nv Ne hw => ?_) (fun cdv A outer s H vs Q E hr h => ?_)
  · obtain ⟨_, _, rfl, _⟩ := hw
    rfl
  · refine z_fn h ((pss_cons (ps_asg (pe_bm PySem.F.plainAttrs_str PySem.F.slot_str_partition PySem.F.type_str_partition mt_partition (pv 0) (pa_cons pe_str pa_nil)) (pg_tup (by rfl) (pgs_cons (pg_name (i := 1) sc_read_ratio.nd rfl (Or.inl rfl)) (pgs_cons (pg_name (i := 2) sc_read_ratio.nd rfl (Or.inl rfl)) (pgs_cons (pg_name (i := 3) sc_read_ratio.nd rfl (Or.inl rfl)) pgs_nil)))))
    (pss_cons (ps_set (i := 4) sc_read_ratio.nd rfl (Or.inl rfl) (pe_call (ok__read_integer (K := K) T) (hr.mono (by decide)) rfl T.g__read_integer T.f__read_integer.kp T.b__read_integer .nil (passX (takes_of rfl rfl rfl rfl)) (pa_cons (pv 1) pa_nil)))
    (pss_cons (ps_if (pt_cmpR op_eq (pv 2) pe_str (nomark _))
    (pss_one (ps_ret (pe_make (C := He.ga K ("Ratio" : Str)) T.mk_Ratio (ok_Ratio___init__ (K := K) T) (hr.mono (by decide)) rfl T.g_Ratio (B0.2) (B0.1) (passX (takes_of rfl rfl rfl rfl)) (pa_cons (pv 4) pa_nil))))
    pss_nil)
    (pss_cons (ps_set (i := 5) sc_read_ratio.nd rfl (Or.inl rfl) (pe_call (ok__read_integer (K := K) T) (hr.mono (by decide)) rfl T.g__read_integer T.f__read_integer.kp T.b__read_integer .nil (passX (takes_of rfl rfl rfl rfl)) (pa_cons (pv 3) pa_nil)))
    (pss_cons (ps_if (PW.pt (pw_or (pt_cmpR op_lt (pv 5) pe_int (nomark _)) (pw_or1 (pt_cmpR op_ne (pe_callBfun cr_gcd rfl T.gcdM (pa_cons (pv 4) (pa_cons (pv 5) pa_nil))) pe_int (nomark _)))))
    (pss_one (ps_raise rfl (takes_of rfl rfl rfl rfl) (pmk_oex (oexB_ok T.x_oex_BadText).1 (oexB_ok T.x_oex_BadText).2.1 (oexB_ok T.x_oex_BadText).2.2 (ok_BadText___init__ (K := K) T) (hr.mono (by decide)) T.b_BadText___init__ .nil pass0 rfl T.g_BadText (pa_cons pe_int pa_nil))))
    pss_nil)
    (pss_one (ps_ret (pe_make (C := He.ga K ("Ratio" : Str)) T.mk_Ratio (ok_Ratio___init__ (K := K) T) (hr.mono (by decide)) rfl T.g_Ratio (B1.2) (B1.1) (passX (takes_of rfl rfl rfl rfl)) (pa_cons (pv 4) (pa_cons (pv 5) pa_nil))))))))))) fun ds Nv Ne hw => ?_
    obtain ⟨n, d, rfl, ok, k⟩ := hw
    have l0 := rat_len ok
    by_cases c : d = 1
    · rw [show ratT n d = intS n from if_pos c] at l0 ⊢
      walk_at "zz"
      refine ⟨by omega, ?_⟩
      rw [show Txt.partition (intS n) (Str.ofString "/") = _ from part_one ok.2.1]
      dsimp only
      walk_at "zz"
      refine ⟨ok.2.1, ?_⟩
      walk_at "zz"
      subst c
      refine ⟨n, 1, .inr ⟨rfl, rfl⟩, fun _ => sgc_bits (by decide) (by decide), fun _ => ?_, fun h => absurd h (by decide)⟩
      rw [pn_low ok.1, pd_low ok.1]
      exact k
    · rw [show ratT n d = intS n ++ ("/" : Str) ++ intS d from if_neg c] at l0 ⊢
      walk_at "zz"
      refine ⟨by omega, ?_⟩
      rw [show Txt.partition (intS n ++ Str.ofString "/" ++ intS d) (Str.ofString "/") = _ from part_two ok.2.1]
      dsimp only
      walk_at "zz"
      refine ⟨ok.2.1, ?_⟩
      walk_at "zz"
      refine ⟨ok.2.2, ?_⟩
      walk_at "zz"
      have hd := ok.1.pos
      refine zF (by simp; omega) ?_
      walk_at "zz"
      refine ⟨n, d, rfl, ?_⟩
      rw [show ((Nat.gcd n.natAbs d.natAbs : Nat) : Int) = 1 from by rw [ok.1.cop]; rfl]
      walk_at "zz"
      refine ⟨n, d, .inl ⟨rfl, rfl⟩, fun _ => sgc_bits (by omega) (by have := ok.2.2; omega), fun _ => ?_, fun h => by omega⟩
      rw [pn_low ok.1, pd_low ok.1]
      exact k
end
/-! ### leaves that are read -/
section
variable {P : Program} {w : World} {K : PySem.W.Frag} {mg : Str → Option Value} {base : Heap}
/-- an expression that is read, with its kind, its size and its depth -/
def bltD (d : Dt) (s : Str) (m l : Nat) : Dt := .tup [d, .str s, .int (m : Int), .int (l : Int)]
def wChk : Wz := fun ds Nv _ => ∃ d, ds = [d] ∧ Pv 1 d ∧ goodV 1 d = true ∧ Nv (bltD d (kindV [] 1 d) 1 1) false
set_option maxHeartbeats 4000000 in
theorem ok__checked_leaf (T : Top w K mg) : FnOk P w K mg base (L2.CX P w) 6 (He.ga K ("_checked_leaf" : Str)) (fdOf K d__checked_leaf) ["leaf"] (spZ K wChk) := by
  have ih_kind_of := ok_kind_of (P := P) (w := w) (base := base) T 1
  refine (T.f__checked_leaf).ok sc__checked_leaf (fun vs H Q E h => spz_len h (n := 1) fun ds Nv Ne hw => ?_) (fun cdv A outer s H vs Q E hr h => ?_)
  · obtain ⟨_, rfl, _⟩ := hw
    rfl
  · refine z_fn h ((pss_cons (ps_if (pt_not (pt_val (pe_call (ok_is_well_formed (K := K) T) (hr.mono (by omega)) rfl T.g_is_well_formed T.f_is_well_formed.kp T.b_is_well_formed .nil pass0 (pa_cons (pv 0) pa_nil))))
    (pss_one (ps_raise rfl (takes_of rfl rfl rfl rfl) (pmk_oex (oexB_ok T.x_oex_BadText).1 (oexB_ok T.x_oex_BadText).2.1 (oexB_ok T.x_oex_BadText).2.2 (ok_BadText___init__ (K := K) T) (hr.mono (by omega)) T.b_BadText___init__ .nil pass0 rfl T.g_BadText (pa_cons pe_int pa_nil))))
    pss_nil)
    (pss_one (ps_ret (pe_tup (pa_cons (pv 0) (pa_cons (pe_call ih_kind_of (hr.mono (by omega)) rfl T.g_kind_of T.f_kind_of.kp T.b_kind_of .nil pass0 (pa_cons (pv 0) (pa_cons pe_dnewK pa_nil))) (pa_cons pe_int (pa_cons pe_int pa_nil))))))))) fun ds Nv Ne hw => ?_
    obtain ⟨d, rfl, hp, hg, k⟩ := hw
    have hwf : wfD d = true := by
      have q : (wfD d && (partsV d).all (goodV 0)) = true := hg
      exact (Bool.and_eq_true_iff.mp q).1
    walk_at "zz"
    refine ⟨1, d, olds1 hp.old, hp, ?_⟩
    rw [hwf]
    refine ⟨_, rfl, zF (by decide) ?_⟩
    walk_at "zz"
    refine ⟨[], d, 1, by simp only [Dt.olds, hp.old]; rfl, hp, hg, ?_⟩
    walk_at "zz"
    exact k
end
/-! ### the texts of leaves -/
def nm9 : List Str := ["a", "b", "x1", "c.d", "e[2].f_g", "R1", "tank.Kp", "p", "q.r", "On", "s1"]
def NF (x : Str) : Prop := x ∈ nm9
theorem nf_ns : ∀ x, NF x → NS9 x := by unfold NF NS9 NS nm9; decide +kernel
theorem nm7_okF : NmOk NF nm7 := ⟨by unfold NF nm7 nm9; decide +kernel, by unfold NF nm7 nm9; decide +kernel, by unfold NF nm7 nm9; decide +kernel, by unfold NF nm7 nm9; decide +kernel, by decide, by decide, by decide, by decide⟩
def timeL : List Str := ["time", "initial"]
def truthL : List Str := ["true", "false"]
/-- what reading a variable's text wants -/
def varB (x : Str) (o : Int) : Bool :=
  let t := txE (.var x o)
  !decide (t ∈ timeL) && !decide (t ∈ truthL) && Txt.startswith t "@" && decide (Txt.rstripChars (cutS t (some 1) none) "'" = x) && decide ((t.length : Int) - 1 - (x.length : Int) = o) && decide (t.length ≤ 30)
theorem var_all {x : Str} {o : Int} (h : NF x) (h0 : 0 ≤ o) (h4 : o ≤ 4) : varB x o = true := by
  have q : ∀ x ∈ nm9, ∀ k ∈ List.range 5, varB x (k : Int) = true := by decide +kernel
  have := q x h o.toNat (List.mem_range.mpr (by omega))
  rwa [show ((o.toNat : Nat) : Int) = o from by omega] at this
def preB (x : Str) : Bool :=
  let t := txE (.pre x)
  !decide (t ∈ timeL) && !decide (t ∈ truthL) && !Txt.startswith t "@" && Txt.startswith t "pre@" && decide (cutS t (some 4) none = x) && decide (t.length ≤ 30)
theorem pre_all {x : Str} (h : NF x) : preB x = true := by
  have q : ∀ x ∈ nm9, preB x = true := by decide +kernel
  exact q x h
theorem sw_head {a b : Str} {k : Nat} {r : List Nat} (hb : b.cps.toList = k :: r) (h : Txt.startswith a b = true) : a.cps.toList.headD 0 = k := by
  unfold Txt.startswith PySem.Builtin.Str.subAt at h
  have q := eq_of_beq (Bool.and_eq_true_iff.mp h).2
  have e := congrArg Array.toList q
  rw [hb, Array.toList_extract] at e
  cases g : a.cps.toList with
  | nil => rw [g] at e; simp at e
  | cons c s =>
    rw [g] at e
    have hl : b.length = r.length + 1 := by
      show b.cps.size = _
      rw [← Array.length_toList, hb]
      rfl
    rw [hl] at e
    simp [List.extract] at e
    exact e.1
theorem int_head {n : Int} (h : n.natAbs ≤ 100) : 1 ≤ (intS n).cps.toList.length ∧ (intS n).cps.toList.headD 0 ≤ 57 := small_all (p := fun n => 1 ≤ (intS n).cps.toList.length ∧ (intS n).cps.toList.headD 0 ≤ 57) (by decide +kernel) h
theorem rat_head {n d : Int} (h : RatOk n d) : (ratT n d).cps.toList.headD 0 ≤ 57 := by
  obtain ⟨a, b⟩ := int_head h.2.1
  unfold ratT
  split
  · exact b
  · have e : (intS n ++ ("/" : Str) ++ intS d).cps.toList = (intS n).cps.toList ++ (("/" : Str).cps.toList ++ (intS d).cps.toList) := by
      have := TL.tl_append (intS n ++ ("/" : Str)) (intS d)
      have g := TL.tl_append (intS n) ("/" : Str)
      show TL.tl _ = _
      rw [this, g, List.append_assoc]
    rw [e]
    cases q : (intS n).cps.toList with
    | nil => rw [q] at a; exact absurd a (by decide)
    | cons c r => rw [q] at b; exact b
def numB (t : Str) : Bool := !decide (t ∈ timeL) && !decide (t ∈ truthL) && !Txt.startswith t "@" && !Txt.startswith t "pre@"
theorem num_all {n d : Int} (h : RatOk n d) : numB (ratT n d) = true := by
  have q := rat_head h
  have ne : ∀ s : Str, 57 < s.cps.toList.headD 0 → ratT n d ≠ s := fun s hs e => by
    rw [e] at q
    omega
  have nw : ∀ (s : Str) (k : Nat) (r : List Nat), s.cps.toList = k :: r → 57 < k → Txt.startswith (ratT n d) s = false := fun s k r hs hk => by
    cases g : Txt.startswith (ratT n d) s with
    | false => rfl
    | true =>
      have := sw_head hs g
      omega
  unfold numB
  have a : ratT n d ∉ timeL := fun m => by
    simp only [timeL, List.mem_cons, List.not_mem_nil, or_false] at m
    rcases m with m | m
    · exact ne _ (by decide +kernel) m
    · exact ne _ (by decide +kernel) m
  have b : ratT n d ∉ truthL := fun m => by
    simp only [truthL, List.mem_cons, List.not_mem_nil, or_false] at m
    rcases m with m | m
    · exact ne _ (by decide +kernel) m
    · exact ne _ (by decide +kernel) m
  rw [decide_eq_false a, decide_eq_false b, nw "@" 64 [] (by decide +kernel) (by decide), nw "pre@" 112 [114, 101, 64] (by decide +kernel) (by decide)]
  rfl
local macro_rules | `(tactic| walk_at "z1") => `(tactic| first | (with_reducible apply ze_startswith))
/-! ### reading leaves -/
inductive LeafE : Ex → Prop
  | var {x : Str} {o : Int} : NF x → 0 ≤ o → o ≤ 4 → LeafE (.var x o)
  | pre {x : Str} : NF x → LeafE (.pre x)
  | num {n d : Int} : RatOk n d → LeafE (.lit "num" [.rat n d])
  | truth (b : Bool) : LeafE (.lit "truth" [.bl b])
  | time : LeafE (.lit "time" [])
  | initial : LeafE (.lit "initial" [])
theorem LeafE.ok {e : Ex} (h : LeafE e) : ExOk NS 1 e := by
  cases h with
  | var a b c => exact .var (nf_ns _ a).2 b c
  | pre a => exact .pre (nf_ns _ a).2
  | num a => exact .lit (.num a)
  | truth b => exact .lit (.truth b)
  | time => exact .lit .time
  | initial => exact .lit .initial
section
variable {P : Program} {w : World} {K : PySem.W.Frag} {mg : Str → Option Value} {base : Heap}
def bl1 (e : Ex) : Dt := bltD (exD e) (kindV [] 1 (exD e)) 1 1
def wBl : Wz := fun ds Nv _ => ∃ e, ds = [.str (txE e)] ∧ LeafE e ∧ Nv (bl1 e) false
set_option maxHeartbeats 8000000 in
theorem ok__built_leaf (T : Top w K mg) : FnOk P w K mg base (L2.CX P w) 7 (He.ga K ("_built_leaf" : Str)) (fdOf K d__built_leaf) ["text"] (spZ K wBl) := by
  refine (T.f__built_leaf).ok sc__built_leaf (fun vs H Q E h => spz_len h (n := 1) fun ds Nv Ne hw => ?_) (fun cdv A outer s H vs Q E hr h => ?_)
  · obtain ⟨_, rfl, _⟩ := hw
    rfl
  · refine z_fn h ((pss_cons (ps_if (pt_cmpR (op_inK (K := K) rfl) (pv 0) (pe_tup (pa_cons pe_str (pa_cons pe_str pa_nil))) (by rfl))
    (pss_one (ps_set (i := 1) sc__built_leaf.nd rfl (Or.inl rfl) (pe_tup (pa_cons (pv 0) pa_nil))))
    (pss_one (ps_if (pt_cmpR (op_inK (K := K) rfl) (pv 0) (pe_tup (pa_cons pe_str (pa_cons pe_str pa_nil))) (by rfl))
    (pss_one (ps_set (i := 1) sc__built_leaf.nd rfl (Or.inl rfl) (pe_tup (pa_cons pe_str (pa_cons (pe_cmpR op_eq (pv 0) pe_str (nomark _)) pa_nil)))))
    (pss_one (ps_if (pt_val (pe_bm PySem.F.plainAttrs_str PySem.F.slot_str_startswith PySem.F.type_str_startswith mt_startswith (pv 0) (pa_cons pe_str pa_nil)))
    (pss_cons (ps_set (i := 2) sc__built_leaf.nd rfl (Or.inl rfl) (pe_bm PySem.F.plainAttrs_str PySem.F.slot_str_rstrip PySem.F.type_str_rstrip mt_rstripChars (pe_slice sl_str (pv 0) (po_some pe_int) po_none) (pa_cons pe_str pa_nil)))
    (pss_one (ps_set (i := 1) sc__built_leaf.nd rfl (Or.inl rfl) (pe_tup (pa_cons pe_str (pa_cons (pv 2) (pa_cons (pe_op op_sub (pe_op op_sub (pe_callB call_len_str (by rfl) T.n_len PySem.boot_len (pa_cons (pv 0) pa_nil)) pe_int) (pe_callB call_len_str (by rfl) T.n_len PySem.boot_len (pa_cons (pv 2) pa_nil))) pa_nil)))))))
    (pss_one (ps_if (pt_val (pe_bm PySem.F.plainAttrs_str PySem.F.slot_str_startswith PySem.F.type_str_startswith mt_startswith (pv 0) (pa_cons pe_str pa_nil)))
    (pss_one (ps_set (i := 1) sc__built_leaf.nd rfl (Or.inl rfl) (pe_tup (pa_cons pe_str (pa_cons (pe_slice sl_str (pv 0) (po_some pe_int) po_none) pa_nil)))))
    (pss_one (ps_set (i := 1) sc__built_leaf.nd rfl (Or.inl rfl) (pe_tup (pa_cons pe_str (pa_cons (pe_call (ok_read_ratio (K := K) T) (hr.mono (by decide)) rfl T.g_read_ratio T.f_read_ratio.kp T.b_read_ratio .nil (passX (takes_of rfl rfl rfl rfl)) (pa_cons (pv 0) pa_nil)) pa_nil))))))))))))
    (pss_one (ps_ret (pe_call (ok__checked_leaf (K := K) T) (hr.mono (by decide)) rfl T.g__checked_leaf T.f__checked_leaf.kp T.b__checked_leaf .nil (passX (takes_of rfl rfl rfl rfl)) (pa_cons (pv 1) pa_nil)))))) fun ds Nv Ne hw => ?_
    obtain ⟨e, rfl, hl, k⟩ := hw
    have hp := ex_pv hl.ok
    have hg := ex_good hl.ok
    cases hl with
    | @var x o a b c =>
      have q := var_all a b c
      unfold varB at q
      simp only [Bool.and_eq_true, Bool.not_eq_true', decide_eq_true_eq] at q
      obtain ⟨⟨⟨⟨⟨q1, q2⟩, q3⟩, q4⟩, q5⟩, q6⟩ := q
      walk_at "zz"
      refine ⟨_, timeL.map V.str, _, rfl, .inr rfl, rfl, ?_⟩
      rw [inV_strs, if_neg Bool.false_ne_true, q1]
      refine ⟨_, rfl, zF (by decide) ?_⟩
      walk_at "zz"
      refine ⟨_, truthL.map V.str, _, rfl, .inr rfl, rfl, ?_⟩
      rw [inV_strs, if_neg Bool.false_ne_true, q2]
      refine ⟨_, rfl, zF (by decide) ?_⟩
      walk_at "zz"
      have lx := (nf_ns _ a).1
      have hcl := cutS_length (txE (.var x o)) (some 1) none
      refine zT q3 ?_
      walk_at "zz"
      refine ⟨by omega, ?_⟩
      walk_at "zz"
      refine ⟨by omega, ?_⟩
      rw [show Txt.rstripChars (cutS (txE (.var x o)) (some 1) none) (Str.ofString "'") = x from q4]
      walk_at "zz"
      refine ⟨by omega, ?_⟩
      walk_at "zz"
      refine ⟨by omega, ?_⟩
      walk_at "zz"
      rw [q5]
      exact ⟨hp, hg, k⟩
    | @pre x a =>
      have q := pre_all a
      unfold preB at q
      simp only [Bool.and_eq_true, Bool.not_eq_true', decide_eq_true_eq] at q
      obtain ⟨⟨⟨⟨⟨q1, q2⟩, q3⟩, q4⟩, q5⟩, q6⟩ := q
      walk_at "zz"
      refine ⟨_, timeL.map V.str, _, rfl, .inr rfl, rfl, ?_⟩
      rw [inV_strs, if_neg Bool.false_ne_true, q1]
      refine ⟨_, rfl, zF (by decide) ?_⟩
      walk_at "zz"
      refine ⟨_, truthL.map V.str, _, rfl, .inr rfl, rfl, ?_⟩
      rw [inV_strs, if_neg Bool.false_ne_true, q2]
      refine ⟨_, rfl, zF (by decide) ?_⟩
      walk_at "zz"
      rw [q3]
      refine zF (by decide) ?_
      walk_at "zz"
      refine zT q4 ?_
      walk_at "zz"
      refine ⟨by omega, ?_⟩
      rw [q5]
      walk_at "zz"
      exact ⟨hp, hg, k⟩
    | @num n d a =>
      have q := num_all a
      have l0 := rat_len a
      have et : txE (.lit "num" [.rat n d]) = ratT n d := rfl
      rw [et]
      unfold numB at q
      simp only [Bool.and_eq_true, Bool.not_eq_true', decide_eq_true_eq] at q
      obtain ⟨⟨⟨q1, q2⟩, q3⟩, q4⟩ := q
      walk_at "zz"
      refine ⟨_, timeL.map V.str, _, rfl, .inr rfl, rfl, ?_⟩
      rw [inV_strs, if_neg Bool.false_ne_true, q1]
      refine ⟨_, rfl, zF (by decide) ?_⟩
      walk_at "zz"
      refine ⟨_, truthL.map V.str, _, rfl, .inr rfl, rfl, ?_⟩
      rw [inV_strs, if_neg Bool.false_ne_true, q2]
      refine ⟨_, rfl, zF (by decide) ?_⟩
      walk_at "zz"
      rw [q3]
      refine zF (by decide) ?_
      walk_at "zz"
      rw [q4]
      refine zF (by decide) ?_
      walk_at "zz"
      refine ⟨n, d, rfl, a, ?_⟩
      walk_at "zz"
      exact ⟨hp, hg, k⟩
    | truth b =>
      cases b <;>
      · walk_at "zz"
        refine ⟨_, timeL.map V.str, _, rfl, .inr rfl, rfl, ?_⟩
        rw [inV_strs, if_neg Bool.false_ne_true]
        refine ⟨_, rfl, zF (by decide +kernel) ?_⟩
        walk_at "zz"
        refine ⟨_, truthL.map V.str, _, rfl, .inr rfl, rfl, ?_⟩
        rw [inV_strs, if_neg Bool.false_ne_true]
        refine ⟨_, rfl, zT (by decide +kernel) ?_⟩
        walk_at "zz"
        exact ⟨hp, hg, k⟩
    | time =>
      walk_at "zz"
      refine ⟨_, timeL.map V.str, _, rfl, .inr rfl, rfl, ?_⟩
      rw [inV_strs, if_neg Bool.false_ne_true]
      refine ⟨_, rfl, zT (by decide +kernel) ?_⟩
      walk_at "zz"
      exact ⟨hp, hg, k⟩
    | initial =>
      walk_at "zz"
      refine ⟨_, timeL.map V.str, _, rfl, .inr rfl, rfl, ?_⟩
      rw [inV_strs, if_neg Bool.false_ne_true]
      refine ⟨_, rfl, zT (by decide +kernel) ?_⟩
      walk_at "zz"
      exact ⟨hp, hg, k⟩
end
/-! ### reading a sample -/
section
variable {P : Program} {w : World} {K : PySem.W.Frag} {mg : Str → Option Value} {base : Heap}
def numX (n d : Int) : Ex := .lit "num" [.rat n d]
def smpX (n d n2 d2 : Int) : Ex := .lit "sample" [.rat n d, .rat n2 d2]
def wSmp : Wz := fun ds Nv _ => ∃ t n d n2 d2, ds = [.lst t [exD (numX n d), exD (numX n2 d2)]] ∧ RatOk n d ∧ RatOk n2 d2 ∧ 0 < n2 ∧ Nv (bl1 (smpX n d n2 d2)) false
set_option maxHeartbeats 8000000 in
theorem ok__built_sample (T : Top w K mg) : FnOk P w K mg base (L2.CX P w) 7 (He.ga K ("_built_sample" : Str)) (fdOf K d__built_sample) ["numbers"] (spZ K wSmp) := by
  refine (T.f__built_sample).ok sc__built_sample (fun vs H Q E h => spz_len h (n := 1) fun ds Nv Ne hw => ?_) (fun cdv A outer s H vs Q E hr h => ?_)
  · obtain ⟨_, _, _, _, _, rfl, _⟩ := hw
    rfl
  · refine z_fn h ((pss_cons (ps_lockL (ps_for (passes_of rfl) rfl (pi_listK (K := K) rfl (pv 0)) (pg_name (i := 1) sc__built_sample.nd rfl (Or.inl rfl))
    (pss_one (ps_if (pt_cmpR op_ne (pe_ix (ix_tupK (K := K) rfl) (pv 1) pe_int (fun _ _ => rfl)) pe_str (nomark _))
    (pss_one (ps_raise rfl (takes_of rfl rfl rfl rfl) (pmk_oex (oexB_ok T.x_oex_BadText).1 (oexB_ok T.x_oex_BadText).2.1 (oexB_ok T.x_oex_BadText).2.2 (ok_BadText___init__ (K := K) T) (hr.mono (by decide)) T.b_BadText___init__ .nil pass0 rfl T.g_BadText (pa_cons pe_int pa_nil))))
    pss_nil))))
    (pss_one (ps_ret (pe_call (ok__checked_leaf (K := K) T) (hr.mono (by decide)) rfl T.g__checked_leaf T.f__checked_leaf.kp T.b__checked_leaf .nil (passX (takes_of rfl rfl rfl rfl)) (pa_cons (pe_tup (pa_cons pe_str (StX.pa_star (pe_lockL (pe_lc (own := [(("number" : Str), 1)]) (g := (gName 1)) (tt := tYes) rfl sc__built_sample.nd (pi_listK (K := K) rfl (pv 0)) (blkOk_by (N := ["numbers", "number"]) (sc := defScope s__built_sample) (by decide +kernel)) (fun _ _ _ _ _ => (pg_name (i := 1) sc__built_sample.nd rfl (Or.inl rfl))) (fun _ _ _ _ _ => pts_nil) (fun _ _ _ _ _ => (pe_ix (ix_tupK (K := K) rfl) (pv 1) pe_int (fun _ _ => rfl))))) pa_nil))) pa_nil)))))) fun ds Nv Ne hw => ?_
    obtain ⟨t, n, d, n2, d2, rfl, a, b, hn, k⟩ := hw
    have okx : ExOk NS 1 (smpX n d n2 d2) := .lit (.sample a b hn)
    have hp := ex_pv okx
    have hg := ex_good okx
    walk_at "zz"
    refine zs_forL (zi_list ?_)
    walk_at "zz"
    refine ⟨t, _, rfl, fun _ ρ => ρ = [.v (.lst t [exD (numX n d), exD (numX n2 d2)]), .un] ∨ ∃ x, ρ = [.v (.lst t [exD (numX n d), exD (numX n2 d2)]), .v x], .inl rfl, ?_, ?_⟩
    · intro ρ h
      refine ⟨trivial, ?_⟩
      rcases h with rfl | ⟨x, rfl⟩ <;>
      · walk_at "zz"
        refine ze_lcM [(n, d), (n2, d2)] (fun p => exD (numX p.1 p.2)) (fun p => some (.rat p.1 p.2)) (zi_list ?_)
        walk_at "zz"
        refine ⟨trivial, rfl, by simp, fun p hp => ?_, ?_⟩
        · refine zgw_name (by decide) ?_
          walk_at "zz"
          exact ⟨rfl, rfl⟩
        · walk_at "zz"
          exact ⟨hp, hg, k⟩
    · intro i x ρ hx h
      have hxx : x = exD (numX n d) ∨ x = exD (numX n2 d2) := by
        match i, hx with
        | 0, hx => exact .inl (Option.some.inj hx).symm
        | 1, hx => exact .inr (Option.some.inj hx).symm
      rcases h with rfl | ⟨y, rfl⟩ <;> rcases hxx with rfl | rfl <;>
      · refine zg_nameB ?_
        walk_at "zz"
        exact .inr ⟨_, rfl⟩
end
theorem ze_notInTab {z : Cz} {ρ : List Sl} {N : Dt → Bool → List Sl → Prop} {ta : TE} {X : Cx} {a : Addr} (h : ZE z ta ρ fun x _ ρ1 => ∃ y b, x = .str y ∧ inTab X.K a y b = true ∧ N (.bl (!b)) false ρ1) :
    ZE z (tOp (fun x y H Q => ∃ (z : Str) (r : Option Value), x = .str z ∧ y = .ref a ∧ PySem.W.nsIn X.K a z = some r ∧ Q (.bl (!r.isSome)) H) ta (tC (.ref a))) ρ N := fun m F H σ Q S k => by
  refine h m F H σ _ S fun x fx ρ1 F1 H1 vx n1 s1 S1 r1 => ?_
  obtain ⟨F2, s2, S2, rx⟩ := rzF_frz S1 r1
  obtain ⟨y, b, rfl, hb, n⟩ := n1
  obtain ⟨r, e, hr⟩ := inTab_ok hb
  exact ⟨y, r, rz_s rx, rfl, e, by rw [hr]; exact k _ _ _ _ _ _ n (s1.trans s2) S2 (rzF_f rzb)⟩
local macro_rules | `(tactic| walk_at "z1") => `(tactic| first | (with_reducible apply ze_notInTab))
/-! ### building a word with its parts -/
section
variable {P : Program} {w : World} {K : PySem.W.Frag} {mg : Str → Option Value} {base : Heap}
/-- a part that is built: the expression, its kind, size, depth -/
structure Blt where
  d : Dt
  s : Str
  m : Int
  l : Int
def Blt.dt (b : Blt) : Dt := .tup [b.d, .str b.s, .int b.m, .int b.l]
def wWhl : Wz := fun ds Nv _ => (∃ (t : Bool) (x : Str) (bs : List Blt) (ks : List Str), ds = [.str x, .lst t (bs.map Blt.dt)] ∧ x ∈ nodeL ∧ needO x = some ks ∧ bs.length = ks.length ∧ bs.length ≤ 3 ∧ 1 ≤ bs.length ∧ joinS x (bs.map Blt.s) ks ≠ "" ∧
  Nv (.tup [.tup (.str x :: bs.map Blt.d), .str (joinS x (bs.map Blt.s) ks), .int (1 + (bs.map Blt.m).sum), .int (1 + maxL 0 (bs.map Blt.l))]) false) ∨
  ∃ (t : Bool) (n d n2 d2 : Int), ds = [.str "sample", .lst t [bl1 (numX n d), bl1 (numX n2 d2)]] ∧ RatOk n d ∧ RatOk n2 d2 ∧ 0 < n2 ∧ Nv (bl1 (smpX n d n2 d2)) false
set_option maxHeartbeats 8000000 in
theorem ok__built_whole (T : Top w K mg) : FnOk P w K mg base (L2.CX P w) 8 (He.ga K ("_built_whole" : Str)) (fdOf K d__built_whole) ["word", "parts"] (spZ K wWhl) := by
  refine (T.f__built_whole).ok sc__built_whole (fun vs H Q E h => spz_len h (n := 2) fun ds Nv Ne hw => ?_) (fun cdv A outer s H vs Q E hr h => ?_)
  · rcases hw with ⟨_, _, _, _, rfl, _⟩ | ⟨_, _, _, _, _, rfl, _⟩ <;> rfl
  · refine z_fn h ((pss_cons (ps_lockL (ps_setLc (i := 2) (own := [(("part" : Str), 3)]) (g := (gName 3)) (tt := tYes) rfl sc__built_whole.nd rfl rfl (by rfl) (pi_listK (K := K) rfl (pv 1)) (blkOk_by (N := ["word", "parts", "expressions", "part", "kind", "many", "deepest"]) (sc := defScope s__built_whole) (by decide +kernel)) (fun _ _ _ _ _ => (pg_name (i := 3) sc__built_whole.nd rfl (Or.inl rfl))) (fun _ _ _ _ _ => pts_nil) (fun _ _ _ _ _ => (pe_ix (ix_tupK (K := K) rfl) (pv 3) pe_int (fun _ _ => rfl)))))
    (pss_cons (ps_if (pt_cmpR op_eq (pv 0) pe_str (nomark _))
    (pss_one (ps_ret (pe_call (ok__built_sample (K := K) T) (hr.mono (by decide)) rfl T.g__built_sample T.f__built_sample.kp T.b__built_sample .nil (passX (takes_of rfl rfl rfl rfl)) (pa_cons (pv 2) pa_nil))))
    pss_nil)
    (pss_cons (ps_if (PW.pt (pw_or (pt_cmpR (op_notIn_kd (T.tab_NEEDED_KINDS.choose_spec.choose_spec)) (pv 0) (pe_globE rfl T.k_NEEDED_KINDS) (by rfl)) (pw_or1 (pt_cmpR op_ne (pe_callB (call_lenZ (K := K) rfl) (by rfl) T.n_len PySem.boot_len (pa_cons (pv 1) pa_nil)) (pe_callB (call_lenA (K := K) rfl) (by rfl) T.n_len PySem.boot_len (pa_cons (pe_ix (ix_kdictK (K := K) (w := w) (d := He.ga K ("NEEDED_KINDS" : Str)) rfl rfl) (pe_globE rfl T.k_NEEDED_KINDS) (pv 0) (fun _ _ => rfl)) pa_nil)) (nomark _)))))
    (pss_one (ps_raise rfl (takes_of rfl rfl rfl rfl) (pmk_oex (oexB_ok T.x_oex_BadText).1 (oexB_ok T.x_oex_BadText).2.1 (oexB_ok T.x_oex_BadText).2.2 (ok_BadText___init__ (K := K) T) (hr.mono (by decide)) T.b_BadText___init__ .nil pass0 rfl T.g_BadText (pa_cons pe_int pa_nil))))
    pss_nil)
    (pss_cons (ps_set (i := 4) sc__built_whole.nd rfl (Or.inl rfl) (pe_call (ok_joined_kind (K := K) T) (hr.mono (by decide)) rfl T.g_joined_kind T.f_joined_kind.kp T.b_joined_kind .nil pass0 (pa_cons (pv 0) (pa_cons (pe_lockL (pe_lc (own := [(("part" : Str), 3)]) (g := (gName 3)) (tt := tYes) rfl sc__built_whole.nd (pi_listK (K := K) rfl (pv 1)) (blkOk_by (N := ["word", "parts", "expressions", "part", "kind", "many", "deepest"]) (sc := defScope s__built_whole) (by decide +kernel)) (fun _ _ _ _ _ => (pg_name (i := 3) sc__built_whole.nd rfl (Or.inl rfl))) (fun _ _ _ _ _ => pts_nil) (fun _ _ _ _ _ => (pe_ix (ix_tupK (K := K) rfl) (pv 3) pe_int (fun _ _ => rfl))))) pa_nil))))
    (pss_cons (ps_if (pt_cmpR op_eq (pv 4) pe_str (nomark _))
    (pss_one (ps_raise rfl (takes_of rfl rfl rfl rfl) (pmk_oex (oexB_ok T.x_oex_BadText).1 (oexB_ok T.x_oex_BadText).2.1 (oexB_ok T.x_oex_BadText).2.2 (ok_BadText___init__ (K := K) T) (hr.mono (by decide)) T.b_BadText___init__ .nil pass0 rfl T.g_BadText (pa_cons pe_int pa_nil))))
    pss_nil)
    (pss_cons (ps_set (i := 5) sc__built_whole.nd rfl (Or.inl rfl) (pe_op op_add pe_int (pe_callB (cr_sum rfl) (by rfl) T.n_sum (by decide +kernel) (pa_cons (pe_lockL (pe_lc (own := [(("part" : Str), 3)]) (g := (gName 3)) (tt := tYes) rfl sc__built_whole.nd (pi_listK (K := K) rfl (pv 1)) (blkOk_by (N := ["word", "parts", "expressions", "part", "kind", "many", "deepest"]) (sc := defScope s__built_whole) (by decide +kernel)) (fun _ _ _ _ _ => (pg_name (i := 3) sc__built_whole.nd rfl (Or.inl rfl))) (fun _ _ _ _ _ => pts_nil) (fun _ _ _ _ _ => (pe_ix (ix_tupK (K := K) rfl) (pv 3) pe_int (fun _ _ => rfl))))) pa_nil))))
    (pss_cons (ps_set (i := 6) sc__built_whole.nd rfl (Or.inl rfl) (pe_op op_add pe_int (pe_callB (cr_max rfl) (by rfl) T.n_max (by decide +kernel) (pa_cons (pe_lockL (pe_lc (own := [(("part" : Str), 3)]) (g := (gName 3)) (tt := tYes) rfl sc__built_whole.nd (pi_listK (K := K) rfl (pv 1)) (blkOk_by (N := ["word", "parts", "expressions", "part", "kind", "many", "deepest"]) (sc := defScope s__built_whole) (by decide +kernel)) (fun _ _ _ _ _ => (pg_name (i := 3) sc__built_whole.nd rfl (Or.inl rfl))) (fun _ _ _ _ _ => pts_nil) (fun _ _ _ _ _ => (pe_ix (ix_tupK (K := K) rfl) (pv 3) pe_int (fun _ _ => rfl))))) pa_nil))))
    (pss_one (ps_ret (pe_tup (pa_cons (pe_tup (pa_cons (pv 0) (StX.pa_star (pv 2) pa_nil))) (pa_cons (pv 4) (pa_cons (pv 5) (pa_cons (pv 6) pa_nil))))))))))))))) fun ds Nv Ne hw => ?_
    rcases hw with ⟨t, x, bs, ks, rfl, hx, hks, hl, h3, h1, hj, k⟩ | ⟨t, n, d, n2, d2, rfl, a, b, hn, k⟩
    rotate_left
    · walk_at "zz"
      refine ze_lcM [(n, d), (n2, d2)] (fun p => bl1 (numX p.1 p.2)) (fun p => some (exD (numX p.1 p.2))) (zi_list ?_)
      walk_at "zz"
      refine ⟨trivial, rfl, by simp, fun p hp => ?_, ?_⟩
      · refine zgw_name (by decide) ?_
        walk_at "zz"
        exact ⟨rfl, rfl⟩
      walk_at "zz"
      exact ⟨_, n, d, n2, d2, rfl, a, b, hn, k⟩
    walk_at "zz"
    refine ze_lcM bs Blt.dt (fun b => some b.d) (zi_list ?_)
    walk_at "zz"
    refine ⟨trivial, rfl, by omega, fun b hb => ?_, ?_⟩
    · refine zgw_name (by decide) ?_
      walk_at "zz"
      exact ⟨rfl, rfl⟩
    walk_at "zz"
    refine zF (fun h => (node_ns x hx).2.2.2.2 (of_decide_eq_true h)) ?_
    walk_at "zz"
    have hw : WordOk x := .inl ((by decide +kernel : ∀ w ∈ nodeL, w ∈ needT.map (·.1)) x hx)
    obtain ⟨g1, g2⟩ := need_get T hks
    refine ⟨x, _, rfl, need_tab T hw, _, rfl, ?_⟩
    rw [hks]
    refine zF (fun h => Bool.noConfusion h) ?_
    walk_at "zz"
    have D := T.tab_NEEDED_KINDS.choose_spec.choose_spec
    refine ze_lenAdr rfl ?_
    refine ze_ixKD rfl D ?_
    walk_at "zz"
    refine ⟨x, ks, rfl, g1, fun a ha => ⟨a, ks, rfl, ha, by omega, ?_⟩⟩
    walk_at "zz"
    refine zF (by rw [decide_eq_true (by rw [List.length_map, hl])]; decide) ?_
    walk_at "zz"
    refine ze_lcM bs Blt.dt (fun b => some (.str b.s)) (zi_list ?_)
    walk_at "zz"
    refine ⟨trivial, rfl, by omega, fun b hb => ?_, ?_⟩
    · refine zgw_name (by decide) ?_
      walk_at "zz"
      exact ⟨rfl, rfl⟩
    walk_at "zz"
    refine ⟨x, ks, bs.map Blt.s, false, ?_, hks, by rw [List.length_map]; exact hl, ?_⟩
    · rw [fm_somes]
      simp only [Dt.olds, Dt.old]
      rw [show (bs.map fun b => Dt.str b.s) = (bs.map Blt.s).map Dt.str from by rw [List.map_map]; rfl, olds_strs]
    walk_at "zz"
    refine zF (fun h => hj (of_decide_eq_true h)) ?_
    walk_at "zz"
    refine ze_lcM bs Blt.dt (fun b => some (.int b.m)) (zi_list ?_)
    walk_at "zz"
    refine ⟨trivial, rfl, by omega, fun b hb => ?_, ?_⟩
    · refine zgw_name (by decide) ?_
      walk_at "zz"
      exact ⟨rfl, rfl⟩
    refine ⟨true, bs.map Blt.m, by rw [fm_somes, List.map_map]; rfl, ?_⟩
    walk_at "zz"
    refine ze_lcM bs Blt.dt (fun b => some (.int b.l)) (zi_list ?_)
    walk_at "zz"
    refine ⟨trivial, rfl, by omega, fun b hb => ?_, ?_⟩
    · refine zgw_name (by decide) ?_
      walk_at "zz"
      exact ⟨rfl, rfl⟩
    refine ⟨true, bs.map Blt.l, by rw [fm_somes, List.map_map]; rfl, by rw [List.length_map]; omega, ?_⟩
    walk_at "zz"
    have ed : List.filterMap (fun b : Blt => some b.d) bs = bs.map Blt.d := fm_somes
    rw [ed, List.append_nil]
    refine ⟨by rw [List.length_cons, List.length_map]; omega, ?_⟩
    walk_at "zz"
    exact k
end
section
variable {P : Program} {w : World} {K : PySem.W.Frag} {mg : Str → Option Value} {base : Heap}
def wAnyT : Wz := fun ds Nv _ => ∃ d : Nat, ds = [.strm, .int (d : Int)] ∧ d ≤ 6 ∧ ∀ tt e, ExT NF tt (d + 1) e → Nv (exD e) false
theorem ok__law_any (T : Top w K mg) : FnOk P w K mg base CX0 14 (He.ga K ("_law_any" : Str)) (fdOf K d__law_any) ["stream", "deep"] (spZ K wAnyT) := by
  refine (T.f__law_any).ok sc__law_any (fun vs H Q E h => spz_len h (n := 2) fun ds Nv Ne hw => ?_) (fun cdv A outer s H vs Q E hr h => ?_)
  · obtain ⟨d, rfl, _⟩ := hw
    rfl
  · obtain ⟨F, ds, Nv, Ne, le, rz, hw, hq, he⟩ := h
    obtain ⟨d, rfl, hd, k⟩ := hw
    have g1 := (ok_genT (P := P) (w := w) (base := base) T NF nm7 (d + 1)).1
    have g2 := (ok_genT (P := P) (w := w) (base := base) T NF nm7 (d + 1)).2
    have ih__law_number := FnOk.mono g1 (show d + 1 + 3 ≤ 13 by omega)
    have ih__law_truth := FnOk.mono g2 (show d + 1 + 3 ≤ 13 by omega)
    refine z_fn (w := fun ds Nv _ => ds = [.strm, .int (d : Int)] ∧ ∀ tt e, ExT NF tt (d + 1) e → Nv (exD e) false) ⟨F, _, Nv, Ne, le, rz, ⟨rfl, k⟩, hq, he⟩ (PSs.nox (pss_cons (ps_if (pt_cmpR op_eq (pe_call (ok__law_draw (K := K) T) (hr.mono (by omega)) rfl T.g__law_draw T.f__law_draw.kp T.b__law_draw .nil pass0 (pa_cons (pv 0) (pa_cons pe_int pa_nil))) pe_int (nomark _))
    (pss_one (ps_ret (pe_call ih__law_truth (hr.mono (by omega)) rfl T.g__law_truth T.f__law_truth.kp T.b__law_truth .nil pass0 (pa_cons (pv 0) (pa_cons (pv 1) (pa_cons (pe_call0 (ok__law_names (K := K) T) (hr.mono (by omega)) rfl T.g__law_names T.f__law_names.kp T.b__law_names .nil pass0) pa_nil))))))
    pss_nil)
    (pss_one (ps_ret (pe_call ih__law_number (hr.mono (by omega)) rfl T.g__law_number T.f__law_number.kp T.b__law_number .nil pass0 (pa_cons (pv 0) (pa_cons (pv 1) (pa_cons (pe_call0 (ok__law_names (K := K) T) (hr.mono (by omega)) rfl T.g__law_names T.f__law_names.kp T.b__law_names .nil pass0) pa_nil)))))))) fun ds Nv Ne hw => ?_
    obtain ⟨rfl, k⟩ := hw
    walk_at "zz"
    intro v a0 a1
    walk_at "zz"
    have eds : Dt.olds [.strm, .int (d : Int), nmD true nm7] = [.strm, .int (d : Int), nmD false nm7] := by simp only [Dt.olds, Dt.old, nmD_old]
    refine zD (fun c => ?_) (fun c => ?_)
    · walk_at "zz"
      refine ⟨rfl, ?_⟩
      walk_at "zz"
      exact ⟨nm7_okF, fun e ok => k _ e ok⟩
    · walk_at "zz"
      refine ⟨rfl, ?_⟩
      walk_at "zz"
      exact ⟨nm7_okF, fun e ok => k _ e ok⟩
end
/-! ### *a, b = xs; a list's last part stored anew -/
namespace M22
section
variable {s : Shared} {prog : Program} {w : World} {A : Around} {E : Value → Shared → Prop}
abbrev lsO (vs : List Value) : Obj := { cls := .type "list", data := .seq vs.toArray }
theorem starItems {l : Addr} {its : Array Value} {Q : List Value → Shared → Prop} (hh : A.handled = none) (hl : s.heap.IsList l its) (hn : 1 ≤ its.size) (hz : its.size ≤ 16384)
    (h : ∀ (h' : Heap) (tk : Nat), (∀ b o, s.heap.get? b = some o → h'.get? b = some o) → Q ([.ref h'.objs.size] ++ its.toList.drop (its.size - 1)) { s with heap := h'.push (lsO (its.toList.take (its.size - 1))), toks := tk }) :
    wpAny (model prog w) A (unpackItems (.ref l) 2 (some 0)) Q E s := by
  have hll : l < s.heap.objs.size := hl.elim fun _ q => Heap.lt_size q.1
  have ne : l ≠ s.heap.objs.size := Nat.ne_of_lt hll
  have ln : its.toList.length = its.size := Array.length_toList
  unfold unpackItems; refine wpAny_bind ?_
  unfold notIterableAtAll; refine wpAny_bind (wpAny_specialOf hl.typeIs slot_list_iter.lookup (wpAny_pure ?_))
  simp only [Bool.false_eq_true, if_false]; refine wpAny_bind (wpAny_holding (wpAny_pyIter_list hl (wpAny_bind (wpAny_holding (PySem.W.kun_draw ne 0 0 _ _ ⟨_, Heap.get?_push_size _ rfl, rfl, rfl⟩ (hl.push _) (by omega) fun h1 hi1 sb1 => ?_)))))
  have hl1 : h1.IsList l its := (hl.push _).extBut sb1.extBut ne
  obtain ⟨o1, g1, _⟩ := id hi1; obtain ⟨o2, g2, _⟩ := id hl1
  simp only [List.drop_zero, List.take_zero, List.length_nil, Nat.lt_irrefl, if_false]
  refine wpAny_bind (wpAny_holding (PySem.W.kun_collect (s := { s with heap := h1 }) (T := "list_iterator") (.inr (.inr (.inl rfl))) (Walks.list (A := A.in1) hh s.heap.objs.size l ne its) (fun _ _ st => st.1.typeIs) (k := 0) (by omega) ⟨hi1, hl1⟩ (Heap.lt_size g1) (Heap.lt_size g2) (fun h2 tk hk => ?_) (by rw [sizeLine_eq]; omega)))
  simp only [List.drop_zero, ln, List.nil_append]
  rw [if_neg (by omega)]
  have ex : ∀ b o, s.heap.get? b = some o → h2.get? b = some o := fun b o e => by
    have hb := Nat.ne_of_lt (Heap.lt_size e)
    exact hk b o hb (sb1.extBut b o hb (Heap.get?_push_of_some _ e))
  refine wpAny_bind (wpAny_newList ?_ (by rw [List.length_take, sizeLine_eq]; omega))
  exact wpAny_pure (h h2 tk ex)
end
section
variable {X : Cx} {pos sp : Pos}
/-- *a, b = a list of at least one -/
def gStar (K : PySem.W.Frag) (g1 g2 : TG) : TG := fun v σ H Q => ∃ a xs y, v = .ref a ∧ SqL K H a (xs ++ [y]) ∧ xs.length ≤ 16000 ∧ ∀ p, H p = none → g1 (.ref p) σ (upd H p (.lst xs)) fun σ1 H1 => g2 y σ1 H1 Q
theorem pg_star {K : PySem.W.Frag} {e1 e2 : Expr} {k : Nat} {g1 g2 : TG} (hK : X.K = K) (hc : X.calm = true) (h1 : PG X e1 g1) (h2 : PG X e2 g2)
    (hs : assignEach [.Starred e1 sp, e2] X.env = [(true, assign e1 X.env), (false, assign e2 X.env)] := by rfl) : PG X (.Tuple [.Starred e1 sp, e2] k pos) (gStar K g1 g2) := by
  subst hK; refine ⟨fun pins s σ H v u Q I r hw => ?_⟩
  obtain ⟨a, xs, y, rfl, hq, hl, hw⟩ := hw
  cases r; obtain ⟨its, rv, pl, hz⟩ := I.list hq
  have ln := rv.length
  rw [List.length_append, List.length_singleton] at ln
  rw [PyProof.Rows.assign_Tuple, hs]
  refine wpAny_bind (wpAny_standAt ?_); unfold unpack
  refine wpAny_bind (wpAny_holding (starItems (I.ok.hd hc) pl.isList (by rw [List.size_toArray]; omega) (by rw [List.size_toArray]; omega) fun h' tk ex => ?_))
  have I1 : Inv X pins σ H { s with heap := h', toks := tk } := I.kept (t' := tk) ex
  have en : its.toArray.size - 1 = xs.length := by rw [List.size_toArray]; omega
  rw [en]; have r1 := rv.take xs.length; have r2 := rv.drop xs.length
  rw [List.take_left] at r1; rw [List.drop_left] at r2
  obtain ⟨u2, e2, ry⟩ := vals1 r2
  rw [show its.toArray.toList = its from rfl, e2]
  have I2 : Inv X pins σ (upd H h'.objs.size (.lst xs)) { s with heap := h'.push (lsO (its.take xs.length)), toks := tk } :=
    I1.laid (fun b u e => Heap.get?_push_of_some _ e) (Nat.le_refl _) ⟨by rw [sizeLine_eq]; omega, its.take xs.length, 0, r1, Heap.get?_push_size _ rfl⟩
  have hw2 := hw _ (I1.hok.fresh (Nat.le_refl _))
  refine assignInOrder_cons (thn (h1.run pins _ σ _ _ (.ref h'.objs.size) _ I2 (show RelV (.ref h'.objs.size) (.ref h'.objs.size) from rfl) hw2) fun _ s1 ⟨σ1, H1, J1, q1⟩ => ?_)
  exact assignInOrder_cons (thn (h2.run pins s1 σ1 H1 _ _ Q J1 ry q1) fun _ s2 ⟨σ2, H2, J2, q2⟩ => assignInOrder_nil ⟨σ2, H2, J2, q2⟩)
end
end M22
/-! ### xs[lo:hi] = ys -/
namespace M22
section
variable {s : Shared} {prog : Program} {w : World} {A : Around} {E : Value → Shared → Prop}
theorem setCut {l b sl : Addr} {its new : Array Value} {n n2 : Nat} {vl vu : Value} {lo hi : Option Int} {a c : Nat} {Q : Unit → Shared → Prop}
    (e : s.heap.get? l = some { cls := .type "list", data := .seq its n }) (e2 : s.heap.get? b = some { cls := .type "list", data := .seq new n2 }) (hne : l ≠ b) (hs : s.heap.IsSliceOf sl vl vu .none)
    (pl : IsPart vl lo) (pu : IsPart vu hi) (hb : sliceBounds lo hi none its.size = ((a : Int), (c : Int), 1)) (hac : a ≤ c) (hc : c ≤ its.size) (hsz : its.size + new.size ≤ sizeLine)
    (h : Q () { s with heap := s.heap.update l (Obj.mapSeq fun xs => xs.extract 0 a ++ new ++ xs.extract c xs.size) }) : wpAny (model prog w) A (setItem (.ref l) (.ref sl) (.ref b)) Q E s := by
  have tl : s.heap.IsList l its := PySem.IsL.isList e
  have tb : s.heap.IsList b new := PySem.IsL.isList e2
  obtain ⟨os, g1, g2, g3⟩ := id hs
  have ts : s.TypeIs (.ref sl) "slice" := ⟨os, g1, g2⟩
  have far : Builtin.List.listSameRef (.ref l) (.ref b) = false := by unfold Builtin.List.listSameRef; exact beq_eq_false_iff_ne.mpr hne
  have mx : (max (a : Int) (c : Int)).toNat = c := by omega
  have sz : ((fun xs : Array Value => xs.extract 0 a ++ new ++ xs.extract c xs.size) its).size ≤ sizeLine + 1 := by simp only [Array.size_append, Array.size_extract]; omega
  unfold setItem; with_reducible refine wpAny_holding ?_
  refine wpAny_bind (wpAny_sequenceKey tl.typeIs (by decide) ?_)
  refine wpAny_bind (wpAny_callSpecial?_slot (name := Str.ofString "__setitem__") tl.typeIs slot_list_setitem (wpAny_call_entry slot_list_setitem tl.typeIs entry_list_setitem ?_ (args_list_setitem _ _ _))); show wpAny _ _ (Builtin.List.listSubscript? (.ref sl) >>= _) _ _ s
  refine wpAny_bind ?_; unfold Builtin.List.listSubscript?
  refine wpAny_bind (wpAny_specialOf ts slice_no_index ?_); simp only [Option.isNone_none, if_true]; refine wpAny_pure ?_; show wpAny _ _ (typeOf (.ref sl) >>= _) _ _ s
  refine wpAny_bind (wpAny_typeOf ts ?_); rw [if_neg (by decide), listSliceParts_eq]
  refine wpAny_bind (wpAny_bind (wpAny_field g1 g3 (x := .none) rfl (wpAny_bind (wpAny_listPart .none ?_))))
  rw [if_neg (show ¬ ((rawPart none == rawInt 0) = true) from Bool.false_ne_true)]
  refine wpAny_bind (wpAny_field g1 g3 (x := vl) rfl (wpAny_bind (wpAny_listPart pl (wpAny_bind (wpAny_field g1 g3 (x := vu) rfl (wpAny_bind (wpAny_listPart pu (wpAny_pure ?_))))))))
  simp only [far, Bool.false_eq_true, if_false]; refine wpAny_bind (m := Builtin.List.listAllItems (.ref b) "must assign iterable to extended slice") ?_
  unfold Builtin.List.listAllItems; refine wpAny_bind (wpAny_typeOf tb.typeIs ?_)
  simp only [beq_self_eq_true, Bool.true_or, if_true]
  unfold Builtin.List.listItems; refine wpAny_bind (wpAny_seqItems e2 rfl (wpAny_pure (wpAny_bind (wpAny_bind (wpAny_seqItems e rfl (wpAny_pure ?_))))))
  refine wpAny_bind (wpAny_of_eq ((sliceIndices_raw lo hi none its.size (by simp)).trans (congrArg (pure : Int × Int × Int → Sem (Int × Int × Int)) hb)) ?_); show wpAny _ _ (if ((1 : Int) == 1) = true then _ else _) _ _ s
  rw [if_pos (by decide)]; refine wpAny_bind (wpAny_rule ?_)
  simp only [notLongL hsz, Bool.false_eq_true, if_false]
  try refine wpAny_bind (wpAny_pure ?_); show wpAny _ _ (updateSeq l (fun xs => xs.extract 0 ((a : Int)).toNat ++ new ++ xs.extract (max (a : Int) (c : Int)).toNat xs.size) >>= _) _ _ s
  rw [mx, Int.toNat_natCast]; refine wpAny_bind (wpAny_updateSeq (hz := Nat.le_trans (Nat.le_add_right _ _) hsz) (_hz' := sz) e rfl (wpAny_bind (wpAny_letGo ?_)))
  first | exact wpAny_bind (wpAny_pure (wpAny_pure ⟨.none, rfl, wpAny_pure h⟩)) | exact wpAny_pure ⟨.none, rfl, wpAny_pure h⟩
end
end M22

namespace M22
section
variable {X : Cx} {pos p2 : Pos} {lo hi : Option Expr}
theorem clip_ix (n d : Nat) (v : Int) : max 0 (min (if v < 0 then v + (n : Int) else v) (n : Int)) = (HT.sIx n d (some v) : Nat) := by
  show _ = (((if v < 0 then (v + (n : Int)).toNat else min v.toNat n) : Nat) : Int)
  split <;> omega
theorem bounds_ix (lo hi : Option Int) (n : Nat) : sliceBounds lo hi none n = (((HT.sIx n 0 lo : Nat) : Int), ((HT.sIx n n hi : Nat) : Int), 1) := by
  unfold sliceBounds
  simp only [Option.getD_none, show (1 : Int) > 0 by decide, if_true]
  cases lo <;> cases hi <;> simp only [HT.sIx_none, clip_ix n 0, clip_ix n n] <;> rfl
theorem six_le (n d : Nat) (hd : d ≤ n) (o : Option Int) : HT.sIx n d o ≤ n := by
  cases o with
  | none => exact hd
  | some v => show (if v < 0 then (v + (n : Int)).toNat else min v.toNat n) ≤ n; split <;> omega
/-- xs[lo:hi] = a list; what stands between is cut out -/
def gCut (to : TE) (tl th : TO) : TG := fun v σ H Q => to σ H fun o H1 => tl σ H1 fun l H2 => th σ H2 fun u H3 => ∃ a b xs ys, o = .ref a ∧ v = .ref b ∧ a ≠ b ∧ H3 a = some (.lst xs) ∧ H3 b = some (.lst ys) ∧
  HT.sIx xs.length 0 l ≤ HT.sIx xs.length xs.length u ∧ xs.length + ys.length ≤ sizeLine ∧ Q σ (upd H3 a (.lst (xs.take (HT.sIx xs.length 0 l) ++ ys ++ xs.drop (HT.sIx xs.length xs.length u))))
theorem pg_cut {o : Expr} {to : TE} {tl th : TO} (ho : PE X o to) (hl : PO X lo tl) (hu : PO X hi th)
    (ha : ∀ v, assign (.Subscript o (.Slice lo hi none p2) pos) X.env v = (do
      let ov ← holding [v] (eval o X.env)
      let iv ← holding [v, ov] (eval (.Slice lo hi none p2) X.env)
      standAt pos
      holding [v, ov, iv] (setItem ov iv v); release [iv, v, ov] []) := by intro _; rfl) : PG X (.Subscript o (.Slice lo hi none p2) pos) (gCut to tl th) := by
  refine ⟨fun pins s σ H v u Q I r h => ?_⟩
  rw [ha]
  refine wpAny_bind (wpAny_holding (thn (ho.run pins s σ H _ I h) fun ov s1 ⟨x, H1, I1, r1, q1⟩ => wpAny_bind (wpAny_holding ?_)))
  refine wpAny_Slice (thn (hl.run pins s1 σ H1 _ I1 q1) fun vl s2 ⟨l, H2, I2, pl, q2⟩ => thn (hu.run pins s2 σ H2 _ I2 q2) fun vu s3 ⟨t, H3, I3, pu, q3⟩ => ?_)
  rw [evalPart_none]; refine wpAny_pure ?_
  obtain ⟨a, b, xs, ys, rfl, rfl, hne, hH, hB, hw, hz, q⟩ := q3
  cases r; cases r1
  have I4 : Inv X pins σ H3 { s3 with heap := s3.heap.push { cls := .type "slice", data := .fields #[vl, vu, .none] } } := I3.kept (t' := s3.toks) fun b ob q => Heap.get?_push_of_some _ q
  obtain ⟨z, its, n, ri, hl, e⟩ := I4.lstM hH
  obtain ⟨z2, its2, n2, ri2, hl2, e2⟩ := I4.lstM hB
  refine wpAny_bind (wpAny_standAt (wpAny_bind (wpAny_holding (setCut e e2 hne (Heap.IsSliceOf.new ..) pl pu (bounds_ix l t its.toArray.size) ?_ (six_le _ _ (Nat.le_refl _) _) (by rw [List.size_toArray, List.size_toArray]; omega) ?_))))
  · rw [List.size_toArray, ← hl]; exact hw
  · refine wpAny_release ⟨σ, _, I4.lset (its' := its.take (HT.sIx xs.length 0 l) ++ its2 ++ its.drop (HT.sIx xs.length xs.length t)) (t' := s3.toks) hH e ?_ (Vals.append (Vals.append (ri.take _) ri2) (ri.drop _)) ?_, q⟩
    · have q := splice_eq its its2 (HT.sIx xs.length 0 l) (HT.sIx xs.length xs.length t)
      simp only [List.size_toArray, ← hl] at q ⊢; exact q
    · rw [List.length_append, List.length_append, List.length_take, List.length_drop]; omega
end
end M22
/-! ### xs[i] of a negative i, by values -/
namespace M22
section
variable {X : Cx}
def rGetN (K : PySem.W.Frag) : V → V → Hp → VK → Prop := fun x y H Q => ∃ p xs i v, x = .ref p ∧ y = .int i ∧ i < 0 ∧ SqL K H p xs ∧ atI xs i = some v ∧ Q v H
theorem get_neg {K : PySem.W.Frag} (hK : X.K = K) : PGet X (rGetN K) := by
  subst hK
  intro pins s σ H x y v u Q I rx ry h
  obtain ⟨p, xs, i, z, rfl, rfl, hi, hq, he, q⟩ := h
  cases rx
  obtain ⟨t, rfl⟩ := ry
  obtain ⟨its, r, pl, hz⟩ := I.list hq; obtain ⟨j, h1, h2, h3, h4, h5⟩ := atI_get he
  obtain ⟨w, ew, rw'⟩ := r.get h2; have hl := r.length; have hn := line63
  have fin : EP X pins σ Q w s := ⟨z, H, I, rw', q⟩
  have hj : (i + (its.toArray.size : Int)).toNat = j := by
    rw [seqIndex_neg hi h4] at h1; rw [List.size_toArray, ← hl]; exact Option.some.inj h1
  exact thn (wpAny_getItem_list_neg (Q := fun r s' => r = w ∧ s' = s) pl.isList hi (by rw [List.size_toArray] <;> omega) (by omega) (by rw [hj]; simpa using ew) ⟨rfl, rfl⟩) fun r s' q => by rw [q.1, q.2]; exact fin
end
end M22
/-! ### enumerate, starred targets, stores into parts of a list -/
section
variable {z : Cz} {ρ : List Sl} {ta tb te ti : TE} {t : TA} {i : Nat} {I : List Dt → List Sl → (List Sl → Prop) → (List Sl → List Sl) → Prop}
def enumD : Nat → List Dt → List Dt
  | _, [] => []
  | k, d :: ds => .tup [.int (k : Int), d] :: enumD (k + 1) ds
theorem enumD_length : ∀ (ds : List Dt) (k : Nat), (enumD k ds).length = ds.length
  | [], _ => rfl
  | _ :: ds, k => by rw [enumD, List.length_cons, List.length_cons, enumD_length ds]
theorem enumD_get : ∀ (ds : List Dt) (k i : Nat), (enumD k ds)[i]? = (ds[i]?).map fun d => .tup [.int ((k + i : Nat) : Int), d]
  | [], _, _ => rfl
  | d :: ds, k, 0 => rfl
  | d :: ds, k, i + 1 => by
    rw [enumD, List.getElem?_cons_succ, List.getElem?_cons_succ, enumD_get ds (k + 1) i, show k + 1 + i = k + (i + 1) by omega]
theorem zi_enum {K' : PySem.W.Frag} (hK : K' = z.K) (h : ZA z t ρ fun ds ρ1 => ∃ (u : Bool) (xs : List Dt), ds = [.lst u xs] ∧ I (enumD 0 xs) ρ1 bT bI) : ZI z (iEnum K' t) ρ I := fun m F H σ R S k => by
  subst hK
  refine h m F H σ _ S fun ds ρ1 F1 H1 vs n1 s1 S1 r1 => ?_
  obtain ⟨u, xs, rfl, n⟩ := n1
  obtain ⟨v, r, rfl, rv, rr⟩ := r1.inv
  obtain rfl := rr.inv0
  simp only [Rz] at rv
  obtain ⟨b, us, rfl, e, _, rx⟩ := rv
  refine ⟨b, us, rfl, SqL.of (S1.le.exact e rfl), k _ _ _ _ _ _ _ _ _ n s1 .id S1 ⟨us.length, _, _, walk_enum, by rw [enumD_length, rx.len], fun F' H' f le _ => SqL.of (le.exact (f _ _ e) rfl), fun m2 i d F' H' H'' x σ ρ eb e f S y => ?_⟩⟩
  obtain ⟨T, vx, vy, rfl, hN, rfl, e2, e3⟩ := y
  obtain ⟨dx, hd, rd⟩ := rx.back e3
  rw [enumD_get, hd] at e
  cases e
  cases e2
  obtain ⟨f2, S2⟩ := S.new (o := .tup [.int (i : Nat), vy]) hN
  refine ⟨_, f2, S2, ?_⟩
  simp only [Rz, Nat.zero_add]
  exact ⟨T, _, rfl, upd_same, .cons rzi (.cons (rz_mono (f.trans f2) _ _ rd) .nil)⟩
theorem zg_star {K' : PySem.W.Frag} {g1 g2 : TG} {u : Bool} {ds : List Dt} {d : Dt} {fr : Bool} {L : List Sl → Prop} (hK : K' = z.K) (hl : ds.length ≤ 16000) (h : ZG z g1 (.lst true ds) true ρ fun ρ1 => ZG z g2 d false ρ1 L) :
    ZG z (M22.gStar K' g1 g2) (.lst u (ds ++ [d])) fr ρ L := fun m F H σ v Q S r k => by
  subst hK
  obtain ⟨F2, s2, S2, rx⟩ := rzF_frz S r
  simp only [Rz] at rx
  obtain ⟨a, xs, rfl, e, _, rx⟩ := rx
  have hl2 := rx.len
  rw [List.length_append, List.length_singleton] at hl2
  have r1 := rx.take ds.length
  have r2 := rx.drop ds.length
  rw [List.take_left] at r1
  rw [List.drop_left] at r2
  obtain ⟨y, r', e2, ry, rr⟩ := r2.inv
  obtain rfl := rr.inv0
  have ex : xs = xs.take ds.length ++ [y] := by rw [← e2, List.take_append_drop]
  refine ⟨a, xs.take ds.length, y, rfl, ex ▸ SqL.of (S2.le.exact e rfl), by rw [List.length_take]; omega, fun p hp => ?_⟩
  have S3 := S2.newO (o := .lst (xs.take ds.length)) hp
  refine h m F2 _ σ _ _ S3 (rzF_new S2 hp (.lst r1)) fun ρ1 F1 H1 σ1 n1 f1 S1 => ?_
  exact n1 m F1 H1 σ1 y Q S1 (rzF_f (rz_mono f1 _ _ ry)) fun ρ2 F3 H3 σ3 n2 f2 S4 => k _ _ _ _ n2 (s2.trans (f1.trans f2)) S4
theorem zs_augN {K' : PySem.W.Frag} {D : Zn} {f : Int → Int → Int} {t0 : Bool} {ds0 : List Dt} (hK : K' = z.K) (h0 : ρ[i]? = some (.o (.lst t0 ds0)))
    (h : ZE z ti ρ fun y _ ρ1 => ∃ (j : Int) (ds : List Dt) (a : Int) (k : Nat), y = .int j ∧ j < 0 ∧ ρ1[i]? = some (.o (.lst true ds)) ∧ ixN ds.length j = some k ∧ ds[k]? = some (.int a) ∧
      ZE z te ρ1 fun y2 _ ρ2 => ∃ b, y2 = .int b ∧ ρ2[i]? = some (.o (.lst true ds)) ∧ D.nx (ρ2.set i (.o (.lst true (ds.set k (.int (f a b))))))) : ZS z (tAugS (tVar i) ti te (M22.rGetN K') (ipI f) rSetL) ρ D := fun m F H σ E S kn kr kb kc => by
  subst hK
  obtain ⟨l, e, _⟩ := S.geto h0
  refine ⟨.ref l, e, h m F H σ _ S fun y fy ρ1 F1 H1 vy n1 s1 S1 r1 => ?_⟩
  obtain ⟨F2, s2, S2, ry⟩ := rzF_frz S1 r1
  obtain ⟨j, ds, a, k, rfl, hj, hs, hk, ha, n⟩ := n1
  obtain ⟨l', e', q1, q2, q3, ho, q4, q5⟩ := S2.geto hs
  rw [e] at e'
  cases e'
  cases q5 with
  | @lst xs _ r =>
    obtain ⟨v, ev, rv⟩ := r.at_ ha
    obtain rfl := rz_i rv
    refine ⟨l, xs, j, .int a, rfl, rz_i ry, hj, SqL.of q4, by unfold atI; rw [r.len, hk]; exact ev, ?_⟩
    refine n m F2 H1 σ _ S2 fun y2 f2 ρ2 F3 H3 vy2 n2 s3 S3 r3 => ?_
    obtain ⟨F4, s4, S4, ry2⟩ := rzF_frz S3 r3
    obtain ⟨b, rfl, hs2, n2⟩ := n2
    obtain ⟨l2, e2, q1, q2, q3, ho, q4, q5⟩ := S4.geto hs2
    rw [e] at e2
    cases e2
    cases q5 with
    | @lst xs2 _ r2 =>
      refine ⟨a, b, rfl, rz_i ry2, l, xs2, j, k, rfl, rz_i ry, q4, by rw [r2.len]; exact hk, ?_⟩
      exact kn _ _ _ _ n2 (s1.trans (s2.trans (s3.trans s4))) (S4.put hs2 e (.lst (Rzl.set (show Rz z.K m.B F4 (.int (f a b)) (.int (f a b)) from rzi) k r2)))
theorem zg_cut {tl th : TO} {t0 u fr : Bool} {ds0 es : List Dt} {L : List Sl → Prop} (h0 : ρ[i]? = some (.o (.lst t0 ds0)))
    (h : ZO z tl ρ fun lo ρ1 => ZO z th ρ1 fun hi ρ2 => ∃ ds, ρ2[i]? = some (.o (.lst true ds)) ∧ HT.sIx ds.length 0 lo ≤ HT.sIx ds.length ds.length hi ∧ ds.length + es.length ≤ 100000 ∧
      L (ρ2.set i (.o (.lst true (ds.take (HT.sIx ds.length 0 lo) ++ es ++ ds.drop (HT.sIx ds.length ds.length hi)))))) : ZG z (M22.gCut (tVar i) tl th) (.lst u es) fr ρ L := fun m F H σ v Q S r k => by
  obtain ⟨F2, s2, S2, rx⟩ := rzF_frz S r
  simp only [Rz] at rx
  obtain ⟨b, ys, rfl, eb, _, ry⟩ := rx
  obtain ⟨l, e, _⟩ := S2.geto h0
  refine ⟨.ref l, e, h m F2 H σ _ S2 fun lo ρ1 F3 H3 n1 s3 S3 => n1 m F3 H3 σ _ S3 fun hi ρ2 F4 H4 n2 s4 S4 => ?_⟩
  obtain ⟨ds, hs, hle, hz, n⟩ := n2
  obtain ⟨l', e', q1, q2, q3, ho, q4, q5⟩ := S4.geto hs
  rw [e] at e'
  cases e'
  cases q5 with
  | @lst xs _ rd =>
    have fb := s4 _ _ (s3 _ _ eb)
    refine ⟨l, b, xs, ys, rfl, rfl, (fun c => by rw [c] at q1; rw [q1] at fb; cases fb), q4, S4.le.exact fb rfl, by rw [rd.len]; exact hle, by rw [rd.len, ry.len, sizeLine_eq]; omega, ?_⟩
    rw [rd.len]
    exact k _ _ _ _ n (s2.trans (s3.trans s4)) (S4.put hs e (.lst (((rd.take _).app (rzl_mono (s3.trans s4) _ _ ry)).app (rd.drop _))))
end
theorem zt_truK {z : Cz} {ρ : List Sl} {i : Nat} {K' : PySem.W.Frag} (hK : K' = z.K) {s0 : Sl} {t : Bool} {ds : List Dt} {M : Bool → List Sl → Prop} (h0 : ρ[i]? = some s0) (p0 : Pk s0 (.lst t ds)) (q : M (!ds.isEmpty) ρ) : ZT z (tTru K' (tVar i)) ρ M := by
  subst hK
  exact zt_truv h0 p0 q
/-- a part of a list that is one's own, which stays one's own -/
theorem ze_slLv {z : Cz} {ρ : List Sl} {N : Dt → Bool → List Sl → Prop} {i : Nat} {K' : PySem.W.Frag} {tl th : TO} {s0 : Sl} {c0 : Dt} (hK : K' = z.K) (h0 : ρ[i]? = some s0) (p0 : Pk s0 c0)
    (h : ZO z tl ρ fun lo ρ1 => ZO z th ρ1 fun hi ρ2 => ∃ s t ds, ρ2[i]? = some s ∧ Pk s (.lst t ds) ∧ N (.lst true (cutD ds lo hi)) true ρ2) : ZE z (tSl (rSlL K') (tVar i) tl th) ρ N := fun m F H σ Q S k => by
  subst hK
  obtain ⟨v, ev⟩ := S.has h0 p0
  refine ⟨v, ev, h m F H σ _ S fun lo ρ1 F3 H3 n2 s3 S3 => n2 m F3 H3 σ _ S3 fun hi ρ2 F4 H4 n3 s4 S4 => ?_⟩
  obtain ⟨s, t, ds, hs, p, n⟩ := n3
  obtain ⟨a, xs, ea, h1, r⟩ := S4.peekL hs p
  rw [ev] at ea
  cases ea
  exact ⟨a, xs, rfl, SqL.of h1, fun q hq => k _ _ _ _ _ _ n (s3.trans s4) (S4.newO hq) (rzF_new S4 hq (.lst (cut_rzl r lo hi)))⟩
/-! ### the pieces of an expression's text, and what the loop over them makes -/
section
structure Pc where
  ws : List Str
  t : Str
  c : Nat
structure Pz where
  f : List (Str × Int)
  o : List Str
  k : List Int
def clT (c : Nat) : Str := ⟨(List.replicate c 41).toArray⟩
def opT (ws : List Str) (a : Str) : Str := Txt.join "(" (ws ++ [a])
def rend (p : Pc) : Str := opT p.ws (p.t ++ clT p.c)
def litP (w : Str) : List At → List Str → Nat → List Pc → List Pc
  | a :: b :: _, ws, c, r => ⟨ws ++ [("sample" : Str)], atT a, 0⟩ :: ⟨[], atT b, c + 1⟩ :: r
  | ats, ws, c, r => ⟨ws, litT w ats, c⟩ :: r
def pzA : Ex → List Str → Nat → List Pc → List Pc
  | .var x o, ws, c, r => ⟨ws, txE (.var x o), c⟩ :: r
  | .pre x, ws, c, r => ⟨ws, txE (.pre x), c⟩ :: r
  | .lit w ats, ws, c, r => litP w ats ws c r
  | .un w e, ws, c, r => pzA e (ws ++ [w]) (c + 1) r
  | .bin w e f, ws, c, r => pzA e (ws ++ [w]) 0 (pzA f [] (c + 1) r)
  | .tern e f g, ws, c, r => pzA e (ws ++ [("if" : Str)]) 0 (pzA f [] 0 (pzA g [] (c + 1) r))
def litPost (w : Str) : List At → List (Str × Int)
  | a :: b :: _ => [(atT a, 0), (atT b, 0), (("sample" : Str), 2)]
  | ats => [(litT w ats, 0)]
def post : Ex → List (Str × Int)
  | .var x o => [(txE (.var x o), 0)]
  | .pre x => [(txE (.pre x), 0)]
  | .lit w ats => litPost w ats
  | .un w e => post e ++ [(w, 1)]
  | .bin w e f => post e ++ (post f ++ [(w, 2)])
  | .tern e f g => post e ++ (post f ++ (post g ++ [(("if" : Str), 3)]))
inductive ClsP : Nat → Pz → Pz → Prop
  | zero {s : Pz} : ClsP 0 s s
  | succ {c : Nat} {f : List (Str × Int)} {o : List Str} {k : List Int} {w : Str} {n : Int} {s' : Pz} : ClsP c ⟨f ++ [(w, n)], o, k⟩ s' → ClsP (c + 1) ⟨f, o ++ [w], k ++ [n]⟩ s'
inductive CmaP : Bool → Pz → Pz → Prop
  | no {s : Pz} : CmaP false s s
  | yes {f : List (Str × Int)} {o : List Str} {k : List Int} {w : Str} {n : Int} : CmaP true ⟨f, o ++ [w], k ++ [n]⟩ ⟨f, o ++ [w], k ++ [n + 1]⟩
def opnP (s : Pz) (p : Pc) : Pz := ⟨s.f ++ [(p.t, 0)], s.o ++ p.ws, s.k ++ List.replicate p.ws.length 1⟩
inductive RunsP : Bool → List Pc → Pz → Pz → Prop
  | nil {b : Bool} {s : Pz} : RunsP b [] s s
  | cons {b : Bool} {p : Pc} {ps : List Pc} {s s1 s2 s' : Pz} : CmaP b s s1 → ClsP p.c (opnP s1 p) s2 → RunsP true ps s2 s' → RunsP b (p :: ps) s s'
theorem opnP_add (f : List (Str × Int)) (o : List Str) (k : List Int) (ws : List Str) (w : Str) (x : Str) (c : Nat) :
    (f, o ++ (ws ++ [w]), k ++ List.replicate (ws ++ [w]).length (1 : Int)) = (f, (o ++ ws) ++ [w], (k ++ List.replicate ws.length 1) ++ [1]) := by
  rw [List.length_append, List.length_singleton, ← List.replicate_append_replicate, List.append_assoc, List.append_assoc]
  rfl
def mid (s1 : Pz) (ps : List (Str × Int)) (ws : List Str) : Pz := ⟨s1.f ++ ps, s1.o ++ ws, s1.k ++ List.replicate ws.length 1⟩
theorem mid_snoc (s1 : Pz) (ps : List (Str × Int)) (ws : List Str) (w : Str) : mid s1 ps (ws ++ [w]) = ⟨(mid s1 ps ws).f, (mid s1 ps ws).o ++ [w], (mid s1 ps ws).k ++ [1]⟩ := by
  unfold mid
  rw [List.length_append, List.length_singleton, ← List.replicate_append_replicate, List.append_assoc, List.append_assoc]
  rfl
theorem mid_nil (s1 : Pz) (ps : List (Str × Int)) : mid s1 ps [] = ⟨s1.f ++ ps, s1.o, s1.k⟩ := by
  unfold mid
  rw [List.append_nil, List.length_nil, List.replicate_zero, List.append_nil]
theorem run_pz : ∀ (e : Ex) (ws : List Str) (c : Nat) (r : List Pc) (b : Bool) (s s1 s2 s' : Pz), CmaP b s s1 → ClsP c (mid s1 (post e) ws) s2 → RunsP true r s2 s' → RunsP b (pzA e ws c r) s s'
  | .var _ _, _, _, _, _, _, _, _, _, h, g, k => .cons h g k
  | .pre _, _, _, _, _, _, _, _, _, h, g, k => .cons h g k
  | .lit w [], _, _, _, _, _, _, _, _, h, g, k => .cons h g k
  | .lit w [_], _, _, _, _, _, _, _, _, h, g, k => .cons h g k
  | .lit w (a :: b :: r'), ws, c, r, bb, s, s1, s2, s', h, g, k => by
    refine .cons h .zero (.cons (s1 := ⟨s1.f ++ [(atT a, 0)], (s1.o ++ ws) ++ [("sample" : Str)], (s1.k ++ List.replicate ws.length 1) ++ [2]⟩) ?_ (s2 := s2) ?_ k)
    · have := mid_snoc s1 [(atT a, 0)] ws "sample"
      show CmaP true (mid s1 [(atT a, 0)] (ws ++ [("sample" : Str)])) _
      rw [this]
      exact .yes
    · show ClsP (c + 1) ⟨s1.f ++ [(atT a, 0)] ++ [(atT b, 0)], ((s1.o ++ ws) ++ [("sample" : Str)]) ++ [], ((s1.k ++ List.replicate ws.length 1) ++ [2]) ++ []⟩ s2
      rw [List.append_nil, List.append_nil]
      refine .succ ?_
      have e : mid s1 (post (.lit w (a :: b :: r'))) ws = ⟨s1.f ++ [(atT a, 0)] ++ [(atT b, 0)] ++ [(("sample" : Str), 2)], s1.o ++ ws, s1.k ++ List.replicate ws.length 1⟩ := by
        unfold mid
        rw [List.append_assoc, List.append_assoc]
        rfl
      rw [← e]
      exact g
  | .un w e, ws, c, r, b, s, s1, s2, s', h, g, k => by
    refine run_pz e (ws ++ [w]) (c + 1) r b s s1 s2 s' h ?_ k
    rw [mid_snoc]
    refine .succ ?_
    have q : mid s1 (post (.un w e)) ws = ⟨(mid s1 (post e) ws).f ++ [(w, 1)], (mid s1 (post e) ws).o, (mid s1 (post e) ws).k⟩ := by
      unfold mid
      rw [List.append_assoc]
      rfl
    rw [← q]
    exact g
  | .bin w e f, ws, c, r, b, s, s1, s2, s', h, g, k => by
    refine run_pz e (ws ++ [w]) 0 _ b s s1 _ s' h .zero ?_
    rw [mid_snoc]
    refine run_pz f [] (c + 1) r true _ _ s2 s' .yes ?_ k
    rw [mid_nil]
    refine .succ ?_
    have q : mid s1 (post (.bin w e f)) ws = ⟨(mid s1 (post e) ws).f ++ post f ++ [(w, 1 + 1)], (mid s1 (post e) ws).o, (mid s1 (post e) ws).k⟩ := by
      unfold mid
      rw [List.append_assoc, List.append_assoc]
      rfl
    rw [← q]
    exact g
  | .tern e f g0, ws, c, r, b, s, s1, s2, s', h, g, k => by
    refine run_pz e (ws ++ [("if" : Str)]) 0 _ b s s1 _ s' h .zero ?_
    rw [mid_snoc]
    refine run_pz f [] 0 _ true _ _ _ s' .yes .zero ?_
    rw [mid_nil]
    refine run_pz g0 [] (c + 1) r true _ _ s2 s' .yes ?_ k
    rw [mid_nil]
    refine .succ ?_
    have q : mid s1 (post (.tern e f g0)) ws = ⟨(mid s1 (post e) ws).f ++ post f ++ post g0 ++ [(("if" : Str), 1 + 1 + 1)], (mid s1 (post e) ws).o, (mid s1 (post e) ws).k⟩ := by
      unfold mid
      rw [List.append_assoc, List.append_assoc, List.append_assoc]
      rfl
    rw [← q]
    exact g
def endP (e : Ex) : Pz := ⟨post e, [], []⟩
theorem run_all (e : Ex) : RunsP false (pzA e [] 0 []) ⟨[], [], []⟩ (endP e) := by
  refine run_pz e [] 0 [] false _ _ _ _ .no .zero ?_
  rw [mid_nil]
  exact .nil
/-! texts -/
theorem empty_app (a : Str) : ("" : Str) ++ a = a := TL.ext_tl (by rw [TL.tl_append]; rfl)
theorem app_empty (a : Str) : a ++ ("" : Str) = a := TL.ext_tl (by rw [TL.tl_append]; exact List.append_nil _)
theorem txt_join (g : Str) (r : List Str) : Txt.join g r = Str.join g r := PySem.StrLaws.glued_eq_join ..
theorem join_c2 (g x y : Str) (r : List Str) : Txt.join g (x :: y :: r) = x ++ g ++ Txt.join g (y :: r) := by
  rw [txt_join, txt_join]
  rfl
theorem opT_cons (w : Str) (ws : List Str) (a : Str) : opT (w :: ws) a = w ++ ("(" : Str) ++ opT ws a := by
  unfold opT
  cases ws with
  | nil => exact join_c2 _ _ _ _
  | cons x r => exact join_c2 _ _ _ _
theorem opT_nil (a : Str) : opT [] a = a := rfl
theorem opT_snoc : ∀ (ws : List Str) (w a : Str), opT (ws ++ [w]) a = opT ws (w ++ ("(" : Str) ++ a)
  | [], w, a => rfl
  | x :: ws, w, a => by rw [List.cons_append, opT_cons, opT_cons, opT_snoc ws]
theorem opT_app : ∀ (ws : List Str) (a b : Str), opT ws a ++ b = opT ws (a ++ b)
  | [], a, b => rfl
  | x :: ws, a, b => by rw [opT_cons, opT_cons, ← opT_app ws, app_assoc]
def joinR : List Str → Str
  | [] => ""
  | x :: r => ("," : Str) ++ Txt.join "," (x :: r)
theorem join_R (x : Str) (r : List Str) : Txt.join "," (x :: r) = x ++ joinR r := by
  cases r with
  | nil => exact (app_empty x).symm
  | cons y r => rw [join_c2, app_assoc]; rfl
theorem joinR_ne {r : List Str} (h : r ≠ []) : joinR r = ("," : Str) ++ Txt.join "," r := by
  cases r with
  | nil => exact (h rfl).elim
  | cons _ _ => rfl
theorem clT_succ (c : Nat) : clT (c + 1) = (")" : Str) ++ clT c := TL.ext_tl (by rw [TL.tl_append]; rfl)
theorem clT_zero : clT 0 = "" := rfl
theorem pzA_ne : ∀ (e : Ex) (ws : List Str) (c : Nat) (r : List Pc), (pzA e ws c r).map rend ≠ []
  | .var _ _, _, _, _ => List.cons_ne_nil _ _
  | .pre _, _, _, _ => List.cons_ne_nil _ _
  | .lit _ [], _, _, _ => List.cons_ne_nil _ _
  | .lit _ [_], _, _, _ => List.cons_ne_nil _ _
  | .lit _ (_ :: _ :: _), _, _, _ => List.cons_ne_nil _ _
  | .un _ e, _, _, _ => pzA_ne e _ _ _
  | .bin _ e _, _, _, _ => pzA_ne e _ _ _
  | .tern e _ _, _, _, _ => pzA_ne e _ _ _
theorem txt_pz : ∀ (e : Ex) (ws : List Str) (c : Nat) (r : List Pc), Txt.join "," ((pzA e ws c r).map rend) = opT ws (txE e ++ clT c) ++ joinR (r.map rend)
  | .var _ _, ws, c, r => join_R _ _
  | .pre _, ws, c, r => join_R _ _
  | .lit _ [], ws, c, r => join_R _ _
  | .lit _ [_], ws, c, r => join_R _ _
  | .lit w (a :: b :: r'), ws, c, r => by
    show Txt.join "," (rend ⟨ws ++ [("sample" : Str)], atT a, 0⟩ :: rend ⟨[], atT b, c + 1⟩ :: r.map rend) = _
    rw [join_c2, join_R]
    show opT (ws ++ [("sample" : Str)]) (atT a ++ clT 0) ++ ("," : Str) ++ ((atT b ++ clT (c + 1)) ++ joinR (r.map rend)) = opT ws ((("sample(" : Str) ++ atT a ++ ("," : Str) ++ atT b ++ (")" : Str)) ++ clT c) ++ joinR (r.map rend)
    rw [opT_snoc, clT_zero, app_empty, clT_succ, opT_app, opT_app, opT_app]
    refine congrArg (opT ws) ?_
    rw [show ("sample(" : Str) = ("sample" : Str) ++ ("(" : Str) from by decide +kernel]
    simp only [app_assoc]
  | .un w e, ws, c, r => by
    show Txt.join "," ((pzA e (ws ++ [w]) (c + 1) r).map rend) = opT ws (nodeT w [txE e] ++ clT c) ++ _
    rw [txt_pz e, opT_snoc, clT_succ]
    unfold nodeT
    rw [join1]
    simp only [app_assoc]
  | .bin w e f, ws, c, r => by
    show Txt.join "," ((pzA e (ws ++ [w]) 0 (pzA f [] (c + 1) r)).map rend) = opT ws (nodeT w [txE e, txE f] ++ clT c) ++ _
    rw [txt_pz e, joinR_ne (pzA_ne f _ _ _), txt_pz f, opT_snoc, opT_nil, clT_succ, clT_zero, app_empty, opT_app, opT_app]
    unfold nodeT
    rw [join2]
    simp only [app_assoc]
  | .tern e f g, ws, c, r => by
    show Txt.join "," ((pzA e (ws ++ [("if" : Str)]) 0 (pzA f [] 0 (pzA g [] (c + 1) r))).map rend) = opT ws (nodeT "if" [txE e, txE f, txE g] ++ clT c) ++ _
    rw [txt_pz e, joinR_ne (pzA_ne f _ _ _), txt_pz f, joinR_ne (pzA_ne g _ _ _), txt_pz g, opT_snoc, opT_nil, opT_nil, clT_succ, clT_zero, app_empty, app_empty, opT_app, opT_app]
    unfold nodeT
    rw [join3]
    simp only [app_assoc]
theorem txt_all (e : Ex) : Txt.join "," ((pzA e [] 0 []).map rend) = txE e := by
  rw [txt_pz, opT_nil, clT_zero, app_empty]
  exact app_empty _
/-! what the pieces are made of -/
def Fre (x : Str) : Prop := 40 ∉ TL.tl x ∧ 41 ∉ TL.tl x ∧ 44 ∉ TL.tl x
instance (x : Str) : Decidable (Fre x) := inferInstanceAs (Decidable (_ ∧ _ ∧ _))
structure PcOk (p : Pc) : Prop where
  ws : ∀ w ∈ p.ws, Fre w ∧ w.length ≤ 6
  wl : p.ws.length ≤ 8
  t : Fre p.t
  tl : p.t.length ≤ 30
  c : p.c ≤ 8
theorem node_fre : ∀ w ∈ nodeL, Fre w ∧ w.length ≤ 6 := by decide +kernel
theorem sample_fre : Fre "sample" ∧ ("sample" : Str).length ≤ 6 := by decide +kernel
theorem var_fre {x : Str} {o : Int} (h : NF x) (h0 : 0 ≤ o) (h4 : o ≤ 4) : Fre (txE (.var x o)) ∧ (txE (.var x o)).length ≤ 30 := by
  have q : ∀ x ∈ nm9, ∀ k ∈ List.range 5, Fre (txE (.var x (k : Int))) ∧ (txE (.var x (k : Int))).length ≤ 30 := by decide +kernel
  have := q x h o.toNat (List.mem_range.mpr (by omega))
  rwa [show ((o.toNat : Nat) : Int) = o from by omega] at this
theorem pre_fre {x : Str} (h : NF x) : Fre (txE (.pre x)) ∧ (txE (.pre x)).length ≤ 30 := by
  have q : ∀ x ∈ nm9, Fre (txE (.pre x)) ∧ (txE (.pre x)).length ≤ 30 := by decide +kernel
  exact q x h
theorem int_fre {n : Int} (h : n.natAbs ≤ 100) : Fre (intS n) := small_all (p := fun n => Fre (intS n)) (by decide +kernel) h
theorem fre_app {a b : Str} (h : Fre a) (g : Fre b) : Fre (a ++ b) := by
  unfold Fre at *
  rw [TL.tl_append]
  simp only [List.mem_append, not_or]
  exact ⟨⟨h.1, g.1⟩, ⟨h.2.1, g.2.1⟩, h.2.2, g.2.2⟩
theorem rat_fre {n d : Int} (h : RatOk n d) : Fre (ratT n d) := by
  unfold ratT
  split
  · exact int_fre h.2.1
  · exact fre_app (fre_app (int_fre h.2.1) (by decide +kernel)) (int_fre h.2.2)
theorem pz_ok : ∀ (n : Nat) (e : Ex) (ws : List Str) (c : Nat) (r : List Pc), ExOk NF n e → (∀ w ∈ ws, Fre w ∧ w.length ≤ 6) → ws.length + n ≤ 8 → c + n ≤ 8 → (∀ p ∈ r, PcOk p) → ∀ p ∈ pzA e ws c r, PcOk p
  | 0, _, _, _, _, h, _, _, _, _ => by cases h
  | n + 1, e, ws, c, r, h, hw, hl, hc, hr => by
    have snoc : ∀ w ∈ nodeL, ∀ x ∈ ws ++ [w], Fre x ∧ x.length ≤ 6 := fun w hn x hx => by
      rcases List.mem_append.mp hx with q | q
      · exact hw x q
      · rw [List.mem_singleton.mp q]; exact node_fre w hn
    have none : ∀ x ∈ ([] : List Str), Fre x ∧ x.length ≤ 6 := fun x hx => (by cases hx)
    have sl : ∀ w : Str, (ws ++ [w]).length = ws.length + 1 := fun w => by rw [List.length_append]; rfl
    have leaf : ∀ t : Str, Fre t → t.length ≤ 30 → ∀ p ∈ (⟨ws, t, c⟩ : Pc) :: r, PcOk p := fun t f l p hp => by
      rcases List.mem_cons.mp hp with rfl | hp
      · exact ⟨hw, by show ws.length ≤ 8; omega, f, l, by show c ≤ 8; omega⟩
      · exact hr p hp
    cases h with
    | var a b d => exact leaf _ (var_fre a b d).1 (var_fre a b d).2
    | pre a => exact leaf _ (pre_fre a).1 (pre_fre a).2
    | lit a =>
      cases a with
      | num a => exact leaf _ (rat_fre a) (Nat.le_trans (rat_len a) (by decide))
      | truth b => cases b <;> exact leaf _ (by decide +kernel) (by decide +kernel)
      | time => exact leaf _ (by decide +kernel) (by decide +kernel)
      | initial => exact leaf _ (by decide +kernel) (by decide +kernel)
      | sample a b _ =>
        intro p hp
        rcases List.mem_cons.mp hp with rfl | hp
        · refine ⟨fun x hx => ?_, by show (ws ++ [_]).length ≤ 8; rw [sl]; omega, rat_fre a, Nat.le_trans (rat_len a) (by decide), Nat.zero_le _⟩
          rcases List.mem_append.mp hx with q | q
          · exact hw x q
          · rw [List.mem_singleton.mp q]; exact sample_fre
        rcases List.mem_cons.mp hp with rfl | hp
        · exact ⟨none, Nat.zero_le _, rat_fre b, Nat.le_trans (rat_len b) (by decide), by show c + 1 ≤ 8; omega⟩
        · exact hr p hp
    | @un _ w e hu i => exact pz_ok n e _ _ _ i (snoc w (un_node w hu)) (by rw [sl]; omega) (by omega) hr
    | @bin _ w e f hu i j => exact pz_ok n e _ _ _ i (snoc w (bin_node w hu)) (by rw [sl]; omega) (by omega) (pz_ok n f _ _ _ j none (by show 0 + n ≤ 8; omega) (by omega) hr)
    | @tern _ e f g i j l => exact pz_ok n e _ _ _ i (snoc "if" (by decide +kernel)) (by rw [sl]; omega) (by omega) (pz_ok n f _ _ _ j none (by show 0 + n ≤ 8; omega) (by omega) (pz_ok n g _ _ _ l none (by show 0 + n ≤ 8; omega) (by omega) hr))
/-! how long all is -/
theorem post_len : ∀ (n : Nat) (e : Ex), ExOk NF n e → (post e).length + 1 ≤ 2 * 3 ^ n
  | 0, _, h => by cases h
  | n + 1, _, h => by
    have p3 := three_pos n
    rw [Nat.pow_succ]
    cases h with
    | var _ _ _ => show 1 + 1 ≤ _; omega
    | pre _ => show 1 + 1 ≤ _; omega
    | lit a => cases a <;> first | (show 1 + 1 ≤ _; omega) | (show 3 + 1 ≤ _; omega)
    | un _ i => have := post_len n _ i; show (post _ ++ [_]).length + 1 ≤ _; rw [List.length_append, List.length_singleton]; omega
    | bin _ i j => have := post_len n _ i; have := post_len n _ j; show (post _ ++ (post _ ++ [_])).length + 1 ≤ _; rw [List.length_append, List.length_append, List.length_singleton]; omega
    | @tern _ e f g i j l => have := post_len n _ i; have := post_len n _ j; have := post_len n _ l; show (post e ++ (post f ++ (post g ++ [_]))).length + 1 ≤ _; rw [List.length_append, List.length_append, List.length_append, List.length_singleton]; omega
def Wt (s : Pz) (m : Nat) : Prop := s.f.length + s.o.length ≤ m ∧ s.f.length + s.k.length ≤ m
theorem cls_wt {c : Nat} {s s' : Pz} {m : Nat} (h : ClsP c s s') (g : Wt s' m) : Wt s m := by
  induction h with
  | zero => exact g
  | succ _ ih =>
    have := ih g
    unfold Wt at *
    simp only [List.length_append, List.length_singleton] at *
    omega
theorem cma_wt {b : Bool} {s s' : Pz} {m : Nat} (h : CmaP b s s') (g : Wt s' m) : Wt s m := by
  cases h with
  | no => exact g
  | yes =>
    unfold Wt at *
    simp only [List.length_append, List.length_singleton] at *
    omega
theorem opn_wt {s : Pz} {p : Pc} {m : Nat} (g : Wt (opnP s p) m) : Wt s m := by
  unfold Wt opnP at *
  simp only [List.length_append, List.length_singleton, List.length_replicate] at *
  omega
theorem runs_wt {b : Bool} {ps : List Pc} {s s' : Pz} {m : Nat} (h : RunsP b ps s s') (g : Wt s' m) : Wt s m := by
  induction h with
  | nil => exact g
  | cons a c _ ih => exact cma_wt a (opn_wt (cls_wt c (ih g)))
end
local macro_rules | `(tactic| walk_at "z1") => `(tactic| first | ((with_reducible apply zt_truK); exact rfl; exact rfl; walk_at "pk") | ((with_reducible apply zg_star); exact rfl) | ((with_reducible apply zs_augN); exact rfl; exact rfl) | (with_reducible apply ze_split) | (with_reducible apply ze_rep) | (with_reducible apply zs_raise))
/-! ### the loop over the pieces -/
theorem clT_tl (c : Nat) : TL.tl (clT c) = List.replicate c 41 := rfl
theorem opT_tl : ∀ (ws : List Str) (a : Str) (c : Nat), c ≠ 40 → (∀ w ∈ ws, c ∉ TL.tl w) → c ∉ TL.tl a → c ∉ TL.tl (opT ws a)
  | [], _, _, _, _, h => h
  | w :: ws, a, c, hc, hw, h => by
    rw [opT_cons, TL.tl_append, TL.tl_append, List.mem_append, List.mem_append]
    rintro ((q | q) | q)
    · exact hw w List.mem_cons_self q
    · exact hc (List.mem_singleton.mp q)
    · exact opT_tl ws a c hc (fun x hx => hw x (List.mem_cons_of_mem _ hx)) h q
theorem rend_no {p : Pc} (h : PcOk p) : 44 ∉ TL.tl (rend p) := by
  refine opT_tl _ _ 44 (by decide) (fun w hw => (h.ws w hw).1.2.2) ?_
  rw [TL.tl_append, List.mem_append, clT_tl]
  rintro (q | q)
  · exact h.t.2.2 q
  · exact absurd (List.eq_of_mem_replicate q) (by decide)
theorem piece_no {p : Pc} (h : PcOk p) : ∀ x ∈ p.ws ++ [p.t ++ clT p.c], 40 ∉ TL.tl x := fun x hx => by
  rcases List.mem_append.mp hx with q | q
  · exact (h.ws x q).1.1
  · rw [List.mem_singleton.mp q, TL.tl_append, List.mem_append, clT_tl]
    rintro (r | r)
    · exact h.t.1 r
    · exact absurd (List.eq_of_mem_replicate r) (by decide)
theorem clT_len (c : Nat) : (clT c).length = c := by
  show (List.replicate c 41).toArray.size = c
  simp
theorem opT_len : ∀ (ws : List Str) (a : Str), (∀ w ∈ ws, w.length ≤ 6) → (opT ws a).length ≤ 7 * ws.length + a.length
  | [], a, _ => by rw [opT_nil]; simp
  | w :: ws, a, h => by
    have i := opT_len ws a fun x hx => h x (List.mem_cons_of_mem _ hx)
    have j := h w List.mem_cons_self
    have l : ("(" : Str).length = 1 := by decide +kernel
    rw [opT_cons, len_app, len_app, List.length_cons]
    omega
theorem rend_len {p : Pc} (h : PcOk p) : (rend p).length ≤ 100 := by
  have i := opT_len p.ws (p.t ++ clT p.c) fun w hw => (h.ws w hw).2
  have a := h.wl
  have b := h.tl
  have c := h.c
  rw [len_app, clT_len] at i
  unfold rend
  omega
theorem ixN_last {n k : Nat} (h : n = k + 1) : ixN n (-1) = some k := by
  unfold ixN
  rw [if_neg (by decide), if_pos (by omega)]
  exact congrArg some (by omega)
theorem set_last (k : List Int) (n m : Int) : ((k ++ [n]).map Dt.int).set k.length (.int m) = (k ++ [m]).map Dt.int := by
  rw [List.map_append, List.map_append, List.set_append_right k.length (Dt.int m) (by rw [List.length_map]; exact Nat.le_refl _), List.length_map, Nat.sub_self]
  rfl
theorem rep_ones (n : Nat) : (List.replicate (n : Int).toNat [Dt.int 1]).flatten = (List.replicate n (1 : Int)).map Dt.int := by
  rw [Int.toNat_natCast]
  induction n with
  | zero => rfl
  | succ n ih => rw [List.replicate_succ, List.flatten_cons, ih, List.replicate_succ]; rfl
section
variable {P : Program} {w : World} {K : PySem.W.Frag} {mg : Str → Option Value} {base : Heap}
def prD (p : Str × Int) : Dt := .tup [.str p.1, .int p.2]
def wPst : Wz := fun ds Nv _ => ∃ (e : Ex), ds = [.str (txE e)] ∧ ExOk NF 6 e ∧ Nv (.lst true ((post e).map prD)) true
def stP9 (e : Ex) (s : Pz) (s4 s5 s6 s7 s8 s9 : Sl) : List Sl := [.v (.str (txE e)), .o (.lst true (s.f.map prD)), .o (.lst true (s.o.map Dt.str)), .o (.lst true (s.k.map Dt.int)), s4, s5, s6, s7, s8, s9]
set_option maxHeartbeats 8000000 in
theorem ok__in_postfix (T : Top w K mg) : FnOk P w K mg base (L2.CX P w) 3 (He.ga K ("_in_postfix" : Str)) (fdOf K d__in_postfix) ["line"] (spZ K wPst) := by
  refine (T.f__in_postfix).ok sc__in_postfix (fun vs H Q E h => spz_len h (n := 1) fun ds Nv Ne hw => ?_) (fun cdv A outer s H vs Q E hr h => ?_)
  · obtain ⟨_, rfl, _⟩ := hw
    rfl
  · refine z_fn h ((pss_cons (ps_set (i := 1) sc__in_postfix.nd rfl (Or.inl rfl) (pe_lst pa_nil))
    (pss_cons (ps_set (i := 2) sc__in_postfix.nd rfl (Or.inl rfl) (pe_lst pa_nil))
    (pss_cons (ps_set (i := 3) sc__in_postfix.nd rfl (Or.inl rfl) (pe_lst pa_nil))
    (pss_cons (ps_lockL (ps_for (passes_of rfl) rfl (pi_enum rfl T.n_enumerate (pa_cons (pe_bm PySem.F.plainAttrs_str PySem.F.slot_str_split PySem.F.type_str_split mt_split (pv 0) (pa_cons pe_str pa_nil)) pa_nil)) (pg_tup (by rfl) (pgs_cons (pg_name (i := 4) sc__in_postfix.nd rfl (Or.inl rfl)) (pgs_cons (pg_name (i := 5) sc__in_postfix.nd rfl (Or.inl rfl)) pgs_nil)))
    (C8.pss_cut (ps_if (PW.pt (pw_and (pt_cmpR op_gt (pv 4) pe_int (nomark _)) (pw_and1 (pt_not (pt_truth (pv 2) (by intro _; rfl))))))
    (pss_one (ps_raise rfl (takes_of rfl rfl rfl rfl) (pmk_oex (oexB_ok T.x_oex_BadText).1 (oexB_ok T.x_oex_BadText).2.1 (oexB_ok T.x_oex_BadText).2.2 (ok_BadText___init__ (K := K) T) (hr.mono (by decide)) T.b_BadText___init__ .nil pass0 rfl T.g_BadText (pa_cons pe_int pa_nil))))
    pss_nil)
    (C8.pss_cut (ps_if (pt_cmpR op_gt (pv 4) pe_int (nomark _))
    (pss_one (ps_augS (pv 3) (pe_un un_neg pe_int) (M22.get_neg (K := K) rfl) pe_int ip_add set_list))
    pss_nil)
    (pss_cons (ps_asg (pe_bm PySem.F.plainAttrs_str PySem.F.slot_str_split PySem.F.type_str_split mt_split (pv 5) (pa_cons pe_str pa_nil)) (M22.pg_star (K := K) rfl (by rfl) (pg_name (i := 6) sc__in_postfix.nd rfl (Or.inl rfl)) (pg_name (i := 7) sc__in_postfix.nd rfl (Or.inl rfl))))
    (pss_cons (ps_set (i := 8) sc__in_postfix.nd rfl (Or.inl rfl) (pe_bm PySem.F.plainAttrs_str PySem.F.slot_str_rstrip PySem.F.type_str_rstrip mt_rstripChars (pv 7) (pa_cons pe_str pa_nil)))
    (pss_cons (ps_expr (pe_bm PySem.F.plainAttrs_list PySem.F.slot_list_extend PySem.F.type_list_extend mt_extend (pv 2) (pa_cons (pv 6) pa_nil)))
    (pss_cons (ps_expr (pe_bm PySem.F.plainAttrs_list PySem.F.slot_list_extend PySem.F.type_list_extend mt_extend (pv 3) (pa_cons (pe_op op_rep (pe_lst (pa_cons pe_int pa_nil)) (pe_callB (call_lenZ (K := K) rfl) (by rfl) T.n_len PySem.boot_len (pa_cons (pv 6) pa_nil))) pa_nil)))
    (pss_cons (ps_expr (pe_bm PySem.F.plainAttrs_list PySem.F.slot_list_append PySem.F.type_list_append mt_append (pv 1) (pa_cons (pe_tup (pa_cons (pv 8) (pa_cons pe_int pa_nil))) pa_nil)))
    (pss_one (ps_lockL (ps_for (passes_of rfl) rfl (pi_range1 rfl T.n_range (pa_cons (pe_op op_sub (pe_callB call_len_str (by rfl) T.n_len PySem.boot_len (pa_cons (pv 7) pa_nil)) (pe_callB call_len_str (by rfl) T.n_len PySem.boot_len (pa_cons (pv 8) pa_nil))) pa_nil)) (pg_name (i := 9) sc__in_postfix.nd rfl (Or.inl rfl))
    (pss_cons (ps_if (pt_not (pt_truth (pv 2) (by intro _; rfl)))
    (pss_one (ps_raise rfl (takes_of rfl rfl rfl rfl) (pmk_oex (oexB_ok T.x_oex_BadText).1 (oexB_ok T.x_oex_BadText).2.1 (oexB_ok T.x_oex_BadText).2.2 (ok_BadText___init__ (K := K) T) (hr.mono (by decide)) T.b_BadText___init__ .nil pass0 rfl T.g_BadText (pa_cons pe_int pa_nil))))
    pss_nil)
    (pss_one (ps_expr (pe_bm PySem.F.plainAttrs_list PySem.F.slot_list_append PySem.F.type_list_append mt_append (pv 1) (pa_cons (pe_tup (pa_cons (pe_bm0 PySem.F.plainAttrs_list PySem.F.slot_list_pop PySem.F.type_list_pop mt_pop (pv 2)) (pa_cons (pe_bm0 PySem.F.plainAttrs_list PySem.F.slot_list_pop PySem.F.type_list_pop mt_pop (pv 3)) pa_nil))) pa_nil)))))))))))))))))
    (pss_cons (ps_if (pt_truth (pv 2) (by intro _; rfl))
    (pss_one (ps_raise rfl (takes_of rfl rfl rfl rfl) (pmk_oex (oexB_ok T.x_oex_BadText).1 (oexB_ok T.x_oex_BadText).2.1 (oexB_ok T.x_oex_BadText).2.2 (ok_BadText___init__ (K := K) T) (hr.mono (by decide)) T.b_BadText___init__ .nil pass0 rfl T.g_BadText (pa_cons pe_int pa_nil))))
    pss_nil)
    (pss_one (ps_ret (pv 1))))))))) fun ds Nv Ne hw => ?_
    obtain ⟨e, rfl, ok, k⟩ := hw
    have hl := tx_len (ok.mono nf_ns)
    have hp := post_len 6 e ok
    have pok := pz_ok 6 e [] 0 [] ok (fun _ h => (by cases h)) (by decide) (by decide) (fun _ h => (by cases h))
    have hsp : Txt.split (txE e) "," = (pzA e [] 0 []).map rend := by
      have q := split_join (c := 44) (ps := (pzA e [] 0 []).map rend) (pzA_ne _ _ _ _) (fun x hx => by obtain ⟨p, hp, rfl⟩ := List.mem_map.mp hx; exact rend_no (pok p hp))
      rw [← txt_join] at q
      rw [← q]
      exact congrArg (fun t => Txt.split t ",") (txt_all e).symm
    have hwt : Wt (endP e) 1500 := ⟨by show (post e).length + 0 ≤ 1500; omega, by show (post e).length + 0 ≤ 1500; omega⟩
    have hrun := run_all e
    generalize hps : pzA e [] 0 [] = ps at *
    walk_at "zz"
    refine zs_forL (zi_enum rfl ?_)
    walk_at "zz"
    refine ⟨by omega, ?_⟩
    rw [hsp]
    walk_at "zz"
    refine ⟨true, _, rfl, fun i ρ => ∃ (s : Pz) (s4 s5 s6 s7 s8 s9 : Sl), RunsP (decide (0 < i)) (ps.drop i) s (endP e) ∧ ρ = stP9 e s s4 s5 s6 s7 s8 s9, ⟨_, .un, .un, .un, .un, .un, .un, hrun, rfl⟩, ?_, ?_⟩
    · rintro ρ ⟨s, s4, s5, s6, s7, s8, s9, hr, rfl⟩
      rw [enumD_length, List.length_map, List.length_map, List.drop_length] at hr
      cases hr
      refine ⟨trivial, ?_⟩
      dsimp only [bI, stP9, endP]
      walk_at "zz"
      exact k
    · rintro i x ρ hx ⟨s, s4, s5, s6, s7, s8, s9, hr, rfl⟩
      rw [enumD_get, List.getElem?_map, List.getElem?_map] at hx
      cases q : ps[i]? with
      | none => rw [q] at hx; cases hx
      | some p =>
        rw [q] at hx
        cases hx
        rw [Nat.zero_add]
        have po := pok p (List.mem_of_getElem? q)
        rw [List.drop_eq_getElem_cons (List.getElem?_eq_some_iff.mp q).1, (List.getElem?_eq_some_iff.mp q).2] at hr
        unfold stP9
        cases hr with
        | @cons _ _ _ _ s1 s2 _ hc hcl hrest =>
          have w2 := runs_wt hrest hwt
          have w1 := cls_wt hcl w2
          have hi : decide ((0 : Int) < (i : Int)) = decide (0 < i) := decide_eq_decide.mpr (by omega)
          generalize decide (0 < i) = b at hc hi
          walk_at "zz"
          refine zs_cut (fun ρ => ρ = stP9 e s (.v (.int i)) (.v (.str (rend p))) s6 s7 s8 s9) ?_ ?_
          · cases hc with
            | no =>
              walk_at "zz"
              refine zF (by rw [hi]; decide) ?_
              walk_at "zz"
              exact rfl
            | @yes f o k0 w0 n0 =>
              walk_at "zz"
              refine zT hi ?_
              walk_at "zz"
              refine zF (by simp) ?_
              walk_at "zz"
              exact rfl
          rintro _ rfl
          refine zs_cut (fun ρ => ρ = stP9 e s1 (.v (.int i)) (.v (.str (rend p))) s6 s7 s8 s9) ?_ ?_
          · cases hc with
            | no =>
              walk_at "zz"
              refine zF (by rw [hi]; decide) ?_
              walk_at "zz"
              exact rfl
            | @yes f o k0 w0 n0 =>
              unfold stP9
              walk_at "zz"
              refine zT hi ?_
              walk_at "zz"
              refine ⟨-1, (k0 ++ [n0]).map Dt.int, n0, k0.length, rfl, by decide, rfl, ixN_last (by rw [List.length_map, List.length_append]; rfl), by rw [List.map_append, List.getElem?_append_right (by rw [List.length_map]; exact Nat.le_refl _), List.length_map, Nat.sub_self]; rfl, ?_⟩
              walk_at "zz"
              refine ⟨rfl, ?_⟩
              dsimp only [List.set]
              rw [set_last]
          rintro _ rfl
          unfold stP9
          have hsp2 : Txt.split (rend p) "(" = p.ws ++ [p.t ++ clT p.c] := by
            have q := split_join (c := 40) (ps := p.ws ++ [p.t ++ clT p.c]) (by simp) (fun x hx => piece_no po x hx)
            rw [← txt_join] at q
            exact q
          have lr := rend_len po
          walk_at "zz"
          refine ⟨by omega, ?_⟩
          rw [hsp2, List.map_append, List.map_singleton]
          have hwl := po.wl
          have hpc := po.c
          have hpl := po.tl
          refine zg_star rfl (by rw [List.length_map]; omega) ?_
          walk_at "zz"
          have hst : Txt.rstripChars (p.t ++ clT p.c) ")" = p.t := rstrip_many (c := 41) (fun t ht e => po.t.2.1 (by rw [← e]; exact List.mem_of_getLast? ht)) p.c
          have lpt : (p.t ++ clT p.c).length = p.t.length + p.c := by rw [len_app, clT_len]
          have ws1 := opn_wt w1
          have wo1 := w1
          unfold Wt at ws1 wo1
          have l1 : (opnP s1 p).f.length = s1.f.length + 1 := by simp [opnP]
          have l2 : (opnP s1 p).o.length = s1.o.length + p.ws.length := by simp [opnP]
          have l3 : (opnP s1 p).k.length = s1.k.length + p.ws.length := by simp [opnP]
          refine ⟨by omega, ?_⟩
          rw [hst]
          walk_at "zz"
          refine ⟨_, _, _, rfl, rfl, by rw [List.length_map, List.length_map]; omega, ?_⟩
          walk_at "zz"
          refine ⟨true, [.int 1], (p.ws.length : Int), rfl, by rw [List.length_map], by omega, by omega, by simp only [List.length_singleton]; omega, ?_⟩
          rw [rep_ones]
          refine ⟨_, _, _, rfl, rfl, by rw [List.length_map, List.length_map, List.length_replicate]; omega, ?_⟩
          walk_at "zz"
          refine ⟨by rw [List.length_map]; omega, ?_⟩
          refine zs_forL (zi_range1 ?_)
          walk_at "zz"
          refine ⟨by omega, ?_⟩
          walk_at "zz"
          refine ⟨by omega, ?_⟩
          walk_at "zz"
          have ec : (((p.t ++ clT p.c).length : Nat) : Int) - ((p.t.length : Nat) : Int) = (p.c : Int) := by omega
          rw [ec]
          refine ⟨by omega, by omega, fun j ρ => ∃ (s : Pz) (s9 : Sl), ClsP (p.c - j) s s2 ∧ ρ = stP9 e s (.v (.int i)) (.v (.str (rend p))) (.v (.lst true (p.ws.map Dt.str))) (.v (.str (p.t ++ clT p.c))) (.v (.str p.t)) s9, ⟨opnP s1 p, s9, by rw [Nat.sub_zero]; exact hcl, by unfold stP9 opnP; dsimp only [List.set]; rw [List.map_append, List.map_append, List.map_append]; rfl⟩, ?_, ?_⟩
          · rintro ρ ⟨s, s9, hr, rfl⟩
            rw [List.length_map, List.length_range, Int.toNat_natCast, Nat.sub_self] at hr
            cases hr
            refine ⟨trivial, _, _, _, _, _, _, _, ?_, rfl⟩
            rw [decide_eq_true (by omega)]
            exact hrest
          · rintro j x ρ hx ⟨s, s9, hr, rfl⟩
            rw [List.getElem?_map] at hx
            cases q2 : (List.range ((p.c : Int)).toNat)[j]? with
            | none => rw [q2] at hx; cases hx
            | some j2 =>
              rw [q2] at hx
              cases hx
              have hj := (List.getElem?_eq_some_iff.mp q2).1
              rw [List.length_range, Int.toNat_natCast] at hj
              rw [show p.c - j = (p.c - (j + 1)) + 1 by omega] at hr
              have w3 := cls_wt hr w2
              cases hr with
              | @succ _ f o k0 w0 n0 _ hr =>
                unfold stP9
                rw [List.map_append, List.map_append]
                walk_at "zz"
                refine zF (by simp) ?_
                walk_at "zz"
                unfold Wt at w3
                refine ⟨by rw [List.length_map]; dsimp only at w3 ⊢; omega, ⟨f ++ [(w0, n0)], o, k0⟩, .v (.int j2), hr, ?_⟩
                dsimp only [List.set]
                rw [List.map_append]
                rfl
end
/-! ### what the postfix builds -/
section
def ksO (w : Str) : List Str := (needO w).getD []
def nodB (x : Str) (bs : List Blt) (ks : List Str) : Blt := ⟨.tup (.str x :: bs.map Blt.d), joinS x (bs.map Blt.s) ks, 1 + (bs.map Blt.m).sum, 1 + maxL 0 (bs.map Blt.l)⟩
def lfB (e : Ex) : Blt := ⟨exD e, kindV [] 1 (exD e), 1, 1⟩
def blE : Ex → Blt
  | .un w e => nodB w [blE e] (ksO w)
  | .bin w e f => nodB w [blE e, blE f] (ksO w)
  | .tern e f g => nodB "if" [blE e, blE f, blE g] (ksO "if")
  | .var x o => lfB (.var x o)
  | .pre x => lfB (.pre x)
  | .lit w ats => lfB (.lit w ats)
theorem lfB_dt (e : Ex) : (lfB e).dt = bl1 e := rfl
theorem blE_d : ∀ e : Ex, (blE e).d = exD e
  | .un w e => by show Dt.tup [.str w, (blE e).d] = _; rw [blE_d e]; rfl
  | .bin w e f => by show Dt.tup [.str w, (blE e).d, (blE f).d] = _; rw [blE_d e, blE_d f]; rfl
  | .tern e f g => by show Dt.tup [.str "if", (blE e).d, (blE f).d, (blE g).d] = _; rw [blE_d e, blE_d f, blE_d g]; rfl
  | .var _ _ => rfl
  | .pre _ => rfl
  | .lit _ _ => rfl
theorem ks_node {w : Str} (h : w ∈ nodeL) : needO w = some (ksO w) := by
  have := node_need w h
  unfold ksO
  cases q : needO w with
  | none => rw [q] at this; cases this
  | some ks => rfl
theorem kind_node {w : Str} (h : w ∈ nodeL) (n : Nat) (r : List Dt) : kindV [] (n + 1) (.tup (.str w :: r)) = joinS w (r.map (kindV [] n)) (ksO w) := by
  show (match needO w with | some ks => joinS w (r.map (kindV [] n)) ks | none => _) = _
  rw [ks_node h]
theorem blE_s {N : Str → Prop} : ∀ {n : Nat} {e : Ex}, ExOk N n e → (blE e).s = kindV [] n (exD e)
  | 0, _, h => by cases h
  | n + 1, _, h => by
    cases h with
    | var _ _ _ => rfl
    | pre _ => rfl
    | lit a => cases a <;> rfl
    | @un _ w e hw i =>
      show joinS w [(blE e).s] (ksO w) = _
      rw [blE_s i]
      exact (kind_node (un_node w hw) n [exD e]).symm
    | @bin _ w e f hw i j =>
      show joinS w [(blE e).s, (blE f).s] (ksO w) = _
      rw [blE_s i, blE_s j]
      exact (kind_node (bin_node w hw) n [exD e, exD f]).symm
    | @tern _ e f g i j k =>
      show joinS "if" [(blE e).s, (blE f).s, (blE g).s] (ksO "if") = _
      rw [blE_s i, blE_s j, blE_s k]
      exact (kind_node (by decide +kernel) n [exD e, exD f, exD g]).symm
theorem parts_node {w : Str} (h : w ∈ nodeL) (r : List Dt) : partsV (.tup (.str w :: r)) = r := if_pos (node_need w h)
theorem size_node {w : Str} (h : w ∈ nodeL) (n : Nat) (r : List Dt) : sizeV (n + 1) (.tup (.str w :: r)) = 1 + (r.map (sizeV n)).sum := by
  show 1 + ((partsV (.tup (.str w :: r))).map (sizeV n)).sum = _
  rw [parts_node h]
theorem blE_m {N : Str → Prop} : ∀ {n : Nat} {e : Ex} (m : Nat), ExOk N n e → n ≤ m → (blE e).m = (sizeV m (exD e) : Int)
  | 0, _, _, h, _ => by cases h
  | n + 1, _, 0, _, hm => by omega
  | n + 1, _, m + 1, h, hm => by
    cases h with
    | var _ _ _ => rfl
    | pre _ => rfl
    | lit a => cases a <;> rfl
    | @un _ w e hw i =>
      show 1 + ([(blE e).m]).sum = ((sizeV (m + 1) (.tup (.str w :: [exD e])) : Nat) : Int)
      rw [blE_m m i (by omega), size_node (un_node w hw)]
      simp
    | @bin _ w e f hw i j =>
      show 1 + ([(blE e).m, (blE f).m]).sum = ((sizeV (m + 1) (.tup (.str w :: [exD e, exD f])) : Nat) : Int)
      rw [blE_m m i (by omega), blE_m m j (by omega), size_node (bin_node w hw)]
      simp
    | @tern _ e f g i j k =>
      show 1 + ([(blE e).m, (blE f).m, (blE g).m]).sum = ((sizeV (m + 1) (.tup (.str "if" :: [exD e, exD f, exD g])) : Nat) : Int)
      rw [blE_m m i (by omega), blE_m m j (by omega), blE_m m k (by omega), size_node (by decide +kernel)]
      simp
theorem blE_l {N : Str → Prop} : ∀ {n : Nat} {e : Ex}, ExOk N n e → (blE e).l ≤ n
  | 0, _, h => by cases h
  | n + 1, _, h => by
    cases h with
    | var _ _ _ => show (1 : Int) ≤ _; omega
    | pre _ => show (1 : Int) ≤ _; omega
    | lit a => show (1 : Int) ≤ _; omega
    | @un _ w e hw i =>
      have := blE_l i
      show 1 + (blE e).l ≤ _
      omega
    | @bin _ w e f hw i j =>
      have := blE_l i
      have := blE_l j
      show 1 + max (blE e).l (blE f).l ≤ _
      omega
    | @tern _ e f g i j k =>
      have := blE_l i
      have := blE_l j
      have := blE_l k
      show 1 + max (max (blE e).l (blE f).l) (blE g).l ≤ _
      omega
inductive Bld : List (Str × Int) → List Blt → List Blt → Prop
  | nil {st : List Blt} : Bld [] st st
  | leaf {e : Ex} {ps : List (Str × Int)} {st st' : List Blt} : LeafE e → Bld ps (st ++ [lfB e]) st' → Bld ((txE e, 0) :: ps) st st'
  | node {x : Str} {bs : List Blt} {k : Int} {ps : List (Str × Int)} {st st' : List Blt} : x ∈ nodeL → bs.length = (ksO x).length → bs.length ≤ 3 → 1 ≤ bs.length → k = bs.length → joinS x (bs.map Blt.s) (ksO x) ≠ "" →
      Bld ps (st ++ [nodB x bs (ksO x)]) st' → Bld ((x, k) :: ps) (st ++ bs) st'
  | smp {n d n2 d2 : Int} {ps : List (Str × Int)} {st st' : List Blt} : RatOk n d → RatOk n2 d2 → 0 < n2 → Bld ps (st ++ [lfB (smpX n d n2 d2)]) st' → Bld (("sample", 2) :: ps) (st ++ [lfB (numX n d), lfB (numX n2 d2)]) st'
theorem un_ks : ∀ w ∈ unL, (ksO w).length = 1 := by decide +kernel
theorem bin_ks : ∀ w ∈ binL, (ksO w).length = 2 := by decide +kernel
theorem tern_ks : (ksO "if").length = 3 := by decide +kernel
theorem ext_un {N : Str → Prop} {t : Bool} {n : Nat} {w : Str} {e : Ex} (h : ExT N t (n + 1) (.un w e)) : w ∈ unL ∧ ∃ t', ExT N t' n e := by
  cases h with
  | neg a => exact ⟨by decide +kernel, _, a⟩
  | not a => exact ⟨by decide +kernel, _, a⟩
theorem ext_bin {N : Str → Prop} {t : Bool} {n : Nat} {w : Str} {e f : Ex} (h : ExT N t (n + 1) (.bin w e f)) : w ∈ binL ∧ (∃ t', ExT N t' n e) ∧ ∃ t', ExT N t' n f := by
  cases h with
  | ari a b c => exact ⟨(by decide +kernel : ∀ w ∈ nbL, w ∈ binL) _ a, ⟨_, b⟩, _, c⟩
  | log a b c => exact ⟨(by decide +kernel : ∀ w ∈ tbL, w ∈ binL) _ a, ⟨_, b⟩, _, c⟩
  | cmp a b c => exact ⟨(by decide +kernel : ∀ w ∈ cbL, w ∈ binL) _ a, ⟨_, b⟩, _, c⟩
  | same b c => exact ⟨by decide +kernel, ⟨_, b⟩, _, c⟩
theorem bld_ne {t : Bool} {n : Nat} {e : Ex} (h : ExT NF t n e) : (blE e).s ≠ "" := by
  rw [blE_s h.ok]
  exact ex_kind_ne h
theorem bld_post : ∀ {n : Nat} {e : Ex} {t : Bool} {ps : List (Str × Int)} {st st' : List Blt}, ExT NF t n e → Bld ps (st ++ [blE e]) st' → Bld (post e ++ ps) st st'
  | 0, _, _, _, _, _, h, _ => by cases h
  | n + 1, .var x o, _, _, _, _, h, g => by
    cases h with
    | var a b c _ => exact .leaf (.var a b c) g
  | n + 1, .pre x, _, _, _, _, h, g => by
    cases h with
    | pre a => exact .leaf (.pre a) g
  | n + 1, .lit w ats, _, ps, st, st', h, g => by
    cases h with
    | num a => exact .leaf (.num a) g
    | time => exact .leaf .time g
    | truth b => exact .leaf (.truth b) g
    | initial => exact .leaf .initial g
    | @sample _ a b a2 b2 x y z =>
      show Bld ((txE (numX a b), 0) :: (txE (numX a2 b2), 0) :: ("sample", 2) :: ps) st st'
      refine .leaf (.num x) (.leaf (.num y) ?_)
      rw [List.append_assoc]
      exact .smp x y z g
  | n + 1, .un w e, _, ps, st, st', h, g => by
    have ne := bld_ne h
    obtain ⟨hw, t', i⟩ := ext_un h
    show Bld (post e ++ [(w, 1)] ++ ps) st st'
    rw [List.append_assoc]
    exact bld_post i (.node (bs := [blE e]) (un_node w hw) (un_ks w hw).symm (by simp) (by simp) rfl ne g)
  | n + 1, .bin w e f, _, ps, st, st', h, g => by
    have ne := bld_ne h
    obtain ⟨hw, ⟨t', i⟩, t2, j⟩ := ext_bin h
    show Bld (post e ++ (post f ++ [(w, 2)]) ++ ps) st st'
    rw [List.append_assoc, List.append_assoc]
    refine bld_post i (bld_post j ?_)
    rw [List.append_assoc]
    exact .node (bs := [blE e, blE f]) (bin_node w hw) (bin_ks w hw).symm (by simp) (by simp) rfl ne g
  | n + 1, .tern e f l, _, ps, st, st', h, g => by
    have ne := bld_ne h
    cases h with
    | tern i j k =>
      show Bld (post e ++ (post f ++ (post l ++ [(("if" : Str), 3)])) ++ ps) st st'
      rw [List.append_assoc, List.append_assoc, List.append_assoc]
      refine bld_post i (bld_post j (bld_post k ?_))
      rw [List.append_assoc, List.append_assoc]
      exact .node (bs := [blE e, blE f, blE l]) (by decide +kernel) tern_ks.symm (by simp) (by simp) rfl ne g
theorem bld_all {n : Nat} {e : Ex} {t : Bool} (h : ExT NF t n e) : Bld (post e) [] [blE e] := by
  have := bld_post h (ps := []) (st := []) .nil
  rwa [List.append_nil] at this
end
local macro_rules | `(tactic| walk_at "z1") => `(tactic| first | ((with_reducible apply zg_cut); exact rfl) | ((with_reducible apply ze_slLv); exact rfl; exact rfl; walk_at "pk") | (with_reducible apply ze_neg))
/-! ### reading an expression -/
theorem tail_ix {A B : Nat} {k : Int} (ek : k = (B : Int)) (h1 : 1 ≤ B) : HT.sIx (A + B) 0 (some (-k)) = A := by
  show (if -k < 0 then (-k + ((A + B : Nat) : Int)).toNat else min (-k).toNat (A + B)) = A
  rw [if_pos (by omega)]
  omega
theorem cut_tail {st bs : List Blt} {k : Int} (ek : k = (bs.length : Int)) (h1 : 1 ≤ bs.length) : cutD ((st ++ bs).map Blt.dt) (some (-k)) none = bs.map Blt.dt := by
  unfold cutD
  rw [List.length_map, List.length_append, tail_ix ek h1, HT.sIx_none, List.map_append, List.drop_left' (by rw [List.length_map])]
  exact List.take_of_length_le (by rw [List.length_map]; omega)
theorem olds_blt : ∀ {bs : List Blt}, (∀ b ∈ bs, b.d.old = b.d) → Dt.olds (bs.map Blt.dt) = bs.map Blt.dt
  | [], _ => rfl
  | b :: bs, h => by
    have i := olds_blt fun x hx => h x (List.mem_cons_of_mem b hx)
    have j := h b List.mem_cons_self
    rw [List.map_cons, Dt.olds, i]
    show Dt.tup (Dt.olds [b.d, .str b.s, .int b.m, .int b.l]) :: _ = _
    simp only [Dt.olds, Dt.old, j]
    rfl
theorem six_le2 (n : Nat) (lo : Option Int) : HT.sIx n 0 lo ≤ HT.sIx n n none := M22.six_le n 0 (Nat.zero_le _) lo
theorem cut_put {st bs : List Blt} {b : Blt} {k : Int} (ek : k = (bs.length : Int)) (h1 : 1 ≤ bs.length) :
    List.take (HT.sIx (List.map Blt.dt (st ++ bs)).length 0 (some (-k))) (List.map Blt.dt (st ++ bs)) ++ [b.dt] ++ List.drop (HT.sIx (List.map Blt.dt (st ++ bs)).length (List.map Blt.dt (st ++ bs)).length none) (List.map Blt.dt (st ++ bs)) = List.map Blt.dt (st ++ [b]) := by
  rw [HT.sIx_none, List.drop_length, List.append_nil, List.length_map, List.length_append, tail_ix ek h1, List.map_append, List.take_left' (by rw [List.length_map]), List.map_append]
  rfl
theorem nod_old {x : Str} {bs : List Blt} {ks : List Str} (h : ∀ b ∈ bs, b.d.old = b.d) : (nodB x bs ks).d.old = (nodB x bs ks).d := by
  have : ∀ bs : List Blt, (∀ b ∈ bs, b.d.old = b.d) → Dt.olds (bs.map Blt.d) = bs.map Blt.d := by
    intro bs
    induction bs with
    | nil => intro _; rfl
    | cons b bs ih =>
      intro k
      rw [List.map_cons, Dt.olds, k b List.mem_cons_self, ih fun x hx => k x (List.mem_cons_of_mem _ hx)]
  show Dt.tup (Dt.olds (.str x :: bs.map Blt.d)) = _
  rw [Dt.olds, this bs h]
  rfl
section
variable {P : Program} {w : World} {K : PySem.W.Frag} {mg : Str → Option Value} {base : Heap}
def wRde : Wz := fun ds Nv _ => ∃ (t : Bool) (e : Ex), ds = [.str (txE e)] ∧ ExT NF t 6 e ∧ sizeV 30 (exD e) ≤ 200 ∧ Nv (exD e) false
set_option maxHeartbeats 8000000 in
theorem ok_read_expression (T : Top w K mg) : FnOk P w K mg base (L2.CX P w) 9 (He.ga K ("read_expression" : Str)) (fdOf K d_read_expression) ["line"] (spZ K wRde) := by
  refine (T.f_read_expression).ok sc_read_expression (fun vs H Q E h => spz_len h (n := 1) fun ds Nv Ne hw => ?_) (fun cdv A outer s H vs Q E hr h => ?_)
  · obtain ⟨_, _, rfl, _⟩ := hw
    rfl
  · refine z_fn h ((pss_cons (ps_set (i := 1) sc_read_expression.nd rfl (Or.inl rfl) (pe_lst pa_nil))
    (pss_cons (ps_lockL (ps_for (passes_of rfl) rfl (pi_listK (K := K) rfl (pe_call (ok__in_postfix (K := K) T) (hr.mono (by decide)) rfl T.g__in_postfix T.f__in_postfix.kp T.b__in_postfix .nil (passX (takes_of rfl rfl rfl rfl)) (pa_cons (pv 0) pa_nil))) (pg_tup (by rfl) (pgs_cons (pg_name (i := 2) sc_read_expression.nd rfl (Or.inl rfl)) (pgs_cons (pg_name (i := 3) sc_read_expression.nd rfl (Or.inl rfl)) pgs_nil)))
    (pss_one (ps_if (pt_cmpR op_eq (pv 3) pe_int (nomark _))
    (pss_one (ps_expr (pe_bm PySem.F.plainAttrs_list PySem.F.slot_list_append PySem.F.type_list_append mt_append (pv 1) (pa_cons (pe_call (ok__built_leaf (K := K) T) (hr.mono (by decide)) rfl T.g__built_leaf T.f__built_leaf.kp T.b__built_leaf .nil (passX (takes_of rfl rfl rfl rfl)) (pa_cons (pv 2) pa_nil)) pa_nil))))
    (pss_one (ps_asg (pe_lst (pa_cons (pe_call (ok__built_whole (K := K) T) (hr.mono (by decide)) rfl T.g__built_whole T.f__built_whole.kp T.b__built_whole .nil (passX (takes_of rfl rfl rfl rfl)) (pa_cons (pv 2) (pa_cons (pe_slice sl_list (pv 1) (po_some (pe_un un_neg (pv 3))) po_none) pa_nil))) pa_nil)) (M22.pg_cut (pv 1) (po_some (pe_un un_neg (pv 3))) po_none)))))))
    (pss_cons (ps_asg (pe_ix (ix_listK (K := K) rfl) (pv 1) pe_int (fun _ _ => rfl)) (pg_tup (by rfl) (pgs_cons (pg_name (i := 4) sc_read_expression.nd rfl (Or.inl rfl)) (pgs_cons (pg_name (i := 5) sc_read_expression.nd rfl (Or.inl rfl)) (pgs_cons (pg_name (i := 3) sc_read_expression.nd rfl (Or.inl rfl)) (pgs_cons (pg_name (i := 6) sc_read_expression.nd rfl (Or.inl rfl)) pgs_nil))))))
    (pss_cons (ps_if (PW.pt (pw_or (pt_cmpR op_gt (pv 3) (pe_globE rfl T.i_MOST_SIZE) (nomark _)) (pw_or1 (pt_cmpR op_gt (pv 6) (pe_globE rfl T.i_MOST_DEPTH) (nomark _)))))
    (pss_one (ps_raise rfl (takes_of rfl rfl rfl rfl) (pmk_own PySem.F.excBase_ValueError T.exc_TooLarge.1 T.g_TooLarge T.exc_TooLarge.2.1 (raises_own T.exc_TooLarge.2.2.1 T.exc_TooLarge.2.2.2) rfl)))
    pss_nil)
    (pss_one (ps_ret (pv 4)))))))) fun ds Nv Ne hw => ?_
    obtain ⟨t, e, rfl, ok, hsz, k⟩ := hw
    have hp := post_len 6 e ok.ok
    have hb := bld_all ok
    have hm := blE_m 30 ok.ok (by decide)
    have hd := blE_l ok.ok
    walk_at "zz"
    refine zs_forL (zi_list ?_)
    walk_at "zz"
    refine ⟨ok.ok, true, _, rfl, fun i ρ => ∃ (st : List Blt) (s2 s3 : Sl), Bld ((post e).drop i) st [blE e] ∧ st.length ≤ i ∧ (∀ b ∈ st, b.d.old = b.d) ∧ ρ = [.v (.str (txE e)), .o (.lst true (st.map Blt.dt)), s2, s3, .un, .un, .un], ⟨[], .un, .un, hb, Nat.le_refl _, fun _ h => (by cases h), rfl⟩, ?_, ?_⟩
    · rintro ρ ⟨st, s2, s3, hr, _, _, rfl⟩
      rw [List.length_map, List.drop_length] at hr
      cases hr
      refine ⟨trivial, ?_⟩
      dsimp only [bI]
      walk_at "zz"
      refine ⟨_, true, [(blE e).dt], 0, (blE e).dt, rfl, Or.inr (Or.inl rfl), rfl, rfl, ?_⟩
      unfold Blt.dt
      walk_at "zz"
      refine zF (by rw [decide_eq_true_eq]; omega) ?_
      walk_at "zz"
      refine zF (by rw [decide_eq_true_eq]; omega) ?_
      walk_at "zz"
      rw [blE_d]
      exact k
    · rintro i x ρ hx ⟨st, s2, s3, hr, hl, ho, rfl⟩
      rw [List.getElem?_map] at hx
      cases q : (post e)[i]? with
      | none => rw [q] at hx; cases hx
      | some p =>
        rw [q] at hx
        cases hx
        have hi := (List.getElem?_eq_some_iff.mp q).1
        rw [List.drop_eq_getElem_cons hi, (List.getElem?_eq_some_iff.mp q).2] at hr
        unfold prD
        generalize hps : (post e).drop (i + 1) = ps at hr
        cases hr with
        | @leaf f _ _ _ hle hrest =>
          subst hps
          walk_at "zz"
          refine zT rfl ?_
          walk_at "zz"
          refine ⟨hle, ?_⟩
          walk_at "zz"
          refine ⟨by rw [List.length_map]; omega, ?_⟩
          refine ⟨st ++ [lfB f], .v (.str (txE f)), .v (.int 0), hrest, by rw [List.length_append]; simp only [List.length_singleton]; omega, ?_, ?_⟩
          · intro b hb
            rcases List.mem_append.mp hb with hb | hb
            · exact ho b hb
            · rw [List.mem_singleton.mp hb]; exact exD_old f
          · dsimp only [List.set]
            rw [List.map_append]
            rfl
        | @node x bs k0 _ st _ hx hk h3 h1 ek hj hrest =>
          subst hps
          rw [List.length_append] at hl
          have cb : cutD ((st ++ bs).map Blt.dt) (some (-k0)) none = bs.map Blt.dt := cut_tail ek h1
          have ob : Dt.olds (bs.map Blt.dt) = bs.map Blt.dt := olds_blt fun b hb => ho b (List.mem_append_right _ hb)
          walk_at "zz"
          refine zF (by rw [decide_eq_true_eq]; show ¬ k0 = 0; omega) ?_
          walk_at "zz"
          refine ⟨_, true, _, rfl, Or.inr (Or.inl rfl), ?_⟩
          walk_at "zz"
          rw [cb]
          refine .inl ⟨false, x, bs, ksO x, ?_, hx, ks_node hx, hk, h3, h1, hj, ?_⟩
          · simp only [Dt.olds, Dt.old, ob]
          walk_at "zz"
          refine ⟨six_le2 _ _, by rw [List.length_map, List.length_append]; simp only [List.length_singleton]; omega, st ++ [nodB x bs (ksO x)], .v (.str x), .v (.int k0), hrest, by simp only [List.length_append, List.length_singleton]; omega, ?_, ?_⟩
          · intro b hb
            rcases List.mem_append.mp hb with hb | hb
            · exact ho b (List.mem_append_left _ hb)
            · rw [List.mem_singleton.mp hb]
              exact nod_old fun b hb => ho b (List.mem_append_right _ hb)
          · exact congrArg (fun l => [Sl.v (.str (txE e)), Sl.o (.lst true l), .v (.str x), .v (.int k0), .un, .un, .un]) (cut_put (st := st) (b := nodB x bs (ksO x)) ek h1)
        | @smp n d n2 d2 _ st _ a b c hrest =>
          subst hps
          rw [List.length_append] at hl
          have cb : cutD ((st ++ [lfB (numX n d), lfB (numX n2 d2)]).map Blt.dt) (some (-2)) none = [lfB (numX n d), lfB (numX n2 d2)].map Blt.dt := cut_tail (k := 2) rfl (by simp)
          walk_at "zz"
          refine ⟨_, true, _, rfl, Or.inr (Or.inl rfl), ?_⟩
          walk_at "zz"
          rw [cb]
          refine .inr ⟨false, n, d, n2, d2, rfl, a, b, c, ?_⟩
          walk_at "zz"
          refine ⟨six_le2 _ _, by rw [List.length_map, List.length_append]; simp only [List.length_singleton, List.length_cons, List.length_nil]; omega, st ++ [lfB (smpX n d n2 d2)], .v (.str "sample"), .v (.int 2), hrest, by simp only [List.length_append, List.length_singleton] at hl ⊢; simp only [List.length_cons] at hl; omega, ?_, ?_⟩
          · intro b hb
            rcases List.mem_append.mp hb with hb | hb
            · exact ho b (List.mem_append_left _ hb)
            · rw [List.mem_singleton.mp hb]
              rfl
          · exact congrArg (fun l => [Sl.v (.str (txE e)), Sl.o (.lst true l), .v (.str "sample"), .v (.int 2), .un, .un, .un]) (cut_put (st := st) (bs := [lfB (numX n d), lfB (numX n2 d2)]) (b := lfB (smpX n d n2 d2)) (k := 2) rfl (by simp))
end
/-! ### == and != of equal data that holds Ratios: nothing else stays behind -/
def NoFz (H H' : Hp) : Prop := ∀ a ob u, H' a = some (.frz ob u) → H a = some (.frz ob u)
/-- H', without the frozen that H has not -/
def unFz (H H' : Hp) : Hp := fun a => match H' a with
  | some (.frz _ _) => H a
  | o => o
theorem unFz_of {H H' : Hp} {a : Addr} {o : HO} (h : H' a = some o) (n : isFz o = false) : unFz H H' a = some o := by
  unfold unFz
  rw [h]
  cases o <;> first | rfl | cases n
theorem unFz_none {H H' : Hp} (e : Ext H H') {a : Addr} (h : H' a = none) : unFz H H' a = none := by
  unfold unFz
  rw [h]
theorem unFz_old {H H' : Hp} (e : Ext H H') {a : Addr} {o : HO} (h : H a = some o) : unFz H H' a = some o := by
  unfold unFz
  rw [e _ _ h]
  cases o <;> first | rfl | exact h
theorem unFz_sub {H H' : Hp} (e : Ext H H') {a : Addr} {o : HO} (h : unFz H H' a = some o) : H' a = some o := by
  unfold unFz at h
  split at h
  · exact e _ _ h
  · exact h
theorem unFz_noFz {H H' : Hp} : NoFz H (unFz H H') := fun a ob u h => by
  unfold unFz at h
  split at h
  · exact h
  · rename_i x hx
    exact absurd h (hx ob u)
theorem objOk_unFz {P : Program} {w : World} {H H' : Hp} {h : Heap} (e : Ext H H') {a : Addr} : ∀ {o : HO}, ObjOk P w H' h a o → ObjOk P w (unFz H H') h a o
  | .lst _, x => x
  | .tup _, x => x
  | .dK _, x => x
  | .dT kvs, x => by
    obtain ⟨h1, h2, xs, h3, h4⟩ := x
    exact ⟨h1, h2, xs, Paired.mapP h3 fun p q ⟨a1, a2, a3⟩ => ⟨a1, unFz_of a2 rfl, a3⟩, h4⟩
  | .set _ _, x => x
  | .ins _ _ _, x => by
    obtain ⟨h1, h2⟩ := x
    exact ⟨unFz_of h1 rfl, h2⟩
  | .own _, x => x
  | .xd _, x => x
  | .rng _ _, x => x
  | .frz o u, x => by
    obtain ⟨h1, h2⟩ := x
    exact ⟨h1, objOk_unFz e h2⟩
  | .tbl _, x => x
  | .met _ _, x => x
  | .ext _, x => x
theorem inv_unFz {X : Cx} {pins : List (Addr × Obj)} {σ : L2.St} {H H' : Hp} {s s' : Shared} (I : Inv X pins σ H s) (I' : Inv X pins σ H' s') (e : Ext H H') : Inv X pins σ (unFz H H') s' where
  ok := I'.ok
  os := I'.os
  bare := I'.bare
  base := ⟨I'.base.keep, I'.base.slot, fun b o q n hx => unFz_none e (I'.base.free b o q n hx), I'.base.there, fun b xs q => unFz_of (I'.base.tups b xs q) rfl, fun b o u q => unFz_old e (I.base.frzs b o u q), fun b ps q => by
    obtain ⟨more, hm⟩ := I'.base.tbls b ps q
    exact ⟨more, unFz_of hm rfl⟩⟩
  loc := I'.loc
  cell := I'.cell
  free := unFz_none e I'.free
  freeC := fun x c q => unFz_none e (I'.freeC x c q)
  pin := fun p hp => by
    obtain ⟨h1, h2, h3⟩ := I'.pin p hp
    exact ⟨h1, unFz_none e h2, h3⟩
  hok := fun a o q => objOk_unFz e (I'.hok a o (unFz_sub e q))
  len := I'.len
def rEqZ (D : Eqv) (b : Bool) : R2 := fun x y H Q => D x y H ∧ ∀ H', Ext H H' → NoFz H H' → Q (.bl b) H'
theorem op_eqZ {X : Cx} {n : Nat} {D : Eqv} (h : RcG X n D) (hr : Room n X.A) : OpR X (compareOp .Eq) (rEqZ D true) := by
  intro pins s σ H x y v u Q I rx ry hq
  obtain ⟨d, q⟩ := hq
  show wpAny (model X.prog X.w) X.A (richCompare .Eq v u) (EP X pins σ Q) X.xe s
  refine wpAny_mono (h X.A pins s σ H x y v u ⟨hr, rfl⟩ I rx ry d) (fun r s' z => ?_) fun _ _ x => x
  obtain ⟨rfl, H', I', e⟩ := z
  exact ⟨.bl true, _, inv_unFz I I' e, rfl, q _ (fun a o w => unFz_old e w) unFz_noFz⟩
theorem op_neZ {X : Cx} {n : Nat} {D : Eqv} (h : RnG X n D) (hr : Room n X.A) : OpR X (compareOp .NotEq) (rEqZ D false) := by
  intro pins s σ H x y v u Q I rx ry hq
  obtain ⟨d, q⟩ := hq
  show wpAny (model X.prog X.w) X.A (richCompare .NotEq v u) (EP X pins σ Q) X.xe s
  refine wpAny_mono (h X.A pins s σ H x y v u ⟨hr, rfl⟩ I rx ry d) (fun r s' z => ?_) fun _ _ x => x
  obtain ⟨rfl, H', I', e⟩ := z
  exact ⟨.bl false, _, inv_unFz I I' e, rfl, q _ (fun a o w => unFz_old e w) unFz_noFz⟩
theorem RcG.or {X : Cx} {n : Nat} {D D' : Eqv} (h : RcG X n D) (h' : RcG X n D') : RcG X n (fun x y H => D x y H ∨ D' x y H) := fun A pins s σ H x y u v sb I rx ry d => by
  rcases d with d | d
  · exact h A pins s σ H x y u v sb I rx ry d
  · exact h' A pins s σ H x y u v sb I rx ry d
theorem RnG.or {X : Cx} {n : Nat} {D D' : Eqv} (h : RnG X n D) (h' : RnG X n D') : RnG X n (fun x y H => D x y H ∨ D' x y H) := fun A pins s σ H x y u v sb I rx ry d => by
  rcases d with d | d
  · exact h A pins s σ H x y u v sb I rx ry d
  · exact h' A pins s σ H x y u v sb I rx ry d
theorem OpR.or2 {X : Cx} {op : Value → Value → Sem Value} {r r' : R2} (h : OpR X op r) (h' : OpR X op r') : OpR X op (fun x y H Q => r x y H Q ∨ r' x y H Q) := by
  intro pins s σ H x y v u Q I rx ry hq
  rcases hq with q | q
  · exact h pins s σ H x y v u Q I rx ry q
  · exact h' pins s σ H x y v u Q I rx ry q
/-! what is equal -/
def RatR (K : PySem.W.Frag) (a b : Addr) (H : Hp) : Prop := ∃ n d, RatAt K H a n d ∧ RatAt K H b n d
def DZ (K : PySem.W.Frag) : Nat → Eqv
  | 0 => fun x y H => DFlat x y H ∨ DIns (He.ga K "Ratio") (RatR K) x y H
  | n + 1 => fun x y H => DZ K n x y H ∨ (DTup K (DZ K n) x y H ∨ DList (DZ K n) x y H)
theorem mon_dz (K : PySem.W.Frag) : ∀ n, Mon (DZ K n)
  | 0 => Mon.or mon_flat (mon_ins fun a b H H' e ⟨n, d, h1, h2⟩ => ⟨n, d, h1.mono e, h2.mono e⟩)
  | n + 1 => Mon.or (mon_dz K n) (Mon.or (mon_tup (mon_dz K n)) (mon_list (mon_dz K n)))
theorem DZ.up {K : PySem.W.Frag} {x y : V} {H : Hp} {n m : Nat} (h : n ≤ m) (d : DZ K n x y H) : DZ K m x y H := by
  induction h with
  | refl => exact d
  | step _ ih => exact .inl ih
mutual
inductive EqD : Nat → Dt → Dt → Prop
  | flat {n : Nat} {d : Dt} {u : V} : flatD d = some u → EqD n d d
  | rat {n : Nat} (a b : Int) : EqD n (.rat a b) (.rat a b)
  | tup {n : Nat} {ds es : List Dt} : EqDs n ds es → EqD (n + 1) (.tup ds) (.tup es)
  | lst {n : Nat} {t s : Bool} {ds es : List Dt} : EqDs n ds es → EqD (n + 1) (.lst t ds) (.lst s es)
inductive EqDs : Nat → List Dt → List Dt → Prop
  | nil {n : Nat} : EqDs n [] []
  | cons {n : Nat} {d e : Dt} {ds es : List Dt} : EqD n d e → EqDs n ds es → EqDs n (d :: ds) (e :: es)
end
theorem eqV_self {v : V} (h : flatV v = true) : eqV v v = true := by cases v <;> first | rfl | (simp [eqV]; done) | cases h
mutual
theorem EqD.dz {K : PySem.W.Frag} {B B' F F' H : Hp} (l : Le F H) (l' : Le F' H) : ∀ {n : Nat} {d e : Dt} {x y : V}, EqD n d e → Rz K B F d x → Rz K B' F' e y → DZ K n x y H
  | n, _, _, x, y, .flat h, r, r' => by
    obtain ⟨h1, h2⟩ := flat_rz h r
    obtain ⟨h3, _⟩ := flat_rz h r'
    rw [h1, h3]
    exact DZ.up (Nat.zero_le n) (.inl ⟨h2, h2, eqV_self h2⟩)
  | n, _, _, x, y, .rat a b, r, r' => by
    simp only [Rz] at r r'
    obtain ⟨p, dx, rfl, h1⟩ := r
    obtain ⟨q, dy, rfl, h2⟩ := r'
    have e1 := l.exact h1 rfl
    have e2 := l'.exact h2 rfl
    exact DZ.up (Nat.zero_le n) (.inr ⟨p, q, dx, dy, _, _, rfl, rfl, e1, e2, a, b, ⟨dx, e1⟩, ⟨dy, e2⟩⟩)
  | _, _, _, x, y, .tup h, r, r' => by
    simp only [Rz] at r r'
    obtain ⟨p, xs, rfl, h1, r⟩ := r
    obtain ⟨q, ys, rfl, h2, r'⟩ := r'
    exact .inr (.inl ⟨p, q, xs, ys, rfl, rfl, SqT.of (l.exact h1 rfl), SqT.of (l'.exact h2 rfl), EqDs.dz l l' h r r'⟩)
  | _, _, _, x, y, .lst h, r, r' => by
    simp only [Rz] at r r'
    obtain ⟨p, xs, rfl, h1, _, r⟩ := r
    obtain ⟨q, ys, rfl, h2, _, r'⟩ := r'
    exact .inr (.inr ⟨p, q, xs, ys, rfl, rfl, l.exact h1 rfl, l'.exact h2 rfl, EqDs.dz l l' h r r'⟩)
theorem EqDs.dz {K : PySem.W.Frag} {B B' F F' H : Hp} (l : Le F H) (l' : Le F' H) : ∀ {n : Nat} {ds es : List Dt} {xs ys : List V}, EqDs n ds es → Rzl K B F ds xs → Rzl K B' F' es ys → Prs (DZ K n) xs ys H
  | _, _, _, _, _, .nil, r, r' => by
    rw [r.inv0, r'.inv0]
    exact Prs.nil
  | _, _, _, _, _, .cons h h', r, r' => by
    obtain ⟨v, vs, rfl, a1, a2⟩ := r.inv
    obtain ⟨u, us, rfl, b1, b2⟩ := r'.inv
    exact Prs.cons (EqD.dz l l' h a1 b1) (EqDs.dz l l' h' a2 b2)
end
def DZ1 (K : PySem.W.Frag) (n : Nat) : Eqv := fun x y H => DTup K (DZ K n) x y H ∨ DList (DZ K n) x y H
theorem EqD.dz1 {K : PySem.W.Frag} {B B' F F' H : Hp} (l : Le F H) (l' : Le F' H) {n : Nat} {d e : Dt} {x y : V} (h : EqD (n + 1) d e) (nf : flatD d = none) (nr : ∀ a b, d ≠ .rat a b) (r : Rz K B F d x) (r' : Rz K B' F' e y) : DZ1 K n x y H := by
  cases h with
  | flat h => rw [nf] at h; cases h
  | rat a b => exact absurd rfl (nr a b)
  | tup h =>
    simp only [Rz] at r r'
    obtain ⟨p, xs, rfl, h1, r⟩ := r
    obtain ⟨q, ys, rfl, h2, r'⟩ := r'
    exact .inl ⟨p, q, xs, ys, rfl, rfl, SqT.of (l.exact h1 rfl), SqT.of (l'.exact h2 rfl), EqDs.dz l l' h r r'⟩
  | lst h =>
    simp only [Rz] at r r'
    obtain ⟨p, xs, rfl, h1, _, r⟩ := r
    obtain ⟨q, ys, rfl, h2, _, r'⟩ := r'
    exact .inr ⟨p, q, xs, ys, rfl, rfl, l.exact h1 rfl, l'.exact h2 rfl, EqDs.dz l l' h r r'⟩
/-- the rule: plain data, or what is equal -/
def rEqZZ (K : PySem.W.Frag) (n : Nat) : R2 := fun x y H Q => rEqD K x y H Q ∨ rEqZ (DZ1 K n) true x y H Q
def rNeZZ (K : PySem.W.Frag) (n : Nat) : R2 := fun x y H Q => rNeD K x y H Q ∨ rEqZ (DZ1 K n) false x y H Q
section
variable {z : Cz} {ρ : List Sl} {N : Dt → Bool → List Sl → Prop} {ta tb : TE}
theorem Sm.ext0 {m : Fm} {F H H' : Hp} {σ : L2.St} (S : Sm z m F H σ ρ) (e : Ext H H') (n : NoFz H H') : Sm z m F H' σ ρ := S.ext (Same.refl F) e (S.lk.same e) (Nw.refl F H) n
theorem ze_eqZ {K' : PySem.W.Frag} {n : Nat} (hK : K' = z.K) (h : ZE z ta ρ fun x _ ρ1 => ZE z tb ρ1 fun y _ ρ2 => EqD (n + 1) x y ∧ flatD x = none ∧ (∀ a b, x ≠ .rat a b) ∧ N (.bl true) false ρ2) : ZE z (tOp (rEqZZ K' n) ta tb) ρ N :=
  ze_op2w (W := fun x y N ρ2 => EqD (n + 1) x y ∧ flatD x = none ∧ (∀ a b, x ≠ .rat a b) ∧ N (.bl true) false ρ2) (fun x y ρ2 N n2 m F H σ Q vx vy S r1 r2 k => by
    subst hK
    obtain ⟨h1, h2, h3, n⟩ := n2
    exact .inr ⟨h1.dz1 S.le S.le h2 h3 r1 r2, fun H' e nf => k _ _ _ _ _ _ n (Same.refl F) (S.ext0 e nf) (rzF_f rzb)⟩) h
theorem ze_neZ {K' : PySem.W.Frag} {n : Nat} (hK : K' = z.K) (h : ZE z ta ρ fun x _ ρ1 => ZE z tb ρ1 fun y _ ρ2 => EqD (n + 1) x y ∧ flatD x = none ∧ (∀ a b, x ≠ .rat a b) ∧ N (.bl false) false ρ2) : ZE z (tOp (rNeZZ K' n) ta tb) ρ N :=
  ze_op2w (W := fun x y N ρ2 => EqD (n + 1) x y ∧ flatD x = none ∧ (∀ a b, x ≠ .rat a b) ∧ N (.bl false) false ρ2) (fun x y ρ2 N n2 m F H σ Q vx vy S r1 r2 k => by
    subst hK
    obtain ⟨h1, h2, h3, n⟩ := n2
    exact .inr ⟨h1.dz1 S.le S.le h2 h3 r1 r2, fun H' e nf => k _ _ _ _ _ _ n (Same.refl F) (S.ext0 e nf) (rzF_f rzb)⟩) h
end
section
variable {P : Program} {w : World} {K : PySem.W.Frag} {mg : Str → Option Value} {base : Heap}
theorem r_isiRat {H : Hp} {Q : VK} {x : Addr} {n d : Int} (T : Top w K mg) (r : RatAt K H x n d) (h : Q (.bl true) H) : rIsi K [.ref x, .ref (He.ga K "Ratio")] H Q := by
  obtain ⟨dx, r⟩ := r
  exact r_isi (isi_ins T.x_isi_Ratio T.cls_Ratio r) (.own _) (of_decide_eq_true T.x_kit_Ratio_Ratio) h
theorem ok_Ratio___eq__ (T : Top w K mg) : FnOk P w K mg base CX0 1 (He.ma K (He.ga K ("Ratio" : Str)) ("__eq__" : Str)) (fdOf K d_Ratio___eq__) ["self", "other"] (spEq (RatR K)) := by
  refine (T.f_Ratio___eq__).ok sc_Ratio___eq__ (fun vs H Q E h => ?_) (fun cdv A outer s H vs Q E hr h => ?_)
  · obtain ⟨x, y, rfl, _⟩ := h
    rfl
  · obtain ⟨x, y, rfl, ⟨n, d, ⟨dx, hx⟩, ry⟩, k⟩ := h
    obtain ⟨dy, hy⟩ := id ry
    refine ⟨_, PSs.nox (pss_one (ps_ret (pe_and (pe_callB (call_isiK' (K := K) rfl) (by rfl) T.n_isinstance (by decide +kernel) (pa_cons (pv 1) (pa_cons (pe_glob (v := .ref (He.ga K ("Ratio" : Str))) rfl T.g_Ratio rfl) pa_nil))) (pe_and (pe_cmpR op_eq (pe_fldK (K := K) rfl (pv 0) rfl) (pe_fldK (K := K) rfl (pv 1) rfl) (nomark _)) (pe_one (pe_cmpR op_eq (pe_fldK (K := K) rfl (pv 0) rfl) (pe_fldK (K := K) rfl (pv 1) rfl) (nomark _))))))), ?_⟩
    walk_at "go"
    refine r_isiRat T ry ?_
    walk_at "go"
    refine ⟨_, _, _, _, _, rfl, hx, T.cls_Ratio, T.na_Ratio_top, r2_top _ _, ?_⟩
    walk_at "go"
    refine ⟨_, _, _, _, _, rfl, hy, T.cls_Ratio, T.na_Ratio_top, r2_top _ _, ?_⟩
    walk_at "go"
    refine ite_d (fun c => ?_) (fun c => absurd rfl c)
    walk_at "go"
    refine ⟨_, _, _, _, _, rfl, hx, T.cls_Ratio, T.na_Ratio_bottom, r2_bot _ _, ?_⟩
    walk_at "go"
    refine ⟨_, _, _, _, _, rfl, hy, T.cls_Ratio, T.na_Ratio_bottom, r2_bot _ _, ?_⟩
    walk_at "go"
    rw [decide_eq_true rfl]
    exact k H Ext.rfl'
theorem eqDZ (T : Top w K mg) {X : Cx} (hp : X.prog = P) (hw : X.w = w) (hk : X.K = K) (hm : X.mg = mg) : ∀ n, EqG X (1 + n) (DZ K n)
  | 0 => by
    subst hp hw hk hm
    exact EqG.or ((eqG_flat (X := X)).mono (Nat.zero_le 1)) (eqG_ins (ok_Ratio___eq__ (base := X.base) T) T.m_Ratio___eq__.at_ T.m_Ratio___eq__.fn T.b_Ratio___eq__ pass0)
  | n + 1 => by
    have ih := eqDZ T hp hw hk hm n
    subst hp hw hk hm
    exact EqG.or (ih.mono (Nat.le_succ _)) (EqG.or (eqG_tup (mon_dz _ n) ih) (eqG_list (mon_dz _ n) ih))
theorem op_eqZZ (T : Top w K mg) (n : Nat) {X : Cx} (hu : X.A.units + 64 < cLine) (hr : Room (1 + n + 1) X.A) (hp : X.prog = P := by rfl) (hw : X.w = w := by rfl) (hk : X.K = K := by rfl) (hm : X.mg = mg := by rfl) : OpR X (compareOp .Eq) (rEqZZ K n) := by
  have h := eqDZ T hp hw hk hm n
  refine OpR.or2 (op_eqDK hk hu) (op_eqZ (RcG.or ?_ (rcG_list (mon_dz K n) h)) hr)
  subst hk
  exact rcG_tup (mon_dz _ n) h
theorem op_neZZ (T : Top w K mg) (n : Nat) {X : Cx} (hu : X.A.units + 64 < cLine) (hr : Room (1 + n + 1) X.A) (hp : X.prog = P := by rfl) (hw : X.w = w := by rfl) (hk : X.K = K := by rfl) (hm : X.mg = mg := by rfl) : OpR X (compareOp .NotEq) (rNeZZ K n) := by
  have h := eqDZ T hp hw hk hm n
  refine OpR.or2 (op_neDK hk hu) (op_neZ (RnG.or ?_ (rnG_list (mon_dz K n) h)) hr)
  subst hk
  exact rnG_tup (mon_dz _ n) h
end
/-! ### == of tuples, with any answer, where own ==s are asked on the way -/
namespace EqB
open PySem.SeqAt AutoSeq1 MeetsSeq MeetsSeq2 MeetsSeq3 SeqRoads2 GQ
section
variable {prog : Program} {w : World} {A : Around} {R : Result → Shared → Prop}
theorem btup (b : Bool) (p q : Addr) (xs ys : Array Value) (n1 n2 : Nat) (d1 d2 : Option Addr) (sl1 sl2 : Array (Option Value)) (J : Nat → Shared → Prop)
    (each : ∀ j (h1 : j < xs.size) (h2 : j < ys.size) s, J j s → wpAny (model prog w) A.in1 (eqBool xs[j] ys[j]) (fun r s' => (r = true ∧ J (j + 1) s') ∨ (r = false ∧ b = false ∧ R (.ok (.ret (.bool false))) s')) (fun e s' => R (.error e) s') s)
    (done : ∀ s j, (j = xs.size ∨ j = ys.size) → j ≤ xs.size → j ≤ ys.size → J j s → R (.ok (.ret (.bool (xs.size == ys.size)))) s) {s : Shared} (gp : s.heap.get? p = some { cls := .type "tuple", dict := d1, data := .seq xs n1, slots := sl1 }) (gq : s.heap.get? q = some { cls := .type "tuple", dict := d2, data := .seq ys n2, slots := sl2 }) (h : J 0 s) :
    wpAny (model prog w) A.in1 (Builtin.«tuple.__eq__» ⟨[.ref p, .ref q], []⟩) (FinOf prog w A R) (fun e s' => R (.error e) s') s := by
  have sub := AutoSeq1.sub_tuple_tuple
  have zl : (xs.toList.zip ys.toList).length = min xs.size ys.size := by simp
  have start := h
  obtain ⟨hp, g, d, tk, os⟩ := s
  (wp_walk using wpAny_loadPart' gp, wpAny_loadPart' gq, wpAny_forIn_list _ (fun rest b s' => b.1 = none ∧ ∃ j, rest = (xs.toList.zip ys.toList).drop j ∧ j ≤ min xs.size ys.size ∧ J j s') _)
  case turn =>
    rintro ⟨y, x⟩ rest b s' ⟨hb, j, ez, hj, k⟩
    have lj : j < (xs.toList.zip ys.toList).length := Nat.lt_of_not_le fun z => by rw [List.drop_of_length_le z] at ez; cases ez
    have l1 : j < xs.size := by omega
    have l2 : j < ys.size := by omega
    rw [List.drop_eq_getElem_cons lj] at ez
    injection ez with e1 e2
    obtain rfl : y = xs[j] := by simpa using congrArg Prod.fst e1
    obtain rfl : x = ys[j] := by simpa using congrArg Prod.snd e1
    refine wpAny_bind (wpAny_mono (each j l1 l2 s' k) (fun r s2 k2 => ?_) fun _ _ z => z)
    rcases k2 with ⟨rfl, k2⟩ | ⟨rfl, _, k2⟩
    · wp_walk
      exact ⟨rfl, j + 1, e2, by omega, k2⟩
    · wp_walk
      exact k2
  case fin =>
    rintro ⟨b1, b2⟩ s' ⟨hb, j, ez, hj, k⟩
    (simp only at hb; subst hb)
    have ge : min xs.size ys.size ≤ j := Nat.le_of_not_lt fun z => by rw [List.drop_eq_getElem_cons (zl.symm ▸ z)] at ez; cases ez
    have fin := done s' j (by omega) (by omega) (by omega) k
    wp_walk
    simpa [Builtin.Tuple.tupleCompareSizes] using fin
  case h => exact ⟨rfl, 0, rfl, Nat.zero_le _, start⟩
end
section
variable {prog : Program} {w : World} {A : Around} {E : Value → Shared → Prop} {s : Shared}
theorem rc_btup {p q : Addr} {xs ys : Array Value} {Q : Value → Shared → Prop} (hu : A.units < cLine) (b : Bool) (J : Nat → Shared → Prop) (gp : s.heap.IsTuple p xs) (gq : s.heap.IsTuple q ys)
    (each : ∀ j (h1 : j < xs.size) (h2 : j < ys.size) s, J j s → wpAny (model prog w) A.in1 (eqBool xs[j] ys[j]) (fun r s' => (r = true ∧ J (j + 1) s') ∨ (r = false ∧ b = false ∧ Q (.bool false) s')) E s)
    (done : ∀ s j, (j = xs.size ∨ j = ys.size) → j ≤ xs.size → j ≤ ys.size → J j s → Q (.bool (xs.size == ys.size)) s) (h : J 0 s) : wpAny (model prog w) A (richCompare .Eq (.ref p) (.ref q)) Q E s := by
  obtain ⟨⟨c1, d1, t1, sl1⟩, ho, hc, n1, hd⟩ := id gp
  obtain ⟨⟨c2, d2, t2, sl2⟩, ho2, hc2, n2, hd2⟩ := id gq
  (simp only at hc hd hc2 hd2; subst hc hd hc2 hd2)
  refine wpAny_richCompare_same_room (op := .Eq) ⟨_, ho, rfl⟩ ⟨_, ho2, rfl⟩ PySem.F.slot_tuple_eq (call_here PySem.F.slot_tuple_eq ⟨_, ho, rfl⟩ PySem.F.entry_tuple_eq (PySem.F.args_tuple_eq_2 _ _) ?_) hu
  exact btup (R := wants (fun v s' => v ≠ .notImplemented ∧ Q v s') E) b p q xs ys n1 n2 d1 d2 sl1 sl2 J
    (fun j h1 h2 s k => wpAny_mono (each j h1 h2 s k) (fun r s' z => z.elim .inl fun z => .inr ⟨z.1, z.2.1, (fun x => nomatch x), z.2.2⟩) fun _ _ z => z) (fun s' j a1 a2 a3 z => ⟨(fun x => nomatch x), done s' j a1 a2 a3 z⟩) ho ho2 h
end
end EqB
/-- how == of two values is answered, by the abstract heap -/
abbrev Eqa := V → V → Bool → Hp → Prop
def MonB (D : Eqa) : Prop := ∀ x y b H H', Ext H H' → D x y b H → D x y b H'
def EqA (X : Cx) (n : Nat) (D : Eqa) : Prop :=
  ∀ (A : Around) (pins : List (Addr × Obj)) (s : Shared) (σ : St) (H : Hp) (x y : V) (b : Bool) (u v : Value), Sub X n A → Inv X pins σ H s → RelV x u → RelV y v → D x y b H →
    wpAny (model X.prog X.w) A (eqBool u v) (fun r s' => r = b ∧ LoopI X pins σ H s') X.xe s
def RcA (X : Cx) (n : Nat) (D : Eqa) : Prop :=
  ∀ (A : Around) (pins : List (Addr × Obj)) (s : Shared) (σ : St) (H : Hp) (x y : V) (b : Bool) (u v : Value), Sub X n A → Inv X pins σ H s → RelV x u → RelV y v → D x y b H →
    wpAny (model X.prog X.w) A (richCompare .Eq u v) (fun r s' => r = .bool b ∧ LoopI X pins σ H s') X.xe s
section
variable {X : Cx} {n m : Nat} {D D' : Eqa}
theorem EqA.mono (h : EqA X n D) (hn : n ≤ m) : EqA X m D := fun A pins s σ H x y b u v sb => h A pins s σ H x y b u v (sb.mono hn)
theorem EqA.or (h : EqA X n D) (h' : EqA X n D') : EqA X n (fun x y b H => D x y b H ∨ D' x y b H) := fun A pins s σ H x y b u v sb I rx ry d =>
  d.elim (fun d => h A pins s σ H x y b u v sb I rx ry d) fun d => h' A pins s σ H x y b u v sb I rx ry d
theorem MonB.or (h : MonB D) (h' : MonB D') : MonB (fun x y b H => D x y b H ∨ D' x y b H) := fun x y b H H' e d => d.elim (fun d => .inl (h x y b H H' e d)) fun d => .inr (h' x y b H H' e d)
def AFlat : Eqa := fun x y b _ => flatV x = true ∧ flatV y = true ∧ eqV x y = b
theorem monb_flat : MonB AFlat := fun _ _ _ _ _ _ d => d
theorem eqA_flat : EqA X 0 AFlat := by
  intro A pins s σ H x y b u v sb I rx ry d
  obtain ⟨fx, fy, rfl⟩ := d
  exact eqAt_V (A := A) (s := s) rx ry fx fy X.prog X.w X.xe _ ⟨rfl, H, I, Ext.rfl'⟩
/-- item by item, up to the first two that differ -/
inductive PrsA (D : Eqa) (H : Hp) : List V → List V → Bool → Prop
  | nil : PrsA D H [] [] true
  | cons {x y : V} {xs ys : List V} {b : Bool} : D x y true H → PrsA D H xs ys b → PrsA D H (x :: xs) (y :: ys) b
  | stop {x y : V} {xs ys : List V} : D x y false H → PrsA D H (x :: xs) (y :: ys) false
theorem PrsA.mon (hD : MonB D) {H H' : Hp} (e : Ext H H') {xs ys : List V} {b : Bool} (p : PrsA D H xs ys b) : PrsA D H' xs ys b := by
  induction p with
  | nil => exact .nil
  | cons d _ ih => exact .cons (hD _ _ _ _ _ e d) ih
  | stop d => exact .stop (hD _ _ _ _ _ e d)
def ATup (K : PySem.W.Frag) (D : Eqa) : Eqa := fun x y b H => ∃ p q xs ys, x = .ref p ∧ y = .ref q ∧ SqT K H p xs ∧ SqT K H q ys ∧ PrsA D H xs ys b
theorem monb_tup {K : PySem.W.Frag} (hD : MonB D) : MonB (ATup K D) := fun x y b H H' e d => by
  obtain ⟨p, q, xs, ys, hx, hy, h1, h2, r⟩ := d
  exact ⟨p, q, xs, ys, hx, hy, h1.ext e, h2.ext e, r.mon hD e⟩
theorem rcA_tup (hD : MonB D) (h : EqA X n D) : RcA X (n + 1) (ATup X.K D) := by
  intro A pins s σ H x y b u v sb I rx ry d
  obtain ⟨p, q, xs, ys, rfl, rfl, hp, hq, r⟩ := d
  (cases rx; cases ry)
  obtain ⟨us, r1, e1, _⟩ := I.tuple hp
  obtain ⟨vs, r2, e2, _⟩ := I.tuple hq
  have l1 := r1.length
  have l2 := r2.length
  refine EqB.rc_btup sb.room.units0 b (fun j s' => LoopI X pins σ H s' ∧ PrsA D H (xs.drop j) (ys.drop j) b) e1 e2 (fun j h1 h2 s' k => ?_) (fun s' j a a1 a2 k => ?_) ⟨⟨H, I, Ext.rfl'⟩, r⟩
  · obtain ⟨⟨H1, I1, x1⟩, k⟩ := k
    have j1 : j < xs.length := by rw [l1]; simpa using h1
    have j2 : j < ys.length := by rw [l2]; simpa using h2
    rw [List.drop_eq_getElem_cons j1, List.drop_eq_getElem_cons j2] at k
    obtain ⟨u, hu, ru⟩ := r1.get (List.getElem?_eq_getElem j1)
    obtain ⟨v, hv, rv⟩ := r2.get (List.getElem?_eq_getElem j2)
    have eu : us.toArray[j] = u := by
      obtain ⟨_, e⟩ := List.getElem?_eq_some_iff.mp hu
      simpa using e
    have ev : vs.toArray[j] = v := by
      obtain ⟨_, e⟩ := List.getElem?_eq_some_iff.mp hv
      simpa using e
    rw [eu, ev]
    cases k with
    | cons d k =>
      refine wpAny_mono (h A.in1 pins s' σ H1 _ _ _ u v sb.in1 I1 ru rv (hD _ _ _ _ _ x1 d)) (fun r s2 z => ?_) fun _ _ z => z
      obtain ⟨rfl, H2, I2, x2⟩ := z
      exact .inl ⟨rfl, ⟨H2, I2, x1.trans x2⟩, k⟩
    | stop d =>
      refine wpAny_mono (h A.in1 pins s' σ H1 _ _ _ u v sb.in1 I1 ru rv (hD _ _ _ _ _ x1 d)) (fun r s2 z => ?_) fun _ _ z => z
      obtain ⟨rfl, H2, I2, x2⟩ := z
      exact .inr ⟨rfl, rfl, rfl, H2, I2, x1.trans x2⟩
  · obtain ⟨l, k⟩ := k
    rw [List.size_toArray] at a a1 a2
    rw [List.size_toArray, List.size_toArray, ← l1, ← l2] at *
    generalize ex : xs.drop j = xr at k
    generalize ey : ys.drop j = yr at k
    have z1 := congrArg List.length ex
    have z2 := congrArg List.length ey
    rw [List.length_drop] at z1 z2
    cases k with
    | nil => exact ⟨by rw [show (xs.length == ys.length) = true from by simp only [List.length_nil] at z1 z2; exact beq_iff_eq.mpr (by omega)], l⟩
    | cons _ _ => simp only [List.length_cons] at z1 z2; omega
    | stop _ => simp only [List.length_cons] at z1 z2; omega
/-- what is one object is equal to itself -/
def Self (X : Cx) (D : Eqa) : Prop := ∀ (pins : List (Addr × Obj)) (s : Shared) (σ : St) (H : Hp) (x : V) (b : Bool), Inv X pins σ H s → D x x b H → b = true
theorem Self.or (h : Self X D) (h' : Self X D') : Self X (fun x y b H => D x y b H ∨ D' x y b H) := fun pins s σ H x b I d => d.elim (h pins s σ H x b I) (h' pins s σ H x b I)
theorem self_flat : Self X AFlat := fun _ _ _ _ x b _ d => by
  obtain ⟨f, _, rfl⟩ := d
  cases x <;> first | rfl | (simp [eqV]; done) | cases f
theorem self_tup (h : Self X D) : Self X (ATup X.K D) := fun pins s σ H x b I d => by
  obtain ⟨p, q, xs, ys, e1, e2, h1, h2, r⟩ := d
  cases e1.symm.trans e2
  obtain rfl := I.tuple_inj h1 h2
  clear h1 h2 e1 e2
  have : ∀ {xs ys : List V} {b : Bool}, PrsA D H xs ys b → xs = ys → b = true := by
    intro xs ys b r
    induction r with
    | nil => intro _; rfl
    | cons _ _ ih => intro e; exact ih (List.cons.inj e).2
    | stop d => intro e; obtain ⟨rfl, _⟩ := List.cons.inj e; exact h pins s σ H _ _ I d
  exact this r rfl
theorem RcA.eqA (h : RcA X n D) (hs : Self X D) (hr : ∀ x y b H, D x y b H → ∃ p q, x = .ref p ∧ y = .ref q) : EqA X n D := by
  intro A pins s σ H x y b u v sb I rx ry d
  obtain ⟨p, q, rfl, rfl⟩ := hr _ _ _ _ d
  (cases rx; cases ry)
  by_cases c : p = q
  · subst c
    rw [hs pins s σ H _ _ I d]
    exact SeqAt.EqAt.same (A := A) (s := s) (.ref p) X.prog X.w X.xe _ ⟨rfl, H, I, Ext.rfl'⟩
  · refine GQ.eqBool_refG c (wpAny_mono (h A pins s σ H (.ref p) (.ref q) _ _ _ sb I rfl rfl d) (fun r s' z => ?_) fun _ _ z => z)
    obtain ⟨e, z⟩ := z
    exact ⟨b, e, rfl, z⟩
/-- instances of one class with an own == -/
def AIns (C : Addr) (R : Addr → Addr → Bool → Hp → Prop) : Eqa := fun x y c H => ∃ a b dx dy fs gs, x = .ref a ∧ y = .ref b ∧ H a = some (.ins C dx fs) ∧ H b = some (.ins C dy gs) ∧ R a b c H
theorem monb_ins {C : Addr} {R : Addr → Addr → Bool → Hp → Prop} (hR : ∀ a b c H H', Ext H H' → R a b c H → R a b c H') : MonB (AIns C R) := fun x y c H H' e d => by
  obtain ⟨a, b, dx, dy, fs, gs, hx, hy, h1, h2, r⟩ := d
  exact ⟨a, b, dx, dy, fs, gs, hx, hy, e _ _ h1, e _ _ h2, hR a b c H H' e r⟩
def spEqA (R : Addr → Addr → Bool → Hp → Prop) : Sp := fun vs H Q _ => ∃ a b c, vs = [.ref a, .ref b] ∧ R a b c H ∧ ∀ H', Ext H H' → Q (.bl c) H'
theorem rcA_ins {CX : CXT} {C f : Addr} {fd : FuncData} {ps : List Str} {R : Addr → Addr → Bool → Hp → Prop} {E : XK} (F : FnOk X.prog X.w X.K X.mg X.base CX n f fd ps (spEqA R))
    (hs : PySem.W.findIn X.K (.ref C) "__eq__" = some (some (.ref f))) (hf : PySem.W.isFn X.K (.ref f) = true) (hb : Binds X.K fd ps []) (hx : Passes CX X E) : RcA X n (AIns C R) := by
  intro A pins s σ H x y c u v sb I rx ry d
  obtain ⟨a, b, dx, dy, fs, gs, rfl, rfl, ga, gb, hr⟩ := d
  (cases rx; cases ry)
  obtain ⟨mA, J, _⟩ := ins_get I.hok ga
  obtain ⟨mB, J', _⟩ := ins_get I.hok gb
  obtain ⟨od, J, _⟩ := J.look
  obtain ⟨od', J', _⟩ := J'.look
  obtain ⟨m, hF⟩ := I.fr
  refine PySem.W.cmp_K (op := .Eq) (tb := .ref C) sb.room.units0 hF I.ok.mod.kin J J'.type (by simp [PySem.W.notFirst]) hs hf ?_
  have want : spEqA R [.ref a, .ref b] H (fun v H' => v = .bl c ∧ Ext H H') E := ⟨a, b, c, rfl, hr, fun H' e => ⟨rfl, e⟩⟩
  have e0 : Env0 X.prog X.w X.K X.mg X.base A X.stack s H := by
    have e := I.env0
    exact ⟨sb.fr ▸ e.frames, e.mod, e.bs, e.bsz, e.funs, e.frf, e.hok, e.bare⟩
  have hl := F.len _ _ _ _ want
  have rs : Vals [V.ref a, V.ref b] [Value.ref a, Value.ref b] := .cons rfl (.cons rfl .nil)
  refine wpAny_call (codeAny_mono (F.run A X.stack s H ⟨[.ref a, .ref b], []⟩ [.ref a, .ref b] [.ref a, .ref b] _ E sb.room e0 (by simpa using hb s [.ref a, .ref b] I.kIn (by simpa using hl)) rs want) fun r s' z => ?_)
  cases r with
  | error e => exact hx pins σ H s e s' I z
  | ok fl =>
    cases fl with
    | ret w =>
      obtain ⟨z, H', I', rz, ez, ex⟩ := I.after z
      subst ez
      cases rz
      exact ⟨rfl, H', I', ex⟩
    | next => exact False.elim z
    | brk => exact False.elim z
    | cont => exact False.elim z
end
/-! ### == of plain data with Ratios, with any answer -/
def RatA (K : PySem.W.Frag) (a b : Addr) (c : Bool) (H : Hp) : Prop := ∃ n d m e, RatAt K H a n d ∧ RatAt K H b m e ∧ c = (decide (n = m) && decide (d = e))
def AZ (K : PySem.W.Frag) : Nat → Eqa
  | 0 => fun x y b H => AFlat x y b H ∨ AIns (He.ga K "Ratio") (RatA K) x y b H
  | n + 1 => fun x y b H => AZ K n x y b H ∨ ATup K (AZ K n) x y b H
theorem monb_az (K : PySem.W.Frag) : ∀ n, MonB (AZ K n)
  | 0 => MonB.or monb_flat (monb_ins fun a b c H H' x ⟨n, d, m, e, h1, h2, h3⟩ => ⟨n, d, m, e, h1.mono x, h2.mono x, h3⟩)
  | n + 1 => MonB.or (monb_az K n) (monb_tup (monb_az K n))
theorem AZ.up {K : PySem.W.Frag} {x y : V} {b : Bool} {H : Hp} {n m : Nat} (h : n ≤ m) (d : AZ K n x y b H) : AZ K m x y b H := by
  induction h with
  | refl => exact d
  | step _ ih => exact .inl ih
theorem self_rat {X : Cx} : Self X (AIns (He.ga X.K "Ratio") (RatA X.K)) := fun pins s σ H x b I d => by
  obtain ⟨p, q, _, _, _, _, e1, e2, _, _, n, d, m, e, ⟨_, h1⟩, ⟨_, h2⟩, rfl⟩ := d
  cases e1.symm.trans e2
  rw [h1] at h2
  cases h2
  simp
theorem self_az {X : Cx} : ∀ n, Self X (AZ X.K n)
  | 0 => self_flat.or self_rat
  | n + 1 => (self_az n).or (self_tup (self_az n))
mutual
inductive EqT : Nat → Dt → Dt → Bool → Prop
  | flat {n : Nat} {d e : Dt} {u v : V} : flatD d = some u → flatD e = some v → EqT n d e (eqV u v)
  | rat {n : Nat} (a b c d : Int) : EqT n (.rat a b) (.rat c d) (decide (a = c) && decide (b = d))
  | tup {n : Nat} {ds es : List Dt} {b : Bool} : EqTs n ds es b → EqT (n + 1) (.tup ds) (.tup es) b
inductive EqTs : Nat → List Dt → List Dt → Bool → Prop
  | nil {n : Nat} : EqTs n [] [] true
  | cons {n : Nat} {d e : Dt} {ds es : List Dt} {b : Bool} : EqT n d e true → EqTs n ds es b → EqTs n (d :: ds) (e :: es) b
  | stop {n : Nat} {d e : Dt} {ds es : List Dt} : EqT n d e false → EqTs n (d :: ds) (e :: es) false
end
mutual
theorem EqT.az {K : PySem.W.Frag} {B B' F F' H : Hp} (l : Le F H) (l' : Le F' H) : ∀ {n : Nat} {d e : Dt} {b : Bool} {x y : V}, EqT n d e b → Rz K B F d x → Rz K B' F' e y → AZ K n x y b H
  | n, _, _, _, x, y, .flat h g, r, r' => by
    obtain ⟨rfl, h1⟩ := flat_rz h r
    obtain ⟨rfl, h2⟩ := flat_rz g r'
    exact AZ.up (Nat.zero_le n) (.inl ⟨h1, h2, rfl⟩)
  | n, _, _, _, x, y, .rat a b c d, r, r' => by
    simp only [Rz] at r r'
    obtain ⟨p, dx, rfl, h1⟩ := r
    obtain ⟨q, dy, rfl, h2⟩ := r'
    have e1 := l.exact h1 rfl
    have e2 := l'.exact h2 rfl
    exact AZ.up (Nat.zero_le n) (.inr ⟨p, q, dx, dy, _, _, rfl, rfl, e1, e2, a, b, c, d, ⟨dx, e1⟩, ⟨dy, e2⟩, rfl⟩)
  | _, _, _, _, x, y, .tup h, r, r' => by
    simp only [Rz] at r r'
    obtain ⟨p, xs, rfl, h1, r⟩ := r
    obtain ⟨q, ys, rfl, h2, r'⟩ := r'
    exact .inr ⟨p, q, xs, ys, rfl, rfl, SqT.of (l.exact h1 rfl), SqT.of (l'.exact h2 rfl), EqTs.az l l' h r r'⟩
theorem EqTs.az {K : PySem.W.Frag} {B B' F F' H : Hp} (l : Le F H) (l' : Le F' H) : ∀ {n : Nat} {ds es : List Dt} {b : Bool} {xs ys : List V}, EqTs n ds es b → Rzl K B F ds xs → Rzl K B' F' es ys → PrsA (AZ K n) H xs ys b
  | _, _, _, _, _, _, .nil, r, r' => by
    rw [r.inv0, r'.inv0]
    exact .nil
  | _, _, _, _, _, _, .cons h h', r, r' => by
    obtain ⟨v, vs, rfl, a1, a2⟩ := r.inv
    obtain ⟨u, us, rfl, b1, b2⟩ := r'.inv
    exact .cons (EqT.az l l' h a1 b1) (EqTs.az l l' h' a2 b2)
  | _, _, _, _, _, _, .stop h, r, r' => by
    obtain ⟨v, vs, rfl, a1, a2⟩ := r.inv
    obtain ⟨u, us, rfl, b1, b2⟩ := r'.inv
    exact .stop (EqT.az l l' h a1 b1)
end
/-- == of two tuples of plain data with Ratios -/
def rEqA (K : PySem.W.Frag) (n : Nat) : R2 := fun x y H Q => ∃ b, ATup K (AZ K n) x y b H ∧ ∀ H', Ext H H' → NoFz H H' → Q (.bl b) H'
section
variable {z : Cz} {ρ : List Sl} {N : Dt → Bool → List Sl → Prop} {ta tb : TE}
theorem ze_eqA {K' : PySem.W.Frag} {n : Nat} (hK : K' = z.K) (h : ZE z ta ρ fun x _ ρ1 => ZE z tb ρ1 fun y _ ρ2 => ∃ ds es b, x = .tup ds ∧ y = .tup es ∧ EqTs n ds es b ∧ N (.bl b) false ρ2) : ZE z (tOp (rEqA K' n) ta tb) ρ N :=
  ze_op2w (W := fun x y N ρ2 => ∃ ds es b, x = .tup ds ∧ y = .tup es ∧ EqTs n ds es b ∧ N (.bl b) false ρ2) (fun x y ρ2 N n2 m F H σ Q vx vy S r1 r2 k => by
    subst hK
    obtain ⟨ds, es, b, rfl, rfl, h, n⟩ := n2
    simp only [Rz] at r1 r2
    obtain ⟨p, xs, rfl, h1, r⟩ := r1
    obtain ⟨q, ys, rfl, h2, r'⟩ := r2
    exact ⟨b, ⟨p, q, xs, ys, rfl, rfl, SqT.of (S.le.exact h1 rfl), SqT.of (S.le.exact h2 rfl), EqTs.az S.le S.le h r r'⟩, fun H' e nf => k _ _ _ _ _ _ n (Same.refl F) (S.ext0 e nf) (rzF_f rzb)⟩) h
end
section
variable {P : Program} {w : World} {K : PySem.W.Frag} {mg : Str → Option Value} {base : Heap}
theorem ok_eqA (T : Top w K mg) : FnOk P w K mg base CX0 1 (He.ma K (He.ga K ("Ratio" : Str)) ("__eq__" : Str)) (fdOf K d_Ratio___eq__) ["self", "other"] (spEqA (RatA K)) := by
  refine (T.f_Ratio___eq__).ok sc_Ratio___eq__ (fun vs H Q E h => ?_) (fun cdv A outer s H vs Q E hr h => ?_)
  · obtain ⟨x, y, c, rfl, _⟩ := h
    rfl
  · obtain ⟨x, y, c, rfl, ⟨n, d, m, e, ⟨dx, hx⟩, ry, rfl⟩, k⟩ := h
    obtain ⟨dy, hy⟩ := id ry
    refine ⟨_, PSs.nox (pss_one (ps_ret (pe_and (pe_callB (call_isiK' (K := K) rfl) (by rfl) T.n_isinstance (by decide +kernel) (pa_cons (pv 1) (pa_cons (pe_glob (v := .ref (He.ga K ("Ratio" : Str))) rfl T.g_Ratio rfl) pa_nil))) (pe_and (pe_cmpR op_eq (pe_fldK (K := K) rfl (pv 0) rfl) (pe_fldK (K := K) rfl (pv 1) rfl) (nomark _)) (pe_one (pe_cmpR op_eq (pe_fldK (K := K) rfl (pv 0) rfl) (pe_fldK (K := K) rfl (pv 1) rfl) (nomark _))))))), ?_⟩
    walk_at "go"
    refine r_isiRat T ry ?_
    walk_at "go"
    refine ⟨_, _, _, _, _, rfl, hx, T.cls_Ratio, T.na_Ratio_top, r2_top _ _, ?_⟩
    walk_at "go"
    refine ⟨_, _, _, _, _, rfl, hy, T.cls_Ratio, T.na_Ratio_top, r2_top _ _, ?_⟩
    walk_at "go"
    refine ite_d (fun c => ?_) (fun c => ?_)
    · have c : n = m := by injection c
      subst c
      walk_at "go"
      refine ⟨_, _, _, _, _, rfl, hx, T.cls_Ratio, T.na_Ratio_bottom, r2_bot _ _, ?_⟩
      walk_at "go"
      refine ⟨_, _, _, _, _, rfl, hy, T.cls_Ratio, T.na_Ratio_bottom, r2_bot _ _, ?_⟩
      walk_at "go"
      rw [decide_eq_true rfl, Bool.true_and] at k
      rw [show decide (V.int d = V.int e) = decide (d = e) from decide_eq_decide.mpr ⟨fun c => by injection c, fun c => by rw [c]⟩]
      exact k H Ext.rfl'
    · walk_at "go"
      rw [decide_eq_false (fun q => c (by rw [q])), Bool.false_and] at k
      exact k H Ext.rfl'
theorem eqAZ (T : Top w K mg) {X : Cx} (hp : X.prog = P) (hw : X.w = w) (hk : X.K = K) (hm : X.mg = mg) : ∀ n, EqA X (1 + n) (AZ K n)
  | 0 => by
    subst hp hw hk hm
    exact EqA.or ((eqA_flat (X := X)).mono (Nat.zero_le 1)) ((rcA_ins (ok_eqA (base := X.base) T) T.m_Ratio___eq__.at_ T.m_Ratio___eq__.fn T.b_Ratio___eq__ pass0).eqA self_rat fun _ _ _ _ d => let ⟨a, b, _, _, _, _, hx, hy, _⟩ := d; ⟨a, b, hx, hy⟩)
  | n + 1 => by
    have ih := eqAZ T hp hw hk hm n
    subst hp hw hk hm
    exact EqA.or (ih.mono (Nat.le_succ _)) ((rcA_tup (monb_az _ n) ih).eqA (self_tup (self_az n)) fun _ _ _ _ d => let ⟨a, b, _, _, hx, hy, _⟩ := d; ⟨a, b, hx, hy⟩)
theorem op_eqA (T : Top w K mg) (n : Nat) {X : Cx} (hr : Room (1 + n + 1) X.A) (hp : X.prog = P := by rfl) (hw : X.w = w := by rfl) (hk : X.K = K := by rfl) (hm : X.mg = mg := by rfl) : OpR X (compareOp .Eq) (rEqA K n) := by
  have h := eqAZ T hp hw hk hm n
  subst hk
  intro pins s σ H x y v u Q I rx ry hq
  obtain ⟨b, d, q⟩ := hq
  show wpAny (model X.prog X.w) X.A (richCompare .Eq v u) (EP X pins σ Q) X.xe s
  refine wpAny_mono (rcA_tup (monb_az _ n) h X.A pins s σ H x y b v u ⟨hr, rfl⟩ I rx ry d) (fun r s' z => ?_) fun _ _ x => x
  obtain ⟨rfl, H', I', e⟩ := z
  exact ⟨.bl b, _, inv_unFz I I' e, rfl, q _ (fun a o w => unFz_old e w) unFz_noFz⟩
end
/-! ### expressions with one text are one -/
section
open TL
def Spc (c : Nat) : Prop := c = 40 ∨ c = 41 ∨ c = 44
def Tl0 (r : List Nat) : Prop := r = [] ∨ ∃ c s, r = c :: s ∧ Spc c
def Tl1 (r : List Nat) : Prop := r = [] ∨ ∃ c s, r = c :: s ∧ (c = 41 ∨ c = 44)
theorem Tl1.z {r : List Nat} (h : Tl1 r) : Tl0 r := h.elim .inl fun ⟨c, s, e, k⟩ => .inr ⟨c, s, e, .inr k⟩
theorem seg2 : ∀ {x y r s : List Nat}, (∀ c ∈ x, ¬ Spc c) → (∀ c ∈ y, ¬ Spc c) → Tl0 r → Tl0 s → x ++ r = y ++ s → x = y ∧ r = s
  | [], [], _, _, _, _, _, _, h => ⟨rfl, h⟩
  | [], b :: y, r, s, _, hy, hr, _, h => by
    rcases hr with rfl | ⟨c, t, rfl, k⟩
    · cases h
    · obtain ⟨rfl, _⟩ := List.cons.inj (show c :: t = b :: (y ++ s) from h)
      exact (hy c List.mem_cons_self k).elim
  | a :: x, [], r, s, hx, _, _, hs, h => by
    rcases hs with rfl | ⟨c, t, rfl, k⟩
    · cases h
    · obtain ⟨rfl, _⟩ := List.cons.inj (show a :: (x ++ r) = c :: t from h)
      exact (hx a List.mem_cons_self k).elim
  | a :: x, b :: y, r, s, hx, hy, hr, hs, h => by
    obtain ⟨e1, e2⟩ := List.cons.inj (show a :: (x ++ r) = b :: (y ++ s) from h)
    obtain ⟨e3, e4⟩ := seg2 (fun c k => hx c (List.mem_cons_of_mem _ k)) (fun c k => hy c (List.mem_cons_of_mem _ k)) hr hs e2
    exact ⟨by rw [e1, e3], e4⟩
theorem fre_spc {x : Str} (h : Fre x) : ∀ c ∈ tl x, ¬ Spc c := fun c hc k => by
  rcases k with rfl | rfl | rfl
  · exact h.1 hc
  · exact h.2.1 hc
  · exact h.2.2 hc
/-! leaves -/
def menuL : List Ex := (nm9.flatMap fun x => (List.range 5).map fun k => Ex.var x (k : Nat)) ++ nm9.map Ex.pre ++ [.lit "truth" [.bl true], .lit "truth" [.bl false], .lit "time" [], .lit "initial" []]
theorem menu_ne : (menuL.map txE).Nodup := by decide +kernel
theorem menu_head : ∀ e ∈ menuL, 57 < (txE e).cps.toList.headD 0 := by decide +kernel
theorem nodup_inj {α β : Type} (g : α → β) : ∀ {l : List α}, (l.map g).Nodup → ∀ x ∈ l, ∀ y ∈ l, g x = g y → x = y
  | [], _, _, h, _, _, _ => by cases h
  | a :: l, hn, x, hx, y, hy, e => by
    rw [List.map_cons, List.nodup_cons] at hn
    rcases List.mem_cons.mp hx with h1 | h1 <;> rcases List.mem_cons.mp hy with h2 | h2
    · rw [h1, h2]
    · exact (hn.1 (by rw [← h1, e]; exact List.mem_map.mpr ⟨y, h2, rfl⟩)).elim
    · exact (hn.1 (by rw [← h2, ← e]; exact List.mem_map.mpr ⟨x, h1, rfl⟩)).elim
    · exact nodup_inj g hn.2 x h1 y h2 e
theorem ints_ne : ((List.range 201).map fun k : Nat => intS ((k : Int) - 100)).Nodup := by decide +kernel
theorem int_inj {n m : Int} (h : n.natAbs ≤ 100) (g : m.natAbs ≤ 100) (e : intS n = intS m) : n = m := by
  have := nodup_inj (fun k : Nat => intS ((k : Int) - 100)) ints_ne (n + 100).toNat (List.mem_range.mpr (by omega)) (m + 100).toNat (List.mem_range.mpr (by omega)) (by
    show intS (((n + 100).toNat : Int) - 100) = intS (((m + 100).toNat : Int) - 100)
    rw [show (((n + 100).toNat : Nat) : Int) - 100 = n by omega, show (((m + 100).toNat : Nat) : Int) - 100 = m by omega]
    exact e)
  omega
theorem int_47 {n : Int} (h : n.natAbs ≤ 100) : 47 ∉ tl (intS n) := small_all (p := fun n => 47 ∉ tl (intS n)) (by decide +kernel) h
theorem rat_tl (n d : Int) (h : d ≠ 1) : tl (ratT n d) = tl (intS n) ++ 47 :: tl (intS d) := by
  unfold ratT
  rw [if_neg h, tl_append, tl_append, List.append_assoc]
  rfl
theorem rat_inj {n d m e : Int} (h : RatOk n d) (g : RatOk m e) (q : ratT n d = ratT m e) : n = m ∧ d = e := by
  by_cases c : d = 1
  · by_cases k : e = 1
    · subst c k
      unfold ratT at q
      rw [if_pos rfl, if_pos rfl] at q
      exact ⟨int_inj h.2.1 g.2.1 q, rfl⟩
    · have := congrArg tl q
      rw [rat_tl m e k] at this
      unfold ratT at this
      rw [if_pos c] at this
      exact (int_47 h.2.1 (this ▸ List.mem_append_right _ List.mem_cons_self)).elim
  · by_cases k : e = 1
    · have := congrArg tl q
      rw [rat_tl n d c] at this
      unfold ratT at this
      rw [if_pos k] at this
      exact (int_47 g.2.1 (this ▸ List.mem_append_right _ List.mem_cons_self)).elim
    · have := congrArg tl q
      rw [rat_tl n d c, rat_tl m e k] at this
      obtain ⟨e1, e2⟩ := seg_eq (int_47 h.2.1) (int_47 g.2.1) this
      exact ⟨int_inj h.2.1 g.2.1 (ext_tl e1), int_inj h.2.2 g.2.2 (ext_tl e2)⟩
theorem leaf_menu {e : Ex} (h : LeafE e) : (∃ n d, e = numX n d ∧ RatOk n d) ∨ e ∈ menuL := by
  cases h with
  | @var x o a b c =>
    refine .inr (List.mem_append_left _ (List.mem_append_left _ (List.mem_flatMap.mpr ⟨x, a, List.mem_map.mpr ⟨o.toNat, List.mem_range.mpr (by omega), ?_⟩⟩)))
    rw [show ((o.toNat : Nat) : Int) = o by omega]
  | @pre x a => exact .inr (List.mem_append_left _ (List.mem_append_right _ (List.mem_map.mpr ⟨x, a, rfl⟩)))
  | @num n d a => exact .inl ⟨n, d, rfl, a⟩
  | truth b => cases b <;> exact .inr (List.mem_append_right _ (by simp))
  | time => exact .inr (List.mem_append_right _ (by simp))
  | initial => exact .inr (List.mem_append_right _ (by simp))
theorem leaf_inj {e f : Ex} (h : LeafE e) (g : LeafE f) (q : txE e = txE f) : e = f := by
  rcases leaf_menu h with ⟨n, d, rfl, a⟩ | h
  · rcases leaf_menu g with ⟨m, e, rfl, b⟩ | g
    · obtain ⟨rfl, rfl⟩ := rat_inj a b q
      rfl
    · have k := menu_head f g
      rw [← q] at k
      exact absurd (rat_head a) (by show ¬ (txE (numX n d)).cps.toList.headD 0 ≤ 57; omega)
  · rcases leaf_menu g with ⟨m, e', rfl, b⟩ | g
    · have k := menu_head e h
      rw [q] at k
      exact absurd (rat_head b) (by show ¬ (txE (numX m e')).cps.toList.headD 0 ≤ 57; omega)
    · exact nodup_inj txE menu_ne e h f g q
def sec : Dt → Dt
  | .tup [_, r] => r
  | d => d
def mkD (x : Str) (ds : List Dt) : Dt := if x = "sample" then .tup (.str x :: ds.map sec) else .tup (.str x :: ds)
def PE9 (n : Nat) (e : Ex) : Prop := ExOk NF n e ∨ LeafE e
/-- an expression is a leaf, or a word with parts -/
inductive Shq (n : Nat) (e : Ex) : Prop
  | leaf : LeafE e → Fre (txE e) → Shq n e
  | node (x : Str) (es : List Ex) : Fre x → es ≠ [] → (∀ f ∈ es, PE9 n f) → tl (txE e) = tl x ++ 40 :: (tl (Txt.join "," (es.map txE)) ++ [41]) → exD e = mkD x (es.map exD) → Shq n e
theorem leaf_fre {e : Ex} (h : LeafE e) : Fre (txE e) := by
  cases h with
  | var a b c => exact (var_fre a b c).1
  | pre a => exact (pre_fre a).1
  | num a => exact rat_fre a
  | truth b => cases b <;> decide +kernel
  | time => decide +kernel
  | initial => decide +kernel
theorem nodeT_tl (w : Str) (ts : List Str) : tl (nodeT w ts) = tl w ++ 40 :: (tl (Txt.join "," ts) ++ [41]) := by
  unfold nodeT
  rw [tl_append, tl_append, tl_append, List.append_assoc, List.append_assoc]
  rfl
theorem node_mk {w : Str} (h : w ∈ nodeL) (ds : List Dt) : mkD w ds = .tup (.str w :: ds) := if_neg (node_ns w h).2.2.2.2
theorem shq {n : Nat} {e : Ex} (h : PE9 n e) : Shq (n - 1) e := by
  rcases h with h | h
  · cases h with
    | var a b c => exact .leaf (.var a b c) (leaf_fre (.var a b c))
    | pre a => exact .leaf (.pre a) (leaf_fre (.pre a))
    | lit a =>
      cases a with
      | num a => exact .leaf (.num a) (leaf_fre (.num a))
      | truth b => exact .leaf (.truth b) (leaf_fre (.truth b))
      | time => exact .leaf .time (leaf_fre .time)
      | initial => exact .leaf .initial (leaf_fre .initial)
      | @sample a b a2 b2 x y z =>
        refine .node "sample" [numX a b, numX a2 b2] sample_fre.1 (by simp) (fun f hf => ?_) ?_ rfl
        · simp only [List.mem_cons, List.not_mem_nil, or_false] at hf
          rcases hf with rfl | rfl
          · exact .inr (.num x)
          · exact .inr (.num y)
        · show tl (("sample(" : Str) ++ ratT a b ++ ("," : Str) ++ ratT a2 b2 ++ (")" : Str)) = _
          rw [show ("sample(" : Str) ++ ratT a b ++ ("," : Str) ++ ratT a2 b2 ++ (")" : Str) = nodeT "sample" [ratT a b, ratT a2 b2] from by
            unfold nodeT
            rw [join2, show ("sample(" : Str) = ("sample" : Str) ++ ("(" : Str) from by decide +kernel]
            simp only [app_assoc]]
          exact nodeT_tl _ _
    | @un d w e hw i => exact .node w [e] (node_fre w (un_node w hw)).1 (by simp) (fun f hf => by rw [List.mem_singleton.mp hf]; exact .inl i) (nodeT_tl _ _) (node_mk (un_node w hw) _).symm
    | @bin d w e f hw i j =>
      refine .node w [e, f] (node_fre w (bin_node w hw)).1 (by simp) (fun g hg => ?_) (nodeT_tl _ _) (node_mk (bin_node w hw) _).symm
      simp only [List.mem_cons, List.not_mem_nil, or_false] at hg
      rcases hg with rfl | rfl
      · exact .inl i
      · exact .inl j
    | @tern d e f g i j k =>
      refine .node "if" [e, f, g] (node_fre "if" (by decide +kernel)).1 (by simp) (fun g hg => ?_) (nodeT_tl _ _) (node_mk (by decide +kernel) _).symm
      simp only [List.mem_cons, List.not_mem_nil, or_false] at hg
      rcases hg with rfl | rfl | rfl
      · exact .inl i
      · exact .inl j
      · exact .inl k
  · exact .leaf h (leaf_fre h)
theorem join_tl2 (x y : Str) (r : List Str) : tl (Txt.join "," (x :: y :: r)) = tl x ++ 44 :: tl (Txt.join "," (y :: r)) := by
  rw [join_c2, tl_append, tl_append, List.append_assoc]
  rfl
theorem args_inj {n : Nat} (ih : ∀ (e f : Ex) (r s : List Nat), PE9 n e → PE9 n f → Tl1 r → Tl1 s → tl (txE e) ++ r = tl (txE f) ++ s → exD e = exD f ∧ r = s) :
    ∀ (es fs : List Ex) (r s : List Nat), es ≠ [] → fs ≠ [] → (∀ f ∈ es, PE9 n f) → (∀ f ∈ fs, PE9 n f) → tl (Txt.join "," (es.map txE)) ++ 41 :: r = tl (Txt.join "," (fs.map txE)) ++ 41 :: s → es.map exD = fs.map exD ∧ r = s
  | [], _, _, _, h, _, _, _, _ => (h rfl).elim
  | _ :: _, [], _, _, _, h, _, _, _ => (h rfl).elim
  | [e], [f], r, s, _, _, he, hf, q => by
    obtain ⟨a, b⟩ := ih e f _ _ (he e List.mem_cons_self) (hf f List.mem_cons_self) (.inr ⟨41, r, rfl, .inl rfl⟩) (.inr ⟨41, s, rfl, .inl rfl⟩) q
    exact ⟨by rw [List.map_cons, List.map_cons, a, List.map_nil], (List.cons.inj b).2⟩
  | [e], f :: f2 :: fs, r, s, _, _, he, hf, q => by
    rw [show tl (Txt.join "," ((f :: f2 :: fs).map txE)) = _ from join_tl2 _ _ _, List.append_assoc] at q
    obtain ⟨a, b⟩ := ih e f _ _ (he e List.mem_cons_self) (hf f List.mem_cons_self) (.inr ⟨41, r, rfl, .inl rfl⟩) (.inr ⟨44, _, rfl, .inr rfl⟩) q
    exact absurd (List.cons.inj b).1 (by decide)
  | e :: e2 :: es, [f], r, s, _, _, he, hf, q => by
    rw [show tl (Txt.join "," ((e :: e2 :: es).map txE)) = _ from join_tl2 _ _ _, List.append_assoc] at q
    obtain ⟨a, b⟩ := ih e f _ _ (he e List.mem_cons_self) (hf f List.mem_cons_self) (.inr ⟨44, _, rfl, .inr rfl⟩) (.inr ⟨41, s, rfl, .inl rfl⟩) q
    exact absurd (List.cons.inj b).1 (by decide)
  | e :: e2 :: es, f :: f2 :: fs, r, s, _, _, he, hf, q => by
    rw [show tl (Txt.join "," ((e :: e2 :: es).map txE)) = _ from join_tl2 _ _ _, show tl (Txt.join "," ((f :: f2 :: fs).map txE)) = _ from join_tl2 _ _ _, List.append_assoc, List.append_assoc] at q
    obtain ⟨a, b⟩ := ih e f _ _ (he e List.mem_cons_self) (hf f List.mem_cons_self) (.inr ⟨44, _, rfl, .inr rfl⟩) (.inr ⟨44, _, rfl, .inr rfl⟩) q
    obtain ⟨c, d⟩ := args_inj ih (e2 :: es) (f2 :: fs) r s (by simp) (by simp) (fun x hx => he x (List.mem_cons_of_mem _ hx)) (fun x hx => hf x (List.mem_cons_of_mem _ hx)) (List.cons.inj b).2
    exact ⟨by show exD e :: (e2 :: es).map exD = exD f :: (f2 :: fs).map exD; rw [a, c], d⟩
theorem tx_inj : ∀ (n : Nat) (e f : Ex) (r s : List Nat), PE9 n e → PE9 n f → Tl1 r → Tl1 s → tl (txE e) ++ r = tl (txE f) ++ s → exD e = exD f ∧ r = s := by
  have leaves : ∀ (e f : Ex) (r s : List Nat), LeafE e → Fre (txE e) → LeafE f → Fre (txE f) → Tl1 r → Tl1 s → tl (txE e) ++ r = tl (txE f) ++ s → exD e = exD f ∧ r = s := fun e f r s a b c d hr hs q => by
    obtain ⟨x, y⟩ := seg2 (fre_spc b) (fre_spc d) hr.z hs.z q
    exact ⟨by rw [leaf_inj a c (ext_tl x)], y⟩
  have mixed : ∀ (e : Ex) (x : Str) (r s : List Nat), Fre (txE e) → Fre x → Tl1 r → tl (txE e) ++ r ≠ tl x ++ 40 :: s := fun e x r s b d hr q => by
    obtain ⟨_, y⟩ := seg2 (fre_spc b) (fre_spc d) hr.z (.inr ⟨40, s, rfl, .inl rfl⟩) q
    rcases hr with rfl | ⟨c, t, rfl, k | k⟩
    · cases y
    · exact absurd (k.symm.trans (List.cons.inj y).1) (by decide)
    · exact absurd (k.symm.trans (List.cons.inj y).1) (by decide)
  intro n
  induction n with
  | zero =>
    intro e f r s he hf
    rcases he with he | he
    · cases he
    rcases hf with hf | hf
    · cases hf
    exact leaves e f r s he (leaf_fre he) hf (leaf_fre hf)
  | succ n ih =>
    intro e f r s he hf hr hs q
    cases shq he with
    | leaf a b =>
      cases shq hf with
      | leaf c d => exact leaves e f r s a b c d hr hs q
      | node y fs fy nf hf2 tf df =>
        rw [tf, List.append_assoc] at q
        exact (mixed e y r _ b fy hr q).elim
    | node x es fx ne he2 te de =>
      cases shq hf with
      | leaf c d =>
        rw [te, List.append_assoc] at q
        exact (mixed f x s _ d fx hs q.symm).elim
      | node y fs fy nf hf2 tf df =>
        rw [te, tf, List.append_assoc, List.append_assoc] at q
        obtain ⟨e1, e2⟩ := seg2 (fre_spc fx) (fre_spc fy) (.inr ⟨40, _, rfl, .inl rfl⟩) (.inr ⟨40, _, rfl, .inl rfl⟩) q
        have e3 : tl (Txt.join "," (es.map txE)) ++ [41] ++ r = tl (Txt.join "," (fs.map txE)) ++ [41] ++ s := (List.cons.inj e2).2
        rw [List.append_assoc, List.append_assoc] at e3
        obtain ⟨e4, e5⟩ := args_inj ih es fs r s ne nf he2 hf2 e3
        exact ⟨by rw [de, df, ext_tl e1, e4], e5⟩
theorem tx_iff {n : Nat} {e f : Ex} (he : ExOk NF n e) (hf : ExOk NF n f) (q : txE e = txE f) : exD e = exD f :=
  (tx_inj n e f [] [] (.inl he) (.inl hf) (.inl rfl) (.inl rfl) (by rw [q])).1
/-! == of two expressions -/
theorem EqTs.mk {n : Nat} {d e : Dt} {ds es : List Dt} {a b : Bool} (h : EqT n d e a) (g : EqTs n ds es b) : EqTs n (d :: ds) (e :: es) (a && b) := by
  cases a with
  | true => exact .cons h g
  | false => exact .stop h
theorem eqt_str {n : Nat} (x y : Str) : EqT n (.str x) (.str y) (x == y) := show EqT n _ _ (eqV (.str x) (.str y)) from .flat rfl rfl
theorem eqt_int {n : Nat} (x y : Int) : EqT n (.int x) (.int y) (x == y) := show EqT n _ _ (eqV (.int x) (.int y)) from .flat rfl rfl
theorem eqt_bl {n : Nat} (x y : Bool) : EqT n (.bl x) (.bl y) (x == y) := show EqT n _ _ (eqV (.bl x) (.bl y)) from .flat rfl rfl
def tagW (w : Str) : Nat := if w = "var" then 0 else if w = "pre" then 1 else if w ∈ unL then 3 else if w ∈ binL then 4 else if w = "if" then 5 else 2
def tgE : Ex → Nat
  | .var _ _ => 0 | .pre _ => 1 | .lit _ _ => 2 | .un _ _ => 3 | .bin _ _ _ => 4 | .tern _ _ _ => 5
theorem tag_un : ∀ w ∈ unL, tagW w = 3 := by decide +kernel
theorem tag_bin : ∀ w ∈ binL, tagW w = 4 := by decide +kernel
theorem tag_e {N : Str → Prop} {n : Nat} {e : Ex} (h : ExOk N n e) : tagW (wordE e) = tgE e := by
  cases h with
  | var _ _ _ => show tagW "var" = 0; decide +kernel
  | pre _ => show tagW "pre" = 1; decide +kernel
  | lit a =>
    cases a with
    | num _ => show tagW "num" = 2; decide +kernel
    | truth _ => show tagW "truth" = 2; decide +kernel
    | time => show tagW "time" = 2; decide +kernel
    | initial => show tagW "initial" = 2; decide +kernel
    | sample _ _ _ => show tagW "sample" = 2; decide +kernel
  | un a _ => exact tag_un _ a
  | bin a _ _ => exact tag_bin _ a
  | tern _ _ _ => show tagW "if" = 5; decide +kernel
theorem eqx : ∀ (n : Nat) (e f : Ex), ExOk NF n e → ExOk NF n f → ∃ b, EqTs n (.str (wordE e) :: restE e) (.str (wordE f) :: restE f) b ∧ (b = true ↔ exD e = exD f)
  | 0, _, _, h, _ => by cases h
  | n + 1, e, f, he, hf => by
    by_cases hw : wordE e = wordE f
    · have ht : tgE e = tgE f := by rw [← tag_e he, ← tag_e hf, hw]
      have ws : EqT (n + 1) (.str (wordE e)) (.str (wordE f)) true := by have := eqt_str (n := n + 1) (wordE e) (wordE f); rw [hw, beq_self_eq_true] at this; rw [hw]; exact this
      have kid : ∀ (a b : Ex), ExOk NF n a → ExOk NF n b → ∃ c, EqT (n + 1) (exD a) (exD b) c ∧ (c = true ↔ exD a = exD b) := fun a b ha hb => by
        obtain ⟨c, h1, h2⟩ := eqx n a b ha hb
        exact ⟨c, by rw [exD_eq a, exD_eq b]; exact .tup h1, h2⟩
      cases he with
      | @var _ x o a b c =>
        cases hf with
        | @var _ y p a' b' c' =>
          exact ⟨_, .cons ws (.mk (eqt_str x y) (.mk (eqt_int o p) .nil)), by simp [exD]⟩
        | pre _ | lit _ | un _ _ | bin _ _ _ | tern _ _ _ => exact absurd ht (by simp [tgE])
      | @pre _ x a =>
        cases hf with
        | @pre _ y a' => exact ⟨_, .cons ws (.mk (eqt_str x y) .nil), by simp [exD]⟩
        | var _ _ _ | lit _ | un _ _ | bin _ _ _ | tern _ _ _ => exact absurd ht (by simp [tgE])
      | @lit _ w ats a =>
        cases hf with
        | @lit _ w2 ats2 a' =>
          have hw : w = w2 := hw
          subst hw
          cases a with
          | num x => cases a' with | num y => exact ⟨_, .cons ws (.mk (.rat _ _ _ _) .nil), by simp [exD, atD]⟩
          | truth x => cases a' with | truth y => exact ⟨_, .cons ws (.mk (eqt_bl _ _) .nil), by simp [exD, atD]⟩
          | time => cases a' with | time => exact ⟨_, .cons ws .nil, by simp⟩
          | initial => cases a' with | initial => exact ⟨_, .cons ws .nil, by simp⟩
          | sample x y z => cases a' with | sample x' y' z' => exact ⟨_, .cons ws (.mk (.rat _ _ _ _) (.mk (.rat _ _ _ _) .nil)), by simp [exD, atD]⟩
        | var _ _ _ | pre _ | un _ _ | bin _ _ _ | tern _ _ _ => exact absurd ht (by simp [tgE])
      | @un _ w e i a =>
        cases hf with
        | @un _ w2 f i' a' =>
          have hw : w = w2 := hw
          subst hw
          obtain ⟨c, h1, h2⟩ := kid e f a a'
          exact ⟨_, .cons ws (.mk h1 .nil), by simp [exD, h2]⟩
        | var _ _ _ | pre _ | lit _ | bin _ _ _ | tern _ _ _ => exact absurd ht (by simp [tgE])
      | @bin _ w e g i a b =>
        cases hf with
        | @bin _ w2 f k i' a' b' =>
          have hw : w = w2 := hw
          subst hw
          obtain ⟨c, h1, h2⟩ := kid e f a a'
          obtain ⟨c2, h3, h4⟩ := kid g k b b'
          exact ⟨_, .cons ws (.mk h1 (.mk h3 .nil)), by simp [exD, h2, h4]⟩
        | var _ _ _ | pre _ | lit _ | un _ _ | tern _ _ _ => exact absurd ht (by simp [tgE])
      | @tern _ e g l a b c =>
        cases hf with
        | @tern _ f k l' a' b' c' =>
          obtain ⟨d1, h1, h2⟩ := kid e f a a'
          obtain ⟨d2, h3, h4⟩ := kid g k b b'
          obtain ⟨d3, h5, h6⟩ := kid l l' c c'
          exact ⟨_, .cons ws (.mk h1 (.mk h3 (.mk h5 .nil))), by simp [exD, h2, h4, h6]⟩
        | var _ _ _ | pre _ | lit _ | un _ _ | bin _ _ _ => exact absurd ht (by simp [tgE])
    · refine ⟨false, .stop ?_, fun q => Bool.noConfusion q, fun q => ?_⟩
      · have := eqt_str (n := n + 1) (wordE e) (wordE f)
        rwa [show (wordE e == wordE f) = false from beq_eq_false_iff_ne.mpr hw] at this
      · rw [exD_eq e, exD_eq f] at q
        injection q with q
        injection q with q _
        injection q with q
        exact (hw q).elim
end
/-! ### an __init__ that makes its fields: the instance is held, the right sides are walked -/
def hide1 (H : Hp) (x : Addr) : Hp := fun a => if a = x then none else H a
theorem hide1_ne {H : Hp} {x a : Addr} (h : a ≠ x) : hide1 H x a = H a := if_neg h
theorem hide1_at {H : Hp} {x : Addr} : hide1 H x x = none := if_pos rfl
def vOnly (ρ : List Sl) : Bool := ρ.all fun s => match s with
  | .v _ | .un => true
  | _ => false
def fmI (B F0 J : Hp) (x : Addr) : Fm := ⟨B, F0, J, fun a => a = x⟩
theorem vOnly_at {ρ : List Sl} (h : vOnly ρ = true) {i : Nat} {s : Sl} (e : ρ[i]? = some s) : s = .un ∨ ∃ d, s = .v d := by
  have := List.all_eq_true.mp h _ (List.mem_of_getElem? e)
  cases s with
  | un => exact .inl rfl
  | v d => exact .inr ⟨d, rfl⟩
  | o d => cases this
  | l a d => cases this
theorem Sm.startI {K : PySem.W.Frag} {E : XK} {F H : Hp} {x : Addr} {C dx : Addr} {σ : L2.St} {ρ : List Sl} (le : Le F H) (hx : H x = some (.ins C dx [])) (fx : F x = none) (vo : vOnly ρ = true) (len : σ.length = ρ.length)
    (hs : ∀ (i : Nat) (d : Dt), ρ[i]? = some (.v d) → ∃ v, σ[i]? = some (some v) ∧ Rz K (hide1 H x) F d v) : Sm ⟨K, E, fun _ _ => False⟩ (fmI (hide1 H x) F H x) F H σ ρ := by
  refine { lk := le.lk, base := Same.refl H, fr := Nw.refl F _, dom := fun a h => ?_, bj := fun a o q => ?_, er := fun _ _ _ _ f => f.elim, hid := fun a ha => ?_, fj := fun _ _ _ q => q, len := len, slot := fun i s ov a b => ?_, sep := fun i j d e l a _ _ _ => ?_, psep := fun i j a d e q _ => ?_ }
  · by_cases c : a = x
    · rw [c]; exact hide1_at
    · show hide1 H x a = none
      rw [hide1_ne c]; exact h
  · have q : hide1 H x a = some o := q
    by_cases c : a = x
    · rw [c, hide1_at] at q; cases q
    · rw [hide1_ne c] at q; exact .inl q
  · have ha : a = x := ha
    subst ha
    exact ⟨fx, _, hx, rfl⟩
  · rcases vOnly_at vo a with rfl | ⟨d, rfl⟩
    · trivial
    · obtain ⟨v, e, r⟩ := hs i d a
      rw [b] at e
      cases e
      exact ⟨v, rfl, r⟩
  · rcases vOnly_at vo a with h | ⟨d, h⟩ <;> cases h
  · rcases vOnly_at vo q with h | ⟨d, h⟩ <;> cases h
section
variable {z : Cz} {m : Fm} {F H : Hp} {σ : L2.St} {ρ : List Sl} {x C dx : Addr} {fs : List (Str × V)} {f : Str} {te : TE} {d0 : Dt} {D : Ends} {K' : PySem.W.Frag}
theorem fld_step {B F0 : Hp} (S : Sm z (fmI B F0 H x) F H σ ρ) (hB : B x = none) (hx : H x = some (.ins C dx fs)) (hσ : σ[0]? = some (some (.ref x))) (vo : vOnly ρ = true) (cls : Cls K' C) (na : NoAttr K' C f) (hl : fs.length < 1000)
    (e : ZE z te ρ fun d _ ρ' => d = d0 ∧ ρ' = ρ)
    (k : ∀ F' H' v, Same F F' → (∀ a, a ≠ x → ∀ o, H a = some o → H' a = some o) → (∀ a ob u, H' a = some (.frz ob u) → H a = some (.frz ob u)) → Sm z (fmI B F0 H' x) F' H' σ ρ → H' x = some (.ins C dx (putF f v fs)) → Rz z.K B F' d0 v → D.nx σ H') :
    sFld K' (tVar 0) te f D σ H := by
  refine e (fmI B F0 H x) F H σ _ S fun d fr ρ' F1 H1 v n s S1 r1 => ?_
  obtain ⟨rfl, rfl⟩ := n
  obtain ⟨F2, s2, S2, r⟩ := rzF_frz S1 r1
  have hx1 : H1 x = some (.ins C dx fs) := S2.base x _ hx
  refine ⟨_, hσ, x, C, dx, fs, rfl, hx1, cls, na, hl, ?_⟩
  have hF2 : F2 x = none := (S2.hid x rfl).1
  have le3 : Le F2 (upd H1 x (.ins C dx (putF f v fs))) := S2.le.put hF2
  have fz : ∀ a ob u, upd H1 x (.ins C dx (putF f v fs)) a = some (.frz ob u) → H a = some (.frz ob u) := fun a ob u q => by
    by_cases c : a = x
    · rw [c, upd_same] at q; cases q
    · rw [upd_ne c] at q; exact S2.fj a ob u q
  refine k F2 _ v (s.trans s2) (fun a n o q => by rw [upd_ne n]; exact S2.base a o q) fz ?_ upd_same r
  refine { lk := le3.lk, base := Same.refl _, fr := S2.fr, dom := fun a h => ?_, bj := fun a o q => ?_, er := fun C2 fs2 dd H' h1 h2 => S2.er C2 fs2 dd H' h1 h2, hid := fun a ha => ?_, fj := fun _ _ _ q => q, len := S2.len, slot := fun i s ov a b => ?_, sep := S2.sep, psep := S2.psep }
  · by_cases c : a = x
    · rw [c, upd_same] at h; cases h
    · rw [upd_ne c] at h; exact S2.dom a h
  · have q : B a = some o := q
    by_cases c : a = x
    · rw [c, hB] at q; cases q
    · show upd H1 x _ a = some o ∨ (isDk o = true ∧ ∃ ob, upd H1 x _ a = _)
      rw [upd_ne c]
      rcases S2.bj a o q with w | ⟨w, ob, w2⟩
      · exact .inl (S2.base _ _ w)
      · exact .inr ⟨w, ob, S2.base _ _ w2⟩
  · have ha : a = x := ha
    subst ha
    exact ⟨hF2, _, upd_same, rfl⟩
  · have q := S2.slot i s ov a b
    rcases vOnly_at vo a with rfl | ⟨d, rfl⟩
    · trivial
    · exact q
end
/-! ### x = f(..); if test: ..; x[0].append(y): what f has made is changed, and never looked at again -/
section
variable {z : Cz} {ρ : List Sl} {N : Zn}
theorem zs_callApp {w : Wz} {E : XK} {t : TA} {tt : TT} {tb u : TS} {i : Nat} {j : Int} {K' K'' : PySem.W.Frag}
    (h : ZA z t ρ fun ds ρ1 => vOnly ρ1 = true ∧ i < ρ1.length ∧ w (Dt.olds ds) (fun d fr => ∃ es r, fr = false ∧ d = .tup (.lst true es :: r) ∧ es.length < 100000 ∧
      ZT z tt (ρ1.set i (.v d)) (fun b _ => b = false) ∧ ZS z u (ρ1.set i .un) N) fun _ _ => False) :
    ZS z (tSeq (tAsg (tCall (spZ z.K w) [] E t) (gName i)) (tSeq (tIfS tt tb tNext) (tSeq (tDrop (tBM K' "list" rAppend (tOp (rIxT K'') (tVar i) (tC (.int 0))) (tCons (tC (.int j)) tNil))) u))) ρ N := fun m F H σ D S kn kr kb kc => by
  refine h m F H σ _ S fun ds ρ1 F1 H1 vs n1 s1 S1 r1 => ?_
  obtain ⟨vo, hi, hw⟩ := n1
  rw [List.append_nil]
  refine ⟨F1, Dt.olds ds, _, _, S1.le, rzl_old _ _ r1, hw, fun d fr F2 H2 v nd g => ?_, fun _ _ _ _ f => f.elim⟩
  obtain ⟨es, r, rfl, rfl, hl, hT, hU⟩ := nd
  obtain ⟨S2, r2⟩ := S1.got g
  have raw : Rz z.K H1 F2 (.tup (.lst true es :: r)) v := g.2.2.2.2.2
  have sF := g.1
  simp only [Rz] at raw
  obtain ⟨a, xs, rfl, ea, rx⟩ := raw
  obtain ⟨v1, xr, rfl, r3, _⟩ := rx.inv
  simp only [Rz] at r3
  obtain ⟨l, ys, rfl, el, hnew, ry⟩ := r3
  have hl1 : H1 l = none := hnew trivial
  have S3 := S2.setv (i := i) r2
  refine hT m F2 H2 _ _ S3 fun b ρ2 F3 H3 hb s3 S4 => ?_
  subst hb
  rw [if_neg (by decide)]
  have hσ : (σ.set i (some (V.ref a)))[i]? = some (some (V.ref a)) := List.getElem?_set_self (by rw [S1.len]; exact hi)
  have hA : H3 a = some (.tup (.ref l :: xr)) := S4.le.exact (s3 _ _ ea) rfl
  have hL : H3 l = some (.lst ys) := S4.le.exact (s3 _ _ el) rfl
  refine ⟨_, hσ, a, .ref l :: xr, 0, .ref l, rfl, rfl, SqT.of hA, atI_k (k := 0) rfl, .inl ⟨rfl, ys, SqL.of hL⟩, l, ys, .int j, rfl, rfl, hL, by rw [ry.len, sizeLine_eq]; omega, ?_⟩
  have fl : F1 l = none := S1.le.free hl1
  have jl : m.J l = none := S1.j_none hl1
  have ne : ∀ {c : Addr} {o : HO} {G : Hp}, G l = none → G c = some o → c ≠ l := fun {c o G} e q z => by rw [z, e] at q; cases q
  have C : Sc z m F1 (upd H3 l (.lst (ys ++ [.int j]))) := ⟨fun c o q => by
      have n := ne fl q
      rw [upd_ne n]
      exact S4.lk c o (s3 _ _ (sF _ _ q)), fun c o q => by
      rw [upd_ne (ne jl q)]
      exact S4.base c o q, S1.fr, fun c q => by
      by_cases n : c = l
      · rw [n, upd_same] at q; cases q
      · rw [upd_ne n] at q; exact S4.dom c q, S1.bj, S1.er, S1.hid, fun c ob u q => by
      by_cases n : c = l
      · rw [n, upd_same] at q; cases q
      · rw [upd_ne n] at q; exact S4.fj c ob u q⟩
  have vo2 : ∀ (k : Nat) (s : Sl), (ρ1.set i .un)[k]? = some s → s = .un ∨ ∃ d, s = .v d := fun k s q => by
    by_cases c : i = k
    · subst c
      rw [List.getElem?_set_self hi] at q
      exact .inl (Option.some.inj q).symm
    · rw [List.getElem?_set_ne c] at q
      exact vOnly_at vo q
  refine hU m F1 _ _ D { C with len := by rw [List.length_set, List.length_set]; exact S1.len, slot := fun k s ov a b => ?_, sep := fun k k' d e l' a b _ _ => ?_, psep := fun k k' q d e a b => ?_ } (fun ρ' F' H' σ' n s => kn ρ' F' H' σ' n (s1.trans s)) (fun d fr F' H' v n s => kr d fr F' H' v n (s1.trans s)) (fun ρ' F' H' σ' n s => kb ρ' F' H' σ' n (s1.trans s)) fun ρ' F' H' σ' n s => kc ρ' F' H' σ' n (s1.trans s)
  · by_cases c : i = k
    · subst c
      rw [List.getElem?_set_self hi] at a
      cases a
      trivial
    · rw [List.getElem?_set_ne c] at a b
      rcases vOnly_at vo a with rfl | ⟨d, rfl⟩
      · trivial
      · exact S1.slot k _ ov a b
  · rcases vo2 k _ a with h | ⟨_, h⟩ <;> cases h
  · rcases vo2 k _ a with h | ⟨_, h⟩ <;> cases h
end
section
/-- from where the stream is made -/
theorem z_rest {K : PySem.W.Frag} {E : XK} {t : TS} {N : List Str} {ds : List Dt} {vs : List V} {H : Hp} {D : Ends} (r : Rzl K H H ds vs)
    (go : ZS ⟨K, E, fun _ _ => False⟩ t (slots N ds) ⟨fun _ => False, fun d fr => d = .bl true ∧ fr = false, fun _ => False, fun _ => False⟩) (k : ∀ H', D.rt (.bl true) H') : t D (L2.start N vs) H :=
  go (fmE H H) H H _ D (Sm.start (Le.refl H) r fun _ _ _ _ f => f.elim) (fun _ _ _ _ f => f.elim) (fun d fr F' H' v n s R => by
    obtain ⟨rfl, rfl⟩ := n
    obtain ⟨_, r⟩ := R
    rw [if_neg (by decide)] at r
    rw [rz_b r]
    exact k _) (fun _ _ _ _ f => f.elim) fun _ _ _ _ f => f.elim
end
/-! ### the law of k09 -/
theorem exD_eqd : ∀ {n : Nat} {e : Ex}, ExOk NF n e → EqD (n + 1) (exD e) (exD e)
  | 0, _, h => by cases h
  | n + 1, _, h => by
    cases h with
    | var _ _ _ => exact .tup (.cons (.flat rfl) (.cons (.flat rfl) (.cons (.flat rfl) .nil)))
    | pre _ => exact .tup (.cons (.flat rfl) (.cons (.flat rfl) .nil))
    | lit a =>
      cases a with
      | num _ => exact .tup (.cons (.flat rfl) (.cons (.rat _ _) .nil))
      | truth b => exact .tup (.cons (.flat rfl) (.cons (.flat rfl) .nil))
      | time => exact .tup (.cons (.flat rfl) .nil)
      | initial => exact .tup (.cons (.flat rfl) .nil)
      | sample _ _ _ => exact .tup (.cons (.flat rfl) (.cons (.rat _ _) (.cons (.rat _ _) .nil)))
    | un _ i => exact .tup (.cons (.flat rfl) (.cons (exD_eqd i) .nil))
    | bin _ i j => exact .tup (.cons (.flat rfl) (.cons (exD_eqd i) (.cons (exD_eqd j) .nil)))
    | tern i j k => exact .tup (.cons (.flat rfl) (.cons (exD_eqd i) (.cons (exD_eqd j) (.cons (exD_eqd k) .nil))))
theorem ExT.mono {N M : Str → Prop} {t : Bool} {n : Nat} {e : Ex} (h : ExT N t n e) (k : ∀ x, N x → M x) : ExT M t n e := by
  induction h with
  | var a b c d => exact .var (k _ a) b c d
  | pre a => exact .pre (k _ a)
  | num a => exact .num a
  | time => exact .time
  | truth b => exact .truth b
  | initial => exact .initial
  | sample a b c => exact .sample a b c
  | neg _ i => exact .neg i
  | not _ i => exact .not i
  | ari a _ _ i j => exact .ari a i j
  | log a _ _ i j => exact .log a i j
  | cmp a _ _ i j => exact .cmp a i j
  | same _ _ i j => exact .same i j
  | tern _ _ _ i j k => exact .tern i j k
theorem atD_inj : ∀ {a b : At}, atD a = atD b → a = b
  | .rat _ _, .rat _ _, h => by simp only [atD] at h; injection h with h1 h2; rw [h1, h2]
  | .bl _, .bl _, h => by simp only [atD] at h; injection h with h1; rw [h1]
  | .rat _ _, .bl _, h => by cases h
  | .bl _, .rat _ _, h => by cases h
theorem ats_inj : ∀ {a b : List At}, a.map atD = b.map atD → a = b
  | [], [], _ => rfl
  | [], _ :: _, h => by cases h
  | _ :: _, [], h => by cases h
  | x :: a, y :: b, h => by
    obtain ⟨h1, h2⟩ := List.cons.inj h
    rw [atD_inj h1, ats_inj h2]
theorem exD_inj : ∀ (n : Nat) (e f : Ex), ExOk NF n e → ExOk NF n f → exD e = exD f → e = f
  | 0, _, _, h, _, _ => by cases h
  | n + 1, e, f, he, hf, q => by
    have hw : wordE e = wordE f ∧ restE e = restE f := by
      rw [exD_eq e, exD_eq f] at q
      injection q with q
      obtain ⟨q1, q2⟩ := List.cons.inj q
      injection q1 with q1
      exact ⟨q1, q2⟩
    obtain ⟨hw, hr⟩ := hw
    have ht : tgE e = tgE f := by rw [← tag_e he, ← tag_e hf, hw]
    cases he with
    | @var _ x o a b c =>
      cases hf with
      | @var _ y p a' b' c' => simp only [restE] at hr; simp at hr; rw [hr.1, hr.2]
      | pre _ | lit _ | un _ _ | bin _ _ _ | tern _ _ _ => exact absurd ht (by simp [tgE])
    | @pre _ x a =>
      cases hf with
      | @pre _ y a' => simp only [restE] at hr; simp at hr; rw [hr]
      | var _ _ _ | lit _ | un _ _ | bin _ _ _ | tern _ _ _ => exact absurd ht (by simp [tgE])
    | @lit _ w ats a =>
      cases hf with
      | @lit _ w2 ats2 a' => rw [show w = w2 from hw, ats_inj hr]
      | var _ _ _ | pre _ | un _ _ | bin _ _ _ | tern _ _ _ => exact absurd ht (by simp [tgE])
    | @un _ w e i a =>
      cases hf with
      | @un _ w2 f i' a' => simp only [restE] at hr; simp only [List.cons.injEq, and_true] at hr; rw [show w = w2 from hw, exD_inj n e f a a' hr]
      | var _ _ _ | pre _ | lit _ | bin _ _ _ | tern _ _ _ => exact absurd ht (by simp [tgE])
    | @bin _ w e g i a b =>
      cases hf with
      | @bin _ w2 f k i' a' b' => simp only [restE] at hr; simp only [List.cons.injEq, and_true] at hr; rw [show w = w2 from hw, exD_inj n e f a a' hr.1, exD_inj n g k b b' hr.2]
      | var _ _ _ | pre _ | lit _ | un _ _ | tern _ _ _ => exact absurd ht (by simp [tgE])
    | @tern _ e g l a b c =>
      cases hf with
      | @tern _ f k l' a' b' c' => simp only [restE] at hr; simp only [List.cons.injEq, and_true] at hr; rw [exD_inj n e f a a' hr.1, exD_inj n g k b b' hr.2.1, exD_inj n l l' c c' hr.2.2]
      | var _ _ _ | pre _ | lit _ | un _ _ | bin _ _ _ => exact absurd ht (by simp [tgE])
theorem tyE {K : PySem.W.Frag} (e : Ex) : TyD K (exD e) (.type "tuple") := by rw [exD_eq]; exact .tup _
section
variable {P : Program} {w : World} {K : PySem.W.Frag} {mg : Str → Option Value} {base : Heap}
def spLaw (K : PySem.W.Frag) : Sp := fun vs H Q _ => ∃ (a : Addr) (ns : List Int), vs = [.ref a] ∧ SqL K H a (ns.map V.int) ∧ ns.length ≤ 63 ∧ ∀ H', Q (.bl true) H'
set_option maxHeartbeats 8000000 in
theorem ok_law (T : Top w K mg) : FnOk P w K mg base CX0 60 (He.ga K ("law" : Str)) (fdOf K d_law) ["script"] (spLaw K) := by
  have ih__law_size := ok__law_size (P := P) (w := w) (base := base) T 30
  have ih__law_text := ok__law_text (P := P) (w := w) (base := base) T 6
  have ih__law_truths := ok__law_truths (P := P) (w := w) (base := base) T 7
  have ih_expression_text := ok_expression_text (P := P) (w := w) (base := base) T 6
  refine (T.f_law).ok sc_law (fun vs H Q E h => ?_) (fun cdv A outer s H vs Q E hr h => ?_)
  · obtain ⟨a, ns, rfl, _⟩ := h
    rfl
  · obtain ⟨sa, ns, rfl, hS, h63, k⟩ := h
    refine ⟨_, PSs.nox (pss_cons (ps_set (i := 1) sc_law.nd rfl (Or.inl rfl) (pe_call (ok__law_stream (K := K) T) (hr.mono (by omega)) rfl T.g__law_stream T.f__law_stream.kp T.b__law_stream .nil pass0 (pa_cons (pv 0) pa_nil)))
    (pss_cons (ps_set (i := 2) sc_law.nd rfl (Or.inl rfl) (pe_call (ok__law_any (K := K) T) (hr.mono (by omega)) rfl T.g__law_any T.f__law_any.kp T.b__law_any .nil pass0 (pa_cons (pv 1) (pa_cons (pe_op op_add pe_int (pe_call (ok__law_draw (K := K) T) (hr.mono (by omega)) rfl T.g__law_draw T.f__law_draw.kp T.b__law_draw .nil pass0 (pa_cons (pv 1) (pa_cons pe_int pa_nil)))) pa_nil))))
    (pss_cons (ps_set (i := 3) sc_law.nd rfl (Or.inl rfl) (pe_call (ok__law_any (K := K) T) (hr.mono (by omega)) rfl T.g__law_any T.f__law_any.kp T.b__law_any .nil pass0 (pa_cons (pv 1) (pa_cons (pe_op op_add pe_int (pe_call (ok__law_draw (K := K) T) (hr.mono (by omega)) rfl T.g__law_draw T.f__law_draw.kp T.b__law_draw .nil pass0 (pa_cons (pv 1) (pa_cons pe_int pa_nil)))) pa_nil))))
    (pss_cons (ps_if (PW.pt (pw_or (pt_not (pt_val (pe_call (ok_is_expression (K := K) T) (hr.mono (by omega)) rfl T.g_is_expression T.f_is_expression.kp T.b_is_expression .nil pass0 (pa_cons (pv 2) pa_nil)))) (pw_or1 (pt_not (pt_val (pe_call (ok_is_expression (K := K) T) (hr.mono (by omega)) rfl T.g_is_expression T.f_is_expression.kp T.b_is_expression .nil pass0 (pa_cons (pv 3) pa_nil)))))))
    (pss_one (ps_ret (pe_cmpR op_gt (pe_call ih__law_size (hr.mono (by omega)) rfl T.g__law_size T.f__law_size.kp T.b__law_size .nil pass0 (pa_cons (pv 2) pa_nil)) pe_int (nomark _))))
    pss_nil)
    (pss_cons (ps_if (PW.pt (pw_or (pt_cmpR op_ne (pe_call ih_expression_text (hr.mono (by omega)) rfl T.g_expression_text T.f_expression_text.kp T.b_expression_text .nil pass0 (pa_cons (pv 2) pa_nil)) (pe_call ih__law_text (hr.mono (by omega)) rfl T.g__law_text T.f__law_text.kp T.b__law_text .nil pass0 (pa_cons (pv 2) pa_nil)) (nomark _)) (pw_or1 (pt_cmpR op_ne (pe_call ih_expression_text (hr.mono (by omega)) rfl T.g_expression_text T.f_expression_text.kp T.b_expression_text .nil pass0 (pa_cons (pv 3) pa_nil)) (pe_call ih__law_text (hr.mono (by omega)) rfl T.g__law_text T.f__law_text.kp T.b__law_text .nil pass0 (pa_cons (pv 3) pa_nil)) (nomark _)))))
    (pss_one (ps_ret pe_bl))
    pss_nil)
    (pss_cons (ps_set (i := 4) sc_law.nd rfl (Or.inl rfl) (pe_call (ok_read_expression (K := K) T) (hr.mono (by omega)) rfl T.g_read_expression T.f_read_expression.kp T.b_read_expression .nil passL (pa_cons (pe_call ih__law_text (hr.mono (by omega)) rfl T.g__law_text T.f__law_text.kp T.b__law_text .nil pass0 (pa_cons (pv 2) pa_nil)) pa_nil)))
    (pss_cons (ps_if (PW.pt (pw_or (pt_not (pt_val (pe_callB (call_isiK' (K := K) rfl) (by rfl) T.n_isinstance (by decide +kernel) (pa_cons (pv 4) (pa_cons (pe_bltn (v := .ty "tuple") rfl T.n_tuple (by decide +kernel) rfl) pa_nil))))) (pw_or (pt_cmpR (op_neZZ T 8 hr.units (by exact hr.mono (by decide))) (pv 4) (pv 2) (nomark _)) (pw_or (pt_cmpR op_ne (pe_call ih__law_text (hr.mono (by omega)) rfl T.g__law_text T.f__law_text.kp T.b__law_text .nil pass0 (pa_cons (pv 4) pa_nil)) (pe_call ih__law_text (hr.mono (by omega)) rfl T.g__law_text T.f__law_text.kp T.b__law_text .nil pass0 (pa_cons (pv 2) pa_nil)) (nomark _)) (pw_or1 (pt_cmpR op_ne (pe_call ih__law_truths (hr.mono (by omega)) rfl T.g__law_truths T.f__law_truths.kp T.b__law_truths .nil pass0 (pa_cons (pv 4) pa_nil)) (pe_call ih__law_truths (hr.mono (by omega)) rfl T.g__law_truths T.f__law_truths.kp T.b__law_truths .nil pass0 (pa_cons (pv 2) pa_nil)) (nomark _)))))))
    (pss_one (ps_ret pe_bl))
    pss_nil)
    (pss_one (ps_ret (pe_cmpR op_eq (pe_cmpR op_eq (pe_call ih_expression_text (hr.mono (by omega)) rfl T.g_expression_text T.f_expression_text.kp T.b_expression_text .nil pass0 (pa_cons (pv 2) pa_nil)) (pe_call ih_expression_text (hr.mono (by omega)) rfl T.g_expression_text T.f_expression_text.kp T.b_expression_text .nil pass0 (pa_cons (pv 3) pa_nil)) (nomark _)) (pe_cmpR (op_eqA T 6 (by exact hr.mono (by decide))) (pv 2) (pv 3) (nomark _)) (nomark _))))))))))), ?_⟩
    walk_at "go"
    refine ⟨sa, ns, rfl, hS, h63, fun s0 H1 e1 hS1 => ?_⟩
    refine z_rest (K := K) (E := E) (N := ["script", "stream", "one", "two", "found"]) (ds := [.adr sa, .strm]) (vs := [.ref sa, .ref s0])
      (.cons (by simp only [Rz]) (.cons (by simp only [Rz]; exact ⟨s0, rfl, hS1⟩) .nil)) ?_ k
    walk_at "zz"
    intro v0 a0 a1
    walk_at "zz"
    refine ⟨(1 + v0).toNat, by rw [show (((1 + v0).toNat : Nat) : Int) = 1 + v0 by omega]; rfl, by omega, fun t1 e ok0 => ?_⟩
    have ok : ExT NF t1 6 e := ok0.up (by omega)
    clear ok0
    walk_at "zz"
    intro v1 b0 b1
    walk_at "zz"
    refine ⟨(1 + v1).toNat, by rw [show (((1 + v1).toNat : Nat) : Int) = 1 + v1 by omega]; rfl, by omega, fun t2 f ok0 => ?_⟩
    have okf : ExT NF t2 3 f := ok0.up (by omega)
    have okg : ExT NF t2 6 f := ok0.up (by omega)
    clear ok0
    walk_at "zz"
    have ns : ∀ x, NF x → NS x := fun x h => (nf_ns x h).2
    have okN := ok.ok.mono ns
    have okNf := okg.ok.mono ns
    have ok9 := ok.ok.mono nf_ns
    have okf9 := okg.ok.mono nf_ns
    refine ⟨6, exD e, by simp only [Dt.olds, exD_old], ex_pv okN, ?_⟩
    rw [ex_isE (ok.mono nf_ns) (by decide)]
    walk_at "zz"
    refine zB (fun c => ?_) (fun c => ?_)
    · walk_at "zz"
      refine ⟨6, exD e, by simp only [Dt.olds, exD_old], ex_pv okN, ex_good (okN.up (by decide)), ?_⟩
      walk_at "zz"
      have c' : ¬ sizeV 30 (exD e) ≤ 200 := by simpa using c
      exact ⟨by rw [decide_eq_true (by omega)], rfl⟩
    walk_at "zz"
    refine ⟨6, exD f, by simp only [Dt.olds, exD_old], ex_pv okNf, ?_⟩
    rw [ex_isE (okg.mono nf_ns) (by decide)]
    walk_at "zz"
    have sf : sizeV 30 (exD f) ≤ 200 := by have := ex_size 30 okf.ok; omega
    rw [decide_eq_true sf]
    have se : sizeV 30 (exD e) ≤ 200 := by simpa using c
    refine zF (by decide) ?_
    walk_at "zz"
    have oe : Dt.olds [exD e] = [exD e] := by simp only [Dt.olds, exD_old]
    have of : Dt.olds [exD f] = [exD f] := by simp only [Dt.olds, exD_old]
    refine ⟨e, oe, ok9, Nat.le_refl _, ?_⟩
    walk_at "zz"
    refine ⟨e, oe, ok9, Nat.le_refl _, ?_⟩
    walk_at "zz"
    refine zF (by simp) ?_
    walk_at "zz"
    refine ⟨f, of, okf9, Nat.le_refl _, ?_⟩
    walk_at "zz"
    refine ⟨f, of, okf9, Nat.le_refl _, ?_⟩
    walk_at "zz"
    refine zF (by simp) ?_
    walk_at "zz"
    refine ⟨e, oe, ok9, Nat.le_refl _, ?_⟩
    walk_at "zz"
    refine ⟨t1, e, rfl, ok, se, ?_⟩
    walk_at "zz"
    refine ⟨_, true, tyE e, of_decide_eq_true T.x_kit_t_tuple_t_tuple, ?_⟩
    walk_at "zz"
    refine ze_neZ rfl ?_
    walk_at "zz"
    refine ⟨exD_eqd (ok.ok.up (by decide)), by rw [exD_eq]; rfl, (fun a b q => by rw [exD_eq] at q; cases q), ?_⟩
    walk_at "zz"
    refine ⟨e, oe, ok9, Nat.le_refl _, ?_⟩
    walk_at "zz"
    refine ⟨e, oe, ok9, Nat.le_refl _, ?_⟩
    walk_at "zz"
    refine zF (by simp) ?_
    walk_at "zz"
    refine ⟨6, exD e, oe, ex_pv okN, by decide, ?_⟩
    walk_at "zz"
    refine ⟨6, exD e, oe, ex_pv okN, by decide, ?_⟩
    walk_at "zz"
    refine zF (by simp) ?_
    walk_at "zz"
    refine ⟨e, oe, ok9, Nat.le_refl _, ?_⟩
    walk_at "zz"
    refine ⟨f, of, okf9, Nat.le_refl _, ?_⟩
    walk_at "zz"
    refine ze_eqA rfl ?_
    walk_at "zz"
    obtain ⟨b, hb, hi⟩ := eqx 6 e f ok.ok okg.ok
    refine ⟨_, _, b, exD_eq e, exD_eq f, hb, ?_⟩
    walk_at "zz"
    have fin : decide (txE e = txE f) = b := by
      cases b with
      | true => exact decide_eq_true (by rw [exD_inj 6 e f ok.ok okg.ok (hi.mp rfl)])
      | false => exact decide_eq_false fun q => Bool.noConfusion (hi.mpr (tx_iff ok.ok okg.ok q))
    exact ⟨by rw [fin, decide_eq_true rfl], rfl⟩
end
theorem facts {P : Program} {w : World} {K : PySem.W.Frag} {h : Heap} {mg : Str → Option Value} {f : Addr} (X : K.In h) (G : h.Ns mainGlobals mg) (hfa : mg ("law" : Str) = some (.ref f)) (c : SaysU faL fnL exB tabL w K) :
    ∃ fd : FuncData, (∀ (s : Shared) (v : Value), BindsTo s fd ⟨[v], []⟩ [("script", v)]) ∧ ∀ base : Heap, K.In base → base.Ns mainGlobals mg → FnOk P w K mg base CX0 60 f fd ["script"] (spLaw K) := by
  have T : Top w K mg := ⟨h, X, G, c⟩
  have e := hfa.symm.trans T.g_law
  cases e
  have b := FunD.bindsA (ps := ["script"]) (show FunD K "law" "law" (defArgs s_law) (defBody s_law) (defScope s_law) [] (d_law.kws K) (He.ga K "law") (fdOf K d_law) from T.f_law) fun _ _ _ _ _ _ us hl => match us, hl with | [_], _ => rfl
  exact ⟨fdOf K d_law, fun s v => b s [v] rfl, fun base _ _ => ok_law T⟩
end Lk
open PySem PySem.W PySem.Calls PyProof.Rows
set_option maxRecDepth 100000 in
set_option maxHeartbeats 0 in
theorem PySem.Challenge.cw_linkwork_k09_texts_of_expressions_holds : PySem.Challenge.rw_linkwork_k09_texts_of_expressions.Holds := by
  w_on; o_law
  refine HeadRun.head_imp (r := OpenLaw.row PySem.Challenge.rw_linkwork_k09_texts_of_expressions) (q := Lk.qv) (H := Lk.hk) (ob := Lk.ob) (M := 30000) (loose := Lk.looseL) (d := HandSHeadRun.topDef (OpenLaw.row PySem.Challenge.rw_linkwork_k09_texts_of_expressions).prog 57) (kwd := []) Lk.ob_eq Lk.run (by kernel_rfl) (by kernel_rfl) (by kernel_rfl) (by rfl) (by first | assumption | decide +kernel) (by decide +kernel) ⟨rfl, rfl, rfl, rfl, rfl, by decide +kernel⟩ ?hw ?hc
  case hw => w_witness2
  case hc =>
    refine L2.walk_ofE (l := PySem.Challenge.rw_linkwork_k09_texts_of_expressions) (n := 63) (k := 60) (x := "script") (CX := L2.CX0) rfl (by decide) (by kernel_rfl) ⟨rfl, by decide, by decide⟩ ?F (fun _ _ _ _ z => z)
    intro w mg fa h Y G hmg0
    obtain ⟨K, KX, c⟩ := Y
    have hmg : mg ("law" : PySem.Str) = some (.ref fa) := by
      have e : (HandSHeadRun.topDef (OpenLaw.row PySem.Challenge.rw_linkwork_k09_texts_of_expressions).prog 57).name = ("law" : PySem.Str) := by kernel_rfl
      rw [← e]
      exact hmg0
    obtain ⟨fd, hb, hF⟩ := Lk.facts (P := (PySem.Challenge.rw_linkwork_k09_texts_of_expressions).prog) (w := w) KX G hmg c
    exact ⟨K, fd, Lk.spLaw K, KX, hb, fun H a ns hl _ hS => ⟨a, ns, rfl, hS, hl, fun _ => rfl⟩, hF⟩

