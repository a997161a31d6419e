import PyProof.Rows.All
import Wide.All
import OpenK.AllK
import Wide.FinOn
import KE.KStateDown
import HandS.Base
import HandS.Call
import HandS.List
import HandS.Comp
import HandS.Ends
import HandS.Dict
import HandS.Iter
import HandS.Text
import HandS.StrMore
import HandS.More
import HandS.Words
import HandS.WordsList
import HandS.WordsExc
import HandS.Exc
import HandS.ExcOwn
import HandS.ExcIs
import HandS.TryOnly
import HandS.IsInst
import HandS.Codes
import HandS.Defaults
import HandS.Wide
import HandS.Gcd
import KE.KOpsOwn
import KE.HD0
import KE.HD1
import KE.HD2
import KE.HD3
import HandS.Head0
import HandS.Head1
import HandS.Head2
import HandS.HeadEnd
import HandS.HeadHook1
import HandS.HeadHook2
import HandS.HeadHook3
import HandS.HeadHook4
import Flt.Len
import PyProof.NoPylong
import HandS.ExcInit
import HandS.ExcField
import HandS.FStr
import HandS.Evl
import HandS.WideBits
import HandS.Style
import HandS.Walk
import HandS.OwnEq
import HandS.Finally
import HandS.DictComp
import HandS.MakeKw
import HandS.More
import HandS.Star
import HandS.Conv
import HandS.TupLen
import HandS.Deep
import HandS.Zip
import HandS.SetKeys
import HandS.DictTup
import KE.SortData
import KE.SortKeyHeap
import HandS.SortKw
import HandS.TryMany
import KE.DatumOrd
import HandS.ExcValue
import HandS.Set
import HandS.Strs
import HandS.Sort
import PySem.Challenge.RW_linkwork_k57_torn_systems
set_option Elab.async false
set_option linter.all false
set_option maxRecDepth 100000
namespace Lk
open PySem PySem.Spec L2
open PyProof.Rows hiding St
/-! ### the head's facts, the interpreter's own statics among what is written -/
def asS (g : Addr → Option Obj) (n : Nat) : List Addr := He.asD g n ++ [cStatics]
abbrev AlS : Type := He.AlD × Bool
def obsS (n : Nat) (fa : List He.Fa) (fn : List He.DefD) (ex : PySem.W.Frag → Bool) (g : Addr → Option Obj) : AlS := (He.obsD fa fn (He.frT g (asS g n)), ex (He.frT g (asS g n)))
structure SaysS (fa : List He.Fa) (fn : List He.DefD) (ex : PySem.W.Frag → Bool) (K : PySem.W.Frag) : Prop where
  d : He.SaysD fa fn K
  more : ex K = true
def hookS (n : Nat) (fa : List He.Fa) (fn : List He.DefD) (ex : PySem.W.Frag → Bool) : PySem.W.Hook where
  α := AlS
  obs := fun s => obsS n fa fn ex s.heap.get?
  val := fun _ => (He.valD fn, true)
  says := fun _ h => ∃ K : PySem.W.Frag, K.In h ∧ SaysS fa fn ex K
  of := fun _ _ e => ⟨_, He.frT_in, ⟨congrArg (fun z : AlS => z.1) e, congrArg (fun z : AlS => z.2) e⟩⟩
  keeps := fun _ _ _ z k => by
    obtain ⟨K, hK, c⟩ := z
    exact ⟨K, PySem.W.Frag.In.keeps hK k, c⟩
theorem obsS_eq {n : Nat} {fa : List He.Fa} {fn : List He.DefD} {ex : PySem.W.Frag → Bool} {g : Addr → Option Obj} {s : Shared} (h : ∀ a, g a = s.heap.get? a) : obsS n fa fn ex g = (hookS n fa fn ex).obs s := by
  have e : g = s.heap.get? := funext h
  rw [e] <;> rfl
/-! ### .. and tables of the top with text keys -/
abbrev TabS : Type := (PySem.W.Frag → Addr) × List Str
abbrev AlU : Type := AlS × List (Option (List (Option (Str × Int))))
def obsU (n : Nat) (fa : List He.Fa) (fn : List He.DefD) (ex : PySem.W.Frag → Bool) (ts : List TabS) (g : Addr → Option Obj) : AlU := (obsS n fa fn ex g, ts.map fun t => He.dicW (He.frT g (asS g n)) (t.1 (He.frT g (asS g n))))
structure SaysU (fa : List He.Fa) (fn : List He.DefD) (ex : PySem.W.Frag → Bool) (ts : List TabS) (w : World) (K : PySem.W.Frag) : Prop where
  d : He.SaysD fa fn K
  more : ex K = true
  tab : (ts.map fun t => He.dicW K (t.1 K)) = ts.map fun t => some (He.keysIn w.params t.2)
def hookU (n : Nat) (fa : List He.Fa) (fn : List He.DefD) (ex : PySem.W.Frag → Bool) (ts : List TabS) : PySem.W.Hook where
  α := AlU
  obs := fun s => obsU n fa fn ex ts s.heap.get?
  val := fun w => ((He.valD fn, true), ts.map fun t => some (He.keysIn w.params t.2))
  says := fun w h => ∃ K : PySem.W.Frag, K.In h ∧ SaysU fa fn ex ts w K
  of := fun w s e => by
    have e' : obsU n fa fn ex ts s.heap.get? = ((He.valD fn, true), ts.map fun t : TabS => some (He.keysIn w.params t.2)) := e
    have e1 : (obsU n fa fn ex ts s.heap.get?).1 = (He.valD fn, true) := by rw [e']
    have e2 : (obsU n fa fn ex ts s.heap.get?).2 = ts.map fun t : TabS => some (He.keysIn w.params t.2) := by rw [e']
    exact ⟨_, He.frT_in, ⟨congrArg (fun z : AlS => z.1) e1, congrArg (fun z : AlS => z.2) e1, e2⟩⟩
  keeps := fun _ _ _ z k => by
    obtain ⟨K, hK, c⟩ := z
    exact ⟨K, PySem.W.Frag.In.keeps hK k, c⟩
theorem obsU_eq {n : Nat} {fa : List He.Fa} {fn : List He.DefD} {ex : PySem.W.Frag → Bool} {ts : List TabS} {g : Addr → Option Obj} {s : Shared} (h : ∀ a, g a = s.heap.get? a) : obsU n fa fn ex ts g = (hookU n fa fn ex ts).obs s := by
  have e : g = s.heap.get? := funext h
  rw [e] <;> rfl
theorem SaysU.kd {fa : List He.Fa} {fn : List He.DefD} {ex : PySem.W.Frag → Bool} {ts : List TabS} {w : World} {K : PySem.W.Frag} (c : SaysU fa fn ex ts w K) (i : Nat) {t : TabS} (h : ts[i]? = some t) : ∃ es n, KDict K w (t.1 K) es n := by
  have e2 : (ts.map fun t => He.dicW K (t.1 K))[i]? = (ts.map fun t => some (He.keysIn w.params t.2))[i]? := by rw [c.tab]
  rw [List.getElem?_map, List.getElem?_map, h] at e2
  exact He.dicW_ok (Option.some.inj e2)
/-- whether a table holds a text -/
def inTab (K : PySem.W.Frag) (a : Addr) (x : Str) (b : Bool) : Bool := match PySem.W.nsIn K a x with
  | some r => r.isSome == b
  | none => false
theorem inTab_ok {K : PySem.W.Frag} {a : Addr} {x : Str} {b : Bool} (h : inTab K a x b = true) : ∃ r, PySem.W.nsIn K a x = some r ∧ r.isSome = b := by
  unfold inTab at h
  split at h
  · rename_i r e
    exact ⟨r, e, by simpa using h⟩
  · cases h
/-! ### steps of a reading, from the left -/
section
variable {σ : St} {H : Hp} {Q : VK} {ta tb te : TE} {i : Nat} {v x y : V} {nx : St → Hp → Prop} {rt : VK} {bk ct : St → Hp → Prop} {t u : TS} {c : TT}
theorem r_seq (h : t ⟨fun σ H => u ⟨nx, rt, bk, ct⟩ σ H, rt, bk, ct⟩ σ H) : tSeq t u ⟨nx, rt, bk, ct⟩ σ H := h
theorem r_set (h : te σ H fun x H1 => nx (σ.set i (some x)) H1) : tAsg te (gName i) ⟨nx, rt, bk, ct⟩ σ H := h
theorem r_ret (h : te σ H rt) : tRet te ⟨nx, rt, bk, ct⟩ σ H := h
theorem r_next (h : nx σ H) : tNext ⟨nx, rt, bk, ct⟩ σ H := h
theorem r_drop (h : te σ H fun _ H1 => nx σ H1) : tDrop te ⟨nx, rt, bk, ct⟩ σ H := h
theorem r_if (h : c σ H fun b H1 => if b = true then t ⟨nx, rt, bk, ct⟩ σ H1 else u ⟨nx, rt, bk, ct⟩ σ H1) : tIfS c t u ⟨nx, rt, bk, ct⟩ σ H := h
theorem r_brk (h : bk σ H) : tBreak ⟨nx, rt, bk, ct⟩ σ H := h
theorem r_cont (h : ct σ H) : tCont ⟨nx, rt, bk, ct⟩ σ H := h
theorem r_var (e : σ[i]? = some (some v)) (h : Q v H) : tVar i σ H Q := ⟨v, e, h⟩
theorem r_c (h : Q v H) : tC v σ H Q := h
theorem r_op {r : R2} (h : ta σ H fun x H1 => tb σ H1 fun y H2 => r x y H2 Q) : tOp r ta tb σ H Q := h
theorem r_un {r : V → Hp → VK → Prop} (h : ta σ H fun x H1 => r x H1 Q) : tUn r ta σ H Q := h
theorem r_I0 {g : Int → Int → V} {i j : Int} (h : Q (g i j) H) : rI0 g (.int i) (.int j) H Q := ⟨i, j, rfl, rfl, h⟩
theorem r_I {C : Int → Int → Prop} {g : Int → Int → V} {i j : Int} (hc : C i j) (h : Q (g i j) H) : rI C g (.int i) (.int j) H Q := ⟨i, j, rfl, rfl, hc, h⟩
theorem r_U {g : Int → V} {i : Int} (h : Q (g i) H) : rU g (.int i) H Q := ⟨i, rfl, h⟩
theorem r_eq (hs : scal x y = true) (h : Q (.bl (decide (x = y))) H) : rEq x y H Q := ⟨hs, h⟩
theorem r_ne (hs : scal x y = true) (h : Q (.bl (!decide (x = y))) H) : rNe x y H Q := ⟨hs, h⟩
theorem r_test {P : Bool → Hp → Prop} (h : te σ H fun x H' => ∃ k, x = .bl k ∧ P k H') : tTest te σ H P := h
theorem r_B {P : Bool → Hp → Prop} (h : te σ H fun x H' => ∃ k, x = .bl k ∧ P k H') : tB te σ H P := h
theorem r_bl {b : Bool} {P : Bool → Prop} (h : P b) : ∃ k, V.bl b = .bl k ∧ P k := ⟨b, rfl, h⟩
theorem r_nilA {P : List V → Hp → Prop} (h : P [] H) : tNil σ H P := h
theorem r_consA {tr : TA} {P : List V → Hp → Prop} (h : te σ H fun x H1 => tr σ H1 fun xs H2 => P (x :: xs) H2) : tCons te tr σ H P := h
theorem r_call {sp : Sp} {dvs : List V} {E : XK} {t : TA} (h : t σ H fun vs H1 => sp (vs ++ dvs) H1 Q E) : tCall sp dvs E t σ H Q := h
theorem r_callS {sp : Sp} {E : St → XK} {t : TA} (h : t σ H fun vs H1 => sp vs H1 Q (E σ)) : tCallS sp E t σ H Q := h
theorem r_CB {r : List V → Hp → VK → Prop} {t : TA} (h : t σ H fun vs H1 => r vs H1 Q) : tCB r t σ H Q := h
theorem r_tup {t : TA} (h : t σ H fun xs H1 => xs.length ≤ sizeLine ∧ ∀ p, H1 p = none → Q (.ref p) (upd H1 p (.tup xs))) : tTup t σ H Q := h
theorem r_lst {t : TA} (h : t σ H fun xs H1 => xs.length ≤ sizeLine ∧ ∀ p, H1 p = none → Q (.ref p) (upd H1 p (.lst xs))) : tLst t σ H Q := h
theorem r_and {u : TT} {P : Bool → Hp → Prop} (h : c σ H fun k H1 => if k = true then u σ H1 P else P false H1) : tAnd c u σ H P := h
theorem r_or {u : TT} {P : Bool → Hp → Prop} (h : c σ H fun k H1 => if k = true then P true H1 else u σ H1 P) : tOr c u σ H P := h
theorem r_not {P : Bool → Hp → Prop} (h : c σ H fun k H1 => P (!k) H1) : tNot c σ H P := h
theorem r_andV (h : ta σ H fun x H1 => ∃ k, x = .bl k ∧ if k = true then tb σ H1 Q else Q (.bl false) H1) : tAndV ta tb σ H Q := h
theorem r_orV (h : ta σ H fun x H1 => ∃ k, x = .bl k ∧ if k = true then Q (.bl true) H1 else tb σ H1 Q) : tOrV ta tb σ H Q := h
theorem r_notV (h : ta σ H fun x H1 => ∃ k, x = .bl k ∧ Q (.bl (!k)) H1) : tNotV ta σ H Q := h
theorem r_ifE (h : c σ H fun k H1 => if k = true then ta σ H1 Q else tb σ H1 Q) : tIf c ta tb σ H Q := h
theorem r_ixL {K : PySem.W.Frag} {p : Addr} {xs : List V} {i : Int} (hs : SqL K H p xs) (ha : atI xs i = some v) (h : Q v H) : rIxL K (.ref p) (.int i) H Q := ⟨p, xs, i, v, rfl, rfl, hs, ha, h⟩
theorem r_ixT {K : PySem.W.Frag} {p : Addr} {xs : List V} {i : Int} (hs : SqT K H p xs) (ha : atI xs i = some v) (h : Q v H) : rIxT K (.ref p) (.int i) H Q := ⟨p, xs, i, v, rfl, rfl, hs, ha, h⟩
theorem r_fld {K : PySem.W.Frag} {f : Str} (h : ta σ H fun x H1 => ∃ a C dx fs v, x = .ref a ∧ H1 a = some (.ins C dx fs) ∧ Cls K C ∧ NoAttr K C f ∧ fs.lookup f = some v ∧ Q v H1) : tFld K ta f σ H Q := h
theorem r_sub {to ti : TE} {ts : TSet} {D : St → Hp → Prop} (h : to σ H fun o H1 => ti σ H1 fun i H2 => ts o i v H2 fun H3 => D σ H3) : gSub to ti ts v σ H D := h
theorem r_asg {g : TG} (h : te σ H fun x H1 => g x σ H1 nx) : tAsg te g ⟨nx, rt, bk, ct⟩ σ H := h
theorem r_setL {D : Hp → Prop} {p : Addr} {xs : List V} {k : Int} {j : Nat} (hp : H p = some (.lst xs)) (hj : ixN xs.length k = some j) (h : D (upd H p (.lst (xs.set j v)))) : rSetL (.ref p) (.int k) v H D := ⟨p, xs, k, j, rfl, rfl, hp, hj, h⟩
theorem r_par {i j : Nat} {ta : TA} (h : ta σ H fun vs H1 => ∃ v w, vs = [v, w] ∧ nx ((σ.set i (some v)).set j (some w)) H1) : tPar i j ta ⟨nx, rt, bk, ct⟩ σ H := h
theorem r_par2 {v w : V} {P : V → V → Prop} (h : P v w) : ∃ a b, [v, w] = [a, b] ∧ P a b := ⟨v, w, rfl, h⟩
theorem ite_d {p A B : Prop} [Decidable p] (h1 : p → A) (h2 : ¬ p → B) : if decide p = true then A else B := by
  by_cases h : p
  · rw [if_pos (decide_eq_true h)]; exact h1 h
  · rw [if_neg (by simp [h])]; exact h2 h
theorem ite_nd {p A B : Prop} [Decidable p] (h1 : ¬ p → A) (h2 : p → B) : if (!decide p) = true then A else B := by
  by_cases h : p
  · rw [if_neg (by simp [h])]; exact h2 h
  · rw [if_pos (by simp [h])]; exact h1 h
theorem ite_b {b : Bool} {A B : Prop} (h1 : b = true → A) (h2 : b = false → B) : if b = true then A else B := by
  cases b with
  | true => exact if_pos rfl ▸ h1 rfl
  | false => exact if_neg Bool.false_ne_true ▸ h2 rfl
theorem vint_inj {i j : Int} (h : V.int i = V.int j) : i = j := V.int.inj h
theorem vint_ne {i j : Int} (h : ¬ V.int i = V.int j) : ¬ i = j := fun e => h (congrArg V.int e)
theorem vstr_inj {i j : Str} (h : V.str i = V.str j) : i = j := V.str.inj h
end
/-- a module's constant -/
theorem pe_globE {X : Cx} {x : Str} {v : V} {pos : Pos} (hg : Gl X x) (h : ∃ u, X.mg x = some u ∧ RelV v u) (hd : (x == ("__debug__" : Str)) = false := by decide) : PE X (.Name x pos) (tC v) := by
  obtain ⟨u, hm, r⟩ := h
  exact pe_glob hg hm r hd
/-- // of any divisor but 0 below 2 ^ 9000 -/
def CDivG (_ j : Int) : Prop := j ≠ 0 ∧ j.natAbs.log2 < 9000
theorem op_fdivG {X : Cx} : OpR X (binaryOp .FloorDiv) (rI CDivG fun i j => .int (i.fdiv j)) := opI fun i j _ _ _ _ _ hc q => floordiv_int hc.1 q (.inl (PyProof.noPylong_of_log2 hc.2))
theorem cdivG {i j : Int} {b : Nat} (h : j ≠ 0) (hb : j.natAbs < 2 ^ b) (h0 : 0 < b) (h9 : b ≤ 9000) : CDivG i j := ⟨h, Nat.lt_of_lt_of_le (PySem.Flt.log2_lt_of h0 hb) h9⟩
theorem r_int1 {H : Hp} {Q : VK} {i : Int} (h : Q (.int i) H) : (∃ j, [V.int i] = [.int j] ∧ Q (.int j) H) ∨ ∃ k, [V.int i] = [.bl k] ∧ Q (.int (if k then 1 else 0)) H := .inl ⟨i, rfl, h⟩
theorem r_intB {H : Hp} {Q : VK} {k : Bool} (h : Q (.int (if k then 1 else 0)) H) : (∃ j, [V.bl k] = [.int j] ∧ Q (.int j) H) ∨ ∃ k', [V.bl k] = [.bl k'] ∧ Q (.int (if k' then 1 else 0)) H := .inr ⟨k, rfl, h⟩
theorem r_abs {H : Hp} {Q : VK} {i : Int} (h : Q (.int (if i < 0 then -i else i)) H) : ∃ j, [V.int i] = [.int j] ∧ Q (.int (if j < 0 then -j else j)) H := ⟨i, rfl, h⟩
/-! ### one step, at the goal's head -/

theorem r_lenL {K : PySem.W.Frag} {H : Hp} {Q : VK} {p : Addr} {ys : List V} (hs : SqL K H p ys) (h : Q (.int ys.length) H) : ∃ q zs, [V.ref p] = [.ref q] ∧ (SqL K H q zs ∨ SqT K H q zs) ∧ Q (.int zs.length) H := ⟨p, ys, rfl, .inl hs, h⟩
theorem r_lenT {K : PySem.W.Frag} {H : Hp} {Q : VK} {p : Addr} {ys : List V} (hs : SqT K H p ys) (h : Q (.int ys.length) H) : ∃ q zs, [V.ref p] = [.ref q] ∧ (SqL K H q zs ∨ SqT K H q zs) ∧ Q (.int zs.length) H := ⟨p, ys, rfl, .inr hs, h⟩
theorem r_listL {K : PySem.W.Frag} {H : Hp} {Q : VK} {p : Addr} {ys : List V} (hs : SqL K H p ys) (h : ∀ l, H l = none → Q (.ref l) (upd H l (.lst ys))) : ∃ q zs, [V.ref p] = [.ref q] ∧ (SqL K H q zs ∨ SqT K H q zs) ∧ ∀ l, H l = none → Q (.ref l) (upd H l (.lst zs)) := ⟨p, ys, rfl, .inl hs, h⟩
theorem r_sfld {K : PySem.W.Frag} {ta tv : TE} {f : Str} {nx : St → Hp → Prop} {rt : VK} {bk ct : St → Hp → Prop} {σ : St} {H : Hp}
    (h : tv σ H fun y H1 => ta σ H1 fun x H2 => ∃ a C dx fs, x = .ref a ∧ H2 a = some (.ins C dx fs) ∧ Cls K C ∧ NoAttr K C f ∧ fs.length < 1000 ∧ nx σ (upd H2 a (.ins C dx (putF f y fs)))) : sFld K ta tv f ⟨nx, rt, bk, ct⟩ σ H := h
/-! ### how large an int is -/
def Bits (b : Nat) (i : Int) : Prop := i.natAbs < 2 ^ b
theorem Bits.mono {a b : Nat} {i : Int} (h : Bits a i) (l : a ≤ b) : Bits b i := Nat.lt_of_lt_of_le h (Nat.pow_le_pow_right (by decide) l)
theorem Bits.mul {a b : Nat} {i j : Int} (h : Bits a i) (g : Bits b j) : Bits (a + b) (i * j) := wide_lt h g
theorem Bits.add {a b c : Nat} {i j : Int} (h : Bits a i) (g : Bits b j) (l1 : a < c) (l2 : b < c) : Bits c (i + j) := by
  have h2 : i.natAbs < 2 ^ (c - 1) := Bits.mono (b := c - 1) h (by omega)
  have g2 : j.natAbs < 2 ^ (c - 1) := Bits.mono (b := c - 1) g (by omega)
  have e : 2 ^ c = 2 ^ (c - 1) + 2 ^ (c - 1) := by
    obtain ⟨k, rfl⟩ : ∃ k, c = k + 1 := ⟨c - 1, by omega⟩
    rw [Nat.add_sub_cancel, Nat.pow_succ]
    omega
  show (i + j).natAbs < 2 ^ c
  rw [e]
  have := Int.natAbs_add_le i j
  omega
theorem Bits.neg {a : Nat} {i : Int} (h : Bits a i) : Bits a (-i) := by
  show (-i).natAbs < _
  rw [Int.natAbs_neg]
  exact h
theorem Bits.sub {a b c : Nat} {i j : Int} (h : Bits a i) (g : Bits b j) (l1 : a < c) (l2 : b < c) : Bits c (i - j) := by
  rw [Int.sub_eq_add_neg]
  exact Bits.add h g.neg l1 l2
theorem Bits.small {i : Int} {b : Nat} (h : i.natAbs < 18446744073709551616) (l : 64 ≤ b) : Bits b i := Bits.mono (a := 64) (show i.natAbs < 2 ^ 64 from h) l
theorem Bits.mulW {a b : Nat} {i j : Int} (h : Bits a i) (g : Bits b j) (l : a + b + 2 ≤ 1000000) : CMulW i j := wide_mul (h.mono (Nat.le_succ a)) (g.mono (Nat.le_succ b)) (Nat.succ_pos _) (Nat.succ_pos _) (by omega)
theorem Bits.divG {b : Nat} {i j : Int} (h : j ≠ 0) (g : Bits b j) (l : b + 1 ≤ 9000) : CDivG i j := cdivG h (g.mono (Nat.le_succ b)) (Nat.succ_pos _) l
theorem Bits.of_le {b : Nat} {i j : Int} (h : i.natAbs ≤ j.natAbs) (g : Bits b j) : Bits b i := Nat.lt_of_le_of_lt h g
theorem ite_nt {A B : Prop} (h : B) : if (!true) = true then A else B := iteF h
theorem ite_nf {A B : Prop} (h : A) : if (!false) = true then A else B := iteT h
/-! ### the law's stream: a list of the script's copy and three ints; told as ONE thing, so that a draw leaves the abstract heap as it is -/
def okS (j k : Int) : Prop := 0 ≤ j ∧ 0 ≤ k ∧ k < 2147483648
def phiS (s l : Addr) : Heap → Prop := fun h => ∃ (i j k : Int) (t u v : Tok) (n : Nat), h.get? s = some { cls := .type "list", data := .seq #[.ref l, .int i t, .int j u, .int k v] n } ∧ okS j k
def Strm (H : Hp) (s : Addr) : Prop := ∃ (l : Addr) (ns : List Int), H s = some (.ext (phiS s l)) ∧ H l = some (.lst (ns.map V.int)) ∧ ns.length ≤ 63
theorem Strm.mono {H H' : Hp} {s : Addr} (h : Strm H s) (e : Same H H') : Strm H' s := by
  obtain ⟨l, ns, h1, h2, h3⟩ := h
  exact ⟨l, ns, e _ _ h1, e _ _ h2, h3⟩
def cellsV (l : Addr) (i j k : Int) : List V := [.ref l, .int i, .int j, .int k]
theorem Vals.cells {l : Addr} {i j k : Int} {us : List Value} (h : Vals (cellsV l i j k) us) : ∃ t u v, us = [.ref l, .int i t, .int j u, .int k v] := by
  unfold cellsV at h
  cases h with
  | cons r0 h => cases h with
    | cons r1 h => cases h with
      | cons r2 h => cases h with
        | cons r3 h =>
          cases h
          obtain ⟨t, rfl⟩ := r1
          obtain ⟨u, rfl⟩ := r2
          obtain ⟨v, rfl⟩ := r3
          cases (show _ = Value.ref l from r0)
          exact ⟨t, u, v, rfl⟩
section
variable {X : Cx} {pins : List (Addr × Obj)} {σ : St} {H : Hp} {s : Shared} {a l : Addr}
/-- the abstract heap is told otherwise at one address, the heap stays -/
theorem Inv.retell {o o' : HO} (I : Inv X pins σ H s) (ha : H a = some o) (m : Mut (some o)) (m' : Mut (some o')) (new : ObjOk X.prog X.w (upd H a o') s.heap a o') : Inv X pins σ (upd H a o') s := by
  have hx : ∀ b u, H b = some u → ¬ Mut (some u) → b ≠ a := fun b u e nm z => by
    rw [z, ha] at e
    cases e
    exact nm m
  have un : Un X.fs [] H (upd H a o') s.heap s.heap := ⟨fun _ _ e _ _ _ => e, fun b ob e _ _ _ => ⟨ob.slots, e⟩, fun b ob e n _ => by
      rw [upd_ne (show b ≠ a from fun z => by rw [z, ha] at n; cases n)]; exact n, fun b ob e _ => ⟨ob, e⟩,
    fun b xs e => by rw [upd_ne (hx b _ e fun z => z)]; exact e, fun b ob u e => by rw [upd_ne (hx b _ e fun z => z)]; exact e, fun b ps e => ⟨#[], by rw [upd_ne (hx b _ e fun z => z), e]; simp⟩⟩
  have mu : Mut (H a) := by rw [ha]; exact m
  have hk : HOk X.prog X.w (upd H a o') s.heap := by
    obtain ⟨u, hu⟩ := objOk_get (I.hok a _ ha)
    exact I.hok.write mu (.inl rfl) (fun _ _ _ e => e) ⟨u, hu⟩ new
  exact I.un (h' := s.heap) (t' := s.toks) un hk
theorem phi_open {h : Heap} (P : Program) (w : World) (H : Hp) (x : ObjOk P w H h a (.ext (phiS a l))) : ∃ i j k : Int, okS j k ∧ ObjOk P w (upd H a (.lst (cellsV l i j k))) h a (.lst (cellsV l i j k)) := by
  obtain ⟨⟨i, j, k, t, u, v, n, e, hj⟩, _⟩ := x
  exact ⟨i, j, k, hj, (by show 4 ≤ sizeLine; decide), _, n, .cons rfl (.cons ⟨t, rfl⟩ (.cons ⟨u, rfl⟩ (.cons ⟨v, rfl⟩ .nil))), e⟩
theorem phi_close {h : Heap} {P : Program} {w : World} {H H' : Hp} {i j k : Int} (x : ObjOk P w H h a (.lst (cellsV l i j k))) (hj : okS j k) : ObjOk P w H' h a (.ext (phiS a l)) := by
  obtain ⟨_, its, n, r, e⟩ := x
  obtain ⟨t, u, v, rfl⟩ := Vals.cells r
  refine ⟨⟨i, j, k, t, u, v, n, e, hj⟩, ⟨_, e⟩, fun h1 h2 ⟨i, j, k, t, u, v, n, e, hj⟩ st => ⟨i, j, k, t, u, v, n, st _ e, hj⟩⟩
/-- within: the stream's four cells are told; behind: one thing again -/
def shutS (a l : Addr) (N : St → Hp → Prop) : St → Hp → Prop := fun σ H => ∃ i j k : Int, H a = some (.lst (cellsV l i j k)) ∧ okS j k ∧ N σ (upd H a (.ext (phiS a l)))
def shutV (a l : Addr) (N : VK) : VK := fun v H => ∃ i j k : Int, H a = some (.lst (cellsV l i j k)) ∧ okS j k ∧ N v (upd H a (.ext (phiS a l)))
def tOpen (a l : Addr) (t : TS) : TS := fun D σ H => H a = some (.ext (phiS a l)) ∧ ∀ i j k : Int, okS j k → t ⟨shutS a l D.nx, shutV a l D.rt, shutS a l D.bk, shutS a l D.ct⟩ σ (upd H a (.lst (cellsV l i j k)))
theorem Inv.shut {i j k : Int} (I : Inv X pins σ H s) (ha : H a = some (.lst (cellsV l i j k))) (hj : okS j k) : Inv X pins σ (upd H a (.ext (phiS a l))) s :=
  Inv.retell I ha trivial trivial (phi_close (I.hok a _ ha) hj)
theorem r_open {t : TS} {nx : St → Hp → Prop} {rt : VK} {bk ct : St → Hp → Prop} (h : H a = some (.ext (phiS a l))) (k : ∀ i j k : Int, okS j k → t ⟨shutS a l nx, shutV a l rt, shutS a l bk, shutS a l ct⟩ σ (upd H a (.lst (cellsV l i j k)))) : tOpen a l t ⟨nx, rt, bk, ct⟩ σ H := ⟨h, k⟩
theorem pss_open {body : List Stmt} {t : TS} (a l : Addr) (h : PSs X body t) : PSs X body (tOpen a l t) := by
  refine ⟨fun pins s σ H D I q => ?_⟩
  obtain ⟨ha, q⟩ := q
  obtain ⟨i, j, k, hj, ok⟩ := phi_open (a := a) (l := l) X.prog X.w H (I.hok a _ ha)
  refine thn (h.run pins s σ _ _ (Inv.retell (o' := .lst (cellsV l i j k)) I ha trivial trivial ok) (q i j k hj)) fun f s1 z => ?_
  cases f with
  | next =>
    obtain ⟨σ', H', I', i, j, k, e, hj, n⟩ := z
    exact ⟨σ', _, Inv.shut I' e hj, n⟩
  | brk =>
    obtain ⟨σ', H', I', i, j, k, e, hj, n⟩ := z
    exact ⟨σ', _, Inv.shut I' e hj, n⟩
  | cont =>
    obtain ⟨σ', H', I', i, j, k, e, hj, n⟩ := z
    exact ⟨σ', _, Inv.shut I' e hj, n⟩
  | ret u =>
    obtain ⟨v, σ', H', I', r, i, j, k, e, hj, n⟩ := z
    exact ⟨v, σ', _, Inv.shut I' e hj, r, n⟩
/-- a list of four is told as a stream where it is handed back -/
def tShut (t : TS) : TS := fun D σ H => t ⟨D.nx, fun v H' => ∃ (a l : Addr) (i j k : Int), v = .ref a ∧ H' a = some (.lst (cellsV l i j k)) ∧ okS j k ∧ D.rt v (upd H' a (.ext (phiS a l))), D.bk, D.ct⟩ σ H
theorem r_shut {t : TS} {nx : St → Hp → Prop} {rt : VK} {bk ct : St → Hp → Prop} (h : t ⟨nx, fun v H' => ∃ (a l : Addr) (i j k : Int), v = .ref a ∧ H' a = some (.lst (cellsV l i j k)) ∧ okS j k ∧ rt v (upd H' a (.ext (phiS a l))), bk, ct⟩ σ H) : tShut t ⟨nx, rt, bk, ct⟩ σ H := h
theorem pss_shut {body : List Stmt} {t : TS} (h : PSs X body t) : PSs X body (tShut t) := by
  refine ⟨fun pins s σ H D I q => ?_⟩
  refine thn (h.run pins s σ _ _ I q) fun f s1 z => ?_
  cases f with
  | ret u =>
    obtain ⟨v, σ', H', I', r, a, l, i, j, k, rfl, e, hj, n⟩ := z
    exact ⟨_, σ', _, Inv.shut I' e hj, r, n⟩
  | next => exact z
  | brk => exact z
  | cont => exact z
end
/-- what the stream leaves behind is the heap ahead -/
theorem upd_back {H : Hp} {a : Addr} {o o' : HO} (h : H a = some o') : upd (upd H a o) a o' = H := by
  funext b
  by_cases e : b = a
  · rw [e, upd_same, h]
  · rw [upd_ne e, upd_ne e]
theorem upd_back2 {H : Hp} {a : Addr} {o o1 o' : HO} (h : H a = some o') : upd (upd (upd H a o) a o1) a o' = H := by
  rw [upd_upd, upd_back h]
theorem upd_back3 {H : Hp} {a : Addr} {o o1 o2 o' : HO} (h : H a = some o') : upd (upd (upd (upd H a o) a o1) a o2) a o' = H := by
  rw [upd_upd, upd_upd, upd_back h]
/-! ### C(..) where what its __init__ raises is wished for at the slots -/
section
variable {X : Cx} {CX : CXT} {k : Nat} {f C : Addr} {fd : FuncData} {ps : List Str} {sp : Sp} {dvs : List V} {ds : List Value} {E : St → XK} {x : Str} {p pos : Pos} {e : Expr} {es : List Expr} {t : TA}
def tMakeS (C : Addr) (sp : Sp) (dvs : List V) (E : St → XK) (t : TA) : TE := fun σ H Q => t σ H fun vs H1 => ∀ x dx, H1 x = none → H1 dx = none → dx ≠ x →
  sp (.ref x :: (vs ++ dvs)) (upd (upd H1 dx (.own x)) x (.ins C dx [])) (fun v H2 => v = .non ∧ Q (.ref x) H2) (E σ)
theorem make_atS {pins : List (Addr × Obj)} {σ : St} {H : Hp} {s : Shared} {Q : VK} {us : List Value} {vs : List V} (mk : Mk X.K C f) (ok : FnOk X.prog X.w X.K X.mg X.base CX k f fd ps sp) (room : Room (k + 1) X.A) (bd : Binds X.K fd ps ds) (dv : Vals dvs ds)
    (pass : PassesAt CX X σ (E σ)) (I : Inv X pins σ H s) (rel : Vals vs us)
    (ask : ∀ x dx, H x = none → H dx = none → dx ≠ x → sp (.ref x :: (vs ++ dvs)) (upd (upd H dx (.own x)) x (.ins C dx [])) (fun v H2 => v = .non ∧ Q (.ref x) H2) (E σ)) :
    wpAny (model X.prog X.w) X.A (call (.ref C) us) (EP X pins σ Q) X.xe s := by
  let n := s.heap.objs.size
  have want := ask (n + 1) n (I.hok.fresh (Nat.le_succ _)) (I.hok.fresh (Nat.le_refl _)) (by show n ≠ n + 1; omega)
  have J := Inv.made (C := C) I
  have relS : Vals (V.ref (n + 1) :: (vs ++ dvs)) (Value.ref (n + 1) :: (us ++ ds)) := .cons rfl (rel.append dv)
  have many : (Value.ref (n + 1) :: us ++ ds).length = ps.length := relS.length.symm.trans (ok.len _ _ _ _ want)
  have go := ok.run _ X.stack _ _ ⟨Value.ref (n + 1) :: us, []⟩ (Value.ref (n + 1) :: (us ++ ds)) _ _ (E σ) (room.make C us []) (J.env0.make C us []) (bd _ (Value.ref (n + 1) :: us) J.kIn many) relS want
  refine wpAny_call (make_map (f := f) I.kIn mk.makes mk.init (beq_iff_eq.mp mk.fn) (codeAny_mono go fun out s' end_ => ?_))
  match out, end_ with
  | .error e, end_ => exact pass pins _ _ e s' J end_
  | .ok (.ret u), end_ =>
    obtain ⟨v, H', I3, rv, ev, q3⟩ := J.after end_
    cases ev
    exact ⟨rv, V.ref (n + 1), H', I3, rfl, q3⟩
  | .ok .next, end_ => exact end_.elim
  | .ok .brk, end_ => exact end_.elim
  | .ok .cont, end_ => exact end_.elim
theorem pe_makeS (mk : Mk X.K C f) (ok : FnOk X.prog X.w X.K X.mg X.base CX k f fd ps sp) (room : Room (k + 1) X.A) (gl : Gl X x) (gm : X.mg x = some (.ref C)) (bd : Binds X.K fd ps ds) (dv : Vals dvs ds) (pass : ∀ σ, PassesAt CX X σ (E σ))
    (args : PA X (e :: es) t) (d1 : (x == ("__debug__" : Str)) = false := by decide) (d2 : starEach (e :: es) X.env = (false, eval e X.env) :: starEach es X.env := by rfl) (d3 : (backTo pos (starEach es X.env)).any (·.1) = false := by rfl) :
    PE X (.Call (.Name x p) (e :: es) [] pos) (tMakeS C sp dvs E t) :=
  ⟨fun pins s σ H Q I h => wpAny_Call_Name_kw (ld_glob I gl gm (PySem.W.callWith_K (h₀ := X.base) I.ok.mod.kin mk.kp (thn (args.run pos pins s σ H _ I h) fun us s1 ⟨vs, H1, I1, r, q⟩ => ⟨I1.kIn, make_atS mk ok room bd dv (pass σ) I1 r q⟩) d2 d3) d1)⟩
theorem passX {E : XK} (tk : Takes X (fun cls d _ H => E cls d H)) : Passes (L2.CX X.prog X.w) X E := fun pins σ H s e s' I c => passes_call tk (fun _ _ _ _ z => z) pins σ H s e s' I c
end
section
variable {σ : St} {H : Hp} {Q : VK} {C : Addr} {sp : Sp} {dvs : List V} {t : TA}
theorem r_make {E : XK} (h : t σ H fun vs H1 => ∀ x dx, H1 x = none → H1 dx = none → dx ≠ x → sp (.ref x :: (vs ++ dvs)) (upd (upd H1 dx (.own x)) x (.ins C dx [])) (fun v H2 => v = .non ∧ Q (.ref x) H2) E) : tMake C sp dvs E t σ H Q := h
theorem r_makeS {E : St → XK} (h : t σ H fun vs H1 => ∀ x dx, H1 x = none → H1 dx = none → dx ≠ x → sp (.ref x :: (vs ++ dvs)) (upd (upd H1 dx (.own x)) x (.ins C dx [])) (fun v H2 => v = .non ∧ Q (.ref x) H2) (E σ)) : tMakeS C sp dvs E t σ H Q := h
end
/-! ### loops -/
def forR (J : It) (g : TG) (tb : TS) (D : Ends) (σ : St) (H : Hp) : Prop := ∃ W : Nat → Nat → St → Hp → Prop, (∃ m, W 0 m σ H) ∧ ∀ i m σ H, W i m σ H →
  (J.stop i H ∧ D.nx σ H) ∨ (J.go i H ∧ ∃ N : St → Hp → Prop, (∀ σ' H', N σ' H' → ∃ m', m' < m ∧ W (i + 1) m' σ' H') ∧ ∀ x H', J.yld i H x H' → g x σ H' fun σ2 H2 => tb { D with nx := N, ct := N, bk := D.nx } σ2 H2)
section
variable {σ : St} {H : Hp} {wi : TI} {g : TG} {tb : TS} {nx : St → Hp → Prop} {rt : VK} {bk ct : St → Hp → Prop} {ta : TA} {tl : TE} {K : PySem.W.Frag} {a : Addr} {xs : List V} {k : Nat} {c : TT}
theorem r_for (h : wi σ H fun J H1 => forR J g tb ⟨nx, rt, bk, ct⟩ σ H1) : tFor wi g tb ⟨nx, rt, bk, ct⟩ σ H := h
theorem r_iRng1 {R : It → Hp → Prop} (h : ta σ H fun vs H1 => ∃ j : Int, vs = [.int j] ∧ -(2 ^ 62) ≤ j ∧ j < 2 ^ 62 ∧ R (Itr 0 j.toNat) H1) : iRng1 ta σ H R := h
theorem r_iList {R : It → Hp → Prop} (h : tl σ H fun x H1 => ∃ a, x = .ref a ∧ (∃ xs, SqL K H1 a xs) ∧ R (Itl K a) H1) : iList K tl σ H R := h
theorem r_rng1 {i : Int} {P : It → Prop} (h1 : -(2 ^ 62) ≤ i) (h2 : i < 2 ^ 62) (h : P (Itr 0 i.toNat)) : ∃ j : Int, [V.int i] = [.int j] ∧ -(2 ^ 62) ≤ j ∧ j < 2 ^ 62 ∧ P (Itr 0 j.toNat) := ⟨i, rfl, h1, h2, h⟩
theorem r_lstI {P : It → Prop} (hs : SqL K H a xs) (h : P (Itl K a)) : ∃ b, V.ref a = .ref b ∧ (∃ xs, SqL K H b xs) ∧ P (Itl K b) := ⟨a, rfl, ⟨xs, hs⟩, h⟩
theorem for_rng {lo : Int} {n : Nat} (Pv : Nat → St → Hp → Prop) (h0 : Pv 0 σ H) (hs : ∀ i σ H, i < n → Pv i σ H → tb ⟨Pv (i + 1), rt, nx, Pv (i + 1)⟩ (σ.set k (some (.int (lo + (i : Int))))) H) (hd : ∀ σ H, Pv n σ H → nx σ H) :
    forR (Itr lo n) (gName k) tb ⟨nx, rt, bk, ct⟩ σ H := for_range (D := ⟨nx, rt, bk, ct⟩) Pv h0 hs hd
theorem for_lst (Pv : Nat → St → Hp → Prop) (h0 : Pv 0 σ H) (hl : ∀ i σ H, i ≤ xs.length → Pv i σ H → SqL K H a xs) (hs : ∀ i x σ H, xs[i]? = some x → Pv i σ H → tb ⟨Pv (i + 1), rt, nx, Pv (i + 1)⟩ (σ.set k (some x)) H) (hd : ∀ σ H, Pv xs.length σ H → nx σ H) :
    forR (Itl K a) (gName k) tb ⟨nx, rt, bk, ct⟩ σ H := for_list (D := ⟨nx, rt, bk, ct⟩) Pv h0 hl hs hd
/-- a while by a word with a measure; behind the test: ⟨_, fun _ _ n => n, ..⟩ -/
theorem r_while (W : Nat → St → Hp → Prop) (m0 : Nat) (h0 : W m0 σ H) (hs : ∀ m σ H, W m σ H → c σ H fun b H1 => if b = true then ∃ N : St → Hp → Prop, (∀ σ' H', N σ' H' → ∃ m', m' < m ∧ W m' σ' H') ∧ tb ⟨N, rt, nx, N⟩ σ H1 else nx σ H1) :
    tWhile c tb ⟨nx, rt, bk, ct⟩ σ H := ⟨W, ⟨m0, h0⟩, hs⟩
theorem r_cut {t u : TS} (Mid : St → Hp → Prop) (h1 : t ⟨Mid, rt, bk, ct⟩ σ H) (h2 : ∀ σ H, Mid σ H → u ⟨nx, rt, bk, ct⟩ σ H) : C8.tCut t u ⟨nx, rt, bk, ct⟩ σ H := ⟨Mid, h1, h2⟩
end
theorem same_new {H : Hp} {p : Addr} {o : HO} (h : H p = none) : Same H (upd H p o) := fun b u e => by rw [upd_ne (ne_of_none e h)]; exact e
theorem same_mk {H : Hp} {x dx : Addr} {o u : HO} (h1 : H x = none) (h2 : H dx = none) : Same H (upd (upd H dx o) x u) := fun b v e => by
  rw [upd_ne (ne_of_none e h1), upd_ne (ne_of_none e h2)]
  exact e
/-! ### facts of the top that the head tells as Bools -/
def excCB (K : PySem.W.Frag) (D : Addr) : Bool := [He.eqO (PySem.W.findIn K (.ref D) "__getattribute__") (some (some (.builtin "BaseException.__getattribute__"))), He.eqO (PySem.W.findIn K (.ref D) "__getattr__") (some none), decide (PySem.W.subIn K (.ref D) (.type "BaseException") = some true),
  PySem.W.hasDictIn K D, He.eqO (PySem.W.findIn K (.ref D) "__class__") (some (some (.builtin "object.__class__"))), He.eqO (PySem.W.specialIn K (.builtin "object.__class__") "__get__") (some (some (.builtin "getset_descriptor.__get__"))),
  decide (PySem.W.takesIn K (.builtin "object.__class__") = some true), decide (PySem.W.mroIn K D (.type "object") = some true)].all id
theorem all8 {b1 b2 b3 b4 b5 b6 b7 b8 : Bool} (h : [b1, b2, b3, b4, b5, b6, b7, b8].all id = true) : b1 = true ∧ b2 = true ∧ b3 = true ∧ b4 = true ∧ b5 = true ∧ b6 = true ∧ b7 = true ∧ b8 = true := by
  simpa using h
theorem excCB_ok {K : PySem.W.Frag} {D : Addr} (h : excCB K D = true) : ExcC K D := by
  obtain ⟨h1, h2, h3, h4, h5, h6, h7, h8⟩ := all8 h
  exact ⟨He.eqO_ok h1, He.eqO_ok h2, of_decide_eq_true h3, h4, He.eqO_ok h5, He.eqO_ok h6, of_decide_eq_true h7, of_decide_eq_true h8⟩
def isiCB (K : PySem.W.Frag) (D : Addr) : Bool := [He.eqO (PySem.W.findIn K (.ref D) "__class__") (some (some (.builtin "object.__class__"))), He.eqO (PySem.W.specialIn K (.builtin "object.__class__") "__get__") (some (some (.builtin "getset_descriptor.__get__"))),
  decide (PySem.W.takesIn K (.builtin "object.__class__") = some true), decide (PySem.W.mroIn K D (.type "object") = some true), true, true, true, true].all id
theorem isi_ins {K : PySem.W.Frag} {H : Hp} {a D dx : Addr} {fs : List (Str × V)} (h : isiCB K D = true) (c : Cls K D) (e : H a = some (.ins D dx fs)) : TyX K H (.ref a) (.ref D) := by
  obtain ⟨h1, h2, h3, h4, _⟩ := all8 h
  exact .base (.ins e c (He.eqO_ok h1) (He.eqO_ok h2) (of_decide_eq_true h3) (of_decide_eq_true h4))
theorem pss_given {X : Cx} {body : List Stmt} {t : TS} {P : Prop} (h : P → PSs X body t) : PSs X body (fun D σ H => P ∧ t D σ H) := ⟨fun pins s σ H D I q => (h q.1).run pins s σ H D I q.2⟩
theorem r_isi {K : PySem.W.Frag} {H : Hp} {Q : VK} {x c : V} {t u : Value} {b : Bool} (hx : TyX K H x t) (hc : ClsV c u) (e : PySem.W.kitOne K t u = some b) (h : Q (.bl b) H) : rIsi K [x, c] H Q := ⟨x, c, t, u, b, rfl, hc, hx, e, h⟩
/-! ### operators that a class of the program's own defines -/
section
variable {X : Cx} {CX : CXT} {n : Nat} {C g : Addr} {fd : FuncData} {ps : List Str} {sp : Sp} {E : XK}
def rBin (C : Addr) (sp : Sp) (E : XK) : R2 := fun x y H Q => ∃ a b dx dy fs gs, x = .ref a ∧ y = .ref b ∧ H a = some (.ins C dx fs) ∧ H b = some (.ins C dy gs) ∧ sp [.ref a, .ref b] H Q E
theorem back_of {R : Value → Shared → Prop} {z : V} {v : Value} {s' : Shared} (r : RelV z v) (h : R v s') : PySem.W.CmpBack R v s' := by
  cases z with
  | non => cases (show v = Value.none from r); exact h
  | bl b => cases (show v = Value.bool b from r); exact h
  | int i => obtain ⟨t, rfl⟩ := (show ∃ t, v = Value.int i t from r); exact h
  | str i => obtain ⟨t, rfl⟩ := (show ∃ t, v = Value.str i t from r); exact h
  | byt i => obtain ⟨t, rfl⟩ := (show ∃ t, v = Value.bytes i t from r); exact h
  | flt i => obtain ⟨t, rfl⟩ := (show ∃ t, v = Value.float i t from r); exact h
  | ref i => cases (show v = Value.ref i from r); exact h
  | ty i => cases (show v = Value.type i from r); exact h
theorem ins_inst {pins : List (Addr × Obj)} {σ : St} {H : Hp} {s : Shared} {a dx : Addr} {fs : List (Str × V)} (I : Inv X pins σ H s) (h : H a = some (.ins C dx fs)) : ∃ od, PySem.W.InstAt s.heap a (PySem.W.instObj C dx) C (some od) := by
  obtain ⟨mA, J, _⟩ := ins_get I.hok h
  obtain ⟨od, J, _⟩ := J.look
  exact ⟨od, J⟩
theorem op_bin {op : Operator} (first : PySem.W.selfFirst X.K C = true) (m : Meth X.K C (PySem.dunder op.info.2) g) (F : FnOk X.prog X.w X.K X.mg X.base CX n g fd ps sp) (bd : Binds X.K fd ps []) (room : Room n X.A) (pass : Passes CX X E) : OpR X (binaryOp op) (rBin C sp E) := by
  intro pins s σ H x y v u Q I rx ry h
  obtain ⟨a, b, dx, dy, fs, gs, rfl, rfl, ha, hb, q⟩ := h
  cases (show v = Value.ref a from rx)
  cases (show u = Value.ref b from ry)
  obtain ⟨od, J⟩ := ins_inst I ha
  obtain ⟨od', J'⟩ := ins_inst I hb
  obtain ⟨mF, hF⟩ := I.fr
  refine PySem.W.binop_K hF I.ok.mod.kin J J'.type first m.at_ m.fn ?_
  refine wpAny_mono (run_fn (vs := [.ref a, .ref b]) (us := [.ref a, .ref b]) F room bd .nil pass I (.cons rfl (.cons rfl .nil)) (by rw [List.append_nil]; exact q)) (fun w s' z => ?_) fun _ _ e => e
  obtain ⟨z', H', I', rz, qz⟩ := z
  exact back_of rz ⟨z', H', I', rz, qz⟩
def rUnO (C : Addr) (sp : Sp) (E : XK) : V → Hp → VK → Prop := fun x H Q => ∃ a dx fs, x = .ref a ∧ H a = some (.ins C dx fs) ∧ sp [.ref a] H Q E
theorem un_negO (m : Meth X.K C "__neg__" g) (F : FnOk X.prog X.w X.K X.mg X.base CX n g fd ps sp) (bd : Binds X.K fd ps []) (room : Room n X.A) (pass : Passes CX X E) : UnR X (unaryOp .USub) (rUnO C sp E) := by
  intro pins s σ H x v Q I rx h
  obtain ⟨a, dx, fs, rfl, ha, q⟩ := h
  cases (show v = Value.ref a from rx)
  obtain ⟨od, J⟩ := ins_inst I ha
  obtain ⟨mF, hF⟩ := I.fr
  exact PySem.W.ksp_neg hF I.ok.mod.kin J m.at_ m.fn (run_fn (vs := [.ref a]) (us := [.ref a]) F room bd .nil pass I (.cons rfl .nil) (by rw [List.append_nil]; exact q))
/-- == by an own __eq__, both answers -/
theorem op_eqO (m : Meth X.K C "__eq__" g) (F : FnOk X.prog X.w X.K X.mg X.base CX n g fd ps sp) (bd : Binds X.K fd ps []) (room : Room n X.A) (pass : Passes CX X E) : OpR X (compareOp .Eq) (rBin C sp E) := by
  intro pins s σ H x y v u Q I rx ry h
  obtain ⟨a, b, dx, dy, fs, gs, rfl, rfl, ha, hb, q⟩ := h
  cases (show v = Value.ref a from rx)
  cases (show u = Value.ref b from ry)
  obtain ⟨od, J⟩ := ins_inst I ha
  obtain ⟨od', J'⟩ := ins_inst I hb
  obtain ⟨mF, hF⟩ := I.fr
  show wpAny (model X.prog X.w) X.A (richCompare .Eq (.ref a) (.ref b)) (EP X pins σ Q) X.xe s
  refine PySem.W.cmp_K (op := .Eq) (tb := .ref C) room.units0 hF I.ok.mod.kin J J'.type (by simp [PySem.W.notFirst]) m.at_ m.fn ?_
  refine wpAny_mono (run_fn (vs := [.ref a, .ref b]) (us := [.ref a, .ref b]) F room bd .nil pass I (.cons rfl (.cons rfl .nil)) (by rw [List.append_nil]; exact q)) (fun w s' z => ?_) fun _ _ e => e
  obtain ⟨z', H', I', rz, qz⟩ := z
  exact back_of rz ⟨z', H', I', rz, qz⟩
end
/-! ### the rules with the written part by its letter -/
section
variable {X : Cx} {K : PySem.W.Frag} {e o : Expr} {f : Str} {pos pos' : Pos} {ta tv : TE} {value : Expr} {tg : Expr} {tl : TE}
theorem ix_listK (h : X.K = K) : IxR X (rIxL K) := by subst h; exact ix_list
theorem ix_tupK (h : X.K = K) : IxR X (rIxT K) := by subst h; exact ix_tup
theorem call_isiK' (h : X.K = K) : CallR X (.builtin "isinstance") (rIsi K) := by subst h; exact call_isi
theorem call_lenK (h : X.K = K) : CallR X (.builtin "len") (fun xs H Q => ∃ p ys, xs = [.ref p] ∧ (SqL K H p ys ∨ SqT K H p ys) ∧ Q (.int ys.length) H) := by subst h; exact call_len_seq
theorem call_listK (h : X.K = K) : CallR X (.type "list") (fun xs H Q => ∃ p ys, xs = [.ref p] ∧ (SqL K H p ys ∨ SqT K H p ys) ∧ ∀ l, H l = none → Q (.ref l) (upd H l (.lst ys))) := by subst h; exact call_list_of
theorem pe_fldK (h : X.K = K) (he : PE X e ta) (hb : attributeBase e f X.env (eval e X.env) = eval e X.env) : PE X (.Attribute e f pos) (tFld K ta f) := by subst h; exact pe_fld he hb
theorem ps_fldK (h : X.K = K) (ha : PE X o ta) (hv : PE X value tv) (hs : swapsWith value (some (.Attribute o f pos')) pos.line X.env = pure false) : PS X (.Assign [.Attribute o f pos'] value pos) (sFld K ta tv f) := by subst h; exact ps_fld ha hv hs
theorem pi_listK (h : X.K = K) (hl : PE X e tl) : PI X tg e (iList K tl) := by subst h; exact pi_list hl
theorem pi_tupK (h : X.K = K) (hl : PE X e tl) : PI X tg e (iTup K tl) := by subst h; exact pi_tup hl
theorem op_eqDK (h : X.K = K) (hu : X.A.units + 64 < cLine) : OpR X (compareOp .Eq) (rEqD K) := by subst h; exact op_eqD hu
theorem op_neDK (h : X.K = K) (hu : X.A.units + 64 < cLine) : OpR X (compareOp .NotEq) (rNeD K) := by subst h; exact op_neD hu
theorem op_inK (h : X.K = K) : OpR X (compareOp .In) (rIn K false) := by subst h; exact op_in_seq
theorem op_notInK (h : X.K = K) : OpR X (compareOp .NotIn) (rIn K true) := by subst h; exact op_notIn_seq
end
/-! ### a tuple of texts that the module holds -/
def strOf : Value → Option Str
  | .str x _ => some x
  | _ => none
def tupStrs (K : PySem.W.Frag) (a : Addr) (xs : List Str) : Bool := match K.lookup a with
  | some ⟨.type "tuple", _, .seq its _, _⟩ => decide (its.toList.map strOf = xs.map some)
  | _ => false
theorem vals_strs : ∀ (us : List Value) (xs : List Str), us.map strOf = xs.map some → Vals (xs.map V.str) us
  | [], [], _ => .nil
  | [], _ :: _, h => by cases h
  | _ :: _, [], h => by cases h
  | u :: us, x :: xs, h => by
    have h1 := (List.cons.inj h).1
    have h2 := (List.cons.inj h).2
    refine .cons ?_ (vals_strs us xs h2)
    cases u with
    | str y t => exact ⟨t, by rw [Option.some.inj h1]⟩
    | _ => cases h1
theorem tupStrs_ok {K : PySem.W.Frag} {H : Hp} {a : Addr} {xs : List Str} (h : tupStrs K a xs = true) (hl : xs.length ≤ 1000) : SqT K H a (xs.map V.str) := by
  unfold tupStrs at h
  split at h
  · rename_i od its n sl hk
    have e := of_decide_eq_true h
    have l := congrArg List.length e
    rw [List.length_map, List.length_map, Array.length_toList] at l
    exact .inr ⟨_, its, n, hk, rfl, rfl, by rw [l, sizeLine_eq]; omega, vals_strs _ _ e⟩
  · cases h
/-! ### != of a class with an own __eq__ and no __ne__ -/
section
open PySem.W in
theorem special_ne {M : Model} {A : Around} {E : Value → Shared → Prop} {s : Shared} {K : PySem.W.Frag} {a b C : Addr} {ox : Obj} {od : Option Obj} {Q : Option Value → Shared → Prop} (KX : K.In s.heap) (J : PySem.W.InstAt s.heap a ox C od)
    (ne : PySem.W.findIn K (.ref C) "__ne__" = some (some (.builtin "object.__ne__")))
    (h : wpAny M A (call (.builtin "object.__ne__") [.ref a, .ref b]) (fun v => Q (some v)) E s) : wpAny M A (callSpecialIfBound? (.ref a) "__ne__" [.ref b]) Q E s := by
  simp only [callSpecialIfBound?, bindSpecialIfBound?]
  refine wpAny_holding (wpAny_bind (wpAny_bind (wpAny_bind (J.type.here ((PySem.W.looks_findIn KX ne).here ?_)))))
  simp only [PySem.F.cmp_object.ne.bind]
  refine wpAny_bind (wpAny_askSetting (wpAny_ite ?_))
  have fin : wpAny M A (call (.builtin "object.__ne__") ([.ref a] ++ [.ref b]) >>= fun v => pure (some v)) Q E s := wpAny_bind (wpAny_mono h (fun v s' z => wpAny_pure z) fun _ _ z => z)
  split
  · exact wpAny_bind (wpAny_pure (wpAny_pure fin))
  · exact wpAny_tryCatch (wpAny_bind (wpAny_pure (wpAny_pure fin)))
variable {X : Cx} {CX : CXT} {n : Nat} {C g : Addr} {fd : FuncData} {ps : List Str} {sp : Sp} {E : XK}
/-- a callee of a builtin -/
theorem run_in1 {pins : List (Addr × Obj)} {σ : St} {H : Hp} {s : Shared} {Q : VK} {us : List Value} {vs : List V} (F : FnOk X.prog X.w X.K X.mg X.base CX n g fd ps sp) (room : Room (n + 1) X.A) (bd : Binds X.K fd ps []) (pass : Passes CX X E)
    (I : Inv X pins σ H s) (r : Vals vs us) (h : sp vs H Q E) : wpAny (model X.prog X.w) X.A.in1 (call (.ref g) us) (EP X pins σ Q) X.xe s := by
  have hl : (us ++ []).length = ps.length := by rw [List.append_nil, ← r.length]; exact F.len _ _ _ _ h
  have b := bd s us I.kIn hl
  rw [List.append_nil] at b
  refine wpAny_call (codeAny_mono (F.run X.A.in1 X.stack s H ⟨us, []⟩ us vs Q E room.in1 I.env0.in1 b r h) fun r s' z => ?_)
  match r, z with
  | .error e, z => exact pass pins σ H s e s' I z
  | .ok (.ret u), z => exact I.after z
  | .ok .next, z => exact z.elim
  | .ok .brk, z => exact z.elim
  | .ok .cont, z => exact z.elim
def rNeO (C : Addr) (sp : Sp) (E : XK) : R2 := fun x y H Q => ∃ a b dx dy fs gs, x = .ref a ∧ y = .ref b ∧ H a = some (.ins C dx fs) ∧ H b = some (.ins C dy gs) ∧ sp [.ref a, .ref b] H (fun v H' => ∃ t, v = .bl t ∧ Q (.bl (!t)) H') E
theorem op_neO (ne : PySem.W.findIn X.K (.ref C) "__ne__" = some (some (.builtin "object.__ne__"))) (ob : PySem.W.subIn X.K (.ref C) (.type "object") = some true) (m : Meth X.K C "__eq__" g) (F : FnOk X.prog X.w X.K X.mg X.base CX n g fd ps sp) (bd : Binds X.K fd ps [])
    (room : Room (n + 1) X.A) (pass : Passes CX X E) : OpR X (compareOp .NotEq) (rNeO C sp E) := by
  intro pins s σ H x y v u Q I rx ry h
  obtain ⟨a, b, dx, dy, fs, gs, rfl, rfl, ha, hb, q⟩ := h
  cases (show v = Value.ref a from rx)
  cases (show u = Value.ref b from ry)
  obtain ⟨od, J⟩ := ins_inst I ha
  obtain ⟨od', J'⟩ := ins_inst I hb
  have KX := I.kIn
  have run : wpAny (model X.prog X.w) X.A.in1 (call (.ref g) [.ref a, .ref b]) (fun r s' => ∃ t, r = .bool t ∧ EP X pins σ Q (.bool (!t)) s') X.xe s := by
    refine wpAny_mono (run_in1 (vs := [.ref a, .ref b]) F room bd pass I (.cons rfl (.cons rfl .nil)) q) (fun r s' z => ?_) fun _ _ e => e
    obtain ⟨z', H', I', rz, t, rfl, qz⟩ := z
    exact ⟨t, rz, .bl (!t), H', I', rfl, qz⟩
  have body : wpAny (model X.prog X.w) X.A (call (.builtin "object.__ne__") [.ref a, .ref b]) (fun r s' => ∃ t, r = .bool t ∧ EP X pins σ Q (.bool t) s') X.xe s := by
    refine wpAny_call (codeAny_call_builtin PySem.F.cmp_object.ne.plain PySem.F.cmpEntry_ne (PySem.W.check_slot (i := "object.__ne__") (owner := "object") (n := "__ne__") PySem.F.cmpKind_ne PySem.F.cmpSplit_ne (J.type.andThen (PySem.W.looks_subIn KX ob)) (PySem.F.cmpArgs_ne _ _) ?_))
    unfold Builtin.«object.__ne__»
    repeat (first
      | with_reducible refine wpAny_cRoomFor room.in1.units0 ?_
      | (refine wpAny_bind (m := callSpecialIfBound? (.ref a) (Str.ofString "__eq__") [.ref b])
          (PySem.W.ifBound_K KX J m.at_ m.fn (wpAny_mono run (fun r s' z => ?_) fun _ _ e => e))
         obtain ⟨t, rfl, z⟩ := z)
      | (refine wpAny_bind (m := truthy (.bool _)) (wpAny_truthy_bool ?_))
      | exact wpAny_pure ⟨_, rfl, z⟩
      | exact ⟨_, rfl, z⟩
      | wp_step)
  have one : wpAny (model X.prog X.w) X.A (tryCompare (.ref a) "__ne__" (.ref b)) (fun r s' => ∃ v, r = some v ∧ EP X pins σ Q v s') X.xe s := by
    unfold tryCompare
    refine wpAny_bind (special_ne KX J ne (wpAny_mono body (fun r s' z => ?_) fun _ _ e => e))
    obtain ⟨t, rfl, z⟩ := z
    exact wpAny_pure ⟨_, rfl, z⟩
  show wpAny (model X.prog X.w) X.A (richCompare .NotEq (.ref a) (.ref b)) (EP X pins σ Q) X.xe s
  unfold richCompare
  simp only [oneThing_ref]
  refine wpAny_holding (wpAny_bind (wpAny_cRoomFor room.units0 ?_))
  rw [cmpInfo_NotEq]
  dsimp only
  refine wpAny_bind (J.type.here (wpAny_bind (J'.type.here ?_)))
  rw [show (Value.ref C != Value.ref C) = false from by simp]
  simp only [Bool.false_eq_true, if_false]
  refine wpAny_bind (wpAny_pure ?_)
  simp only [Bool.false_eq_true, if_false]
  refine wpAny_bind (wpAny_mono one (fun r s' z => ?_) fun _ _ e => e)
  obtain ⟨v, rfl, hq⟩ := z
  exact wpAny_pure hq
end
/-! ### an own exception whose __init__ calls its base's with a text, and keeps one field -/
def lwB (K : PySem.W.Frag) (L : Addr) : Bool := He.eqO (PySem.W.specialIn K (.ref L) "__getattribute__") (some (some (.builtin "type.__getattribute__"))) && (PySem.W.readsIn K L (.type "type") &&
  (match PySem.W.findCls K (.ref L) (.type "type") "__init__" with | some (.val v) => decide (v = .builtin "ValueError.__init__") | _ => false))
theorem lwB_ok {K : PySem.W.Frag} {L : Addr} (h : lwB K L = true) : PySem.W.specialIn K (.ref L) "__getattribute__" = some (some (.builtin "type.__getattribute__")) ∧ PySem.W.readsIn K L (.type "type") = true ∧
    PySem.W.findCls K (.ref L) (.type "type") "__init__" = some (.val (.builtin "ValueError.__init__")) := by
  unfold lwB at h
  obtain ⟨h1, h⟩ := Bool.and_eq_true_iff.mp h
  obtain ⟨h2, h3⟩ := Bool.and_eq_true_iff.mp h
  refine ⟨He.eqO_ok h1, h2, ?_⟩
  split at h3
  · rename_i v e
    rw [e, of_decide_eq_true h3]
  · cases h3
def oexB (K : PySem.W.Frag) (C fI : Addr) : Bool := [(match K.lookup C with
    | some ⟨.type "type", _, .cls cd, sl⟩ => (match cd.mro, sl.toList with
      | .ref D :: bm, [_, _, _, _, some (.builtin n), _] => [decide (D = C), decide (n = "ValueError.__new__"), !cd.hasDel, cd.hasDict, PySem.HandSPX.refsVE bm].all id
      | _, _ => false)
    | _ => false),
  He.eqO (PySem.W.findIn K (.ref C) "__setattr__") (some (some (.builtin "object.__setattr__"))), decide (PySem.W.subIn K (.ref C) (.type "BaseException") = some true), decide (PySem.W.typeIn K (.ref C) = some (.type "type")), PySem.W.keepIn K (.ref C),
  He.eqO (PySem.W.findIn K (.ref C) "__init__") (some (some (.ref fI))), decide (PySem.W.typeIn K (.ref fI) = some (.type "function")), true].all id
theorem oexB_ok {K : PySem.W.Frag} {C fI : Addr} (h : oexB K C fI = true) : OexC K C ∧ PySem.W.findIn K (.ref C) "__init__" = some (some (.ref fI)) ∧ PySem.W.typeIn K (.ref fI) = some (.type "function") := by
  obtain ⟨h1, h2, h3, h4, h5, h6, h7, _⟩ := all8 h
  refine ⟨⟨?_, He.eqO_ok h2, of_decide_eq_true h3, of_decide_eq_true h4, h5⟩, He.eqO_ok h6, of_decide_eq_true h7⟩
  split at h1
  · rename_i dd cd sl ho
    split at h1
    · rename_i D bm k0 k1 k2 k3 n k5 hm hs
      simp only [List.all_cons, List.all_nil, id_eq, Bool.and_true, Bool.and_eq_true, decide_eq_true_eq, Bool.not_eq_true'] at h1
      obtain ⟨rfl, rfl, hdel, hdct, hv⟩ := h1
      obtain ⟨nm, bs, mro, ns, qn, hd, sn, sub, ab, col, del⟩ := cd
      dsimp only at hm hdel hdct
      subst hm hdel hdct
      have hsl : sl = #[k0, k1, k2, k3, some (.builtin "ValueError.__new__"), k5] := by
        obtain ⟨l⟩ := sl
        simp only at hs
        rw [hs]
      subst hsl
      exact ⟨nm, qn, ns, bs, bm, sn, sub, ab, col, dd, k0, k1, k2, k3, k5, ho, hv⟩
    · cases h1
  · cases h1
section
variable {X : Cx} {e : Expr} {es : List Expr} {ta : TA} {x : Str} {L : Addr} {p1 p2 pos : Pos}
theorem pe_lwinit {pl : Sem Bool} (hB : lwB X.K L = true) (hg : Gl X x) (hm : X.mg x = some (.ref L)) (ha : PA X (e :: es) ta) (hdb : (x == ("__debug__" : Str)) = false := by decide)
    (hc : eval (.Call (.Attribute (.Name x p1) "__init__" p2) (e :: es) [] pos) X.env = (do
      let ov ← eval (.Name x p1) X.env
      standAt p2.atName
      let (f, first) ← holding [ov] (getMethod ov "__init__" pl)
      callWith pos f first (backTo pos (starEach (e :: es) X.env)) (backToKw pos (keywordEach [] X.env))) := by rfl)
    (he : starEach (e :: es) X.env = (false, eval e X.env) :: starEach es X.env := by rfl) (hpl : (backTo pos (starEach es X.env)).any (·.1) = false := by rfl) :
    PE X (.Call (.Attribute (.Name x p1) "__init__" p2) (e :: es) [] pos) (tVeI X.K ta) := by
  refine ⟨fun pins s σ H Q I h => ?_⟩
  obtain ⟨b1, b2, b3⟩ := lwB_ok hB
  refine PySem.W.methodCall_KW (ld_glob I hg hm ?_ hdb) hc
  obtain ⟨m, fr⟩ := I.fr
  refine PySem.W.method_of_cls fr I.ok.mod.kin b1 (PySem.W.cls_value (I.ok.mod.kin.keeps fr.keep) b2 b3 (by decide +kernel) ?_)
  show wpAny _ _ (callWith pos (Value.builtin "ValueError.__init__") [] (backTo pos (starEach (e :: es) X.env)) []) _ _ _
  refine PyProof.Rows.callWith_method1 (thn (ha.run pos pins _ σ H _ (I.tok _) h) fun us s1 hu => ?_) he hpl
  obtain ⟨vs, H1, I1, r1, a, C, ws, ev, hl, T, ea, q⟩ := hu
  subst ev
  cases r1 with
  | @cons _ u0 _ ur ra rw' =>
    obtain rfl : u0 = Value.ref a := ra
    exact oinit_ok T I1 ea (by rw [← Paired.length rw', sizeLine_eq]; omega) fun s' J => ⟨.non, H1, J, rfl, q⟩
end
/-- C(i) leaves behind: the class, and its dict with the one field -/
theorem upd_raise {H : Hp} {a d dx : Addr} {o1 o2 o3 o4 : HO} (ha : H a = none) (hd : H d = none) (ne : dx ≠ a) (e : d = dx) : upd (del (upd (upd (upd H a o1) dx o2) a o3) a) d o4 = upd H d o4 := by
  subst e
  funext b
  by_cases h1 : b = d
  · rw [h1, upd_same, upd_same]
  · rw [upd_ne h1, upd_ne h1]
    by_cases h2 : b = a
    · rw [h2, del_same, ha]
    · rw [del_ne h2, upd_ne h2, upd_ne h1, upd_ne h2]
def spExc (K : PySem.W.Frag) (C : Addr) (f : Str) (ok : V → Prop) : Sp := fun vs H Q _ => ∃ (a : Addr) (v : V), vs = [.ref a, v] ∧ H a = some (exo a C none) ∧ ok v ∧ ∀ dx, H dx = none → dx ≠ a → Q .non (upd (upd H dx (exd dx [(f, v)])) a (exo a C (some dx)))
theorem exd_inj {d e : Addr} {fs gs : List (Str × V)} (h : exd d fs = exd d gs) : True := trivial
/-- raise C(v), C's __init__ keeping spExc -/
theorem r_raiseE {K : PySem.W.Frag} {C : Addr} {f : Str} {ok : V → Prop} {t : TA} {σ : St} {H : Hp} {Q : XK}
    (h : t σ H fun vs H1 => ∃ v, vs = [v] ∧ ok v ∧ ∀ d, H1 d = none → Q (.ref C) (some d) (upd H1 d (.xd [(f, v)]))) (mono : ∀ P P' : List V → Hp → Prop, (∀ vs H1, P vs H1 → P' vs H1) → t σ H P → t σ H P') : tMkO C (spExc K C f ok) [] t σ H Q := by
  refine mono _ _ (fun vs H1 q => ?_) h
  obtain ⟨v, rfl, hv, k⟩ := q
  refine ⟨by show 1 ≤ 1000; decide, fun a ha => ⟨a, v, rfl, upd_same, hv, fun dx hdx ne => ⟨rfl, dx, [(f, v)], upd_same, by rw [upd_ne ne, upd_same], ?_, ?_⟩⟩⟩
  · rw [upd_ne ne] at hdx
    exact hdx
  · have hd : H1 dx = none := by
      rw [upd_ne ne] at hdx
      exact hdx
    rw [upd_raise ha hd ne rfl]
    exact k dx hd
theorem op_mul_str {X : Cx} : OpR X (binaryOp .Mult) (fun x y H Q => ∃ z n, x = .str z ∧ y = .int n ∧ MulOk z n ∧ Q (.str (Txt.mul z n)) H) := by
  intro pins s σ H x y v u Q I rx ry h
  obtain ⟨z, n, rfl, rfl, hz, q⟩ := h
  obtain ⟨t, rfl⟩ := rx
  obtain ⟨t', rfl⟩ := ry
  exact PySem.SB.mul hz fun t' tk => ⟨.str (Txt.mul z n), H, I.tok _, ⟨_, rfl⟩, q⟩
section
variable {σ : St} {H : Hp} {g : TG} {tb : TS} {nx : St → Hp → Prop} {rt : VK} {bk ct : St → Hp → Prop} {tl : TE} {K : PySem.W.Frag} {a : Addr} {xs : List V} {k : Nat}
theorem r_iTup {R : It → Hp → Prop} (h : tl σ H fun x H1 => ∃ a, x = .ref a ∧ (∃ xs, SqT K H1 a xs) ∧ R (Itt K a) H1) : iTup K tl σ H R := h
theorem r_tupI {P : It → Prop} (hs : SqT K H a xs) (h : P (Itt K a)) : ∃ b, V.ref a = .ref b ∧ (∃ xs, SqT K H b xs) ∧ P (Itt K b) := ⟨a, rfl, ⟨xs, hs⟩, h⟩
theorem for_tpl (Pv : Nat → St → Hp → Prop) (h0 : Pv 0 σ H) (hl : ∀ i σ H, i ≤ xs.length → Pv i σ H → SqT K H a xs) (hs : ∀ i x σ H, xs[i]? = some x → Pv i σ H → tb ⟨Pv (i + 1), rt, nx, Pv (i + 1)⟩ (σ.set k (some x)) H) (hd : ∀ σ H, Pv xs.length σ H → nx σ H) :
    forR (Itt K a) (gName k) tb ⟨nx, rt, bk, ct⟩ σ H := for_tup (D := ⟨nx, rt, bk, ct⟩) Pv h0 hl hs hd
theorem r_tXf {x : V} {cls : Value} {d : Option Addr} {C : Addr} {f : Str} {te : TE} {Q : VK} (h : te σ H fun x H1 => x = .ref a ∧ cls = .ref C ∧ ∃ (dd : Addr) (fs : List (Str × V)) (v : V), d = some dd ∧ H1 dd = some (.xd fs) ∧ fs.lookup f = some v ∧ Q v H1) : tXf a cls d C f te σ H Q := h
end
/-! ### isinstance of a caught error that has a dict of its own -/
namespace Xd
open PySem.W PySem.Calls
section
variable {prog : Program} {w : World} {A : Around} {E : Value → Shared → Prop} {s : Shared} {K : Frag} {x D : Addr} {ox : Obj}
theorem find_cls {od : Option Obj} (C : ExcC K D) : findObj K D od "__class__" = some (.bind (.builtin "getset_descriptor.__get__") (.builtin "object.__class__")) := by
  obtain ⟨cd, hc, _⟩ := any_some C.hd
  unfold findObj
  rw [hc, Option.bind_some, C.ha, Option.bind_some]
  simp [C.hn, C.ht]
theorem cls_of {Q : Option Value → Shared → Prop} {od : Option Obj} (C : ExcC K D) (X : K.In s.heap) (I : PySem.W.InstAt s.heap x ox D od) (h : Q (some (.ref D)) { s with toks := s.toks + 1 }) : wpAny (model prog w) A (getAttr? (.ref x) "__class__") Q E s := by
  have hf := find_cls (od := od) C
  obtain ⟨hp, g, d, t, os⟩ := s
  have T0 := I.type (M := model prog w)
  have T1 := looks_findIn (M := model prog w) X C.hg
  have T2 := looks_findIn (M := model prog w) X C.hk
  have T3 := looks_find (M := model prog w) X I hf
  have sub : Looks (model prog w) hp (isInstance (.ref x) (.type "BaseException")) true := T0.andThen (looks_subIn X C.hs)
  have n2 : (Value.builtin "BaseException.__getattribute__" == Value.builtin "object.__getattribute__") = false := by decide +kernel
  unfold getAttr? getAttrBy? getAttrBy
  refine wpAny_bind (wpAny_mkText (wpAny_bind (wpAny_attempt (wpAny_holding (wpAny_bind (T0.at (wpAny_bind (T1.at ?_))))))))
  show wpAny _ _ (if (onTheHeap (Value.ref D) && Value.builtin "BaseException.__getattribute__" == Value.builtin "object.__getattribute__") = true then _ else _) _ _ _
  rw [n2, Bool.and_false, if_neg Bool.false_ne_true]
  (unfold getAttrByItsOwn hookBefore; refine wpAny_bind ?_; rw [if_pos (show onTheHeap (Value.ref D) = true from rfl)])
  refine T2.at (wpAny_bind (wpAny_attempt (wpAny_holding ?_)))
  (unfold callGetattribute; rw [show (false && onTheHeap (Value.builtin "BaseException.__getattribute__")) = false from rfl, if_neg Bool.false_ne_true])
  (unfold boundAndCalled; rw [PySem.F.excAttr_ValueError.ga.bind (.ref x)])
  refine wpAny_bind (wpAny_pure ?_)
  show wpAny _ _ (call (.builtin "BaseException.__getattribute__") [.ref x, .str "__class__" t]) _ _ _
  refine wpAny_call (codeAny_call_builtin PySem.F.excAttr_ValueError.ga.plain PySem.F.entry_bexc_ga (@check_slot (model prog w) _ _ ⟨hp, g, d, t + 1, os⟩ "BaseException.__getattribute__" "BaseException" "__getattribute__" (.ref x) [.str "__class__" t] [] _ (by decide +kernel) (by decide +kernel) sub (PySem.F.args_bexc_ga (.ref x) (.str "__class__" t)) ?_))
  (unfold Builtin.«object.__getattribute__»; refine wpAny_bind (wpAny_of_eq (a := ((Value.ref x : Value), [Value.str "__class__" t])) (by first | rfl | (simp only [slotArgs]; rfl)) ?_))
  refine wpAny_bind (wpAny_pure (wpAny_bind (T0.at (wpAny_bind (T3.at ?_)))))
  show wpAny _ _ (holding [Value.builtin "object.__class__"] (call (.builtin "getset_descriptor.__get__") [.builtin "object.__class__", .ref x, .ref D]) >>= ret) _ _ _
  refine wpAny_bind (wpAny_holding (wpAny_call (class_get (s := ⟨hp, g, d, t + 1, os⟩) (ox := ox) (od := od) X I C.hm (wpAny_pure ?_))))
  (show wpAny _ _ (handedOut (.ref D)) _ _ _; rw [handedOut_of (v := .ref D) rfl])
  first
    | exact wpAny_pure (wpAny_pure h)
    | exact wpAny_pure (wpAny_bind (wpAny_pure (wpAny_pure h)))
theorem not_cls {h : Heap} {o : Obj} {D' : Addr} (hd : hasDictIn K D = true) (X : K.In h) (e : h.get? D' = some o) (hs : ∀ cd, o.data ≠ .cls cd) : D ≠ D' := fun z => by
  obtain ⟨cdD, hcD, _⟩ := any_some hd
  unfold clsIn at hcD
  split at hcD
  · rename_i c' d' cd' sl' ho
    rw [← z, X _ _ ho] at e
    cases e
    exact hs cd' rfl
  · cases hcD
theorem kit (C : ExcC K D) : KitX K (.ref x) (.ref D) (fun h => ∃ od, PySem.W.InstAt h x ox D od) where
  ty := fun M h X I => by
    obtain ⟨od, I⟩ := I
    exact I.type
  it := fun M h X _ => (handS_kitx_exc (x := x) (ox := ox) C.hg C.hk C.hs C.hd C.ha C.hn C.ht C.hm).it M h X |> fun f => by
    obtain ⟨cdD, hcD, _⟩ := any_some C.hd
    unfold clsIn at hcD
    split at hcD
    · rename_i c' d' cd' sl' ho
      intro A' Q' E' s' k q
      (unfold isType loadHead; exact wpAny_bind (wpAny_loadPart (k _ _ (X _ _ ho)) (wpAny_pure q)))
    · cases hcD
  ne := fun h tp dd its n sl X htp => Bool.eq_false_iff.mpr fun q => not_cls C.hd X htp (fun cd z => by cases z) (Value.ref.inj (beq_iff_eq.mp q))
  ca := fun X I k => by
    obtain ⟨od, I⟩ := I
    exact cls_of C X I k
end
end Xd
def rIsD (K : PySem.W.Frag) (D a : Addr) (d : Option Addr) : List V → Hp → VK → Prop := fun xs H Q => ∃ (c : V) (cv : Value) (b : Bool) (dd : Addr) (fs : List (Str × V)), xs = [.ref a, c] ∧ (∀ u, RelV c u → u = cv) ∧ PySem.W.kitOne K (.ref D) cv = some b ∧ d = some dd ∧ H dd = some (.xd fs) ∧ Q (.bl b) H
theorem call_isD {X : Cx} {a D : Addr} {d : Option Addr} {oe : Obj} {pn : List (Addr × Obj)} {cls : Value} (ec : cls = .ref D) (C : ExcC X.K D) (hz : Zc cls d oe) (hf : ∃ vs, oe.data = .fields vs) : CallR (X.suite a ((a, oe) :: pn)) (.builtin "isinstance") (rIsD X.K D a d) := by
  intro pins s σ H xs us Q I r h
  subst ec
  obtain ⟨c, cv, b, dd, fs, rfl, hcv, e, rfl, hdd, q⟩ := h
  cases r with
  | cons rx rr =>
    cases rr with
    | cons rt rr =>
      cases rr
      cases rx
      obtain rfl := hcv _ rt
      obtain ⟨hget, _⟩ := I.pin (a, oe) (List.mem_append.mpr (.inl List.mem_cons_self))
      obtain ⟨vs, hv⟩ := hf
      obtain ⟨od, hod⟩ := objOk_get (I.hok dd _ hdd)
      have J : PySem.W.InstAt s.heap a oe D (some od) := by
        obtain ⟨oc, ob, oda, osl⟩ := oe
        obtain ⟨h1, h2⟩ := hz
        (dsimp only at h1 h2 hv; subst h1 h2 hv)
        exact ⟨hget, rfl, rfl, hod⟩
      exact PySem.W.kia_one (Xd.kit C) I.kIn ⟨_, J⟩ e (fun z => nomatch z) fun tk => ⟨.bl b, H, I.kept (t' := tk) fun _ _ z => z, rfl, q⟩
/-! ### what reads as data; sorted of such -/
mutual
inductive DatV (K : PySem.W.Frag) (H : Hp) : V → PyData → Prop
  | non : DatV K H .non .none
  | bl (b : Bool) : DatV K H (.bl b) (.bool b)
  | int (i : Int) : DatV K H (.int i) (.int i)
  | str (x : Str) : DatV K H (.str x) (.str x)
  | tup {a : Addr} {xs : List V} {ds : List PyData} : SqT K H a xs → DatsV K H xs ds → DatV K H (.ref a) (.tuple ds)
inductive DatsV (K : PySem.W.Frag) (H : Hp) : List V → List PyData → Prop
  | nil : DatsV K H [] []
  | cons {x : V} {d : PyData} {xs : List V} {ds : List PyData} : DatV K H x d → DatsV K H xs ds → DatsV K H (x :: xs) (d :: ds)
end
section
variable {X : Cx} {pins : List (Addr × Obj)} {σ : St} {H : Hp} {s : Shared}
mutual
theorem DatV.reads (I : Inv X pins σ H s) : ∀ (x : V) (d : PyData) (u : Value), DatV X.K H x d → RelV x u → ∃ as, Reads s.heap u d as
  | _, _, u, h, r => by
    cases h with
    | non => cases r; exact ⟨_, .none⟩
    | bl b => cases r; exact ⟨_, .bool b⟩
    | int i => obtain ⟨t, rfl⟩ := r; exact ⟨_, .int i t⟩
    | str z => obtain ⟨t, rfl⟩ := r; exact ⟨_, .str z t⟩
    | tup hs hd =>
      cases r
      obtain ⟨its, rv, l1, _⟩ := I.tuple hs
      obtain ⟨o, h1, h2, n, h3⟩ := l1
      obtain ⟨as, ra⟩ := DatsV.reads I _ _ _ hd rv
      exact ⟨_, .tuple h1 h2 h3 (by simpa using ra)⟩
theorem DatsV.reads (I : Inv X pins σ H s) : ∀ (xs : List V) (ds : List PyData) (us : List Value), DatsV X.K H xs ds → Vals xs us → ∃ as, ReadsAll s.heap us ds as
  | _, _, us, h, r => by
    cases h with
    | nil => cases r; exact ⟨_, .nil⟩
    | cons h1 h2 =>
      cases r with
      | cons r1 r2 =>
        obtain ⟨as, q1⟩ := DatV.reads I _ _ _ h1 r1
        obtain ⟨bs, q2⟩ := DatsV.reads I _ _ _ h2 r2
        exact ⟨_, .cons q1 q2⟩
end
end
abbrev VD : Type := V × PyData
def sortD (bs : List VD) : List VD := bs.mergeSort (PySem.W.dataLe false (fun b : VD => b.2))
theorem sortD_perm (bs : List VD) : (sortD bs).Perm bs := List.mergeSort_perm _ _
def rSortedD (K : PySem.W.Frag) : List V → Hp → VK → Prop := fun vs H Q => ∃ (a : Addr) (bs : List VD), vs = [.ref a] ∧ SqL K H a (bs.map (·.1)) ∧ (∀ b ∈ bs, DatV K H b.1 b.2 ∧ b.2.depth ≤ 8) ∧ PySem.W.AllAlike (bs.map (·.2)) ∧ PySem.W.Sortable (bs.map (·.2)) ∧
  ∀ p, H p = none → Q (.ref p) (upd H p (.lst ((sortD bs).map (·.1))))
theorem each_vals : ∀ {bs : List VD} {us : List Value}, Vals (bs.map (·.1)) us → PySem.W.EachIs (fun u (b : VD) => RelV b.1 u) us bs
  | [], _, h => by cases h; exact .nil
  | _ :: _, _, h => by
    cases h with
    | cons r rs => exact .cons r (each_vals rs)
theorem vals_each : ∀ {bs : List VD} {us : List Value}, PySem.W.EachIs (fun u (b : VD) => RelV b.1 u) us bs → Vals (bs.map (·.1)) us
  | [], _, h => by cases h; exact .nil
  | _ :: _, _, h => by
    cases h with
    | cons r rs => exact .cons r (vals_each rs)
theorem each_and {R S : Value → VD → Prop} : ∀ {bs : List VD} {us : List Value}, PySem.W.EachIs R us bs → (∀ b ∈ bs, ∀ u, R u b → S u b) → PySem.W.EachIs S us bs
  | [], _, h, _ => by cases h; exact .nil
  | b :: _, _, h, f => by
    cases h with
    | cons r rs => exact .cons (f b List.mem_cons_self _ r) (each_and rs fun b hb => f b (List.mem_cons_of_mem _ hb))
theorem cr_sortedD {X : Cx} (hu : X.A.units + 64 < cLine) : CallR X (.builtin "sorted") (rSortedD X.K) := by
  intro pins s σ H vs us Q I r h
  obtain ⟨a, bs, rfl, hs, hd, hal, hk, q⟩ := h
  obtain ⟨its, rv, hl, hz⟩ := I.list hs
  rw [Vals.ref1 r]
  have e := each_vals rv
  have hL : bs.length ≤ sizeLine := by rw [List.length_map] at hz; exact hz
  refine PySem.W.sorted_data (enc := fun b : VD => b.2) hl.isList e (each_and e fun b hb u ru => DatV.reads I _ _ _ (hd b hb).1 ru) hal hk hL (fun b hb => by have := (hd b hb).2; omega) fun out hlen ho => ?_
  obtain ⟨ep, he'⟩ := PyProof.Rows.sortedAll_at s.heap its out.toArray
  have lo : ((sortD bs).map (·.1)).length ≤ sizeLine := by
    rw [List.length_map, (sortD_perm bs).length_eq]
    exact hL
  exact ⟨.ref _, upd H (s.heap.objs.size + 1) (.lst ((sortD bs).map (·.1))), I.laid (t' := s.toks) (fun _ _ => PyProof.Rows.sortedAll_old) (Nat.le_succ _) ⟨lo, out, ep, vals_each ho, he'⟩, rfl, q _ (I.hok.fresh (Nat.le_succ _))⟩
/-! ### != of equal lists and tuples, == and != of equal dicts, where own ==s are asked on the way -/
namespace NeG
open PySem.SeqAt AutoSeq1 MeetsSeq MeetsSeq2 MeetsSeq3 SeqRoads2 GQ
section
variable {prog : Program} {w : World} {A : Around} {R : Result → Shared → Prop}
theorem nloop (p q : Addr) (N : Nat) (J : Nat → Shared → Prop) (each : ListI prog w A (fun e s' => R (.error e) s') p q N J) (done : ∀ s, J N s → R (.ok (.ret (.bool false))) s) (m : Nat) :
    ∀ j : Nat, N - j = m → j ≤ N → ∀ s, J j s → wpAny (model prog w) A.in1 (Builtin.«list.__eq__.loop» ⟨[.ref p, .ref q, rawInt j, rawInt 3], []⟩) (FinOf prog w A R) (fun e s' => R (.error e) s') s := by
  induction m with
  | zero =>
    intro j hm hj s h
    obtain ⟨xs, ys, n1, n2, gp, gq, zx, zy, _⟩ := each _ _ h
    obtain rfl : j = N := by omega
    have fin := done s h
    obtain ⟨hp, g, d, tk, os⟩ := s
    (wp_walk using wpAny_loadPart' gp, wpAny_loadPart' gq)
    rw [show xs[((j : Nat) : Int).toNat]? = none from by simp; omega, show ys[((j : Nat) : Int).toNat]? = none from by simp; omega]
    (wp_walk using wpAny_loadPart' gp, wpAny_loadPart' gq)
    show R (.ok (.ret (.bool (xs.size != ys.size)))) _
    rw [zx, zy]
    simpa using fin
  | succ m ih =>
    intro j hm hj s h
    obtain ⟨xs, ys, n1, n2, gp, gq, zx, zy, t⟩ := each _ _ h
    have l1 : j < xs.size := by omega
    have l2 : j < ys.size := by omega
    have t := t l1 l2
    obtain ⟨hp, g, d, tk, os⟩ := s
    (wp_walk using wpAny_loadPart' gp, wpAny_loadPart' gq)
    have up : ((j : Int) + 1) = ((j + 1 : Nat) : Int) := by omega
    rw [show xs[((j : Nat) : Int).toNat]? = some xs[j] from by simp [l1], show ys[((j : Nat) : Int).toNat]? = some ys[j] from by simp [l2]]
    refine wpAny_bind (wpAny_mono t (fun r s2 k2 => ?_) fun _ _ z => z)
    obtain ⟨rfl, k2⟩ := k2
    have more := ih (j + 1) (by omega) (by omega) s2 k2
    obtain ⟨hp2, g2, d2, tk2, os2⟩ := s2
    wp_walk
    rw [up]
    exact ⟨plainId_quiet plain_eq_loop _, codeAny_builtin entry_eq_loop (by rw [Around.under_plainId plain_eq_loop _]; exact more)⟩
theorem nlist (p q : Addr) (N : Nat) (J : Nat → Shared → Prop) (each : ListI prog w A (fun e s' => R (.error e) s') p q N J) (done : ∀ s, J N s → R (.ok (.ret (.bool false))) s) {s : Shared} (h : J 0 s) :
    wpAny (model prog w) A.in1 (Builtin.«list.__ne__» ⟨[.ref p, .ref q], []⟩) (FinOf prog w A R) (fun e s' => R (.error e) s') s := by
  obtain ⟨xs, ys, n1, n2, gp, gq, zx, zy, _⟩ := each _ _ h
  have more := nloop (A := A) (R := R) p q N J each done _ 0 rfl (Nat.zero_le _) s h
  obtain ⟨hp, g, d, tk, os⟩ := s
  have sub := AutoSeq1.sub_list_list
  have same : ¬ (xs.size != ys.size) = true := by simp [zx, zy]
  (wp_walk using wpAny_loadPart' gp, wpAny_loadPart' gq)
  exact ⟨plainId_quiet plain_eq_loop _, codeAny_builtin entry_eq_loop (by rw [Around.under_plainId plain_eq_loop _]; exact more)⟩
theorem ntup (p q : Addr) (xs ys : Array Value) (n1 n2 : Nat) (d1 d2 : Option Addr) (sl1 sl2 : Array (Option Value)) (hz : xs.size = ys.size) (J : Nat → Shared → Prop)
    (each : ∀ j (h1 : j < xs.size) (h2 : j < ys.size) s, J j s → wpAny (model prog w) A.in1 (eqBool xs[j] ys[j]) (fun r s' => r = true ∧ J (j + 1) s') (fun e s' => R (.error e) s') s)
    (done : ∀ s, J xs.size s → R (.ok (.ret (.bool false))) s) {s : Shared} (gp : s.heap.get? p = some { cls := .type "tuple", dict := d1, data := .seq xs n1, slots := sl1 }) (gq : s.heap.get? q = some { cls := .type "tuple", dict := d2, data := .seq ys n2, slots := sl2 }) (h : J 0 s) :
    wpAny (model prog w) A.in1 (Builtin.«tuple.__ne__» ⟨[.ref p, .ref q], []⟩) (FinOf prog w A R) (fun e s' => R (.error e) s') s := by
  have sub := AutoSeq1.sub_tuple_tuple
  have zl : (xs.toList.zip ys.toList).length = xs.size := by simp [hz]
  have start := h
  obtain ⟨hp, g, d, tk, os⟩ := s
  (wp_walk using wpAny_loadPart' gp, wpAny_loadPart' gq, wpAny_forIn_list _ (fun rest b s' => b.1 = none ∧ ∃ j, rest = (xs.toList.zip ys.toList).drop j ∧ j ≤ xs.size ∧ J j s') _)
  case turn =>
    rintro ⟨y, x⟩ rest b s' ⟨hb, j, ez, hj, k⟩
    have lj : j < (xs.toList.zip ys.toList).length := Nat.lt_of_not_le fun z => by rw [List.drop_of_length_le z] at ez; cases ez
    have l1 : j < xs.size := zl ▸ lj
    have l2 : j < ys.size := hz ▸ l1
    rw [List.drop_eq_getElem_cons lj] at ez
    injection ez with e1 e2
    obtain rfl : y = xs[j] := by simpa using congrArg Prod.fst e1
    obtain rfl : x = ys[j] := by simpa using congrArg Prod.snd e1
    refine wpAny_bind (wpAny_mono (each j l1 l2 s' k) (fun r s2 k2 => ?_) fun _ _ z => z)
    obtain ⟨rfl, k2⟩ := k2
    wp_walk
    exact ⟨rfl, j + 1, e2, l1, k2⟩
  case fin =>
    rintro ⟨b1, b2⟩ s' ⟨hb, j, ez, hj, k⟩
    (simp only at hb; subst hb)
    have ge : xs.size ≤ j := Nat.le_of_not_lt fun z => by rw [List.drop_eq_getElem_cons (zl.symm ▸ z)] at ez; cases ez
    have fin := done s' ((show j = xs.size from by omega) ▸ k)
    wp_walk
    simpa [Builtin.Tuple.tupleCompareSizes, hz] using fin
  case h => exact ⟨rfl, 0, rfl, Nat.zero_le _, start⟩
end
section
variable {prog : Program} {w : World} {A : Around} {E : Value → Shared → Prop} {s : Shared}
theorem rc_nlist {p q : Addr} {N : Nat} {Q : Value → Shared → Prop} (hu : A.units < cLine) (J : Nat → Shared → Prop) (each : ListI prog w A E p q N J) (done : ∀ s, J N s → Q (.bool false) s) (h : J 0 s) :
    wpAny (model prog w) A (richCompare .NotEq (.ref p) (.ref q)) Q E s := by
  obtain ⟨xs, ys, n1, n2, gp, gq, _, _, _⟩ := each _ _ h
  refine wpAny_richCompare_same_room (op := .NotEq) ⟨_, gp, rfl⟩ ⟨_, gq, rfl⟩ PySem.F.slot_list_ne (call_here PySem.F.slot_list_ne ⟨_, gp, rfl⟩ PySem.F.entry_list_ne (PySem.F.args_list_ne_2 _ _) ?_) hu
  exact nlist (R := wants (fun v s' => v ≠ .notImplemented ∧ Q v s') E) p q N J each (fun s' z => ⟨(fun x => nomatch x), done s' z⟩) h
theorem rc_ntup {p q : Addr} {xs ys : Array Value} {Q : Value → Shared → Prop} (hz : xs.size = ys.size) (hu : A.units < cLine) (J : Nat → Shared → Prop) (gp : s.heap.IsTuple p xs) (gq : s.heap.IsTuple q ys)
    (each : ∀ j (h1 : j < xs.size) (h2 : j < ys.size) s, J j s → wpAny (model prog w) A.in1 (eqBool xs[j] ys[j]) (fun r s' => r = true ∧ J (j + 1) s') E s) (done : ∀ s, J xs.size s → Q (.bool false) s) (h : J 0 s) :
    wpAny (model prog w) A (richCompare .NotEq (.ref p) (.ref q)) Q E s := by
  obtain ⟨⟨c1, d1, t1, sl1⟩, ho, hc, n1, hd⟩ := id gp
  obtain ⟨⟨c2, d2, t2, sl2⟩, ho2, hc2, n2, hd2⟩ := id gq
  (simp only at hc hd hc2 hd2; subst hc hd hc2 hd2)
  refine wpAny_richCompare_same_room (op := .NotEq) ⟨_, ho, rfl⟩ ⟨_, ho2, rfl⟩ PySem.F.slot_tuple_ne (call_here PySem.F.slot_tuple_ne ⟨_, ho, rfl⟩ PySem.F.entry_tuple_ne (PySem.F.args_tuple_ne_2 _ _) ?_) hu
  exact ntup (R := wants (fun v s' => v ≠ .notImplemented ∧ Q v s') E) p q xs ys n1 n2 d1 d2 sl1 sl2 hz J each (fun s' z => ⟨(fun x => nomatch x), done s' z⟩) ho ho2 h
end
end NeG
/-- != gives False for what D says, and only makes objects -/
def RnG (X : Cx) (n : Nat) (D : Eqv) : Prop :=
  ∀ (A : Around) (pins : List (Addr × Obj)) (s : Shared) (σ : St) (H : Hp) (x y : V) (u v : Value), Sub X n A → Inv X pins σ H s → RelV x u → RelV y v → D x y H →
    wpAny (model X.prog X.w) A (richCompare .NotEq u v) (fun r s' => r = .bool false ∧ ∃ H', Inv X pins σ H' s' ∧ Ext H H') X.xe s
section
variable {X : Cx} {n : Nat} {D : Eqv}
theorem rnG_list (hD : Mon D) (h : EqG X n D) : RnG X (n + 1) (DList D) := by
  intro A pins s σ H x y u v sb I rx ry d
  obtain ⟨a, b, xs, ys, rfl, rfl, ha, hb, p⟩ := d
  (cases rx; cases ry)
  refine NeG.rc_nlist (N := xs.length) sb.room.units0 (fun _ s' => LoopI X pins σ H s') (fun i s' q => ?_) (fun s' q => ⟨rfl, q⟩) ⟨H, I, Ext.rfl'⟩
  obtain ⟨H1, I1, e1⟩ := id q
  obtain ⟨_, us, k, r, e⟩ := I1.hok a _ (e1 _ _ ha)
  obtain ⟨_, vs, k2, r2, e2⟩ := I1.hok b _ (e1 _ _ hb)
  exact ⟨us.toArray, vs.toArray, k, k2, e, e2, by rw [List.size_toArray, ← r.length], by rw [List.size_toArray, ← r2.length, ← p.1], fun h1 h2 => turnG hD h sb p r r2 i h1 h2 s' q⟩
theorem rnG_tup (hD : Mon D) (h : EqG X n D) : RnG X (n + 1) (DTup X.K D) := by
  intro A pins s σ H x y u v sb I rx ry d
  obtain ⟨a, b, xs, ys, rfl, rfl, ha, hb, p⟩ := d
  (cases rx; cases ry)
  obtain ⟨us, r, e, _⟩ := I.tuple ha
  obtain ⟨vs, r2, e2, _⟩ := I.tuple hb
  have hz : us.toArray.size = vs.toArray.size := by rw [List.size_toArray, List.size_toArray, ← r.length, ← r2.length]; exact p.1
  exact NeG.rc_ntup hz sb.room.units0 (fun _ s' => LoopI X pins σ H s') e e2 (fun i h1 h2 s' q => turnG hD h sb p r r2 i h1 h2 s' q) (fun s' q => ⟨rfl, q⟩) ⟨H, I, Ext.rfl'⟩
def rNeG (D : Eqv) : R2 := fun x y H Q => D x y H ∧ ∀ H', Ext H H' → Q (.bl false) H'
theorem op_neG (h : RnG X n D) (hr : Room n X.A) : OpR X (compareOp .NotEq) (rNeG D) := by
  intro pins s σ H x y v u Q I rx ry hq
  obtain ⟨d, q⟩ := hq
  show wpAny (model X.prog X.w) X.A (richCompare .NotEq v u) (EP X pins σ Q) X.xe s
  refine wpAny_mono (h X.A pins s σ H x y v u ⟨hr, rfl⟩ I rx ry d) (fun r s' z => ?_) fun _ _ z => z
  obtain ⟨rfl, H', I', e⟩ := z
  exact ⟨.bl false, H', I', rfl, q H' e⟩
end
/-! ### == and != of two dicts of the same keys, whose values are equal one by one, own ==s asked on the way -/
namespace DeG
open PySem.W PySem.Calls
section
variable {prog : Program} {w : World} {K : Type} [DecidableEq K] {knd : KeyKind prog w K} {A : Around} {E : Value → Shared → Prop} {s : Shared}
theorem pairs {nm : String} {a b : Addr} {oa ob : Obj} {es et : Array DictEntry} {p1 p2 : Nat} {ka kb : List (K × Value)} {Q : Bool → Shared → Prop} (na : (a == sysModules) = false) (nb : (b == sysModules) = false)
    (da : oa.data = .dict es p1) (db : ob.data = .dict et p2) (ua : KeysOf knd es) (ub : KeysOf knd et) (va : Pairs knd es.toList ka) (vb : Pairs knd et.toList kb) (hl : ka.length = kb.length) (J : Nat → Shared → Prop)
    (at_ : ∀ i s, J i s → s.heap.get? a = some oa ∧ s.heap.get? b = some ob)
    (each : ∀ i k v s, ka[i]? = some (k, v) → J i s → ∃ y, valueAt kb k = some y ∧ wpAny (model prog w) A (eqBool v y) (fun r s' => r = true ∧ J (i + 1) s') E s)
    (start : J 0 s) (done : ∀ s, J ka.length s → Q true s) : wpAny (model prog w) A (Builtin.Dict.samePairs nm a b) Q E s := by
  have za : ka.length = es.size := (va.length.symm.trans Array.length_toList)
  have zb : kb.length = et.size := (vb.length.symm.trans Array.length_toList)
  have look : ∀ k, findBy knd.is et k = valueAt kb k := fun k => by
    rw [← vb.find k]
    (clear zb vb ub db; obtain ⟨l⟩ := et; simp [findBy])
  have sz : es.size = et.size := by omega
  obtain ⟨g1, g2⟩ := at_ _ _ start
  unfold Builtin.Dict.samePairs Builtin.Dict.showsAll
  rw [if_neg (by rw [na]; exact Bool.false_ne_true), if_neg (by rw [nb]; exact Bool.false_ne_true)]
  refine wpAny_bind (wpAny_pure (wpAny_bind (wpAny_pure (wpAny_bind (wpAny_dictEntries g1 da ?_)))))
  dsimp only
  refine wpAny_bind (wpAny_dictEntries g2 db ?_)
  rw [if_neg (by rw [sz]; simp)]
  refine wpAny_bind (wpAny_dictEpoch g1 da (wpAny_bind ?_))
  rw [Std.Legacy.Range.forIn_eq_forIn_range']
  simp only [Std.Legacy.Range.size, Nat.sub_zero, Nat.add_sub_cancel, Nat.div_one]
  refine wpAny_forIn_list _ (fun rest q s' => q = (none, ()) ∧ ∃ i, rest = List.range' i (es.size - i) ∧ i ≤ es.size ∧ J i s') _ ?_ ?_ _ _ ⟨rfl, 0, by simp, Nat.zero_le _, start⟩
  · rintro x rest q s' ⟨rfl, i, hr, hi, hj⟩
    have lt : i < es.size := Nat.lt_of_not_le fun z => by rw [Nat.sub_eq_zero_of_le z] at hr; simp at hr
    obtain ⟨rfl, hrest⟩ : x = i ∧ rest = List.range' (i + 1) (es.size - (i + 1)) := by
      rw [show es.size - i = (es.size - (i + 1)) + 1 by omega, List.range'_succ] at hr
      exact ⟨(List.cons.inj hr).1, (List.cons.inj hr).2⟩
    obtain ⟨g1, g2⟩ := at_ _ _ hj
    refine wpAny_bind (wpAny_dictEntries g1 da ?_)
    rw [Array.getElem?_eq_getElem lt]
    have lt' : x < ka.length := by rw [za]; exact lt
    obtain ⟨k, v, kv⟩ : ∃ k v, ka[x] = (k, v) := ⟨_, _, rfl⟩
    have kv' : ka[x]? = some (k, v) := by rw [List.getElem?_eq_getElem lt', kv]
    obtain ⟨isk, isv⟩ := va.get? (i := x) (e := es[x]) (k := k) (v := v) (by rw [Array.getElem?_toList]; exact Array.getElem?_eq_getElem lt) kv'
    obtain ⟨k', isk', hh⟩ := ua es[x] (Array.getElem_mem lt)
    rw [knd.inj _ _ _ isk' isk] at hh
    obtain ⟨y, hy, run⟩ := each x k v s' kv' hj
    show wpAny _ _ (holding [es[x].key, es[x].val] _ >>= _) _ _ _
    rw [hh]
    refine wpAny_bind (wpAny_holding (wpAny_bind (wpAny_dictFind_of isk g2 db ub ?_)))
    cases fj : et.findIdx? fun e => knd.is k e.key with
    | none =>
      rw [← look k, findBy_of_findIdx?, fj] at hy
      exact nomatch hy
    | some j =>
      obtain ⟨lj, _, _⟩ := Array.findIdx?_eq_some_iff_getElem.mp fj
      have ev : et[j].val = y := by
        rw [← look k, findBy_of_findIdx?, fj] at hy
        simpa [Array.getElem?_eq_getElem lj] using hy
      refine wpAny_bind (wpAny_dictEntries g2 db ?_)
      rw [Array.getElem?_eq_getElem lj]
      rw [← ev, ← isv] at run
      refine wpAny_holding (wpAny_mono run (fun r s2 z => ?_) fun _ _ z => z)
      obtain ⟨rfl, hj2⟩ := z
      obtain ⟨g1, g2⟩ := at_ _ _ hj2
      show wpAny _ _ (if (!true) = true then _ else _) _ _ _
      rw [if_neg (by decide)]
      refine wpAny_bind (wpAny_dictEpoch g1 da ?_)
      rw [if_neg (by simp)]
      exact wpAny_pure ⟨rfl, x + 1, hrest, lt, hj2⟩
  · rintro q s' ⟨rfl, i, hr, hi, hj⟩
    have e : i = es.size := Nat.le_antisymm hi (Nat.le_of_not_lt fun z => by
      rw [show es.size - i = (es.size - (i + 1)) + 1 by omega, List.range'_succ] at hr
      exact nomatch hr)
    exact wpAny_pure (done s' (by rw [za, ← e]; exact hj))
theorem eqd {a b : Addr} {Q : Value → Shared → Prop} (ta : s.TypeIs (.ref a) "dict") (tb : s.TypeIs (.ref b) "dict") (hu : A.units < cLine)
    (h : ∀ nm, wpAny (model prog w) A.in1 (Builtin.Dict.samePairs nm a b) (fun r s' => Q (.bool r) s') E s) : wpAny (model prog w) A (richCompare .Eq (.ref a) (.ref b)) Q E s := by
  refine wpAny_richCompare_same_room (op := .Eq) ta tb PySem.F.slot_dict_eq (wpAny_call_entry PySem.F.slot_dict_eq ta PySem.F.entry_dict_eq ?_ (PySem.F.args_dict_eq_2 _ _)) hu
  (show wpAny _ _ (Builtin.Dict.dictSlotArgs "__eq__" ⟨[.ref a, .ref b], []⟩ >>= _) _ _ s; refine wpAny_bind ?_; unfold Builtin.Dict.dictSlotArgs)
  refine wpAny_bind (wpAny_notOrdered_dict ta ?_)
  (show wpAny _ _ (pure (Value.ref a, Value.ref b)) _ _ s; refine wpAny_pure (wpAny_bind (wpAny_isInstance (T := "dict") tb PySem.F.sub_dict_dict ?_)))
  (simp only [Bool.not_true, Bool.false_eq_true, if_false]; refine wpAny_bind (wpAny_pure (wpAny_bind (wpAny_pure (wpAny_bind (wpAny_mono (h _) (fun r s' q => ?_) fun _ _ z => z))))))
  refine wpAny_pure ⟨_, rfl, (fun x => nomatch x), ?_⟩
  simpa using q
theorem ned {a b : Addr} {Q : Value → Shared → Prop} (ta : s.TypeIs (.ref a) "dict") (tb : s.TypeIs (.ref b) "dict") (hu : A.units < cLine)
    (h : ∀ nm, wpAny (model prog w) A.in1 (Builtin.Dict.samePairs nm a b) (fun r s' => Q (.bool (!r)) s') E s) : wpAny (model prog w) A (richCompare .NotEq (.ref a) (.ref b)) Q E s := by
  refine wpAny_richCompare_same_room (op := .NotEq) ta tb PySem.F.slot_dict_ne (wpAny_call_entry PySem.F.slot_dict_ne ta PySem.F.entry_dict_ne ?_ (PySem.F.args_dict_ne_2 _ _)) hu
  (show wpAny _ _ (Builtin.Dict.dictSlotArgs "__ne__" ⟨[.ref a, .ref b], []⟩ >>= _) _ _ s; refine wpAny_bind ?_; unfold Builtin.Dict.dictSlotArgs)
  refine wpAny_bind (wpAny_notOrdered_dict ta ?_)
  (show wpAny _ _ (pure (Value.ref a, Value.ref b)) _ _ s; refine wpAny_pure (wpAny_bind (wpAny_isInstance (T := "dict") tb PySem.F.sub_dict_dict ?_)))
  (simp only [Bool.not_true, Bool.false_eq_true, if_false]; refine wpAny_bind (wpAny_pure (wpAny_bind (wpAny_pure (wpAny_bind (wpAny_mono (h _) (fun r s' q => ?_) fun _ _ z => z))))))
  refine wpAny_pure ⟨_, rfl, (fun x => nomatch x), ?_⟩
  cases r <;> exact q
end
end DeG
theorem kv_get {ka : List (Key × V)} {va : List (Key × Value)} (r : KV ka va) : ∀ {i : Nat} {p : Key × V} {q : Key × Value}, ka[i]? = some p → va[i]? = some q → p.1 = q.1 ∧ RelV p.2 q.2 := by
  unfold KV at r
  induction r with
  | nil => intro i p q h; simp at h
  | cons h t ih =>
    intro i p q h1 h2
    cases i with
    | zero => simp at h1 h2; subst h1 h2; exact h
    | succ i => simp at h1 h2; exact ih h1 h2
/-- the abstract heap without two of its things -/
def hide2 (H : Hp) (a b : Addr) : Hp := fun c => if c = a ∨ c = b then none else H c
theorem ext_hide {H H' : Hp} {a b : Addr} (h : ∀ c, c ≠ a → c ≠ b → H' c = H c) : Ext (hide2 H a b) H' := fun c o e => by
  unfold hide2 at e
  split at e
  · cases e
  · rename_i q
    rw [h c (fun z => q (.inl z)) (fun z => q (.inr z))]
    exact e
def DDict (D : Eqv) : Eqv := fun x y H => ∃ (a b : Addr) (ka kb : List (Key × V)), x = .ref a ∧ y = .ref b ∧ a ≠ b ∧ H a = some (.dK ka) ∧ H b = some (.dK kb) ∧ ka.length = kb.length ∧ ∀ (i : Nat) (k : Key) (v : V), ka[i]? = some (k, v) → ∃ u, valV kb k = some u ∧ D v u (hide2 H a b)
section
variable {X : Cx} {n : Nat} {D : Eqv}
theorem dict_run (hD : Mon D) (h : EqG X n D) {A : Around} {pins : List (Addr × Obj)} {s : Shared} {σ : St} {H : Hp} {a b : Addr} {ka kb : List (Key × V)} (sb : Sub X (n + 1) A) (I : Inv X pins σ H s) (ne : a ≠ b) (ha : H a = some (.dK ka)) (hb : H b = some (.dK kb)) (hl : ka.length = kb.length)
    (hv : ∀ (i : Nat) (k : Key) (v : V), ka[i]? = some (k, v) → ∃ u, valV kb k = some u ∧ D v u (hide2 H a b)) (nm : String) :
    s.TypeIs (.ref a) "dict" ∧ s.TypeIs (.ref b) "dict" ∧ wpAny (model X.prog X.w) A.in1 (Builtin.Dict.samePairs nm a b) (fun r s' => r = true ∧ ∃ H', Inv X pins σ H' s' ∧ Ext H H') X.xe s := by
  obtain ⟨od, I1⟩ := I.lock ha trivial
  obtain ⟨ob, I2⟩ := I1.lock (show upd H a (.frz od (.dK ka)) b = some (.dK kb) by rw [upd_ne (Ne.symm ne)]; exact hb) trivial
  have ea : upd (upd H a (.frz od (.dK ka))) b (.frz ob (.dK kb)) a = some (.frz od (.dK ka)) := by rw [upd_ne ne, upd_same]
  have eb : upd (upd H a (.frz od (.dK ka))) b (.frz ob (.dK kb)) b = some (.frz ob (.dK kb)) := upd_same
  generalize hH : upd (upd H a (.frz od (.dK ka))) b (.frz ob (.dK kb)) = H0 at I2 ea eb
  obtain ⟨ga, xa⟩ := (show ObjOk X.prog X.w H0 s.heap a (.frz od (.dK ka)) from I2.hok a _ ea)
  obtain ⟨gb, xb⟩ := (show ObjOk X.prog X.w H0 s.heap b (.frz ob (.dK kb)) from I2.hok b _ eb)
  obtain ⟨_, na, va, ra, dA⟩ := (show ObjOk X.prog X.w H0 s.heap a (.dK ka) from xa)
  obtain ⟨_, nb, vb, rb, dB⟩ := (show ObjOk X.prog X.w H0 s.heap b (.dK kb) from xb)
  refine ⟨dA.typeIs, dB.typeIs, ?_⟩
  obtain ⟨o1, es, p1, g1, _, d1, u1, w1, _⟩ := dA
  obtain ⟨o2, et, p2, g2, _, d2, u2, w2, _⟩ := dB
  rw [ga] at g1
  rw [gb] at g2
  (cases g1; cases g2)
  have up : Ext (hide2 H a b) H0 := ext_hide fun c h1 h2 => by rw [← hH, upd_ne h2, upd_ne h1]
  refine DeG.pairs na nb d1 d2 u1 u2 w1 w2 (by rw [← ra.length, ← rb.length]; exact hl) (fun _ s' => LoopI X pins σ H0 s') (fun i s' ⟨H', I', e'⟩ => ?_) (fun i k v s' hi ⟨H', I', e'⟩ => ?_) ⟨H0, I2, Ext.rfl'⟩ (fun s' ⟨H', I', e'⟩ => ⟨rfl, ?_⟩)
  · exact ⟨(show ObjOk X.prog X.w H' s'.heap a (.frz od (.dK ka)) from I'.hok a _ (e' _ _ ea)).1, (show ObjOk X.prog X.w H' s'.heap b (.frz ob (.dK kb)) from I'.hok b _ (e' _ _ eb)).1⟩
  · have li : i < ka.length := by rw [ra.length]; exact (List.getElem?_eq_some_iff.mp hi).1
    obtain ⟨⟨k0, x⟩, hx⟩ : ∃ p, ka[i]? = some p := ⟨_, List.getElem?_eq_getElem li⟩
    obtain ⟨k1, r1⟩ := kv_get ra hx hi
    obtain rfl : k0 = k := k1
    obtain ⟨u, hu, hd⟩ := hv i k0 x hx
    have rr : RelO (some u) (valueAt vb k0) := by rw [← hu]; exact rb.val k0
    obtain ⟨y, hy, ry⟩ := rr.some_of
    refine ⟨y, hy, wpAny_mono (h A.in1 pins s' σ H' x u v y sb.in1 I' r1 ry (hD _ _ _ _ e' (hD _ _ _ _ up hd))) (fun r s2 z => ?_) fun _ _ z => z⟩
    obtain ⟨rfl, H2, I3, e2⟩ := z
    exact ⟨rfl, H2, I3, e'.trans e2⟩
  · have f1 : H' b = some (.frz ob (.dK kb)) := e' _ _ eb
    have f2 : upd H' b (.dK kb) a = some (.frz od (.dK ka)) := by rw [upd_ne ne]; exact e' _ _ ea
    refine ⟨_, (I'.unlock f1 (I.nofrz hb trivial)).unlock f2 (I.nofrz ha trivial), fun c o e => ?_⟩
    by_cases c1 : c = a
    · rw [c1, upd_same, ← ha, ← c1]; exact e
    · rw [upd_ne c1]
      by_cases c2 : c = b
      · rw [c2, upd_same, ← hb, ← c2]; exact e
      · rw [upd_ne c2]
        exact e' _ _ (by rw [← hH, upd_ne c2, upd_ne c1]; exact e)
theorem rcG_dict (hD : Mon D) (h : EqG X n D) : RcG X (n + 1) (DDict D) := by
  intro A pins s σ H x y u v sb I rx ry d
  obtain ⟨a, b, ka, kb, rfl, rfl, ne, ha, hb, hl, hv⟩ := d
  (cases rx; cases ry)
  obtain ⟨ta, tb, _⟩ := dict_run hD h sb I ne ha hb hl hv ""
  refine DeG.eqd ta tb sb.room.units0 fun nm => wpAny_mono (dict_run hD h sb I ne ha hb hl hv nm).2.2 (fun r s' z => ?_) fun _ _ z => z
  obtain ⟨rfl, q⟩ := z
  exact ⟨rfl, q⟩
theorem rnG_dict (hD : Mon D) (h : EqG X n D) : RnG X (n + 1) (DDict D) := by
  intro A pins s σ H x y u v sb I rx ry d
  obtain ⟨a, b, ka, kb, rfl, rfl, ne, ha, hb, hl, hv⟩ := d
  (cases rx; cases ry)
  obtain ⟨ta, tb, _⟩ := dict_run hD h sb I ne ha hb hl hv ""
  refine DeG.ned ta tb sb.room.units0 fun nm => wpAny_mono (dict_run hD h sb I ne ha hb hl hv nm).2.2 (fun r s' z => ?_) fun _ _ z => z
  obtain ⟨rfl, q⟩ := z
  exact ⟨rfl, q⟩
theorem mon_dict (hD : Mon D) : Mon (DDict D) := fun x y H H' e d => by
  obtain ⟨a, b, ka, kb, hx, hy, ne, ha, hb, hl, hv⟩ := d
  refine ⟨a, b, ka, kb, hx, hy, ne, e _ _ ha, e _ _ hb, hl, fun i k v hi => ?_⟩
  obtain ⟨u, hu, hd⟩ := hv i k v hi
  refine ⟨u, hu, hD _ _ _ _ (fun c o q => ?_) hd⟩
  unfold hide2 at q ⊢
  split at q
  · cases q
  · rename_i z
    rw [if_neg z]
    exact e _ _ q
theorem eqG_dict (hD : Mon D) (h : EqG X n D) : EqG X (n + 1) (DDict D) := (rcG_dict hD h).eqG fun _ _ _ d => let ⟨a, b, _, _, hx, hy, _⟩ := d; ⟨a, b, hx, hy⟩
end
/-! ### what stays: all but lists and dicts -/
def Soft : HO → Bool
  | .lst _ => true
  | .dK _ => true
  | .dT _ => true
  | _ => false
def Keep (H H' : Hp) : Prop := ∀ b o, H b = some o → Soft o = false → H' b = some o
theorem Keep.refl (H : Hp) : Keep H H := fun _ _ h _ => h
theorem Keep.trans {H H1 H2 : Hp} (a : Keep H H1) (b : Keep H1 H2) : Keep H H2 := fun c o h s => b c o (a c o h s) s
theorem Same.keep {H H' : Hp} (e : Same H H') : Keep H H' := fun b o h _ => e b o h
theorem keep_upd {H : Hp} {a : Addr} {o o' : HO} (h : H a = some o) (s : Soft o = true) : Keep H (upd H a o') := fun b u e su => by
  by_cases z : b = a
  · rw [z, h] at e
    cases e
    rw [s] at su
    cases su
  · rw [upd_ne z]
    exact e
theorem keep_hide {H : Hp} {a b : Addr} {o o' : HO} (h : H a = some o) (s : Soft o = true) (h' : H b = some o') (s' : Soft o' = true) : Keep H (hide2 H a b) := fun c u e su => by
  unfold hide2
  by_cases z : c = a ∨ c = b
  · rcases z with z | z
    · rw [z, h] at e
      cases e
      rw [s] at su
      cases su
    · rw [z, h'] at e
      cases e
      rw [s'] at su
      cases su
  · rw [if_neg z]
    exact e
theorem SqT.keep {K : PySem.W.Frag} {H H' : Hp} {a : Addr} {xs : List V} (h : SqT K H a xs) (e : Keep H H') : SqT K H' a xs :=
  h.elim (fun h => .inl (h.elim (fun h => .inl (e _ _ h rfl)) fun ⟨o, h⟩ => .inr ⟨o, e _ _ h rfl⟩)) fun h => .inr h
theorem SqT.same {K : PySem.W.Frag} {H H' : Hp} {a : Addr} {xs : List V} (h : SqT K H a xs) (e : Same H H') : SqT K H' a xs := SqT.keep h (Same.keep e)
theorem SqL.same {K : PySem.W.Frag} {H H' : Hp} {a : Addr} {xs : List V} (h : SqL K H a xs) (e : Same H H') : SqL K H' a xs :=
  h.elim (fun h => .inl (h.elim (fun h => .inl (e _ _ h)) fun ⟨o, h⟩ => .inr ⟨o, e _ _ h⟩)) fun h => .inr h
theorem same_upd {H H' : Hp} {a : Addr} {o : HO} (e : Same H H') (h : H a = none) : Same H (upd H' a o) := fun b u q => by
  rw [upd_ne (ne_of_none q h)]
  exact e b u q
theorem Paired.at_ {α β : Type} {F : α → β → Prop} : ∀ {xs : List α} {ys : List β} {i : Nat} {x : α} {y : β}, Paired F xs ys → xs[i]? = some x → ys[i]? = some y → F x y
  | _, _, _, _, _, .nil, h, _ => by simp at h
  | _, _, 0, _, _, .cons r _, h, h' => by simp at h h'; rw [← h, ← h']; exact r
  | _, _, i + 1, _, _, .cons _ t, h, h' => Paired.at_ (i := i) t (by simpa using h) (by simpa using h')
theorem Paired.some {α β : Type} {F : α → β → Prop} : ∀ {xs : List α} {ys : List β} {i : Nat} {x : α}, Paired F xs ys → xs[i]? = some x → ∃ y, ys[i]? = some y ∧ F x y
  | _, _, _, _, .nil, h => by simp at h
  | _, _, 0, _, .cons r _, h => by simp at h; exact ⟨_, rfl, h ▸ r⟩
  | _, _, i + 1, _, .cons _ t, h => by
    obtain ⟨y, h1, h2⟩ := Paired.some (i := i) t (by simpa using h)
    exact ⟨y, by simpa using h1, h2⟩
theorem Paired.take {α β : Type} {F : α → β → Prop} : ∀ {xs : List α} {ys : List β} (n : Nat), Paired F xs ys → Paired F (xs.take n) (ys.take n)
  | _, _, 0, _ => .nil
  | _, _, _ + 1, .nil => .nil
  | _, _, n + 1, .cons r t => .cons r (Paired.take n t)
theorem Paired.drop {α β : Type} {F : α → β → Prop} : ∀ {xs : List α} {ys : List β} (n : Nat), Paired F xs ys → Paired F (xs.drop n) (ys.drop n)
  | _, _, 0, r => r
  | _, _, _ + 1, .nil => .nil
  | _, _, n + 1, .cons _ t => Paired.drop n t
theorem Paired.app {α β : Type} {F : α → β → Prop} : ∀ {xs xs' : List α} {ys ys' : List β}, Paired F xs ys → Paired F xs' ys' → Paired F (xs ++ xs') (ys ++ ys')
  | _, _, _, _, .nil, s => s
  | _, _, _, _, .cons r t, s => .cons r (Paired.app t s)
theorem Paired.set {α β : Type} {F : α → β → Prop} {x : α} {y : β} (r : F x y) : ∀ {xs : List α} {ys : List β} (i : Nat), Paired F xs ys → Paired F (xs.set i x) (ys.set i y)
  | _, _, _, .nil => .nil
  | _, _, 0, .cons _ t => .cons r t
  | _, _, i + 1, .cons q t => .cons q (Paired.set r i t)
theorem Paired.imp {α β : Type} {F G : α → β → Prop} (h : ∀ a b, F a b → G a b) : ∀ {xs : List α} {ys : List β}, Paired F xs ys → Paired G xs ys
  | _, _, .nil => .nil
  | _, _, .cons r t => .cons (h _ _ r) (Paired.imp h t)
/-! ### a for over a list, any target; comprehensions over a list -/
section
variable {σ : St} {H H1 : Hp} {g : TG} {tb : TS} {nx : St → Hp → Prop} {rt : VK} {bk ct : St → Hp → Prop} {K : PySem.W.Frag} {a : Addr} {xs : List V} {wi : TI} {tt : TT} {te : TE} {vs : List Nat} {Q : VK}
theorem for_lstG (Pv : Nat → St → Hp → Prop) (h0 : Pv 0 σ H) (hl : ∀ i σ H, i ≤ xs.length → Pv i σ H → SqL K H a xs) (hs : ∀ i x σ H, xs[i]? = some x → Pv i σ H → g x σ H fun σ2 H2 => tb ⟨Pv (i + 1), rt, nx, Pv (i + 1)⟩ σ2 H2) (hd : ∀ σ H, Pv xs.length σ H → nx σ H) :
    forR (Itl K a) g tb ⟨nx, rt, bk, ct⟩ σ H := by
  refine ⟨fun i m σ H => m = xs.length - i ∧ i ≤ xs.length ∧ Pv i σ H, ⟨xs.length, by simp, Nat.zero_le _, h0⟩, ?_⟩
  rintro i m σ H ⟨rfl, hi, p⟩
  have q := hl i σ H hi p
  by_cases lt : i < xs.length
  · refine .inr ⟨⟨xs, xs[i], q, by simp [lt]⟩, Pv (i + 1), fun σ' H' p' => ⟨xs.length - (i + 1), by omega, rfl, lt, p'⟩, fun x H' y => ?_⟩
    obtain ⟨rfl, y⟩ := y
    exact hs i x σ H' (y xs q) p
  · obtain rfl : i = xs.length := by omega
    exact .inl ⟨⟨xs, q, Nat.le_refl _⟩, hd σ H p⟩
def lcR (J : It) (g : TG) (tt : TT) (te : TE) (vs : List Nat) (σ : St) (H1 : Hp) (Q : VK) : Prop := ∀ D, H1 D = none → ∃ W : Nat → Nat → Hp → Prop, (∃ m, W 0 m (upd H1 D (.lst []))) ∧ ∀ i m H, W i m H → (J.stop i H ∧ Q (.ref D) H) ∨
  (J.go i H ∧ ∃ N : Hp → Prop, (∀ H', N H' → ∃ m', m' < m ∧ W (i + 1) m' H') ∧ ∀ x H', J.yld i H x H' → g x (wipe σ vs) H' fun σ2 H2 => wipe σ2 vs = wipe σ vs ∧ tt σ2 H2 fun b H3 =>
    if b = true then te σ2 H3 fun y H4 => ∃ acc, H4 D = some (.lst acc) ∧ acc.length < sizeLine ∧ N (upd H4 D (.lst (acc ++ [y]))) else N H3)
theorem r_lc (h : wi σ H fun J H1 => lcR J g tt te vs σ H1 Q) : tLc wi g tt te vs σ H Q := h
/-- behind a turn of a comprehension -/
def LcN (H1 : Hp) (D : Addr) (Pv : Nat → List V → Hp → Prop) (i : Nat) (H : Hp) : Prop := Same H1 H ∧ ∃ acc, acc.length ≤ i ∧ H D = some (.lst acc) ∧ Pv i acc H
theorem lc_add {Pv : Nat → List V → Hp → Prop} {D : Addr} {i : Nat} {acc : List V} {y : V} {H4 : Hp} (hD : H1 D = none) (hS : Same H1 H) (s : Same H H4) (ha : H D = some (.lst acc)) (hl : acc.length ≤ i) (hi : i < 100000) (p : Pv (i + 1) (acc ++ [y]) (upd H4 D (.lst (acc ++ [y])))) :
    ∃ acc, H4 D = some (.lst acc) ∧ acc.length < sizeLine ∧ LcN H1 D Pv (i + 1) (upd H4 D (.lst (acc ++ [y]))) :=
  ⟨acc, s _ _ ha, by rw [sizeLine_eq]; omega, same_upd (hS.trans s) hD, _, by rw [List.length_append, List.length_singleton]; omega, upd_same, p⟩
theorem lc_skip {Pv : Nat → List V → Hp → Prop} {D : Addr} {i : Nat} {acc : List V} {H4 : Hp} (hS : Same H1 H) (s : Same H H4) (ha : H D = some (.lst acc)) (hl : acc.length ≤ i) (p : Pv (i + 1) acc H4) : LcN H1 D Pv (i + 1) H4 :=
  ⟨hS.trans s, acc, Nat.le_succ_of_le hl, s _ _ ha, p⟩
/-- [te for g in xs if tt]: what holds of the part taken -/
theorem lc_lst (hl : SqL K H1 a xs) (hz : xs.length ≤ 100000) (Pv : Nat → List V → Hp → Prop) (h0 : ∀ D, H1 D = none → Pv 0 [] (upd H1 D (.lst [])))
    (hs : ∀ D i x acc H, H1 D = none → xs[i]? = some x → i < 100000 → Same H1 H → H D = some (.lst acc) → acc.length ≤ i → Pv i acc H → g x (wipe σ vs) H fun σ2 H2 => wipe σ2 vs = wipe σ vs ∧ tt σ2 H2 fun b H3 =>
      if b = true then te σ2 H3 fun y H4 => ∃ acc, H4 D = some (.lst acc) ∧ acc.length < sizeLine ∧ LcN H1 D Pv (i + 1) (upd H4 D (.lst (acc ++ [y]))) else LcN H1 D Pv (i + 1) H3)
    (hd : ∀ D acc H, H1 D = none → Same H1 H → H D = some (.lst acc) → Pv xs.length acc H → Q (.ref D) H) : lcR (Itl K a) g tt te vs σ H1 Q := by
  intro D hD
  refine ⟨fun i m H => m = xs.length - i ∧ i ≤ xs.length ∧ LcN H1 D Pv i H, ⟨xs.length, by simp, Nat.zero_le _, same_new hD, [], Nat.le_refl _, upd_same, h0 D hD⟩, ?_⟩
  rintro i m H ⟨rfl, hi, hS, acc, ha, hD2, p⟩
  have q := SqL.same hl hS
  by_cases lt : i < xs.length
  · refine .inr ⟨⟨xs, xs[i], q, by simp [lt]⟩, LcN H1 D Pv (i + 1), fun H' p' => ⟨xs.length - (i + 1), by omega, rfl, lt, p'⟩, fun x H' y => ?_⟩
    obtain ⟨rfl, y⟩ := y
    exact hs D i x acc H' hD (y xs q) (by omega) hS hD2 ha p
  · obtain rfl : i = xs.length := by omega
    exact .inl ⟨⟨xs, q, Nat.le_refl _⟩, hd D acc H hD hS hD2 p⟩
end
/-! ### more steps of a reading -/
section
variable {σ : St} {H : Hp} {K : PySem.W.Frag} {a : Addr} {xs : List V} {g : TG} {gs : TGs} {N : St → Hp → Prop} {Q : VK} {v : V} {n i : Nat} {te : TE} {ts : List TE} {acc : Str} {J : Str → Hp → Prop}
theorem r_gname (h : N (σ.set i (some v)) H) : gName i v σ H N := h
theorem r_gnil (h : N σ H) : gNil [] σ H N := ⟨rfl, h⟩
theorem r_gcons {vs : List V} (h : g v σ H fun σ' H' => gs vs σ' H' N) : gCons g gs (v :: vs) σ H N := ⟨v, vs, rfl, h⟩
theorem r_gtup (hs : SqT K H a xs) (hn : xs.length = n) (h : gs xs σ H N) : gTup K n gs (.ref a) σ H N := ⟨a, xs, rfl, hs, hn, h⟩
theorem r_jnil (h : J acc H) : tJs [] acc σ H J := h
theorem r_jcons (h : te σ H fun x H1 => ∃ y : Str, x = .str y ∧ (acc ++ y).length ≤ sizeLine ∧ tJs ts (acc ++ y) σ H1 J) : tJs (te :: ts) acc σ H J := h
theorem r_jstr {y : Str} (hz : (acc ++ y).length ≤ sizeLine) (h : tJs ts (acc ++ y) σ H J) : tJs (tC (.str y) :: ts) acc σ H J := ⟨y, rfl, hz, h⟩
theorem r_jvar {y : Str} (e : σ[i]? = some (some (.str y))) (hy : y.length ≤ sizeLine) (hz : (acc ++ y).length ≤ sizeLine) (h : tJs ts (acc ++ y) σ H J) : tJs (tFmt (tVar i) :: ts) acc σ H J := ⟨_, e, .inl ⟨y, rfl, hy, y, rfl, hz, h⟩⟩
theorem r_fmt (h : te σ H fun x H1 => (∃ y : Str, x = .str y ∧ y.length ≤ sizeLine ∧ Q (.str y) H1) ∨ ∃ i : Int, x = .int i ∧ i.natAbs.log2 < 1920 ∧ Q (.str (toString i)) H1) : tFmt te σ H Q := h
theorem r_fmtS {y : Str} {R : V → Prop} (hy : y.length ≤ sizeLine) (h : R (.str y)) : (∃ z : Str, V.str y = .str z ∧ z.length ≤ sizeLine ∧ R (.str z)) ∨ ∃ i : Int, V.str y = .int i ∧ i.natAbs.log2 < 1920 ∧ R (.str (toString i)) := .inl ⟨y, rfl, hy, h⟩
theorem r_dnew (h : ∀ p, H p = none → Q (.ref p) (upd H p (.dK []))) : tDNewK σ H Q := h
theorem r_dput {td ty tv : TE} {nx : St → Hp → Prop} {rt : VK} {bk ct : St → Hp → Prop} (h : tv σ H fun v H1 => td σ H1 fun x H2 => ty σ H2 fun y H3 => ∃ a H4, x = .ref a ∧ DPut H3 a y v H4 ∧ nx σ H4) : sDPut td ty tv ⟨nx, rt, bk, ct⟩ σ H := h
theorem sapp_len (x y : Str) : (x ++ y).length = x.length + y.length := by simp [Str.length, Str.cps_append]
theorem sapp_nil (x : Str) : Str.empty ++ x = x := by
  show Str.mk (Str.empty.cps ++ x.cps) = x
  simp [Str.empty]
end
/-! ### sorted(xs, key=f) by an own def -/
def rSortK (K : PySem.W.Frag) (f : Addr) (sp : Sp) : List V → List V → Hp → VK → Prop := fun vs zs H Q => ∃ (a : Addr) (bs : List VD), vs = [.ref a] ∧ zs = [.ref f] ∧ SqL K H a (bs.map (·.1)) ∧ (∀ b ∈ bs, b.2.depth ≤ 8) ∧ PySem.W.AllAlike (bs.map (·.2)) ∧ PySem.W.Sortable (bs.map (·.2)) ∧
  ∃ J : Nat → List V → Hp → Prop, J 0 [] H ∧ (∀ i b ys H', bs[i]? = some b → J i ys H' → sp [b.1] H' (fun y H'' => J (i + 1) (ys ++ [y]) H'') fun _ _ _ => False) ∧
    ∀ ys H', J bs.length ys H' → DatsV K H' ys (bs.map (·.2)) ∧ ∀ p, H' p = none → Q (.ref p) (upd H' p (.lst ((sortD bs).map (·.1))))
section
open PySem.W PyProof.Rows
variable {X : Cx} {k : Nat} {f g : Addr} {fd : FuncData} {ps : List Str} {sp : Sp}
theorem run_in2 {pins : List (Addr × Obj)} {σ : L2.St} {H : Hp} {s : Shared} {Q : VK} {us : List Value} {vs : List V} {E : XK} (F : FnOk X.prog X.w X.K X.mg X.base CX0 k g fd ps sp) (room : Room (k + 2) X.A) (bd : Binds X.K fd ps [])
    (I : Inv X pins σ H s) (r : Vals vs us) (h : sp vs H Q E) : wpAny (model X.prog X.w) X.A.in1.in1 (call (.ref g) us) (EP X pins σ Q) (fun _ _ => False) s := by
  have hl : (us ++ []).length = ps.length := by rw [List.append_nil, ← r.length]; exact F.len _ _ _ _ h
  have b := bd s us I.kIn hl
  rw [List.append_nil] at b
  refine wpAny_call (codeAny_mono (F.run X.A.in1.in1 X.stack s H ⟨us, []⟩ us vs Q E (Room.in1 (Room.in1 room)) I.env0.in1.in1 b r h) fun r s' z => ?_)
  match r, z with
  | .error e, z => exact z.elim
  | .ok (.ret u), z => exact I.after z
  | .ok .next, z => exact z.elim
  | .ok .brk, z => exact z.elim
  | .ok .cont, z => exact z.elim
/-- a pinned record of our own is written -/
theorem inv_pinned {pins : List (Addr × Obj)} {σ : L2.St} {H : Hp} {s : Shared} {h' : Heap} {kS D : Addr} {o o' o2 : Obj} (I : Inv X (pins ++ [(kS, o), (D, o2)]) σ H s) (sb : Heap.SameBut kS s.heap h') (e : h'.get? kS = some o') (nc : ∀ v, o'.data ≠ .cell v)
    (hL : X.s_0.heap.objs.size ≤ kS) (hc : ∀ x c, X.env.cells.lookup x = some c → c ≠ kS) (hp : ∀ p ∈ X.pn ++ pins, p.1 ≠ kS) (hD : D ≠ kS) : Inv X (pins ++ [(kS, o'), (D, o2)]) σ H { s with heap := h' } := by
  have m1 : (kS, o) ∈ X.pn ++ (pins ++ [(kS, o), (D, o2)]) := List.mem_append_right _ (List.mem_append_right _ List.mem_cons_self)
  have m2 : (D, o2) ∈ X.pn ++ (pins ++ [(kS, o), (D, o2)]) := List.mem_append_right _ (List.mem_append_right _ (List.mem_cons_of_mem _ List.mem_cons_self))
  have q := I.pin _ m1
  have J : Inv X (pins ++ [(D, o2)]) σ H s := I.pins_of fun p hp => by
    rcases List.mem_append.mp hp with z | z
    · exact I.pin p (List.mem_append_right _ (List.mem_append_left _ z))
    · rw [List.mem_singleton] at z
      subst z
      exact I.pin _ m2
  have J2 := J.turned (it := kS) (h' := h') (t' := s.toks) (fun b ob hb e => (sb.2 b hb).trans e) q.2.1 q.2.2.1 (.inr hL) hc (fun p h => by
    rcases List.mem_append.mp h with z | z
    · exact hp p (List.mem_append_left _ z)
    · rcases List.mem_append.mp z with z | z
      · exact hp p (List.mem_append_right _ z)
      · rw [List.mem_singleton] at z
        subst z
        exact hD)
  refine J2.pins_of fun p hp => ?_
  rcases List.mem_append.mp hp with z | z
  · exact J2.pin p (List.mem_append_right _ (List.mem_append_left _ z))
  · rcases List.mem_cons.mp z with rfl | z
    · exact ⟨e, q.2.1, q.2.2.1, q.2.2.2.1, nc⟩
    · rw [List.mem_singleton] at z
      subst z
      exact J2.pin _ (List.mem_append_right _ (List.mem_append_right _ (List.mem_singleton.mpr rfl)))
theorem datsV_each {pins : List (Addr × Obj)} {σ : L2.St} {H : Hp} {s : Shared} (I : Inv X pins σ H s) : ∀ {ys : List V} {ds : List PyData} {us : List Value}, DatsV X.K H ys ds → Vals ys us → EachIs (fun u d => ∃ as, Reads s.heap u d as) us ds
  | [], _, _, h, r => by
    cases h
    cases r
    exact .nil
  | _ :: _, _, _, h, r => by
    cases h with
    | cons h1 h2 =>
      cases r with
      | cons r1 r2 => exact .cons (DatV.reads I _ _ _ h1 r1) (datsV_each I h2 r2)
theorem seq_nc {c : String} {xs : Array Value} {n : Nat} : ∀ v, (seqObj c xs n).data ≠ .cell v := fun v z => nomatch z
theorem cr_sortK (F : FnOk X.prog X.w X.K X.mg X.base CX0 k g fd ps sp) (room : Room (k + 2) X.A) (bd : Binds X.K fd ps []) : CallRK X (.builtin "sorted") [Str.ofString "key"] (rSortK X.K g sp) := by
  intro pins s σ H vs zs us ws Q I r rz h
  obtain ⟨a, bs, rfl, rfl, hs, hd, hal, hk, J, j0, js, jd⟩ := h
  obtain ⟨its, rv, hl, hz⟩ := I.list hs
  rw [Vals.ref1 r]
  obtain ⟨w1, rfl, e1⟩ := vals1 rz
  obtain rfl : w1 = Value.ref g := e1
  have hlen : its.length = bs.length := by rw [← rv.length, List.length_map]
  have hZ : its.length ≤ sizeLine := by rw [← rv.length]; exact hz
  refine sorted_of_sort hl.isList hZ (ksk_s1 _ _) (fun _ => ksk_l1 _ _) fun E' => ?_
  show wpAny _ _ (Builtin.«list.sort» ⟨[.ref (s.heap.objs.size + 1)], [(Str.ofString "key", .ref g)]⟩) _ _ _
  rw [ksk_t1]
  have ho := copyHeap_at s.heap its
  generalize hD : s.heap.objs.size + 1 = D at *
  have ltD : s.heap.objs.size < D := by omega
  generalize hh1 : copyHeap s.heap its = h1 at *
  have old1 : ∀ b o, s.heap.get? b = some o → h1.get? b = some o := fun b o e => by rw [← hh1]; exact copyHeap_old e
  have haD : D < h1.objs.size := Heap.lt_size ho
  obtain ⟨e1, ho1⟩ : ∃ e1, (h1.update D (Obj.mapSeq fun _ => (#[] : Array Value))).get? D = some (seqObj "list" #[] e1) := ⟨_, get?_update_seq ho fun _ => #[]⟩
  have hkS : ((h1.update D (Obj.mapSeq fun _ => (#[] : Array Value))).push (seqObj "tuple" its.toArray 0)).objs.size = h1.objs.size + 1 := by rw [size_push', Heap.size_update]
  unfold ksk_tree
  refine wpAny_bind (listItems_at ho rfl ?_)
  refine wpAny_bind (listUpdate_at ho rfl ?_ (by rw [List.size_toArray]; exact hZ) (Nat.zero_le _))
  refine wpAny_bind (seqEpoch_at ho1 rfl ?_)
  refine wpAny_bind (wpAny_newTuple ?_ (by show its.length ≤ _; exact hZ))
  refine wpAny_bind (wpAny_newList ?_ (Nat.zero_le _))
  refine wpAny_holding ?_
  have ltS : s.heap.objs.size < h1.objs.size + 1 := by omega
  have old3 : ∀ b o, s.heap.get? b = some o → (sortingHeap h1 D its).get? b = some o := fun b o e => sortingHeap_old (Nat.ne_of_lt (Nat.lt_trans (Heap.lt_size e) ltD)) (old1 b o e)
  have I3 : Inv X pins σ H { s with heap := sortingHeap h1 D its } := I.kept (t' := s.toks) old3
  have nk3 : (sortingHeap h1 D its).get? (h1.objs.size + 1) = some (seqObj "list" #[] 0) := by
    rw [← hkS]
    exact Heap.get?_push_size _ rfl
  have na3 : (sortingHeap h1 D its).get? D = some (seqObj "list" #[] e1) := Heap.get?_push_of_some _ (Heap.get?_push_of_some _ ho1)
  have new : ∀ b, s.heap.objs.size ≤ b → H b = none ∧ b ≠ X.env.locals ∧ b ∉ X.fs ∧ X.s_0.heap.objs.size ≤ b ∧ (∀ x c, X.env.cells.lookup x = some c → c ≠ b) ∧ ∀ p ∈ X.pn ++ pins, p.1 ≠ b := fun b hb =>
    ⟨I.hok.fresh hb, Nat.ne_of_gt (Nat.lt_of_lt_of_le I.lt hb), I.nofs hb, Nat.le_trans I.sz hb, fun x c e z => by
      obtain ⟨v, q⟩ := I.cell x c e
      exact absurd (Nat.lt_of_lt_of_le q.lt (by rw [z]; exact hb)) (Nat.lt_irrefl _), fun p hp z => absurd (Nat.lt_of_lt_of_le (Heap.lt_size (I.pin p hp).1) (by rw [z]; exact hb)) (Nat.lt_irrefl _)⟩
  obtain ⟨nD1, nD2, nD3, nD4, nD5, nD6⟩ := new D (Nat.le_of_lt ltD)
  obtain ⟨nS1, nS2, nS3, nS4, nS5, nS6⟩ := new (h1.objs.size + 1) (Nat.le_of_lt ltS)
  have hDS : D ≠ h1.objs.size + 1 := Nat.ne_of_lt (Nat.lt_succ_of_lt haD)
  have I4 : Inv X (pins ++ [(h1.objs.size + 1, seqObj "list" #[] 0), (D, seqObj "list" #[] e1)]) σ H { s with heap := sortingHeap h1 D its } := I3.pins_of fun p hp => by
    rcases List.mem_append.mp hp with z | z
    · exact I3.pin p (List.mem_append_right _ z)
    · rcases List.mem_cons.mp z with rfl | z
      · exact ⟨nk3, nS1, nS2, nS3, seq_nc⟩
      · rw [List.mem_singleton] at z
        subst z
        exact ⟨na3, nD1, nD2, nD3, seq_nc⟩
  rw [hkS]
  show wpAny _ _ (ksk_rest D (.ref g) false its.toArray e1 (.ref (h1.objs.size + 1))) _ _ { s with heap := sortingHeap h1 D its }
  generalize h1.objs.size + 1 = kS at *
  unfold ksk_rest
  refine wpAny_bind (wpAny_rule ?_)
  first
    | rw [List.forIn_toArray]
    | (rw [← Array.forIn_toList]; simp only [List.toList_toArray])
    | rw [← Array.forIn_toList]
  refine wpAny_bind (ksk_fold (fun i s' => ∃ kA e ys H', Inv X (pins ++ [(kS, seqObj "list" kA e), (D, seqObj "list" #[] e1)]) σ H' s' ∧ J i ys H' ∧ Vals ys kA.toList ∧ kA.size = i) its 0 _ ⟨#[], 0, [], H, I4, j0, .nil, rfl⟩ ?step ?done)
  case step =>
    rintro j x s' hx ⟨kA, e, ys, H', I', ji, rk, hsz⟩
    simp only [Nat.zero_add] at ji hsz ⊢
    have hj : j < bs.length := by rw [← hlen]; exact (List.getElem?_eq_some_iff.mp hx).1
    have hb : bs[j]? = some bs[j] := List.getElem?_eq_getElem hj
    have rx : RelV bs[j].1 x := by
      obtain ⟨u, e2, ru⟩ := rv.get (i := j) (x := bs[j].1) (by rw [List.getElem?_map, hb]; rfl)
      rw [hx] at e2
      cases e2
      exact ru
    refine wpAny_bind (wpAny_attempt (wpAny_mono (run_in2 (vs := [bs[j].1]) (us := [x]) F room bd I' (.cons rx .nil) (js j bs[j] ys H' hb ji)) (fun v s'' he => ?_) fun _ _ hF => hF.elim))
    obtain ⟨y, H'', I'', ry, jy⟩ := he
    try dsimp only
    have m1 : (kS, seqObj "list" kA e) ∈ X.pn ++ (pins ++ [(kS, seqObj "list" kA e), (D, seqObj "list" #[] e1)]) := List.mem_append_right _ (List.mem_append_right _ List.mem_cons_self)
    have nk2 := (I''.pin _ m1).1
    have s1 := Heap.SameBut.update s''.heap kS (Obj.mapSeq (·.push v))
    obtain ⟨c2, hc2⟩ : ∃ c2, (s''.heap.update kS (Obj.mapSeq (·.push v))).get? kS = some (seqObj "list" (kA.push v) c2) := ⟨_, get?_update_seq nk2 (·.push v)⟩
    have hz2 : kA.size ≤ sizeLine := by rw [hsz]; exact Nat.le_trans (Nat.le_of_lt (by rw [hlen]; exact hj)) hZ
    refine wpAny_bind (listUpdate_at nk2 rfl ?_ hz2 (Nat.le_trans (Nat.le_of_eq (Array.size_push ..)) (Nat.succ_le_succ hz2)))
    refine wpAny_pure ⟨rfl, kA.push v, c2, ys ++ [y], H'', inv_pinned I'' s1 hc2 seq_nc nS4 nS5 nS6 hDS, jy, ?_, by rw [Array.size_push, hsz]⟩
    rw [show (kA.push v).toList = kA.toList ++ [v] from by simp]
    exact rk.append (.cons ry .nil)
  case done =>
    rintro s' ⟨kA, e, ys, H', I', ji, rk, hsz⟩
    rw [Nat.zero_add, hlen] at ji hsz
    obtain ⟨jdat, jq⟩ := jd ys H' ji
    have m1 : (kS, seqObj "list" kA e) ∈ X.pn ++ (pins ++ [(kS, seqObj "list" kA e), (D, seqObj "list" #[] e1)]) := List.mem_append_right _ (List.mem_append_right _ List.mem_cons_self)
    have m2 : (D, seqObj "list" #[] e1) ∈ X.pn ++ (pins ++ [(kS, seqObj "list" kA e), (D, seqObj "list" #[] e1)]) := List.mem_append_right _ (List.mem_append_right _ (List.mem_cons_of_mem _ List.mem_cons_self))
    obtain ⟨nk, hkn, _⟩ := I'.pin _ m1
    obtain ⟨na, hDn, _⟩ := I'.pin _ m2
    have er := datsV_each I' jdat rk
    try dsimp only
    refine wpAny_bind (listItems_at nk rfl ?_)
    have hu : ∀ d, d ∈ bs.map (·.2) → X.A.in1.in1.units + d.depth < cLine := fun d hd2 => by
      obtain ⟨b, hb, rfl⟩ := List.mem_map.mp hd2
      have := hd b hb
      have := room.un
      show X.A.units + 1 + 1 + b.2.depth < _
      omega
    refine keyH_end (κ := dataKind s'.heap (bs.map (·.2))) (h₁ := hideAll s'.heap [kS]) (fun b o _ q => of_hideAll _ q) (hideAll_none _ List.mem_cons_self) nk na hDS.symm (SortsAt.data (s := s') er hal hk hu) (by rw [hsz, hlen]) hZ fun h' tk c k3 n3 => ⟨rfl, ?_⟩
    have ko : KeyedOut false (bs.map (·.2)) its (sortVals (dataKind s'.heap (bs.map (·.2))) false kA.toList its) := ⟨s'.heap, kA.toList, hal, rfl, er⟩
    have eo := keyedOut_each (R := fun u (b : VD) => RelV b.1 u) (fun b : VD => b.2) ko (each_vals rv)
    have kept : ∀ b o, b ≠ kS → b ≠ D → s'.heap.get? b = some o → h'.get? b = some o := fun b o h1 h2 q => k3 b o h2 (hideAll_get _ q (by simp [h1]))
    have lo : ((sortD bs).map (·.1)).length ≤ sizeLine := by
      rw [List.length_map, (sortD_perm bs).length_eq, ← hlen]
      exact hZ
    have trk : ∀ b u, H' b = some u → b ≠ kS ∧ b ≠ D := fun b u q => ⟨fun z => (by rw [z, hkn] at q; cases q), fun z => (by rw [z, hDn] at q; cases q)⟩
    have hP : ∀ p ∈ X.pn ++ pins, p.1 ≠ kS ∧ p.1 ≠ D := fun p hp => ⟨nS6 p hp, nD6 p hp⟩
    have I5 : Inv X pins σ H' s' := I'.pins_of fun p hp => I'.pin p (List.mem_append_right _ (List.mem_append_left _ hp))
    have gl : ∃ o, s'.heap.get? X.env.locals = some o := by
      obtain ⟨m, ⟨o, _, _, e, _⟩, _⟩ := I5.loc
      exact ⟨o, e⟩
    have fin := I5.step (g' := s'.gens) (d' := s'.drawn) (t' := tk) (h' := h') (H' := upd H' D (.lst ((sortD bs).map (·.1)))) (ch := [kS, D]) (fun b hb => by
        rcases List.mem_cons.mp hb with rfl | hb
        · exact ⟨.inr nS4, nS2, nS5, nS6⟩
        · rw [List.mem_singleton] at hb
          subst hb
          exact ⟨.inr nD4, nD2, nD5, nD6⟩)
      (fun b o _ _ hc q _ => kept b o (fun z => hc (by simp [z])) (fun z => hc (by simp [z])) q)
      (fun b o _ _ hc q _ => ⟨o.slots, kept b o (fun z => hc (by simp [z])) (fun z => hc (by simp [z])) q⟩)
      (fun b o hc q n => by rw [upd_ne (fun z => hc (by simp [z]))]; exact n)
      (fun b o hc q => ⟨o, kept b o (fun z => hc (by simp [z])) (fun z => hc (by simp [z])) q⟩)
      (fun b xs q => by rw [upd_ne (trk b _ q).2]; exact q) (fun b o u q => by rw [upd_ne (trk b _ q).2]; exact q) (fun b ps q => ⟨#[], by rw [upd_ne (trk b _ q).2, q]; simp⟩)
      (fun mm hm => by
        obtain ⟨o, es, ep, q, rest⟩ := hm
        exact ⟨o, es, ep, kept _ _ nS2.symm nD2.symm q, rest⟩)
      (fun b u q => by
        by_cases hb : b = D
        · rw [hb, upd_same] at q
          cases q
          rw [hb]
          exact ⟨lo, _, c, vals_each eo, n3⟩
        · rw [upd_ne hb] at q
          have st := I5.hok b u q
          refine st.stay (fun b2 v hb2 q2 => ?_) (fun b2 q2 => by rw [upd_ne (trk b2 _ q2).2]; exact q2) (fun b2 xs q2 => by rw [upd_ne (trk b2 _ q2).2]; exact q2)
          rcases hb2 with rfl | hb2
          · exact kept _ _ (trk _ _ q).1 (trk _ _ q).2 q2
          · exact kept _ _ (trk _ _ hb2).1 (trk _ _ hb2).2 q2) I5.bare
    exact ⟨.ref D, _, fin, rfl, jq D hDn⟩
end
theorem Room.units2 {k : Nat} {A : Around} (r : Room k A) : A.units + 65 < cLine := by have := r.un; omega
theorem op_inDK {X : Cx} {K : PySem.W.Frag} (h : X.K = K) (hu : X.A.units + 65 < cLine) : OpR X (compareOp .In) (rInD K) := by subst h; exact op_inD hu
theorem op_notInDK {X : Cx} {K : PySem.W.Frag} (h : X.K = K) (hu : X.A.units + 65 < cLine) : OpR X (compareOp .NotIn) (rNotInD K) := by subst h; exact op_notInD hu
/-! ### one step, at the goal's head -/
local macro_rules | `(tactic| walk_at "go1") => `(tactic| first
  | (with_reducible apply r_seq) | (with_reducible apply r_set) | (with_reducible apply r_if) | (with_reducible apply r_ret) | (with_reducible apply r_next)
  | (with_reducible apply r_op) | (with_reducible apply r_c) | ((with_reducible apply r_var); exact rfl) | (with_reducible apply r_consA) | (with_reducible apply r_nilA)
  | (with_reducible apply r_call) | (with_reducible apply r_callS) | (with_reducible apply r_CB) | (with_reducible apply r_I0) | (with_reducible apply r_test) | (with_reducible apply r_bl)
  | (with_reducible apply r_B) | (with_reducible apply r_un) | (with_reducible apply r_U) | ((with_reducible apply r_eq); exact rfl) | ((with_reducible apply r_ne); exact rfl)
  | (with_reducible apply r_and) | (with_reducible apply r_or) | (with_reducible apply r_not) | (with_reducible apply r_andV) | (with_reducible apply r_orV) | (with_reducible apply r_notV) | (with_reducible apply r_ifE)
  | (with_reducible apply r_asg) | (with_reducible apply r_sub) | (with_reducible apply r_par) | (with_reducible apply r_drop) | (with_reducible apply r_brk) | (with_reducible apply r_cont)
  | (with_reducible apply r_fld) | (with_reducible apply r_tup) | (with_reducible apply r_lst))
local macro_rules | `(tactic| walk_at "go") => `(tactic| repeat walk_at "go1")
local macro_rules | `(tactic| walk_at "go1") => `(tactic| first | (with_reducible apply r_make) | (with_reducible apply r_makeS))
local macro_rules | `(tactic| walk_at "go1") => `(tactic| first | (with_reducible apply r_for) | (with_reducible apply r_iRng1) | (with_reducible apply r_iList))
local macro_rules | `(tactic| walk_at "go1") => `(tactic| first | ((with_reducible apply r_ixL); exact SqL.of upd_same; exact rfl) | ((with_reducible apply r_ixT); exact SqT.of upd_same; exact rfl))
local macro_rules | `(tactic| walk_at "go2") => `(tactic| first | (refine Or.inl ⟨_, rfl, ?_⟩) | (refine ⟨_, rfl, ?_⟩) | (refine ⟨_, _, rfl, ?_⟩) | (refine ⟨_, _, rfl, rfl, ?_⟩))
local macro_rules | `(tactic| walk_at "go") => `(tactic| repeat first | walk_at "go1" | walk_at "go2")
local macro_rules | `(tactic| walk_at "go1") => `(tactic| ((with_reducible apply r_setL); exact upd_same; exact rfl))
local macro_rules | `(tactic| walk_at "go2") => `(tactic| (refine And.intro (by first | omega | (dsimp only; omega) | decide) ?_))
local macro_rules | `(tactic| walk_at "go1") => `(tactic| (with_reducible apply r_sfld))
local macro_rules | `(tactic| walk_at "go2") => `(tactic| (refine And.intro (show CPow _ _ from ⟨by decide, by decide, by decide⟩) ?_))
local macro_rules | `(tactic| walk_at "go2") => `(tactic| (refine And.intro (by assumption) ?_))
local macro_rules | `(tactic| walk_at "go1") => `(tactic| first | (with_reducible apply ite_nt) | (with_reducible apply ite_nf) | (with_reducible apply iteT) | (with_reducible apply iteF))
local macro_rules | `(tactic| walk_at "go1") => `(tactic| first | (with_reducible apply r_gname) | (with_reducible apply r_gcons) | (with_reducible apply r_gnil) | (with_reducible apply r_dput) | (with_reducible apply r_dnew) | (with_reducible apply r_lc) | (with_reducible apply r_fmt) | (with_reducible apply r_jnil) | (with_reducible apply r_jcons))
local macro_rules | `(tactic| walk_at "js") => `(tactic| repeat first | walk_at "go1" | (refine And.intro (by ((try dsimp only); (try simp only [sapp_nil, sapp_len]); omega)) ?_) | (refine ⟨_, rfl, (by ((try dsimp only); (try simp only [sapp_nil, sapp_len]); omega)), ?_⟩) | walk_at "go2")
/-! ### the text by places -/
def top (i : Nat) : Stmt := PySem.Challenge.pw_linkwork_k57_torn_systems.main.body.getD i (.Pass ⟨0, 0, 0, 0⟩)
abbrev s_Ratio___init__ : Stmt := inClass (top 7) 0
abbrev s_Ratio___eq__ : Stmt := inClass (top 7) 1
abbrev s_Ratio___add__ : Stmt := inClass (top 7) 2
abbrev s_Ratio___sub__ : Stmt := inClass (top 7) 3
abbrev s_Ratio___mul__ : Stmt := inClass (top 7) 4
abbrev s_Ratio___neg__ : Stmt := inClass (top 7) 5
abbrev s_torn : Stmt := top 9
abbrev s_best_tears : Stmt := top 10
abbrev s__used_columns : Stmt := top 11
abbrev s__pairs : Stmt := top 12
abbrev s__law_stream : Stmt := top 14
abbrev s__law_draw : Stmt := top 15
abbrev s__law_matrix : Stmt := top 16
abbrev s__law_part : Stmt := top 17
abbrev s__law_lowest : Stmt := top 18
abbrev s__law_sum : Stmt := top 19
abbrev s__law_times : Stmt := top 20
abbrev s__law_over : Stmt := top 21
abbrev s__law_ratios : Stmt := top 22
abbrev s__law_pairs : Stmt := top 23
abbrev s__law_left : Stmt := top 24
abbrev s__law_basis : Stmt := top 25
abbrev s__law_rank : Stmt := top 26
abbrev s__law_dot : Stmt := top 27
abbrev s__law_torn : Stmt := top 28
abbrev s__law_lists : Stmt := top 29
abbrev s__law_best : Stmt := top 30
abbrev s__law_told : Stmt := top 31
abbrev s_law : Stmt := top 32
/-! ### the head's facts -/
def d_Ratio___init__ : He.DefD := ⟨(("Ratio" : Str), some ("__init__" : Str)), ("__init__" : Str), ("Ratio.__init__" : Str), defArgs s_Ratio___init__, defBody s_Ratio___init__, defScope s_Ratio___init__, [(.int (1))], []⟩
def d_Ratio___eq__ : He.DefD := ⟨(("Ratio" : Str), some ("__eq__" : Str)), ("__eq__" : Str), ("Ratio.__eq__" : Str), defArgs s_Ratio___eq__, defBody s_Ratio___eq__, defScope s_Ratio___eq__, [], []⟩
def d_Ratio___add__ : He.DefD := ⟨(("Ratio" : Str), some ("__add__" : Str)), ("__add__" : Str), ("Ratio.__add__" : Str), defArgs s_Ratio___add__, defBody s_Ratio___add__, defScope s_Ratio___add__, [], []⟩
def d_Ratio___sub__ : He.DefD := ⟨(("Ratio" : Str), some ("__sub__" : Str)), ("__sub__" : Str), ("Ratio.__sub__" : Str), defArgs s_Ratio___sub__, defBody s_Ratio___sub__, defScope s_Ratio___sub__, [], []⟩
def d_Ratio___mul__ : He.DefD := ⟨(("Ratio" : Str), some ("__mul__" : Str)), ("__mul__" : Str), ("Ratio.__mul__" : Str), defArgs s_Ratio___mul__, defBody s_Ratio___mul__, defScope s_Ratio___mul__, [], []⟩
def d_Ratio___neg__ : He.DefD := ⟨(("Ratio" : Str), some ("__neg__" : Str)), ("__neg__" : Str), ("Ratio.__neg__" : Str), defArgs s_Ratio___neg__, defBody s_Ratio___neg__, defScope s_Ratio___neg__, [], []⟩
def d_torn : He.DefD := ⟨(("torn" : Str), none), ("torn" : Str), ("torn" : Str), defArgs s_torn, defBody s_torn, defScope s_torn, [], []⟩
def d_best_tears : He.DefD := ⟨(("best_tears" : Str), none), ("best_tears" : Str), ("best_tears" : Str), defArgs s_best_tears, defBody s_best_tears, defScope s_best_tears, [], []⟩
def d__used_columns : He.DefD := ⟨(("_used_columns" : Str), none), ("_used_columns" : Str), ("_used_columns" : Str), defArgs s__used_columns, defBody s__used_columns, defScope s__used_columns, [], []⟩
def d__pairs : He.DefD := ⟨(("_pairs" : Str), none), ("_pairs" : Str), ("_pairs" : Str), defArgs s__pairs, defBody s__pairs, defScope s__pairs, [], []⟩
def d__law_stream : He.DefD := ⟨(("_law_stream" : Str), none), ("_law_stream" : Str), ("_law_stream" : Str), defArgs s__law_stream, defBody s__law_stream, defScope s__law_stream, [], []⟩
def d__law_draw : He.DefD := ⟨(("_law_draw" : Str), none), ("_law_draw" : Str), ("_law_draw" : Str), defArgs s__law_draw, defBody s__law_draw, defScope s__law_draw, [], []⟩
def d__law_matrix : He.DefD := ⟨(("_law_matrix" : Str), none), ("_law_matrix" : Str), ("_law_matrix" : Str), defArgs s__law_matrix, defBody s__law_matrix, defScope s__law_matrix, [], []⟩
def d__law_part : He.DefD := ⟨(("_law_part" : Str), none), ("_law_part" : Str), ("_law_part" : Str), defArgs s__law_part, defBody s__law_part, defScope s__law_part, [], []⟩
def d__law_lowest : He.DefD := ⟨(("_law_lowest" : Str), none), ("_law_lowest" : Str), ("_law_lowest" : Str), defArgs s__law_lowest, defBody s__law_lowest, defScope s__law_lowest, [], []⟩
def d__law_sum : He.DefD := ⟨(("_law_sum" : Str), none), ("_law_sum" : Str), ("_law_sum" : Str), defArgs s__law_sum, defBody s__law_sum, defScope s__law_sum, [], []⟩
def d__law_times : He.DefD := ⟨(("_law_times" : Str), none), ("_law_times" : Str), ("_law_times" : Str), defArgs s__law_times, defBody s__law_times, defScope s__law_times, [], []⟩
def d__law_over : He.DefD := ⟨(("_law_over" : Str), none), ("_law_over" : Str), ("_law_over" : Str), defArgs s__law_over, defBody s__law_over, defScope s__law_over, [], []⟩
def d__law_ratios : He.DefD := ⟨(("_law_ratios" : Str), none), ("_law_ratios" : Str), ("_law_ratios" : Str), defArgs s__law_ratios, defBody s__law_ratios, defScope s__law_ratios, [], []⟩
def d__law_pairs : He.DefD := ⟨(("_law_pairs" : Str), none), ("_law_pairs" : Str), ("_law_pairs" : Str), defArgs s__law_pairs, defBody s__law_pairs, defScope s__law_pairs, [], []⟩
def d__law_left : He.DefD := ⟨(("_law_left" : Str), none), ("_law_left" : Str), ("_law_left" : Str), defArgs s__law_left, defBody s__law_left, defScope s__law_left, [], []⟩
def d__law_basis : He.DefD := ⟨(("_law_basis" : Str), none), ("_law_basis" : Str), ("_law_basis" : Str), defArgs s__law_basis, defBody s__law_basis, defScope s__law_basis, [], []⟩
def d__law_rank : He.DefD := ⟨(("_law_rank" : Str), none), ("_law_rank" : Str), ("_law_rank" : Str), defArgs s__law_rank, defBody s__law_rank, defScope s__law_rank, [], []⟩
def d__law_dot : He.DefD := ⟨(("_law_dot" : Str), none), ("_law_dot" : Str), ("_law_dot" : Str), defArgs s__law_dot, defBody s__law_dot, defScope s__law_dot, [], []⟩
def d__law_torn : He.DefD := ⟨(("_law_torn" : Str), none), ("_law_torn" : Str), ("_law_torn" : Str), defArgs s__law_torn, defBody s__law_torn, defScope s__law_torn, [], []⟩
def d__law_lists : He.DefD := ⟨(("_law_lists" : Str), none), ("_law_lists" : Str), ("_law_lists" : Str), defArgs s__law_lists, defBody s__law_lists, defScope s__law_lists, [], []⟩
def d__law_best : He.DefD := ⟨(("_law_best" : Str), none), ("_law_best" : Str), ("_law_best" : Str), defArgs s__law_best, defBody s__law_best, defScope s__law_best, [], []⟩
def d__law_told : He.DefD := ⟨(("_law_told" : Str), none), ("_law_told" : Str), ("_law_told" : Str), defArgs s__law_told, defBody s__law_told, defScope s__law_told, [], []⟩
def d_law : He.DefD := ⟨(("law" : Str), none), ("law" : Str), ("law" : Str), defArgs s_law, defBody s_law, defScope s_law, [], []⟩
def fnL : List He.DefD := [d_Ratio___init__, d_Ratio___eq__, d_Ratio___add__, d_Ratio___sub__, d_Ratio___mul__, d_Ratio___neg__, d_torn, d_best_tears, d__used_columns, d__pairs, d__law_stream, d__law_draw, d__law_matrix, d__law_part, d__law_lowest, d__law_sum, d__law_times, d__law_over, d__law_ratios, d__law_pairs, d__law_left, d__law_basis, d__law_rank, d__law_dot, d__law_torn, d__law_lists, d__law_best, d__law_told, d_law]
def faL : List He.Fa := [.glo ("torn" : Str), .glo ("best_tears" : Str), .glo ("_used_columns" : Str), .glo ("_pairs" : Str), .glo ("_law_stream" : Str), .glo ("_law_draw" : Str), .glo ("_law_matrix" : Str), .glo ("_law_part" : Str), .glo ("_law_lowest" : Str), .glo ("_law_sum" : Str), .glo ("_law_times" : Str), .glo ("_law_over" : Str), .glo ("_law_ratios" : Str), .glo ("_law_pairs" : Str), .glo ("_law_left" : Str), .glo ("_law_basis" : Str), .glo ("_law_rank" : Str), .glo ("_law_dot" : Str), .glo ("_law_torn" : Str), .glo ("_law_lists" : Str), .glo ("_law_best" : Str), .glo ("_law_told" : Str), .glo ("law" : Str), .glo ("LinkworkError" : Str), .glo ("ByZero" : Str), .glo ("Singular" : Str), .glo ("Ratio" : Str), .free ("abs" : Str), .free ("enumerate" : Str), .free ("int" : Str), .free ("isinstance" : Str), .free ("len" : Str), .free ("list" : Str), .free ("max" : Str), .free ("range" : Str), .free ("tuple" : Str), .exc ("LinkworkError" : Str), .exc ("ByZero" : Str), .exc ("Singular" : Str), .cls ("Ratio" : Str), .noat ("Ratio" : Str) ("top" : Str), .noat ("Ratio" : Str) ("bottom" : Str), .mkr ("Ratio" : Str), .meth ("Ratio" : Str) ("__eq__" : Str), .meth ("Ratio" : Str) ("__add__" : Str), .meth ("Ratio" : Str) ("__sub__" : Str), .meth ("Ratio" : Str) ("__mul__" : Str), .meth ("Ratio" : Str) ("__neg__" : Str), .exm ("ByZero" : Str) ("ByZero" : Str) true, .exm ("Singular" : Str) ("Singular" : Str) true]
def ex_imp_combinations (K : PySem.W.Frag) : Bool := He.eqO (PySem.W.nsIn K mainGlobals ("combinations" : Str)) (some (some (.type "itertools.combinations")))
def ex_imp_gcd (K : PySem.W.Frag) : Bool := He.eqO (PySem.W.nsIn K mainGlobals ("gcd" : Str)) (some (some (.builtin "math.gcd")))
def ex_excC_LinkworkError (K : PySem.W.Frag) : Bool := excCB K (He.ga K ("LinkworkError" : Str))
def ex_excC_ByZero (K : PySem.W.Frag) : Bool := excCB K (He.ga K ("ByZero" : Str))
def ex_excC_Singular (K : PySem.W.Frag) : Bool := excCB K (He.ga K ("Singular" : Str))
def ex_isi_Ratio (K : PySem.W.Frag) : Bool := isiCB K (He.ga K ("Ratio" : Str))
def ex_first_Ratio (K : PySem.W.Frag) : Bool := PySem.W.selfFirst K (He.ga K ("Ratio" : Str))
def ex_kit_ByZero_LinkworkError (K : PySem.W.Frag) : Bool := decide (PySem.W.kitOne K (.ref (He.ga K ("ByZero" : Str))) (.ref (He.ga K ("LinkworkError" : Str))) = some true)
def ex_kit_Ratio_Ratio (K : PySem.W.Frag) : Bool := decide (PySem.W.kitOne K (.ref (He.ga K ("Ratio" : Str))) (.ref (He.ga K ("Ratio" : Str))) = some true)
def ex_kit_t_list_t_list (K : PySem.W.Frag) : Bool := decide (PySem.W.kitOne K (.type "list") (.type "list") = some true)
def ex_kit_t_tuple_t_list (K : PySem.W.Frag) : Bool := decide (PySem.W.kitOne K (.type "tuple") (.type "list") = some false)
def ex_kit_t_tuple_t_tuple (K : PySem.W.Frag) : Bool := decide (PySem.W.kitOne K (.type "tuple") (.type "tuple") = some true)
def ex_kit_t_list_t_tuple (K : PySem.W.Frag) : Bool := decide (PySem.W.kitOne K (.type "list") (.type "tuple") = some false)
def exL : List (PySem.W.Frag → Bool) := [ex_imp_combinations, ex_imp_gcd, ex_excC_LinkworkError, ex_excC_ByZero, ex_excC_Singular, ex_isi_Ratio, ex_first_Ratio, ex_kit_ByZero_LinkworkError, ex_kit_Ratio_Ratio, ex_kit_t_list_t_list, ex_kit_t_tuple_t_list, ex_kit_t_tuple_t_tuple, ex_kit_t_list_t_tuple]
def exB (K : PySem.W.Frag) : Bool := exL.all fun f => f K
abbrev R : PySem.W.OpenRow := PySem.W.OpenLaw.row PySem.Challenge.rw_linkwork_k57_torn_systems
abbrev hk : PySem.W.Hook := hookS 5 faL fnL exB
def ob (s : PySem.W.SharedT) : AlS := obsS 5 faL fnL exB (HeadRun.getT s)
theorem ob_eq (s : PySem.W.SharedT) : ob s = hk.obs s.abs := obsS_eq (HeadRun.getT_eq s)
def looseL : List PySem.Str := [("__name__" : Str), ("LinkworkError" : Str), ("ByZero" : Str), ("Singular" : Str), ("Ratio" : Str), ("torn" : Str), ("best_tears" : Str), ("_used_columns" : Str), ("_pairs" : Str), ("_law_stream" : Str), ("_law_draw" : Str), ("_law_matrix" : Str), ("_law_part" : Str), ("_law_lowest" : Str), ("_law_sum" : Str), ("_law_times" : Str), ("_law_over" : Str), ("_law_ratios" : Str), ("_law_pairs" : Str), ("_law_left" : Str), ("_law_basis" : Str), ("_law_rank" : Str), ("_law_dot" : Str), ("_law_torn" : Str), ("_law_lists" : Str), ("_law_best" : Str), ("_law_told" : Str)]
abbrev qv : Program := PySem.W.view R.prog [0, 1, 32]
theorem run (w : World) : HeadRun.RunEqI R qv hk ob 30000 looseL w := by
  unfold HeadRun.RunEqI
  kernel_rfl
/-! ### the facts by names -/
def Top (w : World) (K : PySem.W.Frag) (mg : Str → Option Value) : Prop := ∃ h : Heap, K.In h ∧ h.Ns mainGlobals mg ∧ SaysS faL fnL exB K
noncomputable def fdOf (K : PySem.W.Frag) (d : He.DefD) : FuncData := @Classical.epsilon FuncData ⟨PySem.W.fnOf d.name d.qual d.params d.body d.scope .none .none .none .none none .none .none⟩ fun fd => FunD K d.name d.qual d.params d.body d.scope (d.dvs K) (d.kws K) (He.fAd K d.at_) fd
section
variable {w : World} {K : PySem.W.Frag} {mg : Str → Option Value}
theorem Top.fun_ (T : Top w K mg) (i : Nat) {d : He.DefD} (h : fnL[i]? = some d) : FunD K d.name d.qual d.params d.body d.scope (d.dvs K) (d.kws K) (He.fAd K d.at_) (fdOf K d) := by
  obtain ⟨_, _, _, c⟩ := T
  exact Classical.epsilon_spec (c.d.def_ i h)
theorem Top.fact (T : Top w K mg) (i : Nat) {f : He.Fa} (h : faL[i]? = some f) : f.ok K = true := by
  obtain ⟨_, _, _, c⟩ := T
  exact c.d.fact i h
theorem Top.ex (T : Top w K mg) (i : Nat) {f : PySem.W.Frag → Bool} (h : exL[i]? = some f) : f K = true := by
  obtain ⟨_, _, _, c⟩ := T
  exact List.all_eq_true.mp (show (exL.all fun f => f K) = true from c.more) f (List.mem_of_getElem? h)
theorem Top.g_torn (T : Top w K mg) : mg ("torn" : Str) = some (.ref (He.ga K ("torn" : Str))) := by obtain ⟨h, X, G, c⟩ := T; exact He.glo_ok X G (c.d.fact 0 rfl)
theorem Top.g_best_tears (T : Top w K mg) : mg ("best_tears" : Str) = some (.ref (He.ga K ("best_tears" : Str))) := by obtain ⟨h, X, G, c⟩ := T; exact He.glo_ok X G (c.d.fact 1 rfl)
theorem Top.g__used_columns (T : Top w K mg) : mg ("_used_columns" : Str) = some (.ref (He.ga K ("_used_columns" : Str))) := by obtain ⟨h, X, G, c⟩ := T; exact He.glo_ok X G (c.d.fact 2 rfl)
theorem Top.g__pairs (T : Top w K mg) : mg ("_pairs" : Str) = some (.ref (He.ga K ("_pairs" : Str))) := by obtain ⟨h, X, G, c⟩ := T; exact He.glo_ok X G (c.d.fact 3 rfl)
theorem Top.g__law_stream (T : Top w K mg) : mg ("_law_stream" : Str) = some (.ref (He.ga K ("_law_stream" : Str))) := by obtain ⟨h, X, G, c⟩ := T; exact He.glo_ok X G (c.d.fact 4 rfl)
theorem Top.g__law_draw (T : Top w K mg) : mg ("_law_draw" : Str) = some (.ref (He.ga K ("_law_draw" : Str))) := by obtain ⟨h, X, G, c⟩ := T; exact He.glo_ok X G (c.d.fact 5 rfl)
theorem Top.g__law_matrix (T : Top w K mg) : mg ("_law_matrix" : Str) = some (.ref (He.ga K ("_law_matrix" : Str))) := by obtain ⟨h, X, G, c⟩ := T; exact He.glo_ok X G (c.d.fact 6 rfl)
theorem Top.g__law_part (T : Top w K mg) : mg ("_law_part" : Str) = some (.ref (He.ga K ("_law_part" : Str))) := by obtain ⟨h, X, G, c⟩ := T; exact He.glo_ok X G (c.d.fact 7 rfl)
theorem Top.g__law_lowest (T : Top w K mg) : mg ("_law_lowest" : Str) = some (.ref (He.ga K ("_law_lowest" : Str))) := by obtain ⟨h, X, G, c⟩ := T; exact He.glo_ok X G (c.d.fact 8 rfl)
theorem Top.g__law_sum (T : Top w K mg) : mg ("_law_sum" : Str) = some (.ref (He.ga K ("_law_sum" : Str))) := by obtain ⟨h, X, G, c⟩ := T; exact He.glo_ok X G (c.d.fact 9 rfl)
theorem Top.g__law_times (T : Top w K mg) : mg ("_law_times" : Str) = some (.ref (He.ga K ("_law_times" : Str))) := by obtain ⟨h, X, G, c⟩ := T; exact He.glo_ok X G (c.d.fact 10 rfl)
theorem Top.g__law_over (T : Top w K mg) : mg ("_law_over" : Str) = some (.ref (He.ga K ("_law_over" : Str))) := by obtain ⟨h, X, G, c⟩ := T; exact He.glo_ok X G (c.d.fact 11 rfl)
theorem Top.g__law_ratios (T : Top w K mg) : mg ("_law_ratios" : Str) = some (.ref (He.ga K ("_law_ratios" : Str))) := by obtain ⟨h, X, G, c⟩ := T; exact He.glo_ok X G (c.d.fact 12 rfl)
theorem Top.g__law_pairs (T : Top w K mg) : mg ("_law_pairs" : Str) = some (.ref (He.ga K ("_law_pairs" : Str))) := by obtain ⟨h, X, G, c⟩ := T; exact He.glo_ok X G (c.d.fact 13 rfl)
theorem Top.g__law_left (T : Top w K mg) : mg ("_law_left" : Str) = some (.ref (He.ga K ("_law_left" : Str))) := by obtain ⟨h, X, G, c⟩ := T; exact He.glo_ok X G (c.d.fact 14 rfl)
theorem Top.g__law_basis (T : Top w K mg) : mg ("_law_basis" : Str) = some (.ref (He.ga K ("_law_basis" : Str))) := by obtain ⟨h, X, G, c⟩ := T; exact He.glo_ok X G (c.d.fact 15 rfl)
theorem Top.g__law_rank (T : Top w K mg) : mg ("_law_rank" : Str) = some (.ref (He.ga K ("_law_rank" : Str))) := by obtain ⟨h, X, G, c⟩ := T; exact He.glo_ok X G (c.d.fact 16 rfl)
theorem Top.g__law_dot (T : Top w K mg) : mg ("_law_dot" : Str) = some (.ref (He.ga K ("_law_dot" : Str))) := by obtain ⟨h, X, G, c⟩ := T; exact He.glo_ok X G (c.d.fact 17 rfl)
theorem Top.g__law_torn (T : Top w K mg) : mg ("_law_torn" : Str) = some (.ref (He.ga K ("_law_torn" : Str))) := by obtain ⟨h, X, G, c⟩ := T; exact He.glo_ok X G (c.d.fact 18 rfl)
theorem Top.g__law_lists (T : Top w K mg) : mg ("_law_lists" : Str) = some (.ref (He.ga K ("_law_lists" : Str))) := by obtain ⟨h, X, G, c⟩ := T; exact He.glo_ok X G (c.d.fact 19 rfl)
theorem Top.g__law_best (T : Top w K mg) : mg ("_law_best" : Str) = some (.ref (He.ga K ("_law_best" : Str))) := by obtain ⟨h, X, G, c⟩ := T; exact He.glo_ok X G (c.d.fact 20 rfl)
theorem Top.g__law_told (T : Top w K mg) : mg ("_law_told" : Str) = some (.ref (He.ga K ("_law_told" : Str))) := by obtain ⟨h, X, G, c⟩ := T; exact He.glo_ok X G (c.d.fact 21 rfl)
theorem Top.g_law (T : Top w K mg) : mg ("law" : Str) = some (.ref (He.ga K ("law" : Str))) := by obtain ⟨h, X, G, c⟩ := T; exact He.glo_ok X G (c.d.fact 22 rfl)
theorem Top.g_LinkworkError (T : Top w K mg) : mg ("LinkworkError" : Str) = some (.ref (He.ga K ("LinkworkError" : Str))) := by obtain ⟨h, X, G, c⟩ := T; exact He.glo_ok X G (c.d.fact 23 rfl)
theorem Top.g_ByZero (T : Top w K mg) : mg ("ByZero" : Str) = some (.ref (He.ga K ("ByZero" : Str))) := by obtain ⟨h, X, G, c⟩ := T; exact He.glo_ok X G (c.d.fact 24 rfl)
theorem Top.g_Singular (T : Top w K mg) : mg ("Singular" : Str) = some (.ref (He.ga K ("Singular" : Str))) := by obtain ⟨h, X, G, c⟩ := T; exact He.glo_ok X G (c.d.fact 25 rfl)
theorem Top.g_Ratio (T : Top w K mg) : mg ("Ratio" : Str) = some (.ref (He.ga K ("Ratio" : Str))) := by obtain ⟨h, X, G, c⟩ := T; exact He.glo_ok X G (c.d.fact 26 rfl)
theorem Top.n_abs (T : Top w K mg) : mg ("abs" : Str) = none := by obtain ⟨h, X, G, c⟩ := T; exact He.free_ok X G (c.d.fact 27 rfl)
theorem Top.n_enumerate (T : Top w K mg) : mg ("enumerate" : Str) = none := by obtain ⟨h, X, G, c⟩ := T; exact He.free_ok X G (c.d.fact 28 rfl)
theorem Top.n_int (T : Top w K mg) : mg ("int" : Str) = none := by obtain ⟨h, X, G, c⟩ := T; exact He.free_ok X G (c.d.fact 29 rfl)
theorem Top.n_isinstance (T : Top w K mg) : mg ("isinstance" : Str) = none := by obtain ⟨h, X, G, c⟩ := T; exact He.free_ok X G (c.d.fact 30 rfl)
theorem Top.n_len (T : Top w K mg) : mg ("len" : Str) = none := by obtain ⟨h, X, G, c⟩ := T; exact He.free_ok X G (c.d.fact 31 rfl)
theorem Top.n_list (T : Top w K mg) : mg ("list" : Str) = none := by obtain ⟨h, X, G, c⟩ := T; exact He.free_ok X G (c.d.fact 32 rfl)
theorem Top.n_max (T : Top w K mg) : mg ("max" : Str) = none := by obtain ⟨h, X, G, c⟩ := T; exact He.free_ok X G (c.d.fact 33 rfl)
theorem Top.n_range (T : Top w K mg) : mg ("range" : Str) = none := by obtain ⟨h, X, G, c⟩ := T; exact He.free_ok X G (c.d.fact 34 rfl)
theorem Top.n_tuple (T : Top w K mg) : mg ("tuple" : Str) = none := by obtain ⟨h, X, G, c⟩ := T; exact He.free_ok X G (c.d.fact 35 rfl)
theorem Top.exc_LinkworkError (T : Top w K mg) : PySem.W.excIn K (He.ga K ("LinkworkError" : Str)) He.veBase "ValueError.__new__" = true ∧ PySem.W.keepIn K (.ref (He.ga K ("LinkworkError" : Str))) = true ∧ PySem.W.subIn K (.ref (He.ga K ("LinkworkError" : Str))) (.type "BaseException") = some true ∧ PySem.W.typeIn K (.ref (He.ga K ("LinkworkError" : Str))) = some (.type "type") := He.exc_ok (T.fact 36 rfl)
theorem Top.exc_ByZero (T : Top w K mg) : PySem.W.excIn K (He.ga K ("ByZero" : Str)) He.veBase "ValueError.__new__" = true ∧ PySem.W.keepIn K (.ref (He.ga K ("ByZero" : Str))) = true ∧ PySem.W.subIn K (.ref (He.ga K ("ByZero" : Str))) (.type "BaseException") = some true ∧ PySem.W.typeIn K (.ref (He.ga K ("ByZero" : Str))) = some (.type "type") := He.exc_ok (T.fact 37 rfl)
theorem Top.exc_Singular (T : Top w K mg) : PySem.W.excIn K (He.ga K ("Singular" : Str)) He.veBase "ValueError.__new__" = true ∧ PySem.W.keepIn K (.ref (He.ga K ("Singular" : Str))) = true ∧ PySem.W.subIn K (.ref (He.ga K ("Singular" : Str))) (.type "BaseException") = some true ∧ PySem.W.typeIn K (.ref (He.ga K ("Singular" : Str))) = some (.type "type") := He.exc_ok (T.fact 38 rfl)
theorem Top.cls_Ratio (T : Top w K mg) : Cls K (He.ga K ("Ratio" : Str)) := He.cls_ok (T.fact 39 rfl)
theorem Top.na_Ratio_top (T : Top w K mg) : NoAttr K (He.ga K ("Ratio" : Str)) ("top" : Str) := He.noat_ok (T.fact 40 rfl)
theorem Top.na_Ratio_bottom (T : Top w K mg) : NoAttr K (He.ga K ("Ratio" : Str)) ("bottom" : Str) := He.noat_ok (T.fact 41 rfl)
theorem Top.mk_Ratio (T : Top w K mg) : Mk K (He.ga K ("Ratio" : Str)) (He.ma K (He.ga K ("Ratio" : Str)) "__init__") := He.mkr_ok (T.fact 42 rfl)
theorem Top.m_Ratio___eq__ (T : Top w K mg) : Meth K (He.ga K ("Ratio" : Str)) ("__eq__" : Str) (He.ma K (He.ga K ("Ratio" : Str)) ("__eq__" : Str)) := He.meth_ok (T.fact 43 rfl)
theorem Top.m_Ratio___add__ (T : Top w K mg) : Meth K (He.ga K ("Ratio" : Str)) ("__add__" : Str) (He.ma K (He.ga K ("Ratio" : Str)) ("__add__" : Str)) := He.meth_ok (T.fact 44 rfl)
theorem Top.m_Ratio___sub__ (T : Top w K mg) : Meth K (He.ga K ("Ratio" : Str)) ("__sub__" : Str) (He.ma K (He.ga K ("Ratio" : Str)) ("__sub__" : Str)) := He.meth_ok (T.fact 45 rfl)
theorem Top.m_Ratio___mul__ (T : Top w K mg) : Meth K (He.ga K ("Ratio" : Str)) ("__mul__" : Str) (He.ma K (He.ga K ("Ratio" : Str)) ("__mul__" : Str)) := He.meth_ok (T.fact 46 rfl)
theorem Top.m_Ratio___neg__ (T : Top w K mg) : Meth K (He.ga K ("Ratio" : Str)) ("__neg__" : Str) (He.ma K (He.ga K ("Ratio" : Str)) ("__neg__" : Str)) := He.meth_ok (T.fact 47 rfl)
theorem Top.exm_ByZero_ByZero (T : Top w K mg) : PySem.W.exmOne K (.ref (He.ga K ("ByZero" : Str))) (.ref (He.ga K ("ByZero" : Str))) = some true := He.exm_ok (T.fact 48 rfl)
theorem Top.exm_Singular_Singular (T : Top w K mg) : PySem.W.exmOne K (.ref (He.ga K ("Singular" : Str))) (.ref (He.ga K ("Singular" : Str))) = some true := He.exm_ok (T.fact 49 rfl)
theorem Top.x_imp_combinations (T : Top w K mg) : ex_imp_combinations K = true := T.ex 0 rfl
theorem Top.x_imp_gcd (T : Top w K mg) : ex_imp_gcd K = true := T.ex 1 rfl
theorem Top.x_excC_LinkworkError (T : Top w K mg) : ex_excC_LinkworkError K = true := T.ex 2 rfl
theorem Top.x_excC_ByZero (T : Top w K mg) : ex_excC_ByZero K = true := T.ex 3 rfl
theorem Top.x_excC_Singular (T : Top w K mg) : ex_excC_Singular K = true := T.ex 4 rfl
theorem Top.x_isi_Ratio (T : Top w K mg) : ex_isi_Ratio K = true := T.ex 5 rfl
theorem Top.x_first_Ratio (T : Top w K mg) : ex_first_Ratio K = true := T.ex 6 rfl
theorem Top.x_kit_ByZero_LinkworkError (T : Top w K mg) : ex_kit_ByZero_LinkworkError K = true := T.ex 7 rfl
theorem Top.x_kit_Ratio_Ratio (T : Top w K mg) : ex_kit_Ratio_Ratio K = true := T.ex 8 rfl
theorem Top.x_kit_t_list_t_list (T : Top w K mg) : ex_kit_t_list_t_list K = true := T.ex 9 rfl
theorem Top.x_kit_t_tuple_t_list (T : Top w K mg) : ex_kit_t_tuple_t_list K = true := T.ex 10 rfl
theorem Top.x_kit_t_tuple_t_tuple (T : Top w K mg) : ex_kit_t_tuple_t_tuple K = true := T.ex 11 rfl
theorem Top.x_kit_t_list_t_tuple (T : Top w K mg) : ex_kit_t_list_t_tuple K = true := T.ex 12 rfl
theorem Top.combinationsM (T : Top w K mg) : mg ("combinations" : Str) = some (.type "itertools.combinations") := by have e := T.x_imp_combinations; obtain ⟨h, X, G, c⟩ := T; exact PySem.W.mg_of X G (He.eqO_ok e)
theorem Top.gcdM (T : Top w K mg) : mg ("gcd" : Str) = some (.builtin "math.gcd") := by have e := T.x_imp_gcd; obtain ⟨h, X, G, c⟩ := T; exact PySem.W.mg_of X G (He.eqO_ok e)
theorem Top.f_Ratio___init__ (T : Top w K mg) : FunD K ("__init__" : Str) ("Ratio.__init__" : Str) (defArgs s_Ratio___init__) (defBody s_Ratio___init__) (defScope s_Ratio___init__) (d_Ratio___init__.dvs K) (d_Ratio___init__.kws K) (He.ma K (He.ga K ("Ratio" : Str)) ("__init__" : Str)) (fdOf K d_Ratio___init__) := T.fun_ 0 rfl
theorem Top.b0_Ratio___init__ (T : Top w K mg) : ∃ ds, Vals ((d_Ratio___init__.dvs K).drop 0) ds ∧ Binds K (fdOf K d_Ratio___init__) ["self", "numerator", "denominator"] ds := T.f_Ratio___init__.binds1 2 0 (by intro z; cases z) rfl fun _ _ _ _ _ _ _ us its h1 h2 => match us, its, h1, h2 with | [_, _], [_], _, _ => ⟨_, rfl, rfl⟩
theorem Top.b1_Ratio___init__ (T : Top w K mg) : ∃ ds, Vals ((d_Ratio___init__.dvs K).drop 1) ds ∧ Binds K (fdOf K d_Ratio___init__) ["self", "numerator", "denominator"] ds := T.f_Ratio___init__.binds1 3 1 (by intro z; cases z) rfl fun _ _ _ _ _ _ _ us its h1 h2 => match us, its, h1, h2 with | [_, _, _], [_], _, _ => ⟨_, rfl, rfl⟩
theorem sc_Ratio___init__ : FnScope ["self", "numerator", "denominator", "divisor"] ["self", "numerator", "denominator"] (defScope s_Ratio___init__) := ⟨rfl, rfl, rfl, by decide +kernel, rfl, by decide +kernel, by decide +kernel⟩
theorem Top.f_Ratio___eq__ (T : Top w K mg) : FunD K ("__eq__" : Str) ("Ratio.__eq__" : Str) (defArgs s_Ratio___eq__) (defBody s_Ratio___eq__) (defScope s_Ratio___eq__) (d_Ratio___eq__.dvs K) (d_Ratio___eq__.kws K) (He.ma K (He.ga K ("Ratio" : Str)) ("__eq__" : Str)) (fdOf K d_Ratio___eq__) := T.fun_ 1 rfl
theorem Top.b_Ratio___eq__ (T : Top w K mg) : Binds K (fdOf K d_Ratio___eq__) ["self", "other"] [] := (show FunD K ("__eq__" : Str) ("Ratio.__eq__" : Str) (defArgs s_Ratio___eq__) (defBody s_Ratio___eq__) (defScope s_Ratio___eq__) [] (d_Ratio___eq__.kws K) (He.ma K (He.ga K ("Ratio" : Str)) ("__eq__" : Str)) (fdOf K d_Ratio___eq__) from T.f_Ratio___eq__).bindsN fun _ _ _ _ _ _ us hl => match us, hl with | [_, _], _ => rfl
theorem sc_Ratio___eq__ : FnScope ["self", "other"] ["self", "other"] (defScope s_Ratio___eq__) := ⟨rfl, rfl, rfl, by decide +kernel, rfl, by decide +kernel, by decide +kernel⟩
theorem Top.f_Ratio___add__ (T : Top w K mg) : FunD K ("__add__" : Str) ("Ratio.__add__" : Str) (defArgs s_Ratio___add__) (defBody s_Ratio___add__) (defScope s_Ratio___add__) (d_Ratio___add__.dvs K) (d_Ratio___add__.kws K) (He.ma K (He.ga K ("Ratio" : Str)) ("__add__" : Str)) (fdOf K d_Ratio___add__) := T.fun_ 2 rfl
theorem Top.b_Ratio___add__ (T : Top w K mg) : Binds K (fdOf K d_Ratio___add__) ["self", "other"] [] := (show FunD K ("__add__" : Str) ("Ratio.__add__" : Str) (defArgs s_Ratio___add__) (defBody s_Ratio___add__) (defScope s_Ratio___add__) [] (d_Ratio___add__.kws K) (He.ma K (He.ga K ("Ratio" : Str)) ("__add__" : Str)) (fdOf K d_Ratio___add__) from T.f_Ratio___add__).bindsN fun _ _ _ _ _ _ us hl => match us, hl with | [_, _], _ => rfl
theorem sc_Ratio___add__ : FnScope ["self", "other"] ["self", "other"] (defScope s_Ratio___add__) := ⟨rfl, rfl, rfl, by decide +kernel, rfl, by decide +kernel, by decide +kernel⟩
theorem Top.f_Ratio___sub__ (T : Top w K mg) : FunD K ("__sub__" : Str) ("Ratio.__sub__" : Str) (defArgs s_Ratio___sub__) (defBody s_Ratio___sub__) (defScope s_Ratio___sub__) (d_Ratio___sub__.dvs K) (d_Ratio___sub__.kws K) (He.ma K (He.ga K ("Ratio" : Str)) ("__sub__" : Str)) (fdOf K d_Ratio___sub__) := T.fun_ 3 rfl
theorem Top.b_Ratio___sub__ (T : Top w K mg) : Binds K (fdOf K d_Ratio___sub__) ["self", "other"] [] := (show FunD K ("__sub__" : Str) ("Ratio.__sub__" : Str) (defArgs s_Ratio___sub__) (defBody s_Ratio___sub__) (defScope s_Ratio___sub__) [] (d_Ratio___sub__.kws K) (He.ma K (He.ga K ("Ratio" : Str)) ("__sub__" : Str)) (fdOf K d_Ratio___sub__) from T.f_Ratio___sub__).bindsN fun _ _ _ _ _ _ us hl => match us, hl with | [_, _], _ => rfl
theorem sc_Ratio___sub__ : FnScope ["self", "other"] ["self", "other"] (defScope s_Ratio___sub__) := ⟨rfl, rfl, rfl, by decide +kernel, rfl, by decide +kernel, by decide +kernel⟩
theorem Top.f_Ratio___mul__ (T : Top w K mg) : FunD K ("__mul__" : Str) ("Ratio.__mul__" : Str) (defArgs s_Ratio___mul__) (defBody s_Ratio___mul__) (defScope s_Ratio___mul__) (d_Ratio___mul__.dvs K) (d_Ratio___mul__.kws K) (He.ma K (He.ga K ("Ratio" : Str)) ("__mul__" : Str)) (fdOf K d_Ratio___mul__) := T.fun_ 4 rfl
theorem Top.b_Ratio___mul__ (T : Top w K mg) : Binds K (fdOf K d_Ratio___mul__) ["self", "other"] [] := (show FunD K ("__mul__" : Str) ("Ratio.__mul__" : Str) (defArgs s_Ratio___mul__) (defBody s_Ratio___mul__) (defScope s_Ratio___mul__) [] (d_Ratio___mul__.kws K) (He.ma K (He.ga K ("Ratio" : Str)) ("__mul__" : Str)) (fdOf K d_Ratio___mul__) from T.f_Ratio___mul__).bindsN fun _ _ _ _ _ _ us hl => match us, hl with | [_, _], _ => rfl
theorem sc_Ratio___mul__ : FnScope ["self", "other"] ["self", "other"] (defScope s_Ratio___mul__) := ⟨rfl, rfl, rfl, by decide +kernel, rfl, by decide +kernel, by decide +kernel⟩
theorem Top.f_Ratio___neg__ (T : Top w K mg) : FunD K ("__neg__" : Str) ("Ratio.__neg__" : Str) (defArgs s_Ratio___neg__) (defBody s_Ratio___neg__) (defScope s_Ratio___neg__) (d_Ratio___neg__.dvs K) (d_Ratio___neg__.kws K) (He.ma K (He.ga K ("Ratio" : Str)) ("__neg__" : Str)) (fdOf K d_Ratio___neg__) := T.fun_ 5 rfl
theorem Top.b_Ratio___neg__ (T : Top w K mg) : Binds K (fdOf K d_Ratio___neg__) ["self"] [] := (show FunD K ("__neg__" : Str) ("Ratio.__neg__" : Str) (defArgs s_Ratio___neg__) (defBody s_Ratio___neg__) (defScope s_Ratio___neg__) [] (d_Ratio___neg__.kws K) (He.ma K (He.ga K ("Ratio" : Str)) ("__neg__" : Str)) (fdOf K d_Ratio___neg__) from T.f_Ratio___neg__).bindsN fun _ _ _ _ _ _ us hl => match us, hl with | [_], _ => rfl
theorem sc_Ratio___neg__ : FnScope ["self"] ["self"] (defScope s_Ratio___neg__) := ⟨rfl, rfl, rfl, by decide +kernel, rfl, by decide +kernel, by decide +kernel⟩
theorem Top.f_torn (T : Top w K mg) : FunD K ("torn" : Str) ("torn" : Str) (defArgs s_torn) (defBody s_torn) (defScope s_torn) (d_torn.dvs K) (d_torn.kws K) (He.ga K ("torn" : Str)) (fdOf K d_torn) := T.fun_ 6 rfl
theorem Top.b_torn (T : Top w K mg) : Binds K (fdOf K d_torn) ["rows", "tears"] [] := (show FunD K ("torn" : Str) ("torn" : Str) (defArgs s_torn) (defBody s_torn) (defScope s_torn) [] (d_torn.kws K) (He.ga K ("torn" : Str)) (fdOf K d_torn) from T.f_torn).bindsN fun _ _ _ _ _ _ us hl => match us, hl with | [_, _], _ => rfl
theorem sc_torn : FnScope ["rows", "tears", "pairs", "taken", "at", "_"] ["rows", "tears"] (defScope s_torn) := ⟨rfl, rfl, rfl, by decide +kernel, rfl, by decide +kernel, by decide +kernel⟩
theorem Top.f_best_tears (T : Top w K mg) : FunD K ("best_tears" : Str) ("best_tears" : Str) (defArgs s_best_tears) (defBody s_best_tears) (defScope s_best_tears) (d_best_tears.dvs K) (d_best_tears.kws K) (He.ga K ("best_tears" : Str)) (fdOf K d_best_tears) := T.fun_ 7 rfl
theorem Top.b_best_tears (T : Top w K mg) : Binds K (fdOf K d_best_tears) ["rows"] [] := (show FunD K ("best_tears" : Str) ("best_tears" : Str) (defArgs s_best_tears) (defBody s_best_tears) (defScope s_best_tears) [] (d_best_tears.kws K) (He.ga K ("best_tears" : Str)) (fdOf K d_best_tears) from T.f_best_tears).bindsN fun _ _ _ _ _ _ us hl => match us, hl with | [_], _ => rfl
theorem sc_best_tears : FnScope ["rows", "used", "many", "tears"] ["rows"] (defScope s_best_tears) := ⟨rfl, rfl, rfl, by decide +kernel, rfl, by decide +kernel, by decide +kernel⟩
theorem Top.f__used_columns (T : Top w K mg) : FunD K ("_used_columns" : Str) ("_used_columns" : Str) (defArgs s__used_columns) (defBody s__used_columns) (defScope s__used_columns) (d__used_columns.dvs K) (d__used_columns.kws K) (He.ga K ("_used_columns" : Str)) (fdOf K d__used_columns) := T.fun_ 8 rfl
theorem Top.b__used_columns (T : Top w K mg) : Binds K (fdOf K d__used_columns) ["rows"] [] := (show FunD K ("_used_columns" : Str) ("_used_columns" : Str) (defArgs s__used_columns) (defBody s__used_columns) (defScope s__used_columns) [] (d__used_columns.kws K) (He.ga K ("_used_columns" : Str)) (fdOf K d__used_columns) from T.f__used_columns).bindsN fun _ _ _ _ _ _ us hl => match us, hl with | [_], _ => rfl
theorem sc__used_columns : FnScope ["rows", "column", "row"] ["rows"] (defScope s__used_columns) := ⟨rfl, rfl, rfl, by decide +kernel, rfl, by decide +kernel, by decide +kernel⟩
theorem Top.f__pairs (T : Top w K mg) : FunD K ("_pairs" : Str) ("_pairs" : Str) (defArgs s__pairs) (defBody s__pairs) (defScope s__pairs) (d__pairs.dvs K) (d__pairs.kws K) (He.ga K ("_pairs" : Str)) (fdOf K d__pairs) := T.fun_ 9 rfl
theorem Top.b__pairs (T : Top w K mg) : Binds K (fdOf K d__pairs) ["used", "tears"] [] := (show FunD K ("_pairs" : Str) ("_pairs" : Str) (defArgs s__pairs) (defBody s__pairs) (defScope s__pairs) [] (d__pairs.kws K) (He.ga K ("_pairs" : Str)) (fdOf K d__pairs) from T.f__pairs).bindsN fun _ _ _ _ _ _ us hl => match us, hl with | [_, _], _ => rfl
theorem sc__pairs : FnScope ["used", "tears", "waiting", "column", "at", "columns", "found", "ready", "other"] ["used", "tears"] (defScope s__pairs) := ⟨rfl, rfl, rfl, by decide +kernel, rfl, by decide +kernel, by decide +kernel⟩
theorem Top.f__law_stream (T : Top w K mg) : FunD K ("_law_stream" : Str) ("_law_stream" : Str) (defArgs s__law_stream) (defBody s__law_stream) (defScope s__law_stream) (d__law_stream.dvs K) (d__law_stream.kws K) (He.ga K ("_law_stream" : Str)) (fdOf K d__law_stream) := T.fun_ 10 rfl
theorem Top.b__law_stream (T : Top w K mg) : Binds K (fdOf K d__law_stream) ["script"] [] := (show FunD K ("_law_stream" : Str) ("_law_stream" : Str) (defArgs s__law_stream) (defBody s__law_stream) (defScope s__law_stream) [] (d__law_stream.kws K) (He.ga K ("_law_stream" : Str)) (fdOf K d__law_stream) from T.f__law_stream).bindsN fun _ _ _ _ _ _ us hl => match us, hl with | [_], _ => rfl
theorem sc__law_stream : FnScope ["script", "mixed", "cell"] ["script"] (defScope s__law_stream) := ⟨rfl, rfl, rfl, by decide +kernel, rfl, by decide +kernel, by decide +kernel⟩
theorem Top.f__law_draw (T : Top w K mg) : FunD K ("_law_draw" : Str) ("_law_draw" : Str) (defArgs s__law_draw) (defBody s__law_draw) (defScope s__law_draw) (d__law_draw.dvs K) (d__law_draw.kws K) (He.ga K ("_law_draw" : Str)) (fdOf K d__law_draw) := T.fun_ 11 rfl
theorem Top.b__law_draw (T : Top w K mg) : Binds K (fdOf K d__law_draw) ["stream", "many"] [] := (show FunD K ("_law_draw" : Str) ("_law_draw" : Str) (defArgs s__law_draw) (defBody s__law_draw) (defScope s__law_draw) [] (d__law_draw.kws K) (He.ga K ("_law_draw" : Str)) (fdOf K d__law_draw) from T.f__law_draw).bindsN fun _ _ _ _ _ _ us hl => match us, hl with | [_, _], _ => rfl
theorem sc__law_draw : FnScope ["stream", "many", "value"] ["stream", "many"] (defScope s__law_draw) := ⟨rfl, rfl, rfl, by decide +kernel, rfl, by decide +kernel, by decide +kernel⟩
theorem Top.f__law_matrix (T : Top w K mg) : FunD K ("_law_matrix" : Str) ("_law_matrix" : Str) (defArgs s__law_matrix) (defBody s__law_matrix) (defScope s__law_matrix) (d__law_matrix.dvs K) (d__law_matrix.kws K) (He.ga K ("_law_matrix" : Str)) (fdOf K d__law_matrix) := T.fun_ 12 rfl
theorem Top.b__law_matrix (T : Top w K mg) : Binds K (fdOf K d__law_matrix) ["stream", "many", "wide"] [] := (show FunD K ("_law_matrix" : Str) ("_law_matrix" : Str) (defArgs s__law_matrix) (defBody s__law_matrix) (defScope s__law_matrix) [] (d__law_matrix.kws K) (He.ga K ("_law_matrix" : Str)) (fdOf K d__law_matrix) from T.f__law_matrix).bindsN fun _ _ _ _ _ _ us hl => match us, hl with | [_, _, _], _ => rfl
theorem sc__law_matrix : FnScope ["stream", "many", "wide", "rows", "k", "row", "j", "value", "one", "two"] ["stream", "many", "wide"] (defScope s__law_matrix) := ⟨rfl, rfl, rfl, by decide +kernel, rfl, by decide +kernel, by decide +kernel⟩
theorem Top.f__law_part (T : Top w K mg) : FunD K ("_law_part" : Str) ("_law_part" : Str) (defArgs s__law_part) (defBody s__law_part) (defScope s__law_part) (d__law_part.dvs K) (d__law_part.kws K) (He.ga K ("_law_part" : Str)) (fdOf K d__law_part) := T.fun_ 13 rfl
theorem Top.b__law_part (T : Top w K mg) : Binds K (fdOf K d__law_part) ["a", "b"] [] := (show FunD K ("_law_part" : Str) ("_law_part" : Str) (defArgs s__law_part) (defBody s__law_part) (defScope s__law_part) [] (d__law_part.kws K) (He.ga K ("_law_part" : Str)) (fdOf K d__law_part) from T.f__law_part).bindsN fun _ _ _ _ _ _ us hl => match us, hl with | [_, _], _ => rfl
theorem sc__law_part : FnScope ["a", "b"] ["a", "b"] (defScope s__law_part) := ⟨rfl, rfl, rfl, by decide +kernel, rfl, by decide +kernel, by decide +kernel⟩
theorem Top.f__law_lowest (T : Top w K mg) : FunD K ("_law_lowest" : Str) ("_law_lowest" : Str) (defArgs s__law_lowest) (defBody s__law_lowest) (defScope s__law_lowest) (d__law_lowest.dvs K) (d__law_lowest.kws K) (He.ga K ("_law_lowest" : Str)) (fdOf K d__law_lowest) := T.fun_ 14 rfl
theorem Top.b__law_lowest (T : Top w K mg) : Binds K (fdOf K d__law_lowest) ["top", "bottom"] [] := (show FunD K ("_law_lowest" : Str) ("_law_lowest" : Str) (defArgs s__law_lowest) (defBody s__law_lowest) (defScope s__law_lowest) [] (d__law_lowest.kws K) (He.ga K ("_law_lowest" : Str)) (fdOf K d__law_lowest) from T.f__law_lowest).bindsN fun _ _ _ _ _ _ us hl => match us, hl with | [_, _], _ => rfl
theorem sc__law_lowest : FnScope ["top", "bottom", "part"] ["top", "bottom"] (defScope s__law_lowest) := ⟨rfl, rfl, rfl, by decide +kernel, rfl, by decide +kernel, by decide +kernel⟩
theorem Top.f__law_sum (T : Top w K mg) : FunD K ("_law_sum" : Str) ("_law_sum" : Str) (defArgs s__law_sum) (defBody s__law_sum) (defScope s__law_sum) (d__law_sum.dvs K) (d__law_sum.kws K) (He.ga K ("_law_sum" : Str)) (fdOf K d__law_sum) := T.fun_ 15 rfl
theorem Top.b__law_sum (T : Top w K mg) : Binds K (fdOf K d__law_sum) ["one", "two"] [] := (show FunD K ("_law_sum" : Str) ("_law_sum" : Str) (defArgs s__law_sum) (defBody s__law_sum) (defScope s__law_sum) [] (d__law_sum.kws K) (He.ga K ("_law_sum" : Str)) (fdOf K d__law_sum) from T.f__law_sum).bindsN fun _ _ _ _ _ _ us hl => match us, hl with | [_, _], _ => rfl
theorem sc__law_sum : FnScope ["one", "two"] ["one", "two"] (defScope s__law_sum) := ⟨rfl, rfl, rfl, by decide +kernel, rfl, by decide +kernel, by decide +kernel⟩
theorem Top.f__law_times (T : Top w K mg) : FunD K ("_law_times" : Str) ("_law_times" : Str) (defArgs s__law_times) (defBody s__law_times) (defScope s__law_times) (d__law_times.dvs K) (d__law_times.kws K) (He.ga K ("_law_times" : Str)) (fdOf K d__law_times) := T.fun_ 16 rfl
theorem Top.b__law_times (T : Top w K mg) : Binds K (fdOf K d__law_times) ["one", "two"] [] := (show FunD K ("_law_times" : Str) ("_law_times" : Str) (defArgs s__law_times) (defBody s__law_times) (defScope s__law_times) [] (d__law_times.kws K) (He.ga K ("_law_times" : Str)) (fdOf K d__law_times) from T.f__law_times).bindsN fun _ _ _ _ _ _ us hl => match us, hl with | [_, _], _ => rfl
theorem sc__law_times : FnScope ["one", "two"] ["one", "two"] (defScope s__law_times) := ⟨rfl, rfl, rfl, by decide +kernel, rfl, by decide +kernel, by decide +kernel⟩
theorem Top.f__law_over (T : Top w K mg) : FunD K ("_law_over" : Str) ("_law_over" : Str) (defArgs s__law_over) (defBody s__law_over) (defScope s__law_over) (d__law_over.dvs K) (d__law_over.kws K) (He.ga K ("_law_over" : Str)) (fdOf K d__law_over) := T.fun_ 17 rfl
theorem Top.b__law_over (T : Top w K mg) : Binds K (fdOf K d__law_over) ["one", "two"] [] := (show FunD K ("_law_over" : Str) ("_law_over" : Str) (defArgs s__law_over) (defBody s__law_over) (defScope s__law_over) [] (d__law_over.kws K) (He.ga K ("_law_over" : Str)) (fdOf K d__law_over) from T.f__law_over).bindsN fun _ _ _ _ _ _ us hl => match us, hl with | [_, _], _ => rfl
theorem sc__law_over : FnScope ["one", "two"] ["one", "two"] (defScope s__law_over) := ⟨rfl, rfl, rfl, by decide +kernel, rfl, by decide +kernel, by decide +kernel⟩
theorem Top.f__law_ratios (T : Top w K mg) : FunD K ("_law_ratios" : Str) ("_law_ratios" : Str) (defArgs s__law_ratios) (defBody s__law_ratios) (defScope s__law_ratios) (d__law_ratios.dvs K) (d__law_ratios.kws K) (He.ga K ("_law_ratios" : Str)) (fdOf K d__law_ratios) := T.fun_ 18 rfl
theorem Top.b__law_ratios (T : Top w K mg) : Binds K (fdOf K d__law_ratios) ["rows"] [] := (show FunD K ("_law_ratios" : Str) ("_law_ratios" : Str) (defArgs s__law_ratios) (defBody s__law_ratios) (defScope s__law_ratios) [] (d__law_ratios.kws K) (He.ga K ("_law_ratios" : Str)) (fdOf K d__law_ratios) from T.f__law_ratios).bindsN fun _ _ _ _ _ _ us hl => match us, hl with | [_], _ => rfl
theorem sc__law_ratios : FnScope ["rows", "one", "row"] ["rows"] (defScope s__law_ratios) := ⟨rfl, rfl, rfl, by decide +kernel, rfl, by decide +kernel, by decide +kernel⟩
theorem Top.f__law_pairs (T : Top w K mg) : FunD K ("_law_pairs" : Str) ("_law_pairs" : Str) (defArgs s__law_pairs) (defBody s__law_pairs) (defScope s__law_pairs) (d__law_pairs.dvs K) (d__law_pairs.kws K) (He.ga K ("_law_pairs" : Str)) (fdOf K d__law_pairs) := T.fun_ 19 rfl
theorem Top.b__law_pairs (T : Top w K mg) : Binds K (fdOf K d__law_pairs) ["row"] [] := (show FunD K ("_law_pairs" : Str) ("_law_pairs" : Str) (defArgs s__law_pairs) (defBody s__law_pairs) (defScope s__law_pairs) [] (d__law_pairs.kws K) (He.ga K ("_law_pairs" : Str)) (fdOf K d__law_pairs) from T.f__law_pairs).bindsN fun _ _ _ _ _ _ us hl => match us, hl with | [_], _ => rfl
theorem sc__law_pairs : FnScope ["row", "one"] ["row"] (defScope s__law_pairs) := ⟨rfl, rfl, rfl, by decide +kernel, rfl, by decide +kernel, by decide +kernel⟩
theorem Top.f__law_left (T : Top w K mg) : FunD K ("_law_left" : Str) ("_law_left" : Str) (defArgs s__law_left) (defBody s__law_left) (defScope s__law_left) (d__law_left.dvs K) (d__law_left.kws K) (He.ga K ("_law_left" : Str)) (fdOf K d__law_left) := T.fun_ 20 rfl
theorem Top.b__law_left (T : Top w K mg) : Binds K (fdOf K d__law_left) ["row", "basis"] [] := (show FunD K ("_law_left" : Str) ("_law_left" : Str) (defArgs s__law_left) (defBody s__law_left) (defScope s__law_left) [] (d__law_left.kws K) (He.ga K ("_law_left" : Str)) (fdOf K d__law_left) from T.f__law_left).bindsN fun _ _ _ _ _ _ us hl => match us, hl with | [_, _], _ => rfl
theorem sc__law_left : FnScope ["row", "basis", "at", "other", "factor", "j"] ["row", "basis"] (defScope s__law_left) := ⟨rfl, rfl, rfl, by decide +kernel, rfl, by decide +kernel, by decide +kernel⟩
theorem Top.f__law_basis (T : Top w K mg) : FunD K ("_law_basis" : Str) ("_law_basis" : Str) (defArgs s__law_basis) (defBody s__law_basis) (defScope s__law_basis) (d__law_basis.dvs K) (d__law_basis.kws K) (He.ga K ("_law_basis" : Str)) (fdOf K d__law_basis) := T.fun_ 21 rfl
theorem Top.b__law_basis (T : Top w K mg) : Binds K (fdOf K d__law_basis) ["rows", "wide"] [] := (show FunD K ("_law_basis" : Str) ("_law_basis" : Str) (defArgs s__law_basis) (defBody s__law_basis) (defScope s__law_basis) [] (d__law_basis.kws K) (He.ga K ("_law_basis" : Str)) (fdOf K d__law_basis) from T.f__law_basis).bindsN fun _ _ _ _ _ _ us hl => match us, hl with | [_, _], _ => rfl
theorem sc__law_basis : FnScope ["rows", "wide", "basis", "numbers", "k", "row", "ats", "j"] ["rows", "wide"] (defScope s__law_basis) := ⟨rfl, rfl, rfl, by decide +kernel, rfl, by decide +kernel, by decide +kernel⟩
theorem Top.f__law_rank (T : Top w K mg) : FunD K ("_law_rank" : Str) ("_law_rank" : Str) (defArgs s__law_rank) (defBody s__law_rank) (defScope s__law_rank) (d__law_rank.dvs K) (d__law_rank.kws K) (He.ga K ("_law_rank" : Str)) (fdOf K d__law_rank) := T.fun_ 22 rfl
theorem Top.b__law_rank (T : Top w K mg) : Binds K (fdOf K d__law_rank) ["rows"] [] := (show FunD K ("_law_rank" : Str) ("_law_rank" : Str) (defArgs s__law_rank) (defBody s__law_rank) (defScope s__law_rank) [] (d__law_rank.kws K) (He.ga K ("_law_rank" : Str)) (fdOf K d__law_rank) from T.f__law_rank).bindsN fun _ _ _ _ _ _ us hl => match us, hl with | [_], _ => rfl
theorem sc__law_rank : FnScope ["rows"] ["rows"] (defScope s__law_rank) := ⟨rfl, rfl, rfl, by decide +kernel, rfl, by decide +kernel, by decide +kernel⟩
theorem Top.f__law_dot (T : Top w K mg) : FunD K ("_law_dot" : Str) ("_law_dot" : Str) (defArgs s__law_dot) (defBody s__law_dot) (defScope s__law_dot) (d__law_dot.dvs K) (d__law_dot.kws K) (He.ga K ("_law_dot" : Str)) (fdOf K d__law_dot) := T.fun_ 23 rfl
theorem Top.b__law_dot (T : Top w K mg) : Binds K (fdOf K d__law_dot) ["row", "values"] [] := (show FunD K ("_law_dot" : Str) ("_law_dot" : Str) (defArgs s__law_dot) (defBody s__law_dot) (defScope s__law_dot) [] (d__law_dot.kws K) (He.ga K ("_law_dot" : Str)) (fdOf K d__law_dot) from T.f__law_dot).bindsN fun _ _ _ _ _ _ us hl => match us, hl with | [_, _], _ => rfl
theorem sc__law_dot : FnScope ["row", "values", "total", "j"] ["row", "values"] (defScope s__law_dot) := ⟨rfl, rfl, rfl, by decide +kernel, rfl, by decide +kernel, by decide +kernel⟩
theorem Top.f__law_torn (T : Top w K mg) : FunD K ("_law_torn" : Str) ("_law_torn" : Str) (defArgs s__law_torn) (defBody s__law_torn) (defScope s__law_torn) (d__law_torn.dvs K) (d__law_torn.kws K) (He.ga K ("_law_torn" : Str)) (fdOf K d__law_torn) := T.fun_ 24 rfl
theorem Top.b__law_torn (T : Top w K mg) : Binds K (fdOf K d__law_torn) ["rows", "tears"] [] := (show FunD K ("_law_torn" : Str) ("_law_torn" : Str) (defArgs s__law_torn) (defBody s__law_torn) (defScope s__law_torn) [] (d__law_torn.kws K) (He.ga K ("_law_torn" : Str)) (fdOf K d__law_torn) from T.f__law_torn).bindsN fun _ _ _ _ _ _ us hl => match us, hl with | [_, _], _ => rfl
theorem sc__law_torn : FnScope ["rows", "tears", "known", "taken", "found", "again", "k", "open_ones", "j"] ["rows", "tears"] (defScope s__law_torn) := ⟨rfl, rfl, rfl, by decide +kernel, rfl, by decide +kernel, by decide +kernel⟩
theorem Top.f__law_lists (T : Top w K mg) : FunD K ("_law_lists" : Str) ("_law_lists" : Str) (defArgs s__law_lists) (defBody s__law_lists) (defScope s__law_lists) (d__law_lists.dvs K) (d__law_lists.kws K) (He.ga K ("_law_lists" : Str)) (fdOf K d__law_lists) := T.fun_ 25 rfl
theorem Top.b__law_lists (T : Top w K mg) : Binds K (fdOf K d__law_lists) ["many", "size"] [] := (show FunD K ("_law_lists" : Str) ("_law_lists" : Str) (defArgs s__law_lists) (defBody s__law_lists) (defScope s__law_lists) [] (d__law_lists.kws K) (He.ga K ("_law_lists" : Str)) (fdOf K d__law_lists) from T.f__law_lists).bindsN fun _ _ _ _ _ _ us hl => match us, hl with | [_, _], _ => rfl
theorem sc__law_lists : FnScope ["many", "size", "found", "one", "low", "j"] ["many", "size"] (defScope s__law_lists) := ⟨rfl, rfl, rfl, by decide +kernel, rfl, by decide +kernel, by decide +kernel⟩
theorem Top.f__law_best (T : Top w K mg) : FunD K ("_law_best" : Str) ("_law_best" : Str) (defArgs s__law_best) (defBody s__law_best) (defScope s__law_best) (d__law_best.dvs K) (d__law_best.kws K) (He.ga K ("_law_best" : Str)) (fdOf K d__law_best) := T.fun_ 26 rfl
theorem Top.b__law_best (T : Top w K mg) : Binds K (fdOf K d__law_best) ["rows"] [] := (show FunD K ("_law_best" : Str) ("_law_best" : Str) (defArgs s__law_best) (defBody s__law_best) (defScope s__law_best) [] (d__law_best.kws K) (He.ga K ("_law_best" : Str)) (fdOf K d__law_best) from T.f__law_best).bindsN fun _ _ _ _ _ _ us hl => match us, hl with | [_], _ => rfl
theorem sc__law_best : FnScope ["rows", "size", "tears"] ["rows"] (defScope s__law_best) := ⟨rfl, rfl, rfl, by decide +kernel, rfl, by decide +kernel, by decide +kernel⟩
theorem Top.f__law_told (T : Top w K mg) : FunD K ("_law_told" : Str) ("_law_told" : Str) (defArgs s__law_told) (defBody s__law_told) (defScope s__law_told) (d__law_told.dvs K) (d__law_told.kws K) (He.ga K ("_law_told" : Str)) (fdOf K d__law_told) := T.fun_ 27 rfl
theorem Top.b__law_told (T : Top w K mg) : Binds K (fdOf K d__law_told) ["rows", "tears"] [] := (show FunD K ("_law_told" : Str) ("_law_told" : Str) (defArgs s__law_told) (defBody s__law_told) (defScope s__law_told) [] (d__law_told.kws K) (He.ga K ("_law_told" : Str)) (fdOf K d__law_told) from T.f__law_told).bindsN fun _ _ _ _ _ _ us hl => match us, hl with | [_, _], _ => rfl
theorem sc__law_told : FnScope ["rows", "tears"] ["rows", "tears"] (defScope s__law_told) := ⟨rfl, rfl, rfl, by decide +kernel, rfl, by decide +kernel, by decide +kernel⟩
theorem Top.f_law (T : Top w K mg) : FunD K ("law" : Str) ("law" : Str) (defArgs s_law) (defBody s_law) (defScope s_law) (d_law.dvs K) (d_law.kws K) (He.ga K ("law" : Str)) (fdOf K d_law) := T.fun_ 28 rfl
theorem Top.b_law (T : Top w K mg) : Binds K (fdOf K d_law) ["script"] [] := (show FunD K ("law" : Str) ("law" : Str) (defArgs s_law) (defBody s_law) (defScope s_law) [] (d_law.kws K) (He.ga K ("law" : Str)) (fdOf K d_law) from T.f_law).bindsN fun _ _ _ _ _ _ us hl => match us, hl with | [_], _ => rfl
theorem sc_law : FnScope ["script", "stream", "many", "rows", "one", "row", "tears", "j", "given", "found", "rest", "enough", "kept", "actual"] ["script"] (defScope s_law) := ⟨rfl, rfl, rfl, by decide +kernel, rfl, by decide +kernel, by decide +kernel⟩
end
/-! ### heap-free readings: data, how values read as data in a frozen part of the heap -/
inductive Dt where
  | non | bl (b : Bool) | int (i : Int) | str (x : Str) | ty (n : String) | adr (a : Addr) | strm
  | rat (n d : Int)
  | tup (ds : List Dt) | lst (t : Bool) (ds : List Dt)
  | dic (t : Bool) (ks : List Key) (ds : List Dt) | dit (t : Bool) (ks : List (List Key)) (ds : List Dt)
  | ins (C : Addr) (fs : List Str) (ds : List Dt)
deriving Inhabited
def ratF (n d : Int) : List (Str × V) := [("top", .int n), ("bottom", .int d)]
mutual
def Rz (K : PySem.W.Frag) (B F : Hp) : Dt → V → Prop
  | .non, v => v = .non
  | .bl b, v => v = .bl b
  | .int i, v => v = .int i
  | .str x, v => v = .str x
  | .ty n, v => v = .ty n
  | .adr a, v => v = .ref a
  | .strm, v => ∃ a, v = .ref a ∧ Strm F a
  | .rat n d, v => ∃ a dx, v = .ref a ∧ F a = some (.ins (He.ga K "Ratio") dx (ratF n d))
  | .tup ds, v => ∃ a xs, v = .ref a ∧ F a = some (.tup xs) ∧ Rzl K B F ds xs
  | .lst t ds, v => ∃ a xs, v = .ref a ∧ F a = some (.lst xs) ∧ (t = true → B a = none) ∧ Rzl K B F ds xs
  | .dic t ks ds, v => ∃ a kvs, v = .ref a ∧ F a = some (.dK kvs) ∧ (t = true → B a = none) ∧ kvs.map Prod.fst = ks ∧ Rzl K B F ds (kvs.map Prod.snd)
  | .dit t ks ds, v => ∃ a kvs, v = .ref a ∧ F a = some (.dT kvs) ∧ (t = true → B a = none) ∧ kvs.map Prod.fst = ks ∧ Rzl K B F ds (kvs.map Prod.snd)
  | .ins C fs ds, v => ∃ a dx kvs, v = .ref a ∧ F a = some (.ins C dx kvs) ∧ kvs.map Prod.fst = fs ∧ Rzl K B F ds (kvs.map Prod.snd)
def Rzl (K : PySem.W.Frag) (B F : Hp) : List Dt → List V → Prop
  | [], xs => xs = []
  | d :: ds, xs => ∃ x r, xs = x :: r ∧ Rz K B F d x ∧ Rzl K B F ds r
end
mutual
/-- seen by a callee: nothing is new -/
def Dt.old : Dt → Dt
  | .tup ds => .tup (Dt.olds ds)
  | .lst _ ds => .lst false (Dt.olds ds)
  | .dic _ ks ds => .dic false ks (Dt.olds ds)
  | .dit _ ks ds => .dit false ks (Dt.olds ds)
  | .ins C fs ds => .ins C fs (Dt.olds ds)
  | .non => .non | .bl b => .bl b | .int i => .int i | .str x => .str x | .ty n => .ty n | .adr a => .adr a | .strm => .strm | .rat n d => .rat n d
def Dt.olds : List Dt → List Dt
  | [] => []
  | d :: ds => d.old :: Dt.olds ds
end
theorem olds_map : ∀ ds : List Dt, Dt.olds ds = ds.map Dt.old
  | [] => rfl
  | d :: ds => by rw [Dt.olds, olds_map ds]; rfl
theorem rz_str {F F' : Hp} {a : Addr} (e : Same F F') (h : Strm F a) : Strm F' a := h.mono e
mutual
theorem rz_mono {K : PySem.W.Frag} {B F F' : Hp} (e : Same F F') : ∀ (d : Dt) (v : V), Rz K B F d v → Rz K B F' d v
  | .non, _, h | .bl _, _, h | .int _, _, h | .str _, _, h | .ty _, _, h | .adr _, _, h => by simpa only [Rz] using h
  | .strm, _, h => by
    simp only [Rz] at h ⊢
    obtain ⟨a, r, h⟩ := h
    exact ⟨a, r, h.mono e⟩
  | .rat _ _, _, h => by
    simp only [Rz] at h ⊢
    obtain ⟨a, dx, r, h⟩ := h
    exact ⟨a, dx, r, e _ _ h⟩
  | .tup ds, _, h => by
    simp only [Rz] at h ⊢
    obtain ⟨a, xs, r, h1, h2⟩ := h
    exact ⟨a, xs, r, e _ _ h1, rzl_mono e ds xs h2⟩
  | .lst _ ds, _, h => by
    simp only [Rz] at h ⊢
    obtain ⟨a, xs, r, h1, h3, h2⟩ := h
    exact ⟨a, xs, r, e _ _ h1, h3, rzl_mono e ds xs h2⟩
  | .dic _ _ ds, _, h => by
    simp only [Rz] at h ⊢
    obtain ⟨a, xs, r, h1, h3, h4, h2⟩ := h
    exact ⟨a, xs, r, e _ _ h1, h3, h4, rzl_mono e ds _ h2⟩
  | .dit _ _ ds, _, h => by
    simp only [Rz] at h ⊢
    obtain ⟨a, xs, r, h1, h3, h4, h2⟩ := h
    exact ⟨a, xs, r, e _ _ h1, h3, h4, rzl_mono e ds _ h2⟩
  | .ins _ _ ds, _, h => by
    simp only [Rz] at h ⊢
    obtain ⟨a, dx, xs, r, h1, h4, h2⟩ := h
    exact ⟨a, dx, xs, r, e _ _ h1, h4, rzl_mono e ds _ h2⟩
theorem rzl_mono {K : PySem.W.Frag} {B F F' : Hp} (e : Same F F') : ∀ (ds : List Dt) (vs : List V), Rzl K B F ds vs → Rzl K B F' ds vs
  | [], _, h => by simpa only [Rzl] using h
  | d :: ds, _, h => by
    simp only [Rzl] at h ⊢
    obtain ⟨x, r, e0, h1, h2⟩ := h
    exact ⟨x, r, e0, rz_mono e d x h1, rzl_mono e ds r h2⟩
end
mutual
theorem rz_old {K : PySem.W.Frag} {B B' F : Hp} : ∀ (d : Dt) (v : V), Rz K B F d v → Rz K B' F d.old v
  | .non, _, h | .bl _, _, h | .int _, _, h | .str _, _, h | .ty _, _, h | .adr _, _, h | .strm, _, h | .rat _ _, _, h => by simpa only [Rz, Dt.old] using h
  | .tup ds, _, h => by
    simp only [Rz, Dt.old] at h ⊢
    obtain ⟨a, xs, r, h1, h2⟩ := h
    exact ⟨a, xs, r, h1, rzl_old ds xs h2⟩
  | .lst _ ds, _, h => by
    simp only [Rz, Dt.old] at h ⊢
    obtain ⟨a, xs, r, h1, _, h2⟩ := h
    exact ⟨a, xs, r, h1, (fun z => nomatch z), rzl_old ds xs h2⟩
  | .dic _ _ ds, _, h => by
    simp only [Rz, Dt.old] at h ⊢
    obtain ⟨a, xs, r, h1, _, h4, h2⟩ := h
    exact ⟨a, xs, r, h1, (fun z => nomatch z), h4, rzl_old ds _ h2⟩
  | .dit _ _ ds, _, h => by
    simp only [Rz, Dt.old] at h ⊢
    obtain ⟨a, xs, r, h1, _, h4, h2⟩ := h
    exact ⟨a, xs, r, h1, (fun z => nomatch z), h4, rzl_old ds _ h2⟩
  | .ins _ _ ds, _, h => by
    simp only [Rz, Dt.old] at h ⊢
    obtain ⟨a, dx, xs, r, h1, h4, h2⟩ := h
    exact ⟨a, dx, xs, r, h1, h4, rzl_old ds _ h2⟩
theorem rzl_old {K : PySem.W.Frag} {B B' F : Hp} : ∀ (ds : List Dt) (vs : List V), Rzl K B F ds vs → Rzl K B' F (Dt.olds ds) vs
  | [], _, h => by simpa only [Rzl, Dt.olds] using h
  | d :: ds, _, h => by
    simp only [Rzl, Dt.olds] at h ⊢
    obtain ⟨x, r, e0, h1, h2⟩ := h
    exact ⟨x, r, e0, rz_old d x h1, rzl_old ds r h2⟩
end
mutual
theorem rz_base {K : PySem.W.Frag} {B B' F : Hp} (hb : ∀ a, B' a = none → B a = none) : ∀ (d : Dt) (v : V), Rz K B' F d v → Rz K B F d v
  | .non, _, h | .bl _, _, h | .int _, _, h | .str _, _, h | .ty _, _, h | .adr _, _, h | .strm, _, h | .rat _ _, _, h => by simpa only [Rz] using h
  | .tup ds, _, h => by
    simp only [Rz] at h ⊢
    obtain ⟨a, xs, r, h1, h2⟩ := h
    exact ⟨a, xs, r, h1, rzl_base hb ds xs h2⟩
  | .lst _ ds, _, h => by
    simp only [Rz] at h ⊢
    obtain ⟨a, xs, r, h1, t, h2⟩ := h
    exact ⟨a, xs, r, h1, fun z => hb _ (t z), rzl_base hb ds xs h2⟩
  | .dic _ _ ds, _, h => by
    simp only [Rz] at h ⊢
    obtain ⟨a, xs, r, h1, t, h4, h2⟩ := h
    exact ⟨a, xs, r, h1, fun z => hb _ (t z), h4, rzl_base hb ds _ h2⟩
  | .dit _ _ ds, _, h => by
    simp only [Rz] at h ⊢
    obtain ⟨a, xs, r, h1, t, h4, h2⟩ := h
    exact ⟨a, xs, r, h1, fun z => hb _ (t z), h4, rzl_base hb ds _ h2⟩
  | .ins _ _ ds, _, h => by
    simp only [Rz] at h ⊢
    obtain ⟨a, dx, xs, r, h1, h4, h2⟩ := h
    exact ⟨a, dx, xs, r, h1, h4, rzl_base hb ds _ h2⟩
theorem rzl_base {K : PySem.W.Frag} {B B' F : Hp} (hb : ∀ a, B' a = none → B a = none) : ∀ (ds : List Dt) (vs : List V), Rzl K B' F ds vs → Rzl K B F ds vs
  | [], _, h => by simpa only [Rzl] using h
  | d :: ds, _, h => by
    simp only [Rzl] at h ⊢
    obtain ⟨x, r, e0, h1, h2⟩ := h
    exact ⟨x, r, e0, rz_base hb d x h1, rzl_base hb ds r h2⟩
end
/-! ### lists of readings -/
section
variable {K : PySem.W.Frag} {B F : Hp}
theorem Rzl.nil : Rzl K B F [] [] := by simp only [Rzl]
theorem Rzl.cons {d : Dt} {ds : List Dt} {v : V} {vs : List V} (h : Rz K B F d v) (t : Rzl K B F ds vs) : Rzl K B F (d :: ds) (v :: vs) := by
  simp only [Rzl]
  exact ⟨v, vs, rfl, h, t⟩
theorem Rzl.inv {d : Dt} {ds : List Dt} {vs : List V} (h : Rzl K B F (d :: ds) vs) : ∃ v r, vs = v :: r ∧ Rz K B F d v ∧ Rzl K B F ds r := by
  simpa only [Rzl] using h
theorem Rzl.inv0 {vs : List V} (h : Rzl K B F [] vs) : vs = [] := by simpa only [Rzl] using h
theorem Rzl.len : ∀ {ds : List Dt} {vs : List V}, Rzl K B F ds vs → vs.length = ds.length
  | [], _, h => by rw [h.inv0]; rfl
  | d :: ds, _, h => by
    obtain ⟨v, r, rfl, _, t⟩ := h.inv
    rw [List.length_cons, List.length_cons, Rzl.len t]
theorem Rzl.app : ∀ {ds es : List Dt} {vs us : List V}, Rzl K B F ds vs → Rzl K B F es us → Rzl K B F (ds ++ es) (vs ++ us)
  | [], _, _, _, h, g => by rw [h.inv0]; exact g
  | d :: ds, _, _, _, h, g => by
    obtain ⟨v, r, rfl, h1, t⟩ := h.inv
    exact .cons h1 (Rzl.app t g)
theorem Rzl.at_ : ∀ {ds : List Dt} {vs : List V} {i : Nat} {d : Dt}, Rzl K B F ds vs → ds[i]? = some d → ∃ v, vs[i]? = some v ∧ Rz K B F d v
  | [], _, _, _, _, e => by simp at e
  | d :: ds, _, 0, _, h, e => by
    obtain ⟨v, r, rfl, h1, t⟩ := h.inv
    simp at e
    exact ⟨v, rfl, e ▸ h1⟩
  | d :: ds, _, i + 1, _, h, e => by
    obtain ⟨v, r, rfl, h1, t⟩ := h.inv
    obtain ⟨u, h2, h3⟩ := Rzl.at_ (i := i) t (by simpa using e)
    exact ⟨u, by simpa using h2, h3⟩
theorem Rzl.back : ∀ {ds : List Dt} {vs : List V} {i : Nat} {v : V}, Rzl K B F ds vs → vs[i]? = some v → ∃ d, ds[i]? = some d ∧ Rz K B F d v := fun {ds vs i v} h e => by
  have l := h.len
  have hi : i < vs.length := (List.getElem?_eq_some_iff.mp e).1
  obtain ⟨u, h1, h2⟩ := h.at_ (i := i) (d := ds[i]'(by omega)) (List.getElem?_eq_getElem (by omega))
  rw [e] at h1
  cases h1
  exact ⟨_, List.getElem?_eq_getElem (by omega), h2⟩
theorem Rzl.take : ∀ {ds : List Dt} {vs : List V} (n : Nat), Rzl K B F ds vs → Rzl K B F (ds.take n) (vs.take n)
  | _, _, 0, _ => by simp only [List.take_zero]; exact .nil
  | [], _, n + 1, h => by rw [h.inv0]; simp only [List.take_nil]; exact .nil
  | d :: ds, _, n + 1, h => by
    obtain ⟨v, r, rfl, h1, t⟩ := h.inv
    exact .cons h1 (Rzl.take n t)
theorem Rzl.drop : ∀ {ds : List Dt} {vs : List V} (n : Nat), Rzl K B F ds vs → Rzl K B F (ds.drop n) (vs.drop n)
  | _, _, 0, h => h
  | [], _, n + 1, h => by rw [h.inv0]; simp only [List.drop_nil]; exact .nil
  | d :: ds, _, n + 1, h => by
    obtain ⟨v, r, rfl, h1, t⟩ := h.inv
    exact Rzl.drop n t
theorem Rzl.set {e : Dt} {u : V} (he : Rz K B F e u) : ∀ {ds : List Dt} {vs : List V} (n : Nat), Rzl K B F ds vs → Rzl K B F (ds.set n e) (vs.set n u)
  | [], _, n, h => by rw [h.inv0]; exact .nil
  | d :: ds, _, 0, h => by
    obtain ⟨v, r, rfl, h1, t⟩ := h.inv
    exact .cons he t
  | d :: ds, _, n + 1, h => by
    obtain ⟨v, r, rfl, h1, t⟩ := h.inv
    exact .cons h1 (Rzl.set he n t)
theorem Rzl.rev : ∀ {ds : List Dt} {vs : List V}, Rzl K B F ds vs → Rzl K B F ds.reverse vs.reverse
  | [], _, h => by rw [h.inv0]; exact .nil
  | d :: ds, _, h => by
    obtain ⟨v, r, rfl, h1, t⟩ := h.inv
    rw [List.reverse_cons, List.reverse_cons]
    exact (Rzl.rev t).app (.cons h1 .nil)
end
/-! ### tables -/
section
variable {κ : Type} [DecidableEq κ] {α : Type}
def look : List κ → List α → κ → Option α
  | k :: ks, d :: ds, x => if k = x then some d else look ks ds x
  | _, _, _ => none
def putDs (ks : List κ) (ds : List α) (k : κ) (d : α) : List α := if k ∈ ks then List.zipWith (fun k' d' => if k' = k then d else d') ks ds else ds ++ [d]
def putKs (ks : List κ) (k : κ) : List κ := if k ∈ ks then ks else ks ++ [k]
theorem look_none {ks : List κ} {ds : List α} {k : κ} (hl : ds.length = ks.length) : look ks ds k = none ↔ k ∉ ks := by
  induction ks generalizing ds with
  | nil => simp [look]
  | cons a ks ih =>
    cases ds with
    | nil => cases hl
    | cons d ds =>
      by_cases e : a = k
      · simp [look, e]
      · simp only [look, if_neg e, List.mem_cons, not_or, ih (by simpa using hl)]
        exact ⟨fun h => ⟨fun z => e z.symm, h⟩, fun h => h.2⟩
end
section
variable {κ : Type} [DecidableEq κ] {K : PySem.W.Frag} {B F : Hp}
theorem tab_look {k : κ} : ∀ {kvs : List (κ × V)} {ds : List Dt}, Rzl K B F ds (kvs.map Prod.snd) → match look (kvs.map Prod.fst) ds k with | some d => ∃ v, valV kvs k = some v ∧ Rz K B F d v | none => valV kvs k = none
  | [], ds, h => by
    cases ds with
    | nil => rfl
    | cons d ds => obtain ⟨_, _, e, _⟩ := h.inv; cases e
  | p :: r, ds, h => by
    cases ds with
    | nil => cases h.inv0
    | cons d ds =>
      obtain ⟨v, r', e, h1, t⟩ := h.inv
      rw [List.map_cons] at e
      obtain ⟨rfl, rfl⟩ := List.cons.inj e
      rw [List.map_cons, look]
      by_cases c : p.1 = k
      · rw [if_pos c]
        exact ⟨_, valV_pos c, h1⟩
      · rw [if_neg c, valV_neg c]
        exact tab_look t
theorem any_mem (kvs : List (κ × V)) (k : κ) : ((kvs.any fun kv => decide (kv.1 = k)) = true) ↔ k ∈ kvs.map Prod.fst := by
  simp only [List.any_eq_true, decide_eq_true_eq, List.mem_map]
theorem tab_putK {kvs : List (κ × V)} {k : κ} {v : V} : (putK kvs k v).map Prod.fst = putKs (kvs.map Prod.fst) k := by
  unfold putK putKs
  by_cases c : k ∈ kvs.map Prod.fst
  · rw [if_pos ((any_mem _ _).mpr c), if_pos c, List.map_map]
    refine List.map_congr_left fun p _ => ?_
    show (if p.1 = k then (p.1, v) else p).1 = p.1
    split <;> rfl
  · rw [if_neg (fun z => c ((any_mem _ _).mp z)), if_neg c, List.map_append]
    rfl
theorem tab_repl {k : κ} {v : V} {d : Dt} (hv : Rz K B F d v) : ∀ {kvs : List (κ × V)} {ds : List Dt}, Rzl K B F ds (kvs.map Prod.snd) →
    Rzl K B F (List.zipWith (fun k' d' => if k' = k then d else d') (kvs.map Prod.fst) ds) ((kvs.map (fun kv => if kv.1 = k then (kv.1, v) else kv)).map Prod.snd)
  | [], ds, h => by
    cases ds with
    | nil => exact .nil
    | cons d ds => obtain ⟨_, _, e, _⟩ := h.inv; cases e
  | p :: r, ds, h => by
    cases ds with
    | nil => cases h.inv0
    | cons d' ds =>
      obtain ⟨u, r', e, h1, t⟩ := h.inv
      rw [List.map_cons] at e
      obtain ⟨rfl, rfl⟩ := List.cons.inj e
      rw [List.map_cons, List.map_cons, List.map_cons, List.zipWith_cons_cons]
      refine .cons ?_ (tab_repl hv t)
      by_cases c : p.1 = k
      · rw [if_pos c, if_pos c]; exact hv
      · rw [if_neg c, if_neg c]; exact h1
theorem tab_putD {kvs : List (κ × V)} {ds : List Dt} {k : κ} {v : V} {d : Dt} (h : Rzl K B F ds (kvs.map Prod.snd)) (hv : Rz K B F d v) : Rzl K B F (putDs (kvs.map Prod.fst) ds k d) ((putK kvs k v).map Prod.snd) := by
  unfold putK putDs
  by_cases c : k ∈ kvs.map Prod.fst
  · rw [if_pos ((any_mem _ _).mpr c), if_pos c]
    exact tab_repl hv h
  · rw [if_neg (fun z => c ((any_mem _ _).mp z)), if_neg c, List.map_append]
    exact h.app (.cons hv .nil)
end
/-! ### the frozen part, locks aside -/
def isDk : HO → Bool
  | .dK _ => true
  | .dT _ => true
  | _ => false
def Le (F H : Hp) : Prop := ∀ a o, F a = some o → H a = some o ∨ (isDk o = true ∧ ∃ ob, H a = some (.frz ob o))
theorem Le.refl (H : Hp) : Le H H := fun _ _ h => .inl h
theorem Le.same {F H H' : Hp} (l : Le F H) (s : Same H H') : Le F H' := fun a o e => (l a o e).elim (fun h => .inl (s _ _ h)) fun ⟨d, ob, h⟩ => .inr ⟨d, ob, s _ _ h⟩
theorem Le.of {F F' H : Hp} (s : Same F F') (l : Le F' H) : Le F H := fun a o e => l a o (s _ _ e)
theorem Le.exact {F H : Hp} (l : Le F H) {a : Addr} {o : HO} (e : F a = some o) (h : isDk o = false) : H a = some o := (l a o e).elim id fun ⟨d, _⟩ => by rw [h] at d; cases d
theorem Le.rd {F H : Hp} (l : Le F H) {a : Addr} {o : HO} (e : F a = some o) : L2.Rd H a o := (l a o e).elim .inl fun ⟨_, ob, h⟩ => .inr ⟨ob, h⟩
theorem Le.free {F H : Hp} (l : Le F H) {a : Addr} (e : H a = none) : F a = none := by
  cases z : F a with
  | none => rfl
  | some o => rcases l a o z with h | ⟨_, _, h⟩ <;> (rw [e] at h; cases h)
theorem Le.new {F H : Hp} (l : Le F H) {p : Addr} {o : HO} (e : H p = none) : Le (upd F p o) (upd H p o) := fun a u q => by
  by_cases c : a = p
  · rw [c, upd_same] at q
    rw [c, upd_same]
    exact .inl q
  · rw [upd_ne c] at q ⊢
    exact l a u q
/-- frozen: what is owned already stands in the heap -/
theorem Le.frz {F H : Hp} (l : Le F H) {p : Addr} {o : HO} (e : H p = some o) : Le (upd F p o) H := fun a u q => by
  by_cases c : a = p
  · rw [c, upd_same] at q
    rw [c, ← q]
    exact .inl e
  · rw [upd_ne c] at q
    exact l a u q
/-- written: an address outside of the frozen part -/
theorem Le.put {F H : Hp} (l : Le F H) {p : Addr} {o : HO} (e : F p = none) : Le F (upd H p o) := fun a u q => by
  rw [upd_ne (fun c => by rw [c, e] at q; cases q)]
  exact l a u q
/-- .. where each lock is one that is known -/
def Lk (J F H : Hp) : Prop := ∀ a o, F a = some o → H a = some o ∨ (isDk o = true ∧ ∃ ob, H a = some (.frz ob o) ∧ J a = some (.frz ob o))
theorem Lk.le {J F H : Hp} (l : Lk J F H) : Le F H := fun a o e => (l a o e).elim .inl fun ⟨d, ob, h, _⟩ => .inr ⟨d, ob, h⟩
theorem Le.lk {F H : Hp} (l : Le F H) : Lk H F H := fun a o e => (l a o e).elim .inl fun ⟨d, ob, h⟩ => .inr ⟨d, ob, h, h⟩
theorem Lk.same {J F H H' : Hp} (l : Lk J F H) (s : Same H H') : Lk J F H' := fun a o e => (l a o e).elim (fun h => .inl (s _ _ h)) fun ⟨d, ob, h, j⟩ => .inr ⟨d, ob, s _ _ h, j⟩
theorem Lk.new {J F H : Hp} (l : Lk J F H) {p : Addr} {o : HO} (e : H p = none) : Lk J (upd F p o) (upd H p o) := fun a u q => by
  by_cases c : a = p
  · rw [c, upd_same] at q
    rw [c, upd_same]
    exact .inl q
  · rw [upd_ne c] at q ⊢
    exact l a u q
theorem Lk.frz {J F H : Hp} (l : Lk J F H) {p : Addr} {o : HO} (e : H p = some o) : Lk J (upd F p o) H := fun a u q => by
  by_cases c : a = p
  · rw [c, upd_same] at q
    rw [c, ← q]
    exact .inl e
  · rw [upd_ne c] at q
    exact l a u q
theorem Lk.put {J F H : Hp} (l : Lk J F H) {p : Addr} {o : HO} (e : F p = none) : Lk J F (upd H p o) := fun a u q => by
  rw [upd_ne (fun c => by rw [c, e] at q; cases q)]
  exact l a u q
theorem same_new' {F : Hp} {p : Addr} {o : HO} (e : F p = none) : Same F (upd F p o) := same_new e
def isFz : HO → Bool
  | .frz _ _ => true
  | _ => false
def isTp : HO → Bool
  | .tup _ => true
  | _ => false
/-- what F' has more than F is new over H, or a tuple -/
def Nw (F H F' : Hp) : Prop := ∀ a o, F' a = some o → F a ≠ none ∨ H a = none ∨ isTp o = true
theorem Nw.refl (F H : Hp) : Nw F H F := fun _ _ e => .inl (by rw [e]; exact fun z => nomatch z)
theorem Nw.trans {F F' F'' H H' : Hp} (a : Nw F H F') (b : Nw F' H' F'') (s : ∀ a, H' a = none → H a = none) (m : Same F' F'') : Nw F H F'' := fun x o e => by
  rcases b x o e with h | h | h
  · cases z : F' x with
    | none => exact absurd z h
    | some u =>
      have := m _ _ z
      rw [e] at this
      cases this
      exact a x o z
  · exact .inr (.inl (s _ h))
  · exact .inr (.inr h)
structure Cz where
  K : PySem.W.Frag
  Er : XK
  Eh : Addr → List (Str × V) → Prop
/-- an error's object behind a call -/
def ErrR (B : Hp) (fs : List (Str × V)) (dd : Option Addr) (H : Hp) : Prop := Le B H ∧ match fs with
  | [] => dd = none
  | _ => ∃ x, dd = some x ∧ B x = none ∧ H x = some (.xd fs)
/-- what stays through a body: the heap at its entry, the frozen part there, what is held, what is hidden -/
structure Fm where
  B : Hp
  F0 : Hp
  J : Hp
  hd : Addr → Prop
structure Sc (z : Cz) (m : Fm) (F H : Hp) : Prop where
  lk : Lk m.J F H
  base : Same m.J H
  fr : Nw m.F0 m.B F
  dom : ∀ a, H a = none → m.B a = none
  bj : Le m.B m.J
  er : ∀ C fs dd H', z.Eh C fs → ErrR m.B fs dd H' → z.Er (.ref C) dd H'
  hid : ∀ a, m.hd a → F a = none ∧ ∃ o, m.J a = some o ∧ isTp o = false
  fj : ∀ a ob u, H a = some (.frz ob u) → m.J a = some (.frz ob u)
theorem Sc.le {z : Cz} {m : Fm} {F H : Hp} (S : Sc z m F H) : Le F H := S.lk.le
inductive Sl where
  | un | v (d : Dt) | o (d : Dt) | l (a : Addr) (d : Dt)
/-- the content of an object reads as d -/
inductive HoR (K : PySem.W.Frag) (B F : Hp) : HO → Dt → Prop
  | lst {xs : List V} {ds : List Dt} : Rzl K B F ds xs → HoR K B F (.lst xs) (.lst true ds)
  | dK {kvs : List (Key × V)} {ds : List Dt} : Rzl K B F ds (kvs.map Prod.snd) → HoR K B F (.dK kvs) (.dic true (kvs.map Prod.fst) ds)
  | dT {kvs : List (List Key × V)} {ds : List Dt} : Rzl K B F ds (kvs.map Prod.snd) → HoR K B F (.dT kvs) (.dit true (kvs.map Prod.fst) ds)
def OwnAt (K : PySem.W.Frag) (m : Fm) (F H : Hp) (l : Addr) (d : Dt) : Prop := F l = none ∧ m.B l = none ∧ m.J l = none ∧ ∃ ho, H l = some ho ∧ HoR K m.B F ho d
/-- held: as it stands now -/
def PinAt (K : PySem.W.Frag) (m : Fm) (F : Hp) (l : Addr) (d : Dt) : Prop := m.hd l ∧ m.B l = none ∧ ∃ ho, (m.J l = some ho ∨ isDk ho = true ∧ ∃ ob, m.J l = some (.frz ob ho)) ∧ HoR K m.B F ho d
def SlOk (K : PySem.W.Frag) (m : Fm) (F H : Hp) (ov : Option V) : Sl → Prop
  | .un => True
  | .v d => ∃ v, ov = some v ∧ Rz K m.B F d v
  | .o d => ∃ l, ov = some (.ref l) ∧ OwnAt K m F H l d
  | .l a d => ov = some (.ref a) ∧ PinAt K m F a d
structure Sm (z : Cz) (m : Fm) (F H : Hp) (σ : L2.St) (ρ : List Sl) : Prop extends Sc z m F H where
  len : σ.length = ρ.length
  slot : ∀ (i : Nat) (s : Sl) (ov : Option V), ρ[i]? = some s → σ[i]? = some ov → SlOk z.K m F H ov s
  sep : ∀ (i j : Nat) (d e : Dt) (l : Addr), ρ[i]? = some (.o d) → ρ[j]? = some (.o e) → σ[i]? = some (some (.ref l)) → σ[j]? = some (some (.ref l)) → i = j
  psep : ∀ (i j : Nat) (a : Addr) (d e : Dt), ρ[i]? = some (.l a d) → ρ[j]? = some (.l a e) → i = j
theorem HoR.mono {K : PySem.W.Frag} {B F F' : Hp} {ho : HO} {d : Dt} (h : HoR K B F ho d) (e : Same F F') : HoR K B F' ho d := by
  cases h with
  | lst h => exact .lst (rzl_mono e _ _ h)
  | dK h => exact .dK (rzl_mono e _ _ h)
  | dT h => exact .dT (rzl_mono e _ _ h)
theorem HoR.notFz {K : PySem.W.Frag} {B F : Hp} {ho : HO} {d : Dt} (h : HoR K B F ho d) : isFz ho = false := by
  cases h <;> rfl
theorem HoR.notTp {K : PySem.W.Frag} {B F : Hp} {ho : HO} {d : Dt} (h : HoR K B F ho d) : isTp ho = false := by
  cases h <;> rfl
theorem HoR.rz {K : PySem.W.Frag} {B F : Hp} {l : Addr} {ho : HO} {d : Dt} (h : HoR K B F ho d) (hb : B l = none) (hf : F l = none) : Rz K B (upd F l ho) d (.ref l) := by
  cases h with
  | lst h => simp only [Rz]; exact ⟨l, _, rfl, upd_same, fun _ => hb, rzl_mono (same_new hf) _ _ h⟩
  | dK h => simp only [Rz]; exact ⟨l, _, rfl, upd_same, fun _ => hb, rfl, rzl_mono (same_new hf) _ _ h⟩
  | dT h => simp only [Rz]; exact ⟨l, _, rfl, upd_same, fun _ => hb, rfl, rzl_mono (same_new hf) _ _ h⟩
section
variable {z : Cz} {m : Fm} {F F' H H' : Hp} {σ : L2.St} {ρ : List Sl}
theorem OwnAt.ext {K : PySem.W.Frag} {l : Addr} {d : Dt} (h : OwnAt K m F H l d) (f : Same F F') (s : Same H H') (le : Le F' H') (nw : Nw F H F') : OwnAt K m F' H' l d := by
  obtain ⟨h1, h2, h3, ho, h4, h5⟩ := h
  refine ⟨?_, h2, h3, ho, s _ _ h4, h5.mono f⟩
  cases e : F' l with
  | none => rfl
  | some u =>
    rcases nw l u e with q | q | q
    · exact absurd h1 q
    · rw [h4] at q; cases q
    · have := le.exact e (by cases u <;> first | rfl | cases q)
      rw [s _ _ h4] at this
      cases this
      rw [h5.notTp] at q
      cases q
theorem PinAt.ext {K : PySem.W.Frag} {l : Addr} {d : Dt} (h : PinAt K m F l d) (f : Same F F') : PinAt K m F' l d := by
  obtain ⟨h1, h2, ho, h4, h5⟩ := h
  exact ⟨h1, h2, ho, h4, h5.mono f⟩
theorem SlOk.ext {K : PySem.W.Frag} {ov : Option V} {s : Sl} (h : SlOk K m F H ov s) (f : Same F F') (e : Same H H') (le : Le F' H') (nw : Nw F H F') : SlOk K m F' H' ov s := by
  cases s with
  | un => trivial
  | v d => obtain ⟨v, q, h⟩ := h; exact ⟨v, q, rz_mono f _ _ h⟩
  | o d => obtain ⟨l, q, h⟩ := h; exact ⟨l, q, h.ext f e le nw⟩
  | l a d => exact ⟨h.1, h.2.ext f⟩
theorem Sc.ext (S : Sc z m F H) (f : Same F F') (e : Same H H') (lk : Lk m.J F' H') (nw : Nw F H F') (fz : ∀ a ob u, H' a = some (.frz ob u) → H a = some (.frz ob u)) : Sc z m F' H' :=
  ⟨lk, S.base.trans e, S.fr.trans nw S.dom f, fun a q => S.dom a (e.free q), S.bj, S.er, fun a ha => by
    obtain ⟨h1, o, h2, h3⟩ := S.hid a ha
    refine ⟨?_, o, h2, h3⟩
    cases q : F' a with
    | none => rfl
    | some u =>
      have hH := S.base _ _ h2
      rcases nw a u q with c | c | c
      · exact absurd h1 c
      · rw [hH] at c; cases c
      · have := lk.le.exact q (by cases u <;> first | rfl | cases c)
        rw [e _ _ hH] at this
        cases this
        rw [h3] at c
        exact absurd c Bool.false_ne_true, fun a ob u q => S.fj a ob u (fz a ob u q)⟩
theorem Sm.ext (S : Sm z m F H σ ρ) (f : Same F F') (e : Same H H') (lk : Lk m.J F' H') (nw : Nw F H F') (fz : ∀ a ob u, H' a = some (.frz ob u) → H a = some (.frz ob u)) : Sm z m F' H' σ ρ :=
  { S.toSc.ext f e lk nw fz with len := S.len, slot := fun i s ov a b => (S.slot i s ov a b).ext f e lk.le nw, sep := S.sep, psep := S.psep }
theorem nw_new {p : Addr} {o : HO} (e : H p = none) : Nw F H (upd F p o) := fun a u q => by
  by_cases c : a = p
  · exact .inr (.inl (c ▸ e))
  · rw [upd_ne c] at q
    exact .inl (by rw [q]; exact fun z => nomatch z)
/-- a new object, frozen at once -/
theorem fz_new {H : Hp} {p : Addr} {o : HO} (no : isFz o = false) : ∀ a ob u, upd H p o a = some (.frz ob u) → H a = some (.frz ob u) := fun a ob u q => by
  by_cases c : a = p
  · rw [c, upd_same] at q
    cases q
    cases no
  · rw [upd_ne c] at q
    exact q
theorem Sm.new (S : Sm z m F H σ ρ) {p : Addr} {o : HO} (e : H p = none) (no : isFz o = false := by rfl) : Same F (upd F p o) ∧ Sm z m (upd F p o) (upd H p o) σ ρ :=
  ⟨same_new (S.le.free e), S.ext (same_new (S.le.free e)) (same_new e) (S.lk.new e) (nw_new e) (fz_new no)⟩
/-- a new object, owned -/
theorem Sm.newO (S : Sm z m F H σ ρ) {p : Addr} {o : HO} (e : H p = none) (no : isFz o = false := by rfl) : Sm z m F (upd H p o) σ ρ :=
  S.ext (Same.refl F) (same_new e) (S.lk.same (same_new e)) (Nw.refl F H) (fz_new no)
theorem Sm.j_none (S : Sm z m F H σ ρ) {p : Addr} (e : H p = none) : m.J p = none := S.base.free e
/-- a tuple that stands is frozen -/
theorem Sm.tup (S : Sm z m F H σ ρ) {p : Addr} {xs : List V} (e : H p = some (.tup xs)) : ∃ F', Same F F' ∧ F' p = some (.tup xs) ∧ Sm z m F' H σ ρ := by
  by_cases c : F p = none
  · refine ⟨upd F p (.tup xs), same_new c, upd_same, S.ext (same_new c) (Same.refl H) (S.lk.frz e) (fun a u q => ?_) fun _ _ _ q => q⟩
    by_cases d : a = p
    · rw [d, upd_same] at q
      cases q
      exact .inr (.inr rfl)
    · rw [upd_ne d] at q
      exact .inl (by rw [q]; exact fun z => nomatch z)
  · obtain ⟨u, hu⟩ := Option.ne_none_iff_exists'.mp c
    refine ⟨F, Same.refl F, ?_, S⟩
    rcases S.le _ _ hu with h | ⟨_, ob, h⟩
    · rw [e] at h; cases h; exact hu
    · rw [e] at h; cases h
theorem Sm.get (S : Sm z m F H σ ρ) {i : Nat} {s : Sl} (h : ρ[i]? = some s) : ∃ ov, σ[i]? = some ov ∧ SlOk z.K m F H ov s := by
  have hi : i < σ.length := by rw [S.len]; exact (List.getElem?_eq_some_iff.mp h).1
  exact ⟨σ[i], List.getElem?_eq_getElem hi, S.slot i s _ h (List.getElem?_eq_getElem hi)⟩
theorem Sm.getv (S : Sm z m F H σ ρ) {i : Nat} {d : Dt} (h : ρ[i]? = some (.v d)) : ∃ v, σ[i]? = some (some v) ∧ Rz z.K m.B F d v := by
  obtain ⟨ov, e, v, rfl, r⟩ := S.get h
  exact ⟨v, e, r⟩
theorem Sm.geto (S : Sm z m F H σ ρ) {i : Nat} {d : Dt} (h : ρ[i]? = some (.o d)) : ∃ l, σ[i]? = some (some (.ref l)) ∧ OwnAt z.K m F H l d := by
  obtain ⟨ov, e, l, rfl, r⟩ := S.get h
  exact ⟨l, e, r⟩
theorem Sm.set (S : Sm z m F H σ ρ) {i : Nat} {s : Sl} {ov : Option V} (hs : SlOk z.K m F H ov s) (hp : ∀ d e l j, s = .o d → ov = some (.ref l) → ρ[j]? = some (.o e) → σ[j]? = some (some (.ref l)) → j = i) (hl : ∀ a d, s ≠ .l a d) : Sm z m F H (σ.set i ov) (ρ.set i s) := by
  refine { S.toSc with len := by rw [List.length_set, List.length_set]; exact S.len, slot := fun j s' ov' a b => ?_, sep := fun j k d e l a b c c' => ?_, psep := fun j k q d e a b => ?_ }
  · by_cases c : i = j
    · subst c
      have hi : i < ρ.length := by rw [← List.length_set (i := i) (a := s)]; exact (List.getElem?_eq_some_iff.mp a).1
      rw [List.getElem?_set_self hi] at a
      rw [List.getElem?_set_self (by rw [S.len]; exact hi)] at b
      cases a
      cases b
      exact hs
    · rw [List.getElem?_set_ne c] at a b
      exact S.slot j s' ov' a b
  · have key : ∀ {x : Nat} {u : Dt}, (ρ.set i s)[x]? = some (.o u) → (σ.set i ov)[x]? = some (some (.ref l)) → x ≠ i → ρ[x]? = some (.o u) ∧ σ[x]? = some (some (.ref l)) := fun {x u} p q n => by
      rw [List.getElem?_set_ne (Ne.symm n)] at p q
      exact ⟨p, q⟩
    have key2 : ∀ {x : Nat} {u : Dt}, (ρ.set i s)[x]? = some (.o u) → (σ.set i ov)[x]? = some (some (.ref l)) → x = i → s = .o u ∧ ov = some (.ref l) := fun {x u} p q n => by
      subst n
      have hi : x < ρ.length := by rw [← List.length_set (i := x) (a := s)]; exact (List.getElem?_eq_some_iff.mp p).1
      rw [List.getElem?_set_self hi] at p
      rw [List.getElem?_set_self (by rw [S.len]; exact hi)] at q
      exact ⟨Option.some.inj p, Option.some.inj q⟩
    by_cases hj : j = i
    · by_cases hk : k = i
      · exact hj.trans hk.symm
      · obtain ⟨p1, p2⟩ := key2 a c hj
        obtain ⟨q1, q2⟩ := key b c' hk
        exact absurd (hp _ _ _ _ p1 p2 q1 q2) hk
    · by_cases hk : k = i
      · obtain ⟨p1, p2⟩ := key2 b c' hk
        obtain ⟨q1, q2⟩ := key a c hj
        exact absurd (hp _ _ _ _ p1 p2 q1 q2) hj
      · obtain ⟨q1, q2⟩ := key a c hj
        obtain ⟨q3, q4⟩ := key b c' hk
        exact S.sep j k d e l q1 q3 q2 q4
  · have key : ∀ {x : Nat} {u : Dt}, (ρ.set i s)[x]? = some (.l q u) → ρ[x]? = some (.l q u) := fun {x u} p => by
      by_cases c : i = x
      · subst c
        have hi : i < ρ.length := by rw [← List.length_set (i := i) (a := s)]; exact (List.getElem?_eq_some_iff.mp p).1
        rw [List.getElem?_set_self hi] at p
        exact absurd (Option.some.inj p) (hl _ _)
      · rw [List.getElem?_set_ne c] at p
        exact p
    exact S.psep j k q d e (key a) (key b)
theorem Sm.setv (S : Sm z m F H σ ρ) {i : Nat} {d : Dt} {v : V} (h : Rz z.K m.B F d v) : Sm z m F H (σ.set i (some v)) (ρ.set i (.v d)) := S.set ⟨v, rfl, h⟩ (fun _ _ _ _ e => nomatch e) fun _ _ e => nomatch e
theorem Sm.setu (S : Sm z m F H σ ρ) {i : Nat} {ov : Option V} : Sm z m F H (σ.set i ov) (ρ.set i .un) := S.set trivial (fun _ _ _ _ e => nomatch e) fun _ _ e => nomatch e
theorem set_back {α : Type} {l : List α} {i : Nat} {x : α} (h : l[i]? = some x) : l.set i x = l := by
  obtain ⟨hi, e⟩ := List.getElem?_eq_some_iff.mp h
  rw [← e]
  exact List.set_getElem_self hi
/-- an owned thing is frozen -/
theorem Sm.frz (S : Sm z m F H σ ρ) {i : Nat} {d : Dt} (h : ρ[i]? = some (.o d)) : ∃ F' l, Same F F' ∧ σ[i]? = some (some (.ref l)) ∧ Rz z.K m.B F' d (.ref l) ∧ Sm z m F' H σ (ρ.set i (.v d)) := by
  obtain ⟨l, e, h1, h2, h3, ho, h4, h5⟩ := S.geto h
  have sf := same_new (o := ho) h1
  have rz := h5.rz h2 h1
  refine ⟨upd F l ho, l, sf, e, rz, ?_⟩
  have C : Sc z m (upd F l ho) H := ⟨S.lk.frz h4, S.base, fun a u q => by
    by_cases c : a = l
    · exact .inr (.inl (c ▸ h2))
    · rw [upd_ne c] at q; exact S.fr a u q, S.dom, S.bj, S.er, fun a ha => by
    obtain ⟨q1, q2⟩ := S.hid a ha
    refine ⟨?_, q2⟩
    obtain ⟨o, q3, _⟩ := q2
    rw [upd_ne (fun c => by rw [c, h3] at q3; cases q3)]
    exact q1, S.fj⟩
  refine { C with len := by rw [List.length_set]; exact S.len, slot := fun j s ov a b => ?_, sep := fun j k d1 d2 l' a b c c' => ?_, psep := fun j k q d1 d2 a b => ?_ }
  · by_cases c : i = j
    · subst c
      have hi : i < ρ.length := (List.getElem?_eq_some_iff.mp h).1
      rw [List.getElem?_set_self hi] at a
      cases a
      rw [e] at b
      cases b
      exact ⟨_, rfl, rz⟩
    · rw [List.getElem?_set_ne c] at a
      have q := S.slot j s ov a b
      cases s with
      | un => trivial
      | v d => obtain ⟨v, e', q⟩ := q; exact ⟨v, e', rz_mono sf _ _ q⟩
      | o d' =>
        obtain ⟨l', e', q1, q2, q3, ho', q4, q5⟩ := q
        subst e'
        refine ⟨l', rfl, ?_, q2, q3, ho', q4, q5.mono sf⟩
        rw [upd_ne (fun z => c (S.sep i j _ _ l h a e (by rw [b, z])))]
        exact q1
      | l a' d' => exact ⟨q.1, q.2.ext sf⟩
  · have key : ∀ {x : Nat} {u : Dt}, (ρ.set i (.v d))[x]? = some (.o u) → ρ[x]? = some (.o u) := fun {x u} p => by
      by_cases c : i = x
      · subst c
        have hi : i < ρ.length := (List.getElem?_eq_some_iff.mp h).1
        rw [List.getElem?_set_self hi] at p
        cases p
      · rw [List.getElem?_set_ne c] at p
        exact p
    exact S.sep j k d1 d2 l' (key a) (key b) c c'
  · have key : ∀ {x : Nat} {u : Dt}, (ρ.set i (.v d))[x]? = some (.l q u) → ρ[x]? = some (.l q u) := fun {x u} p => by
      by_cases c : i = x
      · subst c
        rw [List.getElem?_set_self (List.getElem?_eq_some_iff.mp h).1] at p
        cases p
      · rw [List.getElem?_set_ne c] at p
        exact p
    exact S.psep j k q d1 d2 (key a) (key b)
/-- an owned thing is written -/
theorem Sm.put (S : Sm z m F H σ ρ) {i : Nat} {d d' : Dt} {l : Addr} {ho : HO} (h : ρ[i]? = some (.o d)) (e : σ[i]? = some (some (.ref l))) (hr : HoR z.K m.B F ho d') : Sm z m F (upd H l ho) σ (ρ.set i (.o d')) := by
  obtain ⟨l', e', h1, h2, h3, ho', h4, h5⟩ := S.geto h
  rw [e] at e'
  cases e'
  have C : Sc z m F (upd H l ho) := ⟨S.lk.put h1, fun a u q => by rw [upd_ne (fun c => by rw [c, h3] at q; cases q)]; exact S.base a u q, S.fr, fun a q => by
    by_cases c : a = l
    · rw [c, upd_same] at q; cases q
    · rw [upd_ne c] at q; exact S.dom a q, S.bj, S.er, S.hid, fun a ob u q => S.fj a ob u (fz_new hr.notFz a ob u q)⟩
  have hi : i < ρ.length := (List.getElem?_eq_some_iff.mp h).1
  refine { C with len := by rw [List.length_set]; exact S.len, slot := fun j s ov a b => ?_, sep := fun j k d1 d2 l' a b c c' => ?_, psep := fun j k q d1 d2 a b => ?_ }
  · by_cases c : i = j
    · subst c
      rw [List.getElem?_set_self hi] at a
      cases a
      rw [e] at b
      cases b
      exact ⟨l, rfl, h1, h2, h3, ho, upd_same, hr⟩
    · rw [List.getElem?_set_ne c] at a
      have q := S.slot j s ov a b
      cases s with
      | un => trivial
      | v d => exact q
      | o d2 =>
        obtain ⟨l', e', q1, q2, q3, ho2, q4, q5⟩ := q
        subst e'
        refine ⟨l', rfl, q1, q2, q3, ho2, ?_, q5⟩
        rw [upd_ne (fun z => c (S.sep i j _ _ l h a e (by rw [b, z])))]
        exact q4
      | l a2 d2 => exact q
  · have key : ∀ {x : Nat} {u : Dt}, (ρ.set i (.o d'))[x]? = some (.o u) → ∃ u', ρ[x]? = some (.o u') := fun {x u} p => by
      by_cases c : i = x
      · subst c
        exact ⟨_, h⟩
      · rw [List.getElem?_set_ne c] at p
        exact ⟨_, p⟩
    obtain ⟨u1, a'⟩ := key a
    obtain ⟨u2, b'⟩ := key b
    exact S.sep j k u1 u2 l' a' b' c c'
  · have key : ∀ {x : Nat} {u : Dt}, (ρ.set i (.o d'))[x]? = some (.l q u) → ρ[x]? = some (.l q u) := fun {x u} p => by
      by_cases c : i = x
      · subst c
        rw [List.getElem?_set_self hi] at p
        cases p
      · rw [List.getElem?_set_ne c] at p
        exact p
    exact S.psep j k q d1 d2 (key a) (key b)
end
/-! ### the judgements -/
/-- a result: frozen, or a fresh thing of one's own -/
def RzF (z : Cz) (m : Fm) (F H : Hp) (σ : L2.St) (ρ : List Sl) (fr : Bool) (d : Dt) (v : V) : Prop :=
  if fr = true then ∃ l, v = .ref l ∧ OwnAt z.K m F H l d ∧ ∀ (j : Nat) (e : Dt), ρ[j]? = some (.o e) → σ[j]? ≠ some (some (.ref l)) else Rz z.K m.B F d v
def ZE (z : Cz) (t : TE) (ρ : List Sl) (N : Dt → Bool → List Sl → Prop) : Prop := ∀ m F H σ Q, Sm z m F H σ ρ →
  (∀ d fr ρ' F' H' v, N d fr ρ' → Same F F' → Sm z m F' H' σ ρ' → RzF z m F' H' σ ρ' fr d v → Q v H') → t σ H Q
def ZT (z : Cz) (t : TT) (ρ : List Sl) (N : Bool → List Sl → Prop) : Prop := ∀ m F H σ Q, Sm z m F H σ ρ →
  (∀ b ρ' F' H', N b ρ' → Same F F' → Sm z m F' H' σ ρ' → Q b H') → t σ H Q
def ZA (z : Cz) (t : TA) (ρ : List Sl) (N : List Dt → List Sl → Prop) : Prop := ∀ m F H σ Q, Sm z m F H σ ρ →
  (∀ ds ρ' F' H' vs, N ds ρ' → Same F F' → Sm z m F' H' σ ρ' → Rzl z.K m.B F' ds vs → Q vs H') → t σ H Q
structure Zn where
  nx : List Sl → Prop
  rt : Dt → Bool → Prop
  bk : List Sl → Prop := fun _ => False
  ct : List Sl → Prop := fun _ => False
/-- what is returned -/
def RtR (z : Cz) (m : Fm) (F H : Hp) (fr : Bool) (d : Dt) (v : V) : Prop := Sc z m F H ∧ if fr = true then ∃ l, v = .ref l ∧ OwnAt z.K m F H l d else Rz z.K m.B F d v
def ZS (z : Cz) (t : TS) (ρ : List Sl) (N : Zn) : Prop := ∀ m F H σ D, Sm z m F H σ ρ →
  (∀ ρ' F' H' σ', N.nx ρ' → Same F F' → Sm z m F' H' σ' ρ' → D.nx σ' H') → (∀ d fr F' H' v, N.rt d fr → Same F F' → RtR z m F' H' fr d v → D.rt v H') →
  (∀ ρ' F' H' σ', N.bk ρ' → Same F F' → Sm z m F' H' σ' ρ' → D.bk σ' H') → (∀ ρ' F' H' σ', N.ct ρ' → Same F F' → Sm z m F' H' σ' ρ' → D.ct σ' H') → t D σ H
/-- what is walked: ds, one by one -/
def ItZ (z : Cz) (m : Fm) (F : Hp) (Jt : It) (ds : List Dt) : Prop := ∃ (n : Nat) (G : Hp → Prop) (Y : Nat → Hp → V → Hp → Prop), Walk Jt n G Y ∧ n = ds.length ∧
  (∀ F' H', Same F F' → Le F' H' → Same m.J H' → G H') ∧
  ∀ m2 i d F' H' H'' x σ ρ, m2.B = m.B → ds[i]? = some d → Same F F' → Sm z m2 F' H' σ ρ → Y i H' x H'' → ∃ F'', Same F' F'' ∧ Sm z m2 F'' H'' σ ρ ∧ Rz z.K m.B F'' d x
/-- a target -/
def ZG (z : Cz) (g : TG) (d : Dt) (fr : Bool) (ρ : List Sl) (N : List Sl → Prop) : Prop := ∀ m F H σ v Q, Sm z m F H σ ρ → RzF z m F H σ ρ fr d v →
  (∀ ρ' F' H' σ', N ρ' → Same F F' → Sm z m F' H' σ' ρ' → Q σ' H') → g v σ H Q
def ZGs (z : Cz) (g : TGs) (ds : List Dt) (ρ : List Sl) (N : List Sl → Prop) : Prop := ∀ m F H σ vs Q, Sm z m F H σ ρ → Rzl z.K m.B F ds vs →
  (∀ ρ' F' H' σ', N ρ' → Same F F' → Sm z m F' H' σ' ρ' → Q σ' H') → g vs σ H Q
/-- a fresh thing frozen -/
theorem rzF_frz {z : Cz} {m : Fm} {F H : Hp} {σ : L2.St} {ρ : List Sl} {fr : Bool} {d : Dt} {v : V} (S : Sm z m F H σ ρ) (h : RzF z m F H σ ρ fr d v) : ∃ F', Same F F' ∧ Sm z m F' H σ ρ ∧ Rz z.K m.B F' d v := by
  cases fr with
  | false => exact ⟨F, Same.refl F, S, h⟩
  | true =>
    obtain ⟨l, rfl, ⟨h1, h2, h3, ho, h4, h5⟩, hs⟩ := h
    have sf := same_new (o := ho) h1
    have C : Sc z m (upd F l ho) H := ⟨S.lk.frz h4, S.base, fun a u q => by
      by_cases c : a = l
      · exact .inr (.inl (c ▸ h2))
      · rw [upd_ne c] at q; exact S.fr a u q, S.dom, S.bj, S.er, fun a ha => by
    obtain ⟨q1, q2⟩ := S.hid a ha
    refine ⟨?_, q2⟩
    obtain ⟨o, q3, _⟩ := q2
    rw [upd_ne (fun c => by rw [c, h3] at q3; cases q3)]
    exact q1, S.fj⟩
    refine ⟨upd F l ho, sf, { C with len := S.len, slot := fun j s ov a b => ?_, sep := S.sep, psep := S.psep }, h5.rz h2 h1⟩
    have q := S.slot j s ov a b
    cases s with
    | un => trivial
    | v d => obtain ⟨v, e', q⟩ := q; exact ⟨v, e', rz_mono sf _ _ q⟩
    | o d' =>
      obtain ⟨l', e', q1, q2, q3, ho', q4, q5⟩ := q
      subst e'
      refine ⟨l', rfl, ?_, q2, q3, ho', q4, q5.mono sf⟩
      rw [upd_ne (fun z => hs j _ a (by rw [b, z]))]
      exact q1
    | l a' d' => exact ⟨q.1, q.2.ext sf⟩
theorem rzF_f {z : Cz} {m : Fm} {F H : Hp} {σ : L2.St} {ρ : List Sl} {d : Dt} {v : V} (h : Rz z.K m.B F d v) : RzF z m F H σ ρ false d v := h
/-- a new thing of one's own -/
theorem rzF_new {z : Cz} {m : Fm} {F H : Hp} {σ : L2.St} {ρ : List Sl} {d : Dt} {p : Addr} {o : HO} (S : Sm z m F H σ ρ) (e : H p = none) (h : HoR z.K m.B F o d) : RzF z m F (upd H p o) σ ρ true d (.ref p) := by
  refine ⟨p, rfl, ⟨S.le.free e, S.dom p e, S.j_none e, o, upd_same, h⟩, fun j e' a b => ?_⟩
  obtain ⟨l, hl, _, _, _, ho, h4, _⟩ := S.geto a
  rw [b] at hl
  cases hl
  rw [e] at h4
  cases h4
/-! ### expressions -/
section
variable {z : Cz} {ρ : List Sl} {N : Dt → Bool → List Sl → Prop} {ta tb te : TE} {i : Nat} {d : Dt}
theorem ze_var (h : ρ[i]? = some (.v d)) (n : N d false ρ) : ZE z (tVar i) ρ N := fun m F H σ Q S k => by
  obtain ⟨v, e, r⟩ := S.getv h
  exact ⟨v, e, k _ _ _ _ _ _ n (Same.refl F) S (rzF_f r)⟩
/-- an owned thing used as a value: frozen from here on -/
theorem ze_varo (h : ρ[i]? = some (.o d)) (n : N d false (ρ.set i (.v d))) : ZE z (tVar i) ρ N := fun m F H σ Q S k => by
  obtain ⟨F', l, sf, e, r, S'⟩ := S.frz h
  exact ⟨.ref l, e, k _ _ _ _ _ _ n sf S' r⟩
theorem ze_k {v : V} (h : ∀ B F, Rz z.K B F d v) (n : N d false ρ) : ZE z (tC v) ρ N := fun m F H σ Q S k => k _ _ _ _ _ _ n (Same.refl F) S (rzF_f (h _ _))
theorem ze_int {i : Int} (n : N (.int i) false ρ) : ZE z (tC (.int i)) ρ N := ze_k (fun _ _ => by simp only [Rz]) n
theorem ze_str {x : Str} (n : N (.str x) false ρ) : ZE z (tC (.str x)) ρ N := ze_k (fun _ _ => by simp only [Rz]) n
theorem ze_bl {b : Bool} (n : N (.bl b) false ρ) : ZE z (tC (.bl b)) ρ N := ze_k (fun _ _ => by simp only [Rz]) n
theorem ze_non (n : N .non false ρ) : ZE z (tC .non) ρ N := ze_k (fun _ _ => by simp only [Rz]) n
theorem ze_adr {a : Addr} (n : N (.adr a) false ρ) : ZE z (tC (.ref a)) ρ N := ze_k (fun _ _ => by simp only [Rz]) n
theorem ze_ty {x : String} (n : N (.ty x) false ρ) : ZE z (tC (.ty x)) ρ N := ze_k (fun _ _ => by simp only [Rz]) n
/-- two operands, both frozen -/
theorem ze_op2 {r : R2} (h : ZE z ta ρ fun x _ ρ1 => ZE z tb ρ1 fun y _ ρ2 => ∀ m F H σ Q vx vy, Sm z m F H σ ρ2 → Rz z.K m.B F x vx → Rz z.K m.B F y vy →
    (∀ d fr ρ' F' H' v, N d fr ρ' → Same F F' → Sm z m F' H' σ ρ' → RzF z m F' H' σ ρ' fr d v → Q v H') → r vx vy H Q) : ZE z (tOp r ta tb) ρ N := fun m F H σ Q S k => by
  refine h m F H σ _ S fun x fx ρ1 F1 H1 vx n1 s1 S1 r1 => ?_
  obtain ⟨F2, s2, S2, rx⟩ := rzF_frz S1 r1
  refine n1 m F2 H1 σ _ S2 fun y fy ρ2 F3 H2 vy n2 s3 S3 r3 => ?_
  obtain ⟨F4, s4, S4, ry⟩ := rzF_frz S3 r3
  exact n2 m F4 H2 σ Q vx vy S4 (rz_mono (s3.trans s4) _ _ rx) ry fun d fr ρ' F' H' v n sf => k d fr ρ' F' H' v n (((s1.trans s2).trans (s3.trans s4)).trans sf)
theorem ze_un1 {r : V → Hp → VK → Prop} (h : ZE z ta ρ fun x _ ρ1 => ∀ m F H σ Q vx, Sm z m F H σ ρ1 → Rz z.K m.B F x vx →
    (∀ d fr ρ' F' H' v, N d fr ρ' → Same F F' → Sm z m F' H' σ ρ' → RzF z m F' H' σ ρ' fr d v → Q v H') → r vx H Q) : ZE z (tUn r ta) ρ N := fun m F H σ Q S k => by
  refine h m F H σ _ S fun x fx ρ1 F1 H1 vx n1 s1 S1 r1 => ?_
  obtain ⟨F2, s2, S2, rx⟩ := rzF_frz S1 r1
  exact n1 m F2 H1 σ Q vx S2 rx fun d fr ρ' F' H' v n sf => k d fr ρ' F' H' v n ((s1.trans s2).trans sf)
theorem rz_i {K : PySem.W.Frag} {B F : Hp} {i : Int} {v : V} (h : Rz K B F (.int i) v) : v = .int i := by simpa only [Rz] using h
theorem rz_s {K : PySem.W.Frag} {B F : Hp} {i : Str} {v : V} (h : Rz K B F (.str i) v) : v = .str i := by simpa only [Rz] using h
theorem rz_b {K : PySem.W.Frag} {B F : Hp} {i : Bool} {v : V} (h : Rz K B F (.bl i) v) : v = .bl i := by simpa only [Rz] using h
theorem rz_n {K : PySem.W.Frag} {B F : Hp} {v : V} (h : Rz K B F .non v) : v = .non := by simpa only [Rz] using h
theorem rz_a {K : PySem.W.Frag} {B F : Hp} {v : V} {a : Addr} (h : Rz K B F (.adr a) v) : v = .ref a := by simpa only [Rz] using h
theorem rzi {K : PySem.W.Frag} {B F : Hp} {i : Int} : Rz K B F (.int i) (.int i) := by simp only [Rz]
theorem rzs {K : PySem.W.Frag} {B F : Hp} {i : Str} : Rz K B F (.str i) (.str i) := by simp only [Rz]
theorem rzb {K : PySem.W.Frag} {B F : Hp} {i : Bool} : Rz K B F (.bl i) (.bl i) := by simp only [Rz]
theorem rzn {K : PySem.W.Frag} {B F : Hp} : Rz K B F .non .non := by simp only [Rz]
theorem ze_I0 {g : Int → Int → Int} (h : ZE z ta ρ fun x _ ρ1 => ZE z tb ρ1 fun y _ ρ2 => ∃ i j, x = .int i ∧ y = .int j ∧ N (.int (g i j)) false ρ2) : ZE z (tOp (rI0 fun i j => .int (g i j)) ta tb) ρ N :=
  ze_op2 fun m F H σ Q S k => h m F H σ Q S fun x fx ρ1 F1 H1 vx n1 s1 S1 r1 => k x fx ρ1 F1 H1 vx (fun m F H σ Q S k => n1 m F H σ Q S fun y fy ρ2 F2 H2 vy n2 s2 S2 r2 => k y fy ρ2 F2 H2 vy (by
    obtain ⟨i, j, rfl, rfl, n⟩ := n2
    intro m F H σ Q vx vy S r1 r2 k
    exact ⟨i, j, rz_i r1, rz_i r2, k _ _ _ _ _ _ n (Same.refl F) S (rzF_f rzi)⟩) s2 S2 r2) s1 S1 r1
/-- the premise of two operands from what is wanted of their data -/
theorem ze_op2w {r : R2} {W : Dt → Dt → (Dt → Bool → List Sl → Prop) → List Sl → Prop}
    (w : ∀ x y ρ2 N, W x y N ρ2 → ∀ m F H σ Q vx vy, Sm z m F H σ ρ2 → Rz z.K m.B F x vx → Rz z.K m.B F y vy → (∀ d fr ρ' F' H' v, N d fr ρ' → Same F F' → Sm z m F' H' σ ρ' → RzF z m F' H' σ ρ' fr d v → Q v H') → r vx vy H Q)
    (h : ZE z ta ρ fun x _ ρ1 => ZE z tb ρ1 fun y _ ρ2 => W x y N ρ2) : ZE z (tOp r ta tb) ρ N :=
  ze_op2 fun m F H σ Q S k => h m F H σ Q S fun x fx ρ1 F1 H1 vx n1 s1 S1 r1 => k x fx ρ1 F1 H1 vx (fun m F H σ Q S k => n1 m F H σ Q S fun y fy ρ2 F2 H2 vy n2 s2 S2 r2 => k y fy ρ2 F2 H2 vy (w x y ρ2 N n2) s2 S2 r2) s1 S1 r1
theorem ze_IB {g : Int → Int → Bool} (h : ZE z ta ρ fun x _ ρ1 => ZE z tb ρ1 fun y _ ρ2 => ∃ i j, x = .int i ∧ y = .int j ∧ N (.bl (g i j)) false ρ2) : ZE z (tOp (rI0 fun i j => .bl (g i j)) ta tb) ρ N :=
  ze_op2w (W := fun x y N ρ2 => ∃ i j, x = .int i ∧ y = .int j ∧ N (.bl (g i j)) false ρ2) (fun x y ρ2 N n2 m F H σ Q vx vy S r1 r2 k => by
    obtain ⟨i, j, rfl, rfl, n⟩ := n2
    exact ⟨i, j, rz_i r1, rz_i r2, k _ _ _ _ _ _ n (Same.refl F) S (rzF_f rzb)⟩) h
theorem ze_I {C : Int → Int → Prop} {g : Int → Int → Int} (h : ZE z ta ρ fun x _ ρ1 => ZE z tb ρ1 fun y _ ρ2 => ∃ i j, x = .int i ∧ y = .int j ∧ C i j ∧ N (.int (g i j)) false ρ2) : ZE z (tOp (rI C fun i j => .int (g i j)) ta tb) ρ N :=
  ze_op2w (W := fun x y N ρ2 => ∃ i j, x = .int i ∧ y = .int j ∧ C i j ∧ N (.int (g i j)) false ρ2) (fun x y ρ2 N n2 m F H σ Q vx vy S r1 r2 k => by
    obtain ⟨i, j, rfl, rfl, c, n⟩ := n2
    exact ⟨i, j, rz_i r1, rz_i r2, c, k _ _ _ _ _ _ n (Same.refl F) S (rzF_f rzi)⟩) h
theorem ze_neg {g : Int → Int} (h : ZE z ta ρ fun x _ ρ1 => ∃ i, x = .int i ∧ N (.int (g i)) false ρ1) : ZE z (tUn (rU fun i => .int (g i)) ta) ρ N :=
  ze_un1 fun m F H σ Q S k => h m F H σ Q S fun x fx ρ1 F1 H1 vx n1 s1 S1 r1 => k x fx ρ1 F1 H1 vx (by
    obtain ⟨i, rfl, n⟩ := n1
    intro m F H σ Q vx S r1 k
    exact ⟨i, rz_i r1, k _ _ _ _ _ _ n (Same.refl F) S (rzF_f rzi)⟩) s1 S1 r1
/-- scalars compared -/
inductive Seq2 : Dt → Dt → Bool → Prop
  | ii (i j : Int) : Seq2 (.int i) (.int j) (decide (i = j))
  | ss (i j : Str) : Seq2 (.str i) (.str j) (decide (i = j))
  | bb (i j : Bool) : Seq2 (.bl i) (.bl j) (decide (i = j))
  | nn : Seq2 .non .non true
  | ni (i : Int) : Seq2 .non (.int i) false
  | isn (i : Int) : Seq2 (.int i) .non false
  | ns (i : Str) : Seq2 .non (.str i) false
  | sn (i : Str) : Seq2 (.str i) .non false
theorem seq2_of {K : PySem.W.Frag} {B F : Hp} {x y : Dt} {b : Bool} {vx vy : V} (h : Seq2 x y b) (r1 : Rz K B F x vx) (r2 : Rz K B F y vy) : scal vx vy = true ∧ decide (vx = vy) = b := by
  cases h <;> (simp only [Rz] at r1 r2; subst r1 r2) <;> refine ⟨rfl, ?_⟩ <;> simp
theorem ze_eq (h : ZE z ta ρ fun x _ ρ1 => ZE z tb ρ1 fun y _ ρ2 => ∃ b, Seq2 x y b ∧ N (.bl b) false ρ2) : ZE z (tOp rEq ta tb) ρ N :=
  ze_op2w (W := fun x y N ρ2 => ∃ b, Seq2 x y b ∧ N (.bl b) false ρ2) (fun x y ρ2 N n2 m F H σ Q vx vy S r1 r2 k => by
    obtain ⟨b, s, n⟩ := n2
    obtain ⟨h1, h2⟩ := seq2_of s r1 r2
    refine ⟨h1, ?_⟩
    rw [h2]
    exact k _ _ _ _ _ _ n (Same.refl F) S (rzF_f rzb)) h
theorem ze_ne (h : ZE z ta ρ fun x _ ρ1 => ZE z tb ρ1 fun y _ ρ2 => ∃ b, Seq2 x y b ∧ N (.bl (!b)) false ρ2) : ZE z (tOp rNe ta tb) ρ N :=
  ze_op2w (W := fun x y N ρ2 => ∃ b, Seq2 x y b ∧ N (.bl (!b)) false ρ2) (fun x y ρ2 N n2 m F H σ Q vx vy S r1 r2 k => by
    obtain ⟨b, s, n⟩ := n2
    obtain ⟨h1, h2⟩ := seq2_of s r1 r2
    refine ⟨h1, ?_⟩
    rw [h2]
    exact k _ _ _ _ _ _ n (Same.refl F) S (rzF_f rzb)) h
/-! tests -/
variable {M : Bool → List Sl → Prop} {tt tu : TT}
theorem zt_val (h : ZE z te ρ fun x _ ρ1 => ∃ b, x = .bl b ∧ M b ρ1) : ZT z (tTest te) ρ M := fun m F H σ Q S k => by
  refine h m F H σ _ S fun x fx ρ1 F1 H1 vx n1 s1 S1 r1 => ?_
  obtain ⟨F2, s2, S2, rx⟩ := rzF_frz S1 r1
  obtain ⟨b, rfl, n⟩ := n1
  exact ⟨b, rz_b rx, k _ _ _ _ n (s1.trans s2) S2⟩
theorem zt_B (h : ZE z te ρ fun x _ ρ1 => ∃ b, x = .bl b ∧ M b ρ1) : ZT z (tB te) ρ M := zt_val h
theorem zt_and (h : ZT z tt ρ fun b ρ1 => if b = true then ZT z tu ρ1 M else M false ρ1) : ZT z (tAnd tt tu) ρ M := fun m F H σ Q S k => by
  refine h m F H σ _ S fun b ρ1 F1 H1 n1 s1 S1 => ?_
  cases b with
  | true => exact n1 m F1 H1 σ Q S1 fun b ρ' F' H' n s => k b ρ' F' H' n (s1.trans s)
  | false => exact k _ _ _ _ n1 s1 S1
theorem zt_or (h : ZT z tt ρ fun b ρ1 => if b = true then M true ρ1 else ZT z tu ρ1 M) : ZT z (tOr tt tu) ρ M := fun m F H σ Q S k => by
  refine h m F H σ _ S fun b ρ1 F1 H1 n1 s1 S1 => ?_
  cases b with
  | false => exact n1 m F1 H1 σ Q S1 fun b ρ' F' H' n s => k b ρ' F' H' n (s1.trans s)
  | true => exact k _ _ _ _ n1 s1 S1
theorem zt_not (h : ZT z tt ρ fun b ρ1 => M (!b) ρ1) : ZT z (tNot tt) ρ M := fun m F H σ Q S k => h m F H σ _ S fun b ρ1 F1 H1 n1 s1 S1 => k _ _ _ _ n1 s1 S1
theorem zt_yes (h : M true ρ) : ZT z tYes ρ M := fun m F H σ Q S k => k _ _ _ _ h (Same.refl F) S
theorem ze_andV (h : ZE z ta ρ fun x _ ρ1 => ∃ b, x = .bl b ∧ if b = true then ZE z tb ρ1 N else N (.bl false) false ρ1) : ZE z (tAndV ta tb) ρ N := fun m F H σ Q S k => by
  refine h m F H σ _ S fun x fx ρ1 F1 H1 vx n1 s1 S1 r1 => ?_
  obtain ⟨F2, s2, S2, rx⟩ := rzF_frz S1 r1
  obtain ⟨b, rfl, n⟩ := n1
  refine ⟨b, rz_b rx, ?_⟩
  cases b with
  | true => exact n m F2 H1 σ Q S2 fun d fr ρ' F' H' v n s => k d fr ρ' F' H' v n ((s1.trans s2).trans s)
  | false => exact k _ _ _ _ _ _ n (s1.trans s2) S2 (rzF_f rzb)
theorem ze_orV (h : ZE z ta ρ fun x _ ρ1 => ∃ b, x = .bl b ∧ if b = true then N (.bl true) false ρ1 else ZE z tb ρ1 N) : ZE z (tOrV ta tb) ρ N := fun m F H σ Q S k => by
  refine h m F H σ _ S fun x fx ρ1 F1 H1 vx n1 s1 S1 r1 => ?_
  obtain ⟨F2, s2, S2, rx⟩ := rzF_frz S1 r1
  obtain ⟨b, rfl, n⟩ := n1
  refine ⟨b, rz_b rx, ?_⟩
  cases b with
  | false => exact n m F2 H1 σ Q S2 fun d fr ρ' F' H' v n s => k d fr ρ' F' H' v n ((s1.trans s2).trans s)
  | true => exact k _ _ _ _ _ _ n (s1.trans s2) S2 (rzF_f rzb)
theorem ze_notV (h : ZE z ta ρ fun x _ ρ1 => ∃ b, x = .bl b ∧ N (.bl (!b)) false ρ1) : ZE z (tNotV ta) ρ N := fun m F H σ Q S k => by
  refine h m F H σ _ S fun x fx ρ1 F1 H1 vx n1 s1 S1 r1 => ?_
  obtain ⟨F2, s2, S2, rx⟩ := rzF_frz S1 r1
  obtain ⟨b, rfl, n⟩ := n1
  exact ⟨b, rz_b rx, k _ _ _ _ _ _ n (s1.trans s2) S2 (rzF_f rzb)⟩
theorem ze_ifE (h : ZT z tt ρ fun b ρ1 => if b = true then ZE z ta ρ1 N else ZE z tb ρ1 N) : ZE z (tIf tt ta tb) ρ N := fun m F H σ Q S k => by
  refine h m F H σ _ S fun b ρ1 F1 H1 n1 s1 S1 => ?_
  cases b with
  | true => exact n1 m F1 H1 σ Q S1 fun d fr ρ' F' H' v n s => k d fr ρ' F' H' v n (s1.trans s)
  | false => exact n1 m F1 H1 σ Q S1 fun d fr ρ' F' H' v n s => k d fr ρ' F' H' v n (s1.trans s)
theorem ze_chain {r r' : R2} {tc : TE} {g g' : Int → Int → Bool} (h : ZE z ta ρ fun x _ ρ1 => ZE z tb ρ1 fun y _ ρ2 => ∃ i j, x = .int i ∧ y = .int j ∧ if g i j = true then ZE z tc ρ2 fun w _ ρ3 => ∃ k, w = .int k ∧ N (.bl (g' j k)) false ρ3 else N (.bl false) false ρ2) :
    ZE z (tChain (rI0 fun i j => .bl (g i j)) (rI0 fun i j => .bl (g' i j)) ta tb tc) ρ N := fun m F H σ Q S k => by
  refine h m F H σ _ S fun x fx ρ1 F1 H1 vx n1 s1 S1 r1 => ?_
  obtain ⟨F2, s2, S2, rx⟩ := rzF_frz S1 r1
  refine n1 m F2 H1 σ _ S2 fun y fy ρ2 F3 H2 vy n2 s3 S3 r3 => ?_
  obtain ⟨F4, s4, S4, ry⟩ := rzF_frz S3 r3
  obtain ⟨i, j, rfl, rfl, n⟩ := n2
  refine ⟨i, j, rz_i (rz_mono (s3.trans s4) _ _ rx), rz_i ry, g i j, rfl, ?_⟩
  by_cases c : g i j = true
  · rw [if_pos c] at n ⊢
    refine n m F4 H2 σ _ S4 fun w fw ρ3 F5 H3 vw n3 s5 S5 r5 => ?_
    obtain ⟨F6, s6, S6, rw_⟩ := rzF_frz S5 r5
    obtain ⟨l, rfl, n⟩ := n3
    exact ⟨j, l, rz_i ry, rz_i rw_, k _ _ _ _ _ _ n ((((s1.trans s2).trans (s3.trans s4)).trans s5).trans s6) S6 (rzF_f rzb)⟩
  · rw [if_neg c] at n ⊢
    exact k _ _ _ _ _ _ n ((s1.trans s2).trans (s3.trans s4)) S4 (rzF_f rzb)
/-! argument lists, displays -/
variable {L : List Dt → List Sl → Prop} {ts : TA}
theorem za_nil (h : L [] ρ) : ZA z tNil ρ L := fun m F H σ Q S k => k _ _ _ _ _ h (Same.refl F) S .nil
theorem za_cons (h : ZE z te ρ fun x _ ρ1 => ZA z ts ρ1 fun xs ρ2 => L (x :: xs) ρ2) : ZA z (tCons te ts) ρ L := fun m F H σ Q S k => by
  refine h m F H σ _ S fun x fx ρ1 F1 H1 vx n1 s1 S1 r1 => ?_
  obtain ⟨F2, s2, S2, rx⟩ := rzF_frz S1 r1
  exact n1 m F2 H1 σ _ S2 fun ds ρ' F' H' vs n s S' r => k _ _ _ _ _ n ((s1.trans s2).trans s) S' (.cons (rz_mono s _ _ rx) r)
theorem ze_tup (h : ZA z ts ρ fun ds ρ1 => ds.length ≤ 1000 ∧ N (.tup ds) false ρ1) : ZE z (tTup ts) ρ N := fun m F H σ Q S k => by
  refine h m F H σ _ S fun ds ρ1 F1 H1 vs n1 s1 S1 r1 => ⟨by rw [r1.len, sizeLine_eq]; omega, fun p hp => ?_⟩
  obtain ⟨s2, S2⟩ := S1.new (o := .tup vs) hp
  exact k _ _ _ _ _ _ n1.2 (s1.trans s2) S2 (show Rz z.K m.B _ (.tup ds) _ by simp only [Rz]; exact ⟨p, vs, rfl, upd_same, rzl_mono s2 _ _ r1⟩)
theorem ze_lst (h : ZA z ts ρ fun ds ρ1 => ds.length ≤ 1000 ∧ N (.lst true ds) true ρ1) : ZE z (tLst ts) ρ N := fun m F H σ Q S k => by
  refine h m F H σ _ S fun ds ρ1 F1 H1 vs n1 s1 S1 r1 => ⟨by rw [r1.len, sizeLine_eq]; omega, fun p hp => ?_⟩
  exact k _ _ _ _ _ _ n1.2 s1 (S1.newO hp) (rzF_new S1 hp (.lst r1))
theorem ze_dnewK (h : N (.dic true [] []) true ρ) : ZE z tDNewK ρ N := fun m F H σ Q S k p hp => k _ _ _ _ _ _ h (Same.refl F) (S.newO hp) (rzF_new S hp (HoR.dK (kvs := []) .nil))
theorem ze_dnewT (h : N (.dit true [] []) true ρ) : ZE z tDNewT ρ N := fun m F H σ Q S k p hp => k _ _ _ _ _ _ h (Same.refl F) (S.newO hp) (rzF_new S hp (HoR.dT (kvs := []) .nil))
/-! attributes -/
inductive FldD (K : PySem.W.Frag) : Dt → Str → Addr → Dt → Prop
  | ins {C : Addr} {fs : List Str} {ds : List Dt} {f : Str} {d : Dt} : look fs ds f = some d → FldD K (.ins C fs ds) f C d
  | top (n d : Int) : FldD K (.rat n d) "top" (He.ga K "Ratio") (.int n)
  | bot (n d : Int) : FldD K (.rat n d) "bottom" (He.ga K "Ratio") (.int d)
theorem ratF_top (n d : Int) : (ratF n d).lookup ("top" : Str) = some (.int n) := rfl
theorem ratF_bot (n d : Int) : (ratF n d).lookup ("bottom" : Str) = some (.int d) := by
  show (match (("bottom" : Str) == "top") with | true => some (V.int n) | false => List.lookup ("bottom" : Str) [("bottom", V.int d)]) = some (.int d)
  rw [show ((("bottom" : Str) == "top") = false) from by decide +kernel]
  rfl
theorem look_fld {K : PySem.W.Frag} {B F : Hp} {f : Str} {d : Dt} : ∀ {kvs : List (Str × V)} {ds : List Dt}, Rzl K B F ds (kvs.map Prod.snd) → look (kvs.map Prod.fst) ds f = some d → ∃ v, kvs.lookup f = some v ∧ Rz K B F d v
  | [], ds, h, e => by simp [look] at e
  | p :: r, ds, h, e => by
    cases ds with
    | nil => cases h.inv0
    | cons d' ds =>
      obtain ⟨u, r', e', h1, t⟩ := h.inv
      rw [List.map_cons] at e'
      obtain ⟨rfl, rfl⟩ := List.cons.inj e'
      rw [List.map_cons, look] at e
      obtain ⟨pk, pv⟩ := p
      by_cases c : pk = f
      · rw [if_pos c] at e
        cases e
        subst c
        exact ⟨pv, by simp [List.lookup_cons], h1⟩
      · rw [if_neg c] at e
        obtain ⟨v, h2, h3⟩ := look_fld t e
        exact ⟨v, by rw [List.lookup_cons, show (f == pk) = false from beq_eq_false_iff_ne.mpr (Ne.symm c)]; exact h2, h3⟩
theorem ze_fld {f : Str} (h : ZE z ta ρ fun x _ ρ1 => ∃ C d, FldD z.K x f C d ∧ Cls z.K C ∧ NoAttr z.K C f ∧ N d false ρ1) : ZE z (tFld z.K ta f) ρ N := fun m F H σ Q S k => by
  refine h m F H σ _ S fun x fx ρ1 F1 H1 vx n1 s1 S1 r1 => ?_
  obtain ⟨F2, s2, S2, rx⟩ := rzF_frz S1 r1
  obtain ⟨C, d, hf, hc, hn, n⟩ := n1
  cases hf with
  | ins hl =>
    simp only [Rz] at rx
    obtain ⟨a, dx, kvs, rfl, e, rfl, r⟩ := rx
    obtain ⟨v, h1, h2⟩ := look_fld r hl
    exact ⟨a, _, dx, kvs, v, rfl, S2.le.exact e rfl, hc, hn, h1, k _ _ _ _ _ _ n (s1.trans s2) S2 (rzF_f h2)⟩
  | top n' d' =>
    simp only [Rz] at rx
    obtain ⟨a, dx, rfl, e⟩ := rx
    exact ⟨a, _, dx, _, _, rfl, S2.le.exact e rfl, hc, hn, ratF_top _ _, k _ _ _ _ _ _ n (s1.trans s2) S2 (rzF_f rzi)⟩
  | bot n' d' =>
    simp only [Rz] at rx
    obtain ⟨a, dx, rfl, e⟩ := rx
    exact ⟨a, _, dx, _, _, rfl, S2.le.exact e rfl, hc, hn, ratF_bot _ _, k _ _ _ _ _ _ n (s1.trans s2) S2 (rzF_f rzi)⟩
/-! a variable looked into: as it stands, frozen or not -/
def Pk (s : Sl) (d : Dt) : Prop := s = .v d ∨ s = .o d ∨ ∃ a, s = .l a d
theorem Sm.peekL {m : Fm} {F H : Hp} {σ : L2.St} (S : Sm z m F H σ ρ) {t : Bool} {ds : List Dt} {s : Sl} (h : ρ[i]? = some s) (p : Pk s (.lst t ds)) : ∃ a xs, σ[i]? = some (some (.ref a)) ∧ H a = some (.lst xs) ∧ Rzl z.K m.B F ds xs := by
  obtain ⟨ov, e, ok⟩ := S.get h
  rcases p with rfl | rfl | ⟨a, rfl⟩
  · obtain ⟨v, rfl, r⟩ := ok
    simp only [Rz] at r
    obtain ⟨a, xs, rfl, h1, _, h2⟩ := r
    exact ⟨a, xs, e, S.le.exact h1 rfl, h2⟩
  · obtain ⟨l, rfl, _, _, _, ho, h1, h2⟩ := ok
    cases h2 with
    | lst r => exact ⟨l, _, e, h1, r⟩
  · obtain ⟨rfl, _, _, ho, h1, h2⟩ := ok
    cases h2 with
    | lst r =>
      rcases h1 with h1 | ⟨c, _⟩
      · exact ⟨a, _, e, S.base _ _ h1, r⟩
      · cases c
end
/-! ### calls -/
/-- a def's promise, heap-free: what w says of the arguments' data, the answer, the error -/
abbrev Wz := List Dt → (Dt → Bool → Prop) → (Addr → List (Str × V) → Prop) → Prop
def Got (K : PySem.W.Frag) (F H F' H' : Hp) (fr : Bool) (d : Dt) (v : V) : Prop := Same F F' ∧ Same H H' ∧ Lk H F' H' ∧ Nw F H F' ∧ (∀ a ob u, H' a = some (.frz ob u) → H a = some (.frz ob u)) ∧
  if fr = true then ∃ l, v = .ref l ∧ F' l = none ∧ H l = none ∧ ∃ ho, H' l = some ho ∧ HoR K H F' ho d else Rz K H F' d v
def spZ (K : PySem.W.Frag) (w : Wz) : Sp := fun vs H Q E => ∃ (F : Hp) (ds : List Dt) (Nv : Dt → Bool → Prop) (Ne : Addr → List (Str × V) → Prop), Le F H ∧ Rzl K H F ds vs ∧ w ds Nv Ne ∧
  (∀ d fr F' H' v, Nv d fr → Got K F H F' H' fr d v → Q v H') ∧ ∀ C fs dd H', Ne C fs → ErrR H fs dd H' → E (.ref C) dd H'
theorem HoR.base {K : PySem.W.Frag} {B B' F : Hp} {ho : HO} {d : Dt} (h : HoR K B' F ho d) (hb : ∀ a, B' a = none → B a = none) : HoR K B F ho d := by
  cases h with
  | lst h => exact .lst (rzl_base hb _ _ h)
  | dK h => exact .dK (rzl_base hb _ _ h)
  | dT h => exact .dT (rzl_base hb _ _ h)
section
variable {z : Cz} {m : Fm} {F F' H H' : Hp} {σ : L2.St} {ρ : List Sl} {fr : Bool} {d : Dt} {v : V}
theorem Sm.got (S : Sm z m F H σ ρ) (g : Got z.K F H F' H' fr d v) : Sm z m F' H' σ ρ ∧ RzF z m F' H' σ ρ fr d v := by
  obtain ⟨f, h, lk, nw, fz, r⟩ := g
  have lk' : Lk m.J F' H' := fun a o e => by
    rcases lk a o e with q | ⟨q, ob, q1, q2⟩
    · exact .inl q
    · rcases nw a o e with c | c | c
      · obtain ⟨u, hu⟩ := Option.ne_none_iff_exists'.mp c
        have := f _ _ hu
        rw [e] at this
        cases this
        rcases S.lk a o hu with p | ⟨_, ob', p1, p2⟩
        · rw [q2] at p
          cases p
        · rw [q2] at p1
          cases p1
          exact .inr ⟨q, ob, q1, p2⟩
      · rw [q2] at c; cases c
      · cases o <;> first | (exact absurd c Bool.false_ne_true) | (exact absurd q Bool.false_ne_true)
  have S' := S.ext f h lk' nw fz
  refine ⟨S', ?_⟩
  unfold RzF
  cases fr with
  | false =>
    rw [if_neg (fun x => nomatch x)] at r ⊢
    exact rz_base S.dom _ _ r
  | true =>
    rw [if_pos rfl] at r ⊢
    obtain ⟨l, rfl, h1, h2, ho, h3, h4⟩ := r
    refine ⟨l, rfl, ⟨h1, S.dom _ h2, S.j_none h2, ho, h3, h4.base S.dom⟩, fun j e a b => ?_⟩
    obtain ⟨l', e', _, _, _, ho', h5, _⟩ := S.geto a
    rw [b] at e'
    cases e'
    rw [h2] at h5
    cases h5
end
section
variable {z : Cz} {ρ : List Sl} {N : Dt → Bool → List Sl → Prop} {t : TA} {w : Wz} {E : XK}
theorem ze_call (h : ZA z t ρ fun ds ρ1 => w (Dt.olds ds) (fun d fr => N d fr ρ1) fun _ _ => False) : ZE z (tCall (spZ z.K w) [] E t) ρ N := fun m F H σ Q S k => by
  refine h m F H σ _ S fun ds ρ1 F1 H1 vs n1 s1 S1 r1 => ?_
  rw [List.append_nil]
  refine ⟨F1, Dt.olds ds, _, _, S1.le, rzl_old _ _ r1, n1, fun d fr F' H' v nd g => ?_, fun C fs dd H' f => f.elim⟩
  obtain ⟨S2, r2⟩ := S1.got g
  exact k _ _ _ _ _ _ nd (s1.trans g.1) S2 r2
/-- .. that may raise -/
theorem ze_callR (h : ZA z t ρ fun ds ρ1 => w (Dt.olds ds) (fun d fr => N d fr ρ1) z.Eh) : ZE z (tCall (spZ z.K w) [] z.Er t) ρ N := fun m F H σ Q S k => by
  refine h m F H σ _ S fun ds ρ1 F1 H1 vs n1 s1 S1 r1 => ?_
  rw [List.append_nil]
  refine ⟨F1, Dt.olds ds, _, _, S1.le, rzl_old _ _ r1, n1, fun d fr F' H' v nd g => ?_, fun C fs dd H' e er => ?_⟩
  · obtain ⟨S2, r2⟩ := S1.got g
    exact k _ _ _ _ _ _ nd (s1.trans g.1) S2 r2
  · refine S1.er C fs dd H' e ⟨?_, ?_⟩
    · intro a o q
      rcases S1.bj a o q with c | ⟨c, ob, c'⟩
      · rcases er.1 a o (S1.base _ _ c) with q | q
        · exact .inl q
        · exact .inr q
      · refine .inr ⟨c, ob, ?_⟩
        rcases er.1 a _ (S1.base _ _ c') with q | ⟨q, _⟩
        · exact q
        · cases q
    · have q := er.2
      cases fs with
      | nil => exact q
      | cons p r =>
        obtain ⟨x, h1, h2, h3⟩ := q
        exact ⟨x, h1, S1.dom _ h2, h3⟩
end
/-! ### a def by its body -/
def slots (N : List Str) (ds : List Dt) : List Sl := ds.map Sl.v ++ List.replicate (N.length - ds.length) .un
def fmE (F H : Hp) : Fm := ⟨H, F, H, fun _ => False⟩
theorem slots_ok {K : PySem.W.Frag} {F H : Hp} {ds : List Dt} {vs : List V} {n : Nat} (r : Rzl K H F ds vs) {i : Nat} {s : Sl} {ov : Option V}
    (a : (ds.map Sl.v ++ List.replicate n Sl.un)[i]? = some s) (b : (vs.map some ++ List.replicate n none)[i]? = some ov) : (s = .un) ∨ ∃ d v, s = .v d ∧ ov = some v ∧ Rz K H F d v := by
  have l := r.len
  by_cases c : i < ds.length
  · rw [List.getElem?_append_left (by rw [List.length_map]; exact c), List.getElem?_map] at a
    rw [List.getElem?_append_left (by rw [List.length_map]; omega), List.getElem?_map] at b
    cases e : ds[i]? with
    | none => rw [e] at a; cases a
    | some d =>
      rw [e] at a
      cases a
      obtain ⟨v, e2, r2⟩ := r.at_ e
      rw [e2] at b
      cases b
      exact .inr ⟨d, v, rfl, rfl, r2⟩
  · rw [List.getElem?_append_right (by rw [List.length_map]; omega), List.getElem?_replicate] at a
    split at a
    · cases a; exact .inl rfl
    · cases a
theorem Sm.start {K : PySem.W.Frag} {E : XK} {Ne : Addr → List (Str × V) → Prop} {F H : Hp} {ds : List Dt} {vs : List V} {N : List Str} (le : Le F H) (r : Rzl K H F ds vs) (er : ∀ C fs dd H', Ne C fs → ErrR H fs dd H' → E (.ref C) dd H') :
    Sm ⟨K, E, Ne⟩ (fmE F H) F H (L2.start N vs) (slots N ds) := by
  have l := r.len
  have key : ∀ {i : Nat} {s : Sl} {ov : Option V}, (slots N ds)[i]? = some s → (L2.start N vs)[i]? = some ov → (s = .un) ∨ ∃ d v, s = .v d ∧ ov = some v ∧ Rz K H F d v := fun {i s ov} a b => slots_ok r a (by rw [← l]; exact b)
  refine { lk := le.lk, base := Same.refl H, fr := Nw.refl F H, dom := fun _ h => h, bj := Le.refl H, er := er, hid := fun _ h => h.elim, fj := fun _ _ _ q => q, len := ?_, slot := fun i s ov a b => ?_, sep := fun i j d e q a b c c' => ?_, psep := fun i j q d e a b => ?_ }
  · unfold L2.start slots
    rw [List.length_append, List.length_append, List.length_map, List.length_map, List.length_replicate, List.length_replicate, l]
  · rcases key a b with rfl | ⟨d, v, rfl, rfl, r⟩
    · trivial
    · exact ⟨v, rfl, r⟩
  · rcases key a c with h | ⟨d, v, h, _⟩ <;> cases h
  · have hi : i < (slots N ds).length := (List.getElem?_eq_some_iff.mp a).1
    have hl : (L2.start N vs).length = (slots N ds).length := by
      unfold L2.start slots
      rw [List.length_append, List.length_append, List.length_map, List.length_map, List.length_replicate, List.length_replicate, l]
    rcases key a (List.getElem?_eq_getElem (by rw [hl]; exact hi)) with h | ⟨d, v, h, _⟩ <;> cases h
theorem z_fn {X : Cx} {body : List Stmt} {t : TS} {K : PySem.W.Frag} {w : Wz} {N : List Str} {vs : List V} {H : Hp} {Q : VK} {E : XK} (h : spZ K w vs H Q E) (P : PSs X body t)
    (go : ∀ ds Nv Ne, w ds Nv Ne → ZS ⟨K, E, Ne⟩ t (slots N ds) ⟨fun _ => Nv .non false, Nv, fun _ => False, fun _ => False⟩) : ∃ t, PSs X body t ∧ t { nx := fun _ H' => Q .non H', rt := Q } (L2.start N vs) H := by
  obtain ⟨F, ds, Nv, Ne, le, r, hw, hq, he⟩ := h
  refine ⟨t, P, go ds Nv Ne hw (fmE F H) F H _ _ (Sm.start le r he) (fun ρ' F' H' σ' n s S => hq _ _ F' H' _ n ⟨s, S.base, S.lk, S.fr, S.fj, show Rz K H F' .non .non from rzn⟩) (fun d fr F' H' v n s R => ?_) (fun _ _ _ _ n => n.elim) (fun _ _ _ _ n => n.elim)⟩
  obtain ⟨S, r⟩ := R
  refine hq d fr F' H' v n ⟨s, S.base, S.lk, S.fr, S.fj, ?_⟩
  cases fr with
  | false => exact r
  | true =>
    rw [if_pos rfl] at r ⊢
    obtain ⟨l, rfl, h1, h2, h3, ho, h4, h5⟩ := r
    exact ⟨l, rfl, h1, h2, ho, h4, h5⟩
theorem spz_len {K : PySem.W.Frag} {w : Wz} {vs : List V} {H : Hp} {Q : VK} {E : XK} {n : Nat} (h : spZ K w vs H Q E) (hl : ∀ ds Nv Ne, w ds Nv Ne → ds.length = n) : vs.length = n := by
  obtain ⟨F, ds, Nv, Ne, le, r, hw, _⟩ := h
  rw [r.len, hl ds Nv Ne hw]
/-! ### dicts -/
def keyD : Key → Dt
  | .inl i => .int i
  | .inr x => .str x
theorem rz_key {K : PySem.W.Frag} {B F : Hp} : ∀ {k : Key} {v : V}, Rz K B F (keyD k) v → v = kV k
  | .inl _, _, h => rz_i h
  | .inr _, _, h => rz_s h
theorem key_rz {K : PySem.W.Frag} {B F : Hp} : ∀ (k : Key), Rz K B F (keyD k) (kV k)
  | .inl _ => rzi
  | .inr _ => rzs
theorem rzl_keys {K : PySem.W.Frag} {B F : Hp} : ∀ {ks : List Key} {vs : List V}, Rzl K B F (ks.map keyD) vs → vs = ks.map kV
  | [], _, h => h.inv0
  | k :: ks, _, h => by
    obtain ⟨v, r, rfl, h1, t⟩ := h.inv
    rw [rz_key h1, rzl_keys t]
    rfl
theorem keys_rzl {K : PySem.W.Frag} {B F : Hp} : ∀ (ks : List Key), Rzl K B F (ks.map keyD) (ks.map kV)
  | [] => .nil
  | k :: ks => .cons (key_rz k) (keys_rzl ks)
inductive GetD : Dt → Dt → Option Dt → Prop
  | k {t : Bool} {ks : List Key} {ds : List Dt} (x : Key) {o : Option Dt} : look ks ds x = o → GetD (.dic t ks ds) (keyD x) o
  | t {t : Bool} {ks : List (List Key)} {ds : List Dt} (x : List Key) {o : Option Dt} : look ks ds x = o → GetD (.dit t ks ds) (.tup (x.map keyD)) o
theorem GetD.str {t : Bool} {ks : List Key} {ds : List Dt} {x : Str} {o : Option Dt} (h : look ks ds (.inr x) = o) : GetD (.dic t ks ds) (.str x) o := .k (.inr x) h
theorem GetD.int {t : Bool} {ks : List Key} {ds : List Dt} {x : Int} {o : Option Dt} (h : look ks ds (.inl x) = o) : GetD (.dic t ks ds) (.int x) o := .k (.inl x) h
inductive PutD : Dt → Dt → Dt → Dt → Prop
  | k {ks : List Key} {ds : List Dt} {d : Dt} (x : Key) : ks.length < 100000 → PutD (.dic true ks ds) (keyD x) d (.dic true (putKs ks x) (putDs ks ds x d))
  | t {ks : List (List Key)} {ds : List Dt} {d : Dt} (x : List Key) : ks.length < 100000 → PutD (.dit true ks ds) (.tup (x.map keyD)) d (.dit true (putKs ks x) (putDs ks ds x d))
theorem PutD.str {ks : List Key} {ds : List Dt} {d : Dt} {x : Str} (h : ks.length < 100000) : PutD (.dic true ks ds) (.str x) d (.dic true (putKs ks (.inr x)) (putDs ks ds (.inr x) d)) := .k (.inr x) h
/-- a dict at a -/
inductive DctR (K : PySem.W.Frag) (B F H : Hp) (a : Addr) : Dt → Prop
  | k {t : Bool} {kvs : List (Key × V)} {ds : List Dt} : L2.Rd H a (.dK kvs) → Rzl K B F ds (kvs.map Prod.snd) → DctR K B F H a (.dic t (kvs.map Prod.fst) ds)
  | t {t : Bool} {kvs : List (List Key × V)} {ds : List Dt} : L2.Rd H a (.dT kvs) → Rzl K B F ds (kvs.map Prod.snd) → DctR K B F H a (.dit t (kvs.map Prod.fst) ds)
def isDd : Dt → Bool
  | .dic _ _ _ => true
  | .dit _ _ _ => true
  | _ => false
theorem rz_dct {K : PySem.W.Frag} {B F H : Hp} {d : Dt} {v : V} (h : Rz K B F d v) (le : Le F H) (i : isDd d = true) : ∃ a, v = .ref a ∧ DctR K B F H a d := by
  cases d <;> first | cases i | skip
  · simp only [Rz] at h
    obtain ⟨a, kvs, rfl, h1, _, rfl, h2⟩ := h
    exact ⟨a, rfl, .k (le.rd h1) h2⟩
  · simp only [Rz] at h
    obtain ⟨a, kvs, rfl, h1, _, rfl, h2⟩ := h
    exact ⟨a, rfl, .t (le.rd h1) h2⟩
theorem GetD.isDd {c y : Dt} {o : Option Dt} (h : GetD c y o) : isDd c = true := by cases h <;> rfl
def OptR (K : PySem.W.Frag) (B F : Hp) : Option Dt → Option V → Prop
  | some d, some v => Rz K B F d v
  | none, none => True
  | _, _ => False
theorem dct_get {K : PySem.W.Frag} {B F H : Hp} {a : Addr} {c y : Dt} {o : Option Dt} {vy : V} (h : DctR K B F H a c) (g : GetD c y o) (r : Rz K B F y vy) (le : Le F H) : ∃ vo, DGet H a vy vo ∧ OptR K B F o vo := by
  cases g with
  | k x e =>
    obtain rfl := rz_key r
    cases h with
    | k h1 h2 =>
      have q := tab_look (k := x) h2
      rw [e] at q
      refine ⟨_, .inl ⟨_, x, h1, rfl, rfl⟩, ?_⟩
      cases o with
      | none => rw [q]; trivial
      | some d =>
        obtain ⟨v, e1, e2⟩ := q
        rw [e1]
        exact e2
  | t x e =>
    simp only [Rz] at r
    obtain ⟨b, xs, rfl, hb, rx⟩ := r
    obtain rfl := rzl_keys rx
    cases h with
    | t h1 h2 =>
      have q := tab_look (k := x) h2
      rw [e] at q
      refine ⟨_, .inr ⟨_, x, b, h1, rfl, le.exact hb rfl, rfl⟩, ?_⟩
      cases o with
      | none => rw [q]; trivial
      | some d =>
        obtain ⟨v, e1, e2⟩ := q
        rw [e1]
        exact e2
theorem OptR.isSome {K : PySem.W.Frag} {B F : Hp} : ∀ {o : Option Dt} {vo : Option V}, OptR K B F o vo → vo.isSome = o.isSome
  | some _, some _, _ => rfl
  | none, none, _ => rfl
section
variable {z : Cz} {ρ : List Sl} {i : Nat}
theorem Sm.has {m : Fm} {F H : Hp} {σ : L2.St} (S : Sm z m F H σ ρ) {s : Sl} {c : Dt} (h : ρ[i]? = some s) (p : Pk s c) : ∃ v, σ[i]? = some (some v) := by
  obtain ⟨ov, e, ok⟩ := S.get h
  rcases p with rfl | rfl | ⟨a, rfl⟩
  · obtain ⟨v, rfl, r⟩ := ok; exact ⟨v, e⟩
  · obtain ⟨l, rfl, _⟩ := ok; exact ⟨_, e⟩
  · obtain ⟨rfl, _⟩ := ok; exact ⟨_, e⟩
theorem Sm.peekD {m : Fm} {F H : Hp} {σ : L2.St} (S : Sm z m F H σ ρ) {s : Sl} {c : Dt} (h : ρ[i]? = some s) (p : Pk s c) (hc : isDd c = true) : ∃ a, σ[i]? = some (some (.ref a)) ∧ DctR z.K m.B F H a c := by
  obtain ⟨ov, e, ok⟩ := S.get h
  rcases p with rfl | rfl | ⟨a, rfl⟩
  · obtain ⟨v, rfl, r⟩ := ok
    obtain ⟨a, rfl, q⟩ := rz_dct r S.le hc
    exact ⟨a, e, q⟩
  · obtain ⟨l, rfl, _, _, _, ho, h1, h2⟩ := ok
    cases h2 with
    | lst r => cases hc
    | dK r => exact ⟨l, e, .k (.inl h1) r⟩
    | dT r => exact ⟨l, e, .t (.inl h1) r⟩
  · obtain ⟨rfl, _, _, ho, h1, h2⟩ := ok
    have hr : L2.Rd H a ho := by
      rcases h1 with h1 | ⟨_, ob, h1⟩
      · exact .inl (S.base _ _ h1)
      · exact .inr ⟨ob, S.base _ _ h1⟩
    cases h2 with
    | lst r => cases hc
    | dK r => exact ⟨a, e, .k hr r⟩
    | dT r => exact ⟨a, e, .t hr r⟩
theorem DctR.isD {K : PySem.W.Frag} {B F H : Hp} {a : Addr} {c : Dt} (h : DctR K B F H a c) : IsD H a := by
  cases h with
  | k h1 _ => exact .inl ⟨_, h1⟩
  | t h1 _ => exact .inr ⟨_, h1⟩
variable {N : Dt → Bool → List Sl → Prop} {td ty tx tv : TE} {s0 : Sl} {c0 : Dt}
theorem ze_dgetv (h0 : ρ[i]? = some s0) (p0 : Pk s0 c0) (h : ZE z ty ρ fun y _ ρ1 => ∃ s c d, ρ1[i]? = some s ∧ Pk s c ∧ GetD c y (some d) ∧ N d false ρ1) : ZE z (tDGet (tVar i) ty) ρ N := fun m F H σ Q S k => by
  obtain ⟨v, e⟩ := S.has h0 p0
  refine ⟨v, e, h m F H σ _ S fun y fy ρ1 F1 H1 vy n1 s1 S1 r1 => ?_⟩
  obtain ⟨F2, s2, S2, ry⟩ := rzF_frz S1 r1
  obtain ⟨s, c, d, hs, p, g, n⟩ := n1
  obtain ⟨a, e', q⟩ := S2.peekD hs p g.isDd
  rw [e] at e'
  cases e'
  obtain ⟨vo, q1, q2⟩ := dct_get q g ry S2.le
  cases vo with
  | none => exact q2.elim
  | some u => exact ⟨a, u, rfl, q1, k _ _ _ _ _ _ n (s1.trans s2) S2 (rzF_f q2)⟩
theorem ze_dget (h : ZE z td ρ fun c _ ρ1 => ZE z ty ρ1 fun y _ ρ2 => ∃ d, GetD c y (some d) ∧ N d false ρ2) : ZE z (tDGet td ty) ρ N := fun m F H σ Q S k => by
  refine h m F H σ _ S fun c fc ρ1 F1 H1 vc n1 s1 S1 r1 => ?_
  obtain ⟨F2, s2, S2, rc⟩ := rzF_frz S1 r1
  refine n1 m F2 H1 σ _ S2 fun y fy ρ2 F3 H2 vy n2 s3 S3 r3 => ?_
  obtain ⟨F4, s4, S4, ry⟩ := rzF_frz S3 r3
  obtain ⟨d, g, n⟩ := n2
  obtain ⟨a, rfl, q⟩ := rz_dct (rz_mono (s3.trans s4) _ _ rc) S4.le g.isDd
  obtain ⟨vo, q1, q2⟩ := dct_get q g ry S4.le
  cases vo with
  | none => exact q2.elim
  | some u => exact ⟨a, u, rfl, q1, k _ _ _ _ _ _ n ((s1.trans s2).trans (s3.trans s4)) S4 (rzF_f q2)⟩
theorem ze_dinv (h0 : ρ[i]? = some s0) (h : ZE z ty ρ fun y _ ρ1 => ∃ s c o, ρ1[i]? = some s ∧ Pk s c ∧ GetD c y o ∧ N (.bl o.isSome) false ρ1) : ZE z (tDIn ty (tVar i)) ρ N := fun m F H σ Q S k => by
  refine h m F H σ _ S fun y fy ρ1 F1 H1 vy n1 s1 S1 r1 => ?_
  obtain ⟨F2, s2, S2, ry⟩ := rzF_frz S1 r1
  obtain ⟨s, c, o, hs, p, g, n⟩ := n1
  obtain ⟨a, e', q⟩ := S2.peekD hs p g.isDd
  obtain ⟨vo, q1, q2⟩ := dct_get q g ry S2.le
  exact ⟨_, e', a, vo, rfl, q1, by rw [q2.isSome]; exact k _ _ _ _ _ _ n (s1.trans s2) S2 (rzF_f rzb)⟩
theorem ze_dnotinv (h0 : ρ[i]? = some s0) (h : ZE z ty ρ fun y _ ρ1 => ∃ s c o, ρ1[i]? = some s ∧ Pk s c ∧ GetD c y o ∧ N (.bl (!o.isSome)) false ρ1) : ZE z (tDNotIn ty (tVar i)) ρ N := fun m F H σ Q S k => by
  refine h m F H σ _ S fun y fy ρ1 F1 H1 vy n1 s1 S1 r1 => ?_
  obtain ⟨F2, s2, S2, ry⟩ := rzF_frz S1 r1
  obtain ⟨s, c, o, hs, p, g, n⟩ := n1
  obtain ⟨a, e', q⟩ := S2.peekD hs p g.isDd
  obtain ⟨vo, q1, q2⟩ := dct_get q g ry S2.le
  exact ⟨_, e', a, vo, rfl, q1, by rw [q2.isSome]; exact k _ _ _ _ _ _ n (s1.trans s2) S2 (rzF_f rzb)⟩
theorem ze_din (h : ZE z ty ρ fun y _ ρ1 => ZE z td ρ1 fun c _ ρ2 => ∃ o, GetD c y o ∧ N (.bl o.isSome) false ρ2) : ZE z (tDIn ty td) ρ N := fun m F H σ Q S k => by
  refine h m F H σ _ S fun y fy ρ1 F1 H1 vy n1 s1 S1 r1 => ?_
  obtain ⟨F2, s2, S2, ry⟩ := rzF_frz S1 r1
  refine n1 m F2 H1 σ _ S2 fun c fc ρ2 F3 H2 vc n2 s3 S3 r3 => ?_
  obtain ⟨F4, s4, S4, rc⟩ := rzF_frz S3 r3
  obtain ⟨o, g, n⟩ := n2
  obtain ⟨a, rfl, q⟩ := rz_dct rc S4.le g.isDd
  obtain ⟨vo, q1, q2⟩ := dct_get q g (rz_mono (s3.trans s4) _ _ ry) S4.le
  exact ⟨a, vo, rfl, q1, by rw [q2.isSome]; exact k _ _ _ _ _ _ n ((s1.trans s2).trans (s3.trans s4)) S4 (rzF_f rzb)⟩
theorem ze_dget2v (h0 : ρ[i]? = some s0) (p0 : Pk s0 c0) (hc : isDd c0 = true) (h : ZE z ty ρ fun y _ ρ1 => ZE z tx ρ1 fun x _ ρ2 => ∃ s c o, ρ2[i]? = some s ∧ Pk s c ∧ GetD c y o ∧ N (o.getD x) false ρ2) : ZE z (tDGet2 (tVar i) ty tx) ρ N := fun m F H σ Q S k => by
  obtain ⟨a, e, q0⟩ := S.peekD h0 p0 hc
  refine ⟨_, e, a, rfl, q0.isD, h m F H σ _ S fun y fy ρ1 F1 H1 vy n1 s1 S1 r1 => ?_⟩
  obtain ⟨F2, s2, S2, ry⟩ := rzF_frz S1 r1
  refine n1 m F2 H1 σ _ S2 fun x fx ρ2 F3 H2 vx n2 s3 S3 r3 => ?_
  obtain ⟨F4, s4, S4, rx⟩ := rzF_frz S3 r3
  obtain ⟨s, c, o, hs, p, g, n⟩ := n2
  obtain ⟨a', e', q⟩ := S4.peekD hs p g.isDd
  rw [e] at e'
  cases e'
  obtain ⟨vo, q1, q2⟩ := dct_get q g (rz_mono (s3.trans s4) _ _ ry) S4.le
  refine ⟨vo, q1, k _ _ _ _ _ _ n ((s1.trans s2).trans (s3.trans s4)) S4 (rzF_f ?_)⟩
  cases o <;> cases vo <;> first | exact q2.elim | exact rx | exact q2
theorem zs_dput {D : Zn} (h : ZE z tv ρ fun v _ ρ1 => ∃ s0 c0, ρ1[i]? = some s0 ∧ Pk s0 c0 ∧ ZE z ty ρ1 fun y _ ρ2 => ∃ c c', ρ2[i]? = some (.o c) ∧ PutD c y v c' ∧ D.nx (ρ2.set i (.o c'))) : ZS z (sDPut (tVar i) ty tv) ρ D := fun m F H σ E S kn kr kb kc => by
  refine h m F H σ _ S fun v fv ρ1 F1 H1 vv n1 s1 S1 r1 => ?_
  obtain ⟨F2, s2, S2, rv⟩ := rzF_frz S1 r1
  obtain ⟨s0, c0, hs0, hp0, n1⟩ := n1
  obtain ⟨u, eu⟩ := S2.has hs0 hp0
  refine ⟨u, eu, n1 m F2 H1 σ _ S2 fun y fy ρ2 F3 H2 vy n2 s3 S3 r3 => ?_⟩
  obtain ⟨F4, s4, S4, ry⟩ := rzF_frz S3 r3
  obtain ⟨c, c', hc, p, n⟩ := n2
  obtain ⟨l, el, h1, h2, h3, ho, h4, h5⟩ := S4.geto hc
  rw [eu] at el
  cases el
  have ss := (s1.trans s2).trans (s3.trans s4)
  have rv' := rz_mono (s3.trans s4) _ _ rv
  cases p with
  | k x hl =>
    obtain rfl := rz_key ry
    cases h5 with
    | dK r =>
      have hr := HoR.dK (tab_putD (k := x) r rv')
      rw [tab_putK] at hr
      exact ⟨l, _, rfl, DPut.k h4 (by rw [List.length_map] at hl; rw [sizeLine_eq]; omega), kn _ _ _ _ n ss (S4.put hc eu hr)⟩
  | t x hl =>
    simp only [Rz] at ry
    obtain ⟨b, xs, rfl, hb, rx⟩ := ry
    obtain rfl := rzl_keys rx
    cases h5 with
    | dT r =>
      have hr := HoR.dT (tab_putD (k := x) r rv')
      rw [tab_putK] at hr
      exact ⟨l, _, rfl, DPut.t h4 (S4.le.exact hb rfl) (by rw [List.length_map] at hl; rw [sizeLine_eq]; omega), kn _ _ _ _ n ss (S4.put hc eu hr)⟩
end
/-! ### a dict locked where it is walked -/
/-- behind: the dict that was locked within is open again -/
def unlN (H : Hp) (N : L2.St → Hp → Prop) : L2.St → Hp → Prop := fun σ' H' => N σ' H' ∨ ∃ d od u, (∀ o' u', H d ≠ some (.frz o' u')) ∧ H' d = some (.frz od u) ∧ N σ' (upd H' d u)
def unlV (H : Hp) (N : VK) : VK := fun v H' => N v H' ∨ ∃ d od u, (∀ o' u', H d ≠ some (.frz o' u')) ∧ H' d = some (.frz od u) ∧ N v (upd H' d u)
def tLockL (t : TS) : TS := fun D σ H => t ⟨unlN H D.nx, unlV H D.rt, unlN H D.bk, unlN H D.ct⟩ σ H
def tLockLE (t : TE) : TE := fun σ H Q => t σ H (unlV H Q)
def tLk (td : TE) : TE := fun σ H Q => td σ H fun x H1 => ∃ d u, x = .ref d ∧ ((H1 d = some u ∧ Mut (some u) ∧ ∀ o, Q x (upd H1 d (.frz o u))) ∨ Q x H1)
section
variable {X : Cx}
theorem nofrz0 {pins : List (Addr × Obj)} {σ : L2.St} {H : Hp} {s : Shared} {d : Addr} (I : Inv X pins σ H s) (h : ∀ o' u', H d ≠ some (.frz o' u')) : ∀ o' u', X.H_0 d ≠ some (.frz o' u') := fun o' u' e => h o' u' (I.base.frzs d o' u' e)
theorem ps_lockL {st : Stmt} {t : TS} (h : PS X st t) : PS X st (tLockL t) := by
  refine ⟨fun pins s σ H D I hw => ?_⟩
  refine thn (h.run pins s σ _ _ I hw) fun f s1 q => ?_
  cases f with
  | next =>
    obtain ⟨σ', H', I2, q | ⟨d, od, u, hn, e, q⟩⟩ := q
    · exact ⟨σ', _, I2, q⟩
    · exact ⟨σ', _, I2.unlock e (nofrz0 I hn), q⟩
  | brk =>
    obtain ⟨σ', H', I2, q | ⟨d, od, u, hn, e, q⟩⟩ := q
    · exact ⟨σ', _, I2, q⟩
    · exact ⟨σ', _, I2.unlock e (nofrz0 I hn), q⟩
  | cont =>
    obtain ⟨σ', H', I2, q | ⟨d, od, u, hn, e, q⟩⟩ := q
    · exact ⟨σ', _, I2, q⟩
    · exact ⟨σ', _, I2.unlock e (nofrz0 I hn), q⟩
  | ret v =>
    obtain ⟨x, σ', H', I2, r, q | ⟨d, od, u, hn, e, q⟩⟩ := q
    · exact ⟨x, σ', _, I2, r, q⟩
    · exact ⟨x, σ', _, I2.unlock e (nofrz0 I hn), r, q⟩
theorem pe_lockL {e : Expr} {t : TE} (h : PE X e t) : PE X e (tLockLE t) := by
  refine ⟨fun pins s σ H Q I hw => ?_⟩
  refine thn (h.run pins s σ _ _ I hw) fun v s1 q => ?_
  obtain ⟨x, H1, I2, r, q | ⟨d, od, u, hn, e, q⟩⟩ := q
  · exact ⟨x, _, I2, r, q⟩
  · exact ⟨x, _, I2.unlock e (nofrz0 I hn), r, q⟩
theorem pe_lk {e : Expr} {t : TE} (h : PE X e t) : PE X e (tLk t) := by
  refine ⟨fun pins s σ H Q I hw => ?_⟩
  refine thn (h.run pins s σ _ _ I hw) fun v s1 q => ?_
  obtain ⟨x, H1, I2, r, d, u, rfl, ⟨e, mu, q⟩ | q⟩ := q
  · obtain ⟨od, I3⟩ := I2.lock e mu
    exact ⟨_, _, I3, r, q od⟩
  · exact ⟨_, _, I2, r, q⟩
end
/-! ### held things -/
def Fm.pin (m : Fm) (l : Addr) (o : HO) : Fm := { m with J := upd m.J l o, hd := fun a => m.hd a ∨ a = l }
def Fm.lock (m : Fm) (l : Addr) (o : HO) : Fm := { m with J := upd m.J l o }
def undo (un : Option (Addr × HO)) (H : Hp) : Hp := match un with
  | none => H
  | some (d, u) => upd H d u
structure Back (z : Cz) (H0 F1 : Hp) (m m' : Fm) (un : Option (Addr × HO)) (bp : List Sl → Prop) (bm : List Sl → List Sl) : Prop where
  leg : ∀ d u, un = some (d, u) → ∀ o' u', H0 d ≠ some (.frz o' u')
  fz : ∀ F H, Sc z m' F H → ∀ d u, un = some (d, u) → ∃ od, H d = some (.frz od u)
  sm : ∀ F H σ ρ, Same F1 F → Sm z m' F H σ ρ → bp ρ → Sm z m F (undo un H) σ (bm ρ)
  bb : m'.B = m.B
  rt : ∀ F H fr d v, Same F1 F → RtR z m' F H fr d v → RtR z m F (undo un H) fr d v
section
variable {z : Cz} {m : Fm} {F H : Hp} {σ : L2.St} {ρ : List Sl} {i : Nat} {d : Dt} {l : Addr}
theorem Back.id {H0 F1 : Hp} : Back z H0 F1 m m none (fun _ => True) (fun ρ => ρ) := ⟨fun _ _ e => (nomatch e), fun _ _ _ _ _ e => (nomatch e), fun _ _ _ _ _ S _ => S, rfl, fun _ _ _ _ _ _ R => R⟩
/-- an owned thing is held: a list as it stands; ho' what is told of it within -/
theorem Sm.pin {ho ho' : HO} (S : Sm z m F H σ ρ) (h : ρ[i]? = some (.o d)) (e : σ[i]? = some (some (.ref l))) (hl : H l = some ho) (k : ho' = ho ∨ isDk ho = true ∧ ∃ ob, ho' = .frz ob ho) :
    Sm z (m.pin l ho') F (upd H l ho') σ (ρ.set i (.l l d)) := by
  obtain ⟨l', e', h1, h2, h3, ho2, h4, h5⟩ := S.geto h
  rw [e] at e'
  cases e'
  rw [hl] at h4
  cases h4
  have nt : isTp ho' = false := by
    rcases k with rfl | ⟨_, ob, rfl⟩
    · exact h5.notTp
    · rfl
  have C : Sc z (m.pin l ho') F (upd H l ho') := ⟨fun a o q => by
      have n : a ≠ l := fun c => by rw [c, h1] at q; cases q
      show upd H l ho' a = some o ∨ _
      rw [upd_ne n]
      refine (S.lk a o q).elim .inl fun ⟨p, ob, p1, p2⟩ => .inr ⟨p, ob, p1, ?_⟩
      show upd m.J l ho' a = _
      rw [upd_ne n]
      exact p2, fun a o q => by
      have q : upd m.J l ho' a = some o := q
      by_cases c : a = l
      · rw [c, upd_same] at q ⊢; exact q
      · rw [upd_ne c] at q ⊢; exact S.base a o q, S.fr, fun a q => by
      by_cases c : a = l
      · rw [c, upd_same] at q; cases q
      · rw [upd_ne c] at q; exact S.dom a q, fun a o q => by
      have n : a ≠ l := fun c => by
        have q : m.B a = some o := q
        rw [c, h2] at q; cases q
      show upd m.J l ho' a = some o ∨ _
      rw [upd_ne n]
      refine (S.bj a o q).elim .inl fun ⟨p, ob, p1⟩ => .inr ⟨p, ob, ?_⟩
      show upd m.J l ho' a = _
      rw [upd_ne n]
      exact p1, S.er, fun a ha => by
      rcases ha with ha | rfl
      · obtain ⟨q1, o, q2, q3⟩ := S.hid a ha
        refine ⟨q1, o, ?_, q3⟩
        show upd m.J l ho' a = _
        rw [upd_ne (fun c => by rw [c, h3] at q2; cases q2)]
        exact q2
      · exact ⟨h1, ho', upd_same, nt⟩, fun a ob u q => by
      show upd m.J l ho' a = _
      by_cases c : a = l
      · rw [c, upd_same] at q ⊢; exact q
      · rw [upd_ne c] at q ⊢; exact S.fj a ob u q⟩
  have hi : i < ρ.length := (List.getElem?_eq_some_iff.mp h).1
  refine { C with len := by rw [List.length_set]; exact S.len, slot := fun j s ov a b => ?_, sep := fun j k d1 d2 l' a b c c' => ?_, psep := fun j k q d1 d2 a b => ?_ }
  · by_cases c : i = j
    · subst c
      rw [List.getElem?_set_self hi] at a
      cases a
      rw [e] at b
      cases b
      refine ⟨rfl, .inr rfl, h2, ho, ?_, h5⟩
      rcases k with rfl | ⟨k1, ob, rfl⟩
      · exact .inl upd_same
      · exact .inr ⟨k1, ob, upd_same⟩
    · rw [List.getElem?_set_ne c] at a
      have q := S.slot j s ov a b
      cases s with
      | un => trivial
      | v d => exact q
      | o d2 =>
        obtain ⟨l', e', q1, q2, q3, ho2, q4, q5⟩ := q
        subst e'
        have n : l' ≠ l := fun z => c (S.sep i j _ _ l h a e (by rw [b, z]))
        refine ⟨l', rfl, q1, q2, ?_, ho2, ?_, q5⟩
        · show upd m.J l ho' l' = none
          rw [upd_ne n]; exact q3
        · rw [upd_ne n]; exact q4
      | l a2 d2 =>
        obtain ⟨q0, q1, q2, ho2, q4, q5⟩ := q
        have n : a2 ≠ l := fun z => by rw [z, h3] at q4; rcases q4 with q4 | ⟨_, _, q4⟩ <;> cases q4
        refine ⟨q0, .inl q1, q2, ho2, ?_, q5⟩
        show upd m.J l ho' a2 = some ho2 ∨ isDk ho2 = true ∧ ∃ ob, upd m.J l ho' a2 = _
        rw [upd_ne n]
        exact q4
  · have key : ∀ {x : Nat} {u : Dt}, (ρ.set i (.l l d))[x]? = some (.o u) → ρ[x]? = some (.o u) := fun {x u} p => by
      by_cases c : i = x
      · subst c
        rw [List.getElem?_set_self hi] at p
        cases p
      · rw [List.getElem?_set_ne c] at p
        exact p
    exact S.sep j k d1 d2 l' (key a) (key b) c c'
  · have key : ∀ {x : Nat} {u : Dt}, (ρ.set i (.l l d))[x]? = some (.l q u) → (x = i ∧ q = l) ∨ (ρ[x]? = some (.l q u) ∧ q ≠ l) := fun {x u} p => by
      by_cases c : i = x
      · subst c
        rw [List.getElem?_set_self hi] at p
        cases p
        exact .inl ⟨rfl, rfl⟩
      · rw [List.getElem?_set_ne c] at p
        refine .inr ⟨p, fun z => ?_⟩
        obtain ⟨ov, _, _, _, _, ho2, q4, _⟩ := S.get p
        rw [z, h3] at q4
        rcases q4 with q4 | ⟨_, _, q4⟩ <;> cases q4
    rcases key a with ⟨rfl, rfl⟩ | ⟨p1, p2⟩
    · rcases key b with ⟨rfl, _⟩ | ⟨_, p3⟩
      · rfl
      · exact absurd rfl p3
    · rcases key b with ⟨_, rfl⟩ | ⟨p3, _⟩
      · exact absurd rfl p2
      · exact S.psep j k q d1 d2 p1 p3
/-- .. and one's own again -/
theorem Sc.unpin {ho ho' : HO} (nf : ∀ ob u, ho ≠ .frz ob u) (S : Sc z (m.pin l ho') F H) (hB : m.B l = none) (hJ : m.J l = none) (hh : ¬ m.hd l) : Sc z m F (upd H l ho) := by
  obtain ⟨hF, _⟩ := S.hid l (.inr rfl)
  refine ⟨fun a o q => ?_, fun a o q => ?_, S.fr, fun a q => ?_, fun a o q => ?_, S.er, fun a ha => ?_, fun a ob u q => ?_⟩
  · have n : a ≠ l := fun c => by rw [c, hF] at q; cases q
    rw [upd_ne n]
    refine (S.lk a o q).elim .inl fun ⟨p, ob, p1, p2⟩ => .inr ⟨p, ob, p1, ?_⟩
    have p2 : upd m.J l ho' a = _ := p2
    rw [upd_ne n] at p2
    exact p2
  · have n : a ≠ l := fun c => by rw [c, hJ] at q; cases q
    rw [upd_ne n]
    refine S.base a o ?_
    show upd m.J l ho' a = _
    rw [upd_ne n]
    exact q
  · by_cases c : a = l
    · rw [c, upd_same] at q; cases q
    · rw [upd_ne c] at q; exact S.dom a q
  · have n : a ≠ l := fun c => by rw [c, hB] at q; cases q
    refine (S.bj a o q).elim (fun p => .inl ?_) fun ⟨p, ob, p1⟩ => .inr ⟨p, ob, ?_⟩
    · have p : upd m.J l ho' a = _ := p
      rw [upd_ne n] at p
      exact p
    · have p1 : upd m.J l ho' a = _ := p1
      rw [upd_ne n] at p1
      exact p1
  · obtain ⟨q1, o, q2, q3⟩ := S.hid a (.inl ha)
    refine ⟨q1, o, ?_, q3⟩
    have q2 : upd m.J l ho' a = _ := q2
    rw [upd_ne (fun c => hh (by rw [← c]; exact ha))] at q2
    exact q2
  · by_cases c : a = l
    · rw [c, upd_same] at q
      exact absurd (Option.some.inj q) (nf ob u)
    · rw [upd_ne c] at q
      have q2 : upd m.J l ho' a = _ := S.fj a ob u q
      rw [upd_ne c] at q2
      exact q2
theorem back_pin {H0 F1 : Hp} {ho ho' : HO} {un : Option (Addr × HO)} (nf : ∀ ob u, ho ≠ .frz ob u) (hB : m.B l = none) (hJ : m.J l = none) (hh : ¬ m.hd l) (k : (ho' = ho ∧ un = none) ∨ (isDk ho = true ∧ (∃ ob, ho' = .frz ob ho) ∧ un = some (l, ho) ∧ ∀ o' u', H0 l ≠ some (.frz o' u'))) :
    Back z H0 F1 m (m.pin l ho') un (fun ρ => ρ[i]? = some (.l l d)) (fun ρ => ρ.set i (.o d)) := by
  have st : ∀ {F H : Hp}, Sc z (m.pin l ho') F H → undo un H = upd H l ho ∧ H l = some ho' := fun {F H} S => by
    have q : H l = some ho' := S.base l ho' upd_same
    refine ⟨?_, q⟩
    rcases k with ⟨rfl, rfl⟩ | ⟨_, _, rfl, _⟩
    · show H = upd H l ho'
      funext b
      by_cases c : b = l
      · rw [c, upd_same]; exact q
      · rw [upd_ne c]
    · rfl
  refine ⟨fun d u e => ?_, fun F H S d u e => ?_, fun F H σ ρ _ S hb => ?_, rfl, fun F H fr d v _ R => ?_⟩
  · rcases k with ⟨_, rfl⟩ | ⟨_, _, rfl, k⟩
    · cases e
    · cases e; exact k
  · rcases k with ⟨_, rfl⟩ | ⟨_, ⟨ob, rfl⟩, rfl, _⟩
    · cases e
    · cases e; exact ⟨ob, (st S).2⟩
  · rw [(st S.toSc).1]
    obtain ⟨hF, _⟩ := S.hid l (.inr rfl)
    have hi : i < ρ.length := (List.getElem?_eq_some_iff.mp hb).1
    obtain ⟨ov, eo, ok⟩ := S.get hb
    obtain ⟨rfl, _, _, ho2, h4, h5⟩ := ok
    have eho : ho2 = ho := by
      have j : (m.pin l ho').J l = some ho' := upd_same
      rw [j] at h4
      rcases k with ⟨rfl, _⟩ | ⟨k1, ⟨ob, rfl⟩, _⟩
      · rcases h4 with h4 | ⟨k2, ob', h4⟩
        · cases h4; rfl
        · cases h4
          exact absurd rfl (nf _ _)
      · rcases h4 with h4 | ⟨_, ob', h4⟩
        · cases h4; cases h5
        · cases h4; rfl
    subst eho
    refine { Sc.unpin nf S.toSc hB hJ hh with len := by rw [List.length_set]; exact S.len, slot := fun j s ov a b => ?_, sep := fun j k' d1 d2 l' a b c c' => ?_, psep := fun j k' q d1 d2 a b => ?_ }
    · by_cases c : i = j
      · subst c
        rw [List.getElem?_set_self hi] at a
        cases a
        rw [eo] at b
        cases b
        exact ⟨l, rfl, hF, hB, hJ, ho2, upd_same, h5⟩
      · rw [List.getElem?_set_ne c] at a
        have q := S.slot j s ov a b
        cases s with
        | un => trivial
        | v d => exact q
        | o d2 =>
          obtain ⟨l', e', q1, q2, q3, ho3, q4, q5⟩ := q
          subst e'
          have q3 : upd m.J l ho' l' = none := q3
          have n : l' ≠ l := fun z => by rw [z, upd_same] at q3; cases q3
          rw [upd_ne n] at q3
          exact ⟨l', rfl, q1, q2, q3, ho3, by rw [upd_ne n]; exact q4, q5⟩
        | l a2 d2 =>
          obtain ⟨q0, q1, q2, ho3, q4, q5⟩ := q
          have n : a2 ≠ l := fun z => by
            subst z
            exact c (S.psep i j _ _ _ hb a)
          have q4 : upd m.J l ho' a2 = some ho3 ∨ isDk ho3 = true ∧ ∃ ob, upd m.J l ho' a2 = some (.frz ob ho3) := q4
          rw [upd_ne n] at q4
          exact ⟨q0, q1.elim id fun z => absurd z n, q2, ho3, q4, q5⟩
    · have key : ∀ {x : Nat} {u : Dt}, (ρ.set i (.o d))[x]? = some (.o u) → σ[x]? = some (some (.ref l')) → (x = i ∧ l' = l) ∨ (ρ[x]? = some (.o u) ∧ l' ≠ l) := fun {x u} p q => by
        by_cases c : i = x
        · subst c
          rw [eo] at q
          cases q
          exact .inl ⟨rfl, rfl⟩
        · rw [List.getElem?_set_ne c] at p
          refine .inr ⟨p, fun z => ?_⟩
          obtain ⟨l2, e2, _, _, q3, _⟩ := S.geto p
          rw [q] at e2
          cases e2
          have q3 : upd m.J l ho' l' = none := q3
          rw [z, upd_same] at q3
          cases q3
      rcases key a c with ⟨rfl, rfl⟩ | ⟨p1, p2⟩
      · rcases key b c' with ⟨rfl, _⟩ | ⟨_, p3⟩
        · rfl
        · exact absurd rfl p3
      · rcases key b c' with ⟨_, rfl⟩ | ⟨p3, _⟩
        · exact absurd rfl p2
        · exact S.sep j k' d1 d2 l' p1 p3 c c'
    · have key : ∀ {x : Nat} {u : Dt}, (ρ.set i (.o d))[x]? = some (.l q u) → ρ[x]? = some (.l q u) := fun {x u} p => by
        by_cases c : i = x
        · subst c
          rw [List.getElem?_set_self hi] at p
          cases p
        · rw [List.getElem?_set_ne c] at p
          exact p
      exact S.psep j k' q d1 d2 (key a) (key b)
  · obtain ⟨S, r⟩ := R
    rw [(st S).1]
    refine ⟨Sc.unpin nf S hB hJ hh, ?_⟩
    cases fr with
    | false => exact r
    | true =>
      rw [if_pos rfl] at r ⊢
      obtain ⟨l', rfl, q1, q2, q3, ho3, q4, q5⟩ := r
      have q3 : upd m.J l ho' l' = none := q3
      have n : l' ≠ l := fun z => by rw [z, upd_same] at q3; cases q3
      rw [upd_ne n] at q3
      exact ⟨l', rfl, q1, q2, q3, ho3, by rw [upd_ne n]; exact q4, q5⟩
/-- a frozen dict is locked -/
theorem Sm.lock {u : HO} (S : Sm z m F H σ ρ) (hF : F l = some u) (hH : H l = some u) (hu : isDk u = true) (ob : Obj) : Sm z (m.lock l (.frz ob u)) F (upd H l (.frz ob u)) σ ρ := by
  have nh : ¬ m.hd l := fun h => by rw [(S.hid l h).1] at hF; cases hF
  have nf : ∀ {o : HO}, isDk o = true → ∀ ob u, o ≠ .frz ob u := fun h ob u z => by rw [z] at h; cases h
  have C : Sc z (m.lock l (.frz ob u)) F (upd H l (.frz ob u)) := ⟨fun a o q => by
      by_cases n : a = l
      · subst n
        rw [hF] at q
        cases q
        exact .inr ⟨hu, ob, upd_same, upd_same⟩
      · rw [upd_ne n]
        refine (S.lk a o q).elim .inl fun ⟨p, ob, p1, p2⟩ => .inr ⟨p, ob, p1, ?_⟩
        show upd m.J l _ a = _
        rw [upd_ne n]
        exact p2, fun a o q => by
      have q : upd m.J l _ a = some o := q
      by_cases c : a = l
      · rw [c, upd_same] at q ⊢; exact q
      · rw [upd_ne c] at q ⊢; exact S.base a o q, S.fr, fun a q => by
      by_cases c : a = l
      · rw [c, upd_same] at q; cases q
      · rw [upd_ne c] at q; exact S.dom a q, fun a o q => by
      show upd m.J l _ a = some o ∨ isDk o = true ∧ ∃ ob, upd m.J l _ a = _
      by_cases n : a = l
      · subst n
        rw [upd_same]
        rcases S.bj a o q with p | ⟨p, ob', p1⟩
        · have := S.base _ _ p
          rw [hH] at this
          cases this
          exact .inr ⟨hu, ob, rfl⟩
        · have := S.base _ _ p1
          rw [hH] at this
          cases this
          cases hu
      · rw [upd_ne n]
        exact S.bj a o q, S.er, fun a ha => by
      obtain ⟨q1, o, q2, q3⟩ := S.hid a ha
      refine ⟨q1, o, ?_, q3⟩
      show upd m.J l _ a = _
      rw [upd_ne (fun c => nh (by rw [← c]; exact ha))]
      exact q2, fun a ob' u' q => by
      show upd m.J l _ a = _
      by_cases c : a = l
      · rw [c, upd_same] at q ⊢; exact q
      · rw [upd_ne c] at q ⊢; exact S.fj a ob' u' q⟩
  refine { C with len := S.len, slot := fun j s ov a b => ?_, sep := S.sep, psep := S.psep }
  have q := S.slot j s ov a b
  cases s with
  | un => trivial
  | v d => exact q
  | o d2 =>
    obtain ⟨l', e', q1, q2, q3, ho2, q4, q5⟩ := q
    have n : l' ≠ l := fun z => by rw [z, hF] at q1; cases q1
    refine ⟨l', e', q1, q2, ?_, ho2, by rw [upd_ne n]; exact q4, q5⟩
    show upd m.J l _ l' = none
    rw [upd_ne n]; exact q3
  | l a2 d2 =>
    obtain ⟨q0, q1, q2, ho2, q4, q5⟩ := q
    have n : a2 ≠ l := fun z => nh (by rw [← z]; exact q1)
    refine ⟨q0, q1, q2, ho2, ?_, q5⟩
    show upd m.J l _ a2 = some ho2 ∨ isDk ho2 = true ∧ ∃ ob, upd m.J l _ a2 = _
    rw [upd_ne n]
    exact q4
theorem back_lock {H0 F1 : Hp} {u : HO} {ob : Obj} (hl : ∀ o' u', H0 l ≠ some (.frz o' u')) (hF : F1 l = some u) (hJ : ∀ o, m.J l = some o → o = u) (hB : ∀ o, m.B l = some o → m.J l = some o) (hu : isDk u = true) (nh : ¬ m.hd l) : Back z H0 F1 m (m.lock l (.frz ob u)) (some (l, u)) (fun _ => True) (fun ρ => ρ) := by
  have st : ∀ {F H : Hp}, Sc z (m.lock l (.frz ob u)) F H → H l = some (.frz ob u) := fun {F H} S => S.base l _ upd_same
  have un : ∀ {F H : Hp}, Same F1 F → Sc z (m.lock l (.frz ob u)) F H → Sc z m F (upd H l u) := fun {F H} sF S => by
    have hH := st S
    refine ⟨fun a o q => ?_, fun a o q => ?_, S.fr, fun a q => ?_, fun a o q => ?_, S.er, fun a ha => ?_, fun a ob' u' q => ?_⟩
    · by_cases n : a = l
      · subst n
        rw [upd_same]
        have := sF _ _ hF
        rw [q] at this
        exact .inl this.symm
      · rw [upd_ne n]
        refine (S.lk a o q).elim .inl fun ⟨p, ob, p1, p2⟩ => .inr ⟨p, ob, p1, ?_⟩
        have p2 : upd m.J l _ a = _ := p2
        rw [upd_ne n] at p2
        exact p2
    · by_cases n : a = l
      · subst n
        rw [upd_same, hJ o q]
      · rw [upd_ne n]
        refine S.base a o ?_
        show upd m.J l _ a = _
        rw [upd_ne n]
        exact q
    · by_cases c : a = l
      · rw [c, upd_same] at q; cases q
      · rw [upd_ne c] at q; exact S.dom a q
    · by_cases n : a = l
      · subst n
        exact .inl (hB o q)
      · refine (S.bj a o q).elim (fun p => .inl ?_) fun ⟨p, ob, p1⟩ => .inr ⟨p, ob, ?_⟩
        · have p : upd m.J l _ a = _ := p
          rw [upd_ne n] at p
          exact p
        · have p1 : upd m.J l _ a = _ := p1
          rw [upd_ne n] at p1
          exact p1
    · obtain ⟨q1, o, q2, q3⟩ := S.hid a ha
      refine ⟨q1, o, ?_, q3⟩
      have q2 : upd m.J l _ a = _ := q2
      rw [upd_ne (fun c => nh (by rw [← c]; exact ha))] at q2
      exact q2
    · by_cases c : a = l
      · rw [c, upd_same] at q
        cases q
        cases hu
      · rw [upd_ne c] at q
        have q2 : upd m.J l _ a = _ := S.fj a ob' u' q
        rw [upd_ne c] at q2
        exact q2
  have jn : ∀ {x : Addr}, (m.lock l (.frz ob u)).J x = none → x ≠ l ∧ m.J x = none := fun {x} q => by
    have q : upd m.J l (.frz ob u) x = none := q
    have n : x ≠ l := fun z => by rw [z, upd_same] at q; cases q
    rw [upd_ne n] at q
    exact ⟨n, q⟩
  refine ⟨fun d u' e => ?_, fun F H S d u' e => ?_, fun F H σ ρ sF S _ => ?_, rfl, fun F H fr d v sF R => ?_⟩
  · cases e; exact hl
  · cases e; exact ⟨ob, st S⟩
  · refine { un sF S.toSc with len := S.len, slot := fun j s ov a b => ?_, sep := S.sep, psep := S.psep }
    have q := S.slot j s ov a b
    cases s with
    | un => trivial
    | v d => exact q
    | o d2 =>
      obtain ⟨l', e', q1, q2, q3, ho2, q4, q5⟩ := q
      obtain ⟨n, q3⟩ := jn q3
      exact ⟨l', e', q1, q2, q3, ho2, by show upd H l u l' = _; rw [upd_ne n]; exact q4, q5⟩
    | l a2 d2 =>
      obtain ⟨q0, q1, q2, ho2, q4, q5⟩ := q
      have n : a2 ≠ l := fun z => nh (by rw [← z]; exact q1)
      have q4 : upd m.J l _ a2 = some ho2 ∨ isDk ho2 = true ∧ ∃ ob, upd m.J l _ a2 = _ := q4
      rw [upd_ne n] at q4
      exact ⟨q0, q1, q2, ho2, q4, q5⟩
  · obtain ⟨S, r⟩ := R
    refine ⟨un sF S, ?_⟩
    cases fr with
    | false => exact r
    | true =>
      rw [if_pos rfl] at r ⊢
      obtain ⟨l', rfl, q1, q2, q3, ho3, q4, q5⟩ := r
      obtain ⟨n, q3⟩ := jn q3
      exact ⟨l', rfl, q1, q2, q3, ho3, by show upd H l u l' = _; rw [upd_ne n]; exact q4, q5⟩
end
/-! ### what is walked -/
/-- the walk begins: perhaps behind a lock -/
def ZI (z : Cz) (wi : TI) (ρ : List Sl) (N : List Dt → List Sl → (List Sl → Prop) → (List Sl → List Sl) → Prop) : Prop := ∀ m F H σ R, Sm z m F H σ ρ →
  (∀ ds ρ' bp bm m' un F' H' Jt, N ds ρ' bp bm → Same F F' → Back z H F' m m' un bp bm → Sm z m' F' H' σ ρ' → ItZ z m' F' Jt ds → R Jt H') → wi σ H R
section
variable {z : Cz} {ρ : List Sl} {wi : TI} {g : TG} {tb : TS} {N : Zn} {I : List Dt → List Sl → (List Sl → Prop) → (List Sl → List Sl) → Prop}
/-- a for: the states that the turns reach -/
theorem zs_forL (h : ZI z wi ρ fun ds ρ1 bp bm => ∃ W : Nat → List Sl → Prop, W 0 ρ1 ∧ (∀ ρ2, W ds.length ρ2 → bp ρ2 ∧ N.nx (bm ρ2)) ∧
    ∀ i d ρ2, ds[i]? = some d → W i ρ2 → ZG z g d false ρ2 fun ρ3 => ZS z tb ρ3 ⟨W (i + 1), N.rt, fun ρ4 => bp ρ4 ∧ N.nx (bm ρ4), W (i + 1)⟩) : ZS z (tLockL (tFor wi g tb)) ρ N := fun m F H σ D S kn kr kb kc => by
  refine h m F H σ _ S fun ds ρ1 bp bm m' un F1 H1 Jt n1 s1 B S1 it => ?_
  obtain ⟨W, w0, wd, ws⟩ := n1
  obtain ⟨n, G, Y, wk, rfl, gk, yk⟩ := it
  have toN : ∀ F2 H2 σ2 ρ2, Same F1 F2 → Sm z m' F2 H2 σ2 ρ2 → bp ρ2 ∧ N.nx (bm ρ2) → unlN H D.nx σ2 H2 := fun F2 H2 σ2 ρ2 s2 S2 q => by
    have S3 := B.sm F2 H2 σ2 ρ2 s2 S2 q.1
    cases un with
    | none => exact .inl (kn _ _ _ _ q.2 (s1.trans s2) S3)
    | some p =>
      obtain ⟨d, u⟩ := p
      obtain ⟨od, e⟩ := B.fz F2 H2 S2.toSc d u rfl
      exact .inr ⟨d, od, u, B.leg d u rfl, e, kn _ _ _ _ q.2 (s1.trans s2) S3⟩
  refine for_it wk (D := ⟨unlN H D.nx, unlV H D.rt, unlN H D.bk, unlN H D.ct⟩) (fun i σ2 H2 => ∃ F2 ρ2, W i ρ2 ∧ Same F1 F2 ∧ Sm z m' F2 H2 σ2 ρ2) ⟨F1, ρ1, w0, Same.refl F1, S1⟩ ?_ ?_ ?_
  · rintro i σ2 H2 hi ⟨F2, ρ2, w, s2, S2⟩
    exact gk F2 H2 s2 S2.le S2.base
  · rintro i x σ2 H2 H3 hi ⟨F2, ρ2, w, s2, S2⟩ y
    obtain ⟨F3, s3, S3, rx⟩ := yk m' i ds[i] F2 H2 H3 x σ2 ρ2 rfl (List.getElem?_eq_getElem hi) s2 S2 y
    refine ws i ds[i] ρ2 (List.getElem?_eq_getElem hi) w m' F3 H3 σ2 x _ S3 (rzF_f rx) fun ρ4 F4 H4 σ4 n4 s4 S4 => ?_
    have ss := s2.trans (s3.trans s4)
    refine n4 m' F4 H4 σ4 _ S4 (fun ρ5 F5 H5 σ5 w5 s5 S5 => ⟨F5, ρ5, w5, ss.trans s5, S5⟩) (fun d fr F5 H5 v q s5 R => ?_) (fun ρ5 F5 H5 σ5 w5 s5 S5 => toN _ _ _ _ (ss.trans s5) S5 w5) fun ρ5 F5 H5 σ5 w5 s5 S5 => ⟨F5, ρ5, w5, ss.trans s5, S5⟩
    have R2 := B.rt F5 H5 fr d v (ss.trans s5) R
    cases un with
    | none => exact .inl (kr _ _ _ _ _ q (s1.trans (ss.trans s5)) R2)
    | some p =>
      obtain ⟨d', u⟩ := p
      obtain ⟨od, e⟩ := B.fz F5 H5 R.1 d' u rfl
      exact .inr ⟨d', od, u, B.leg d' u rfl, e, kr _ _ _ _ _ q (s1.trans (ss.trans s5)) R2⟩
  · rintro σ2 H2 ⟨F2, ρ2, w, s2, S2⟩
    exact toN _ _ _ _ s2 S2 (wd ρ2 w)
end
/-! ### walks -/
theorem upd_self2 {H : Hp} {a : Addr} {o : HO} (h : H a = some o) : upd H a o = H := by
  funext b
  by_cases c : b = a
  · rw [c, upd_same, h]
  · rw [upd_ne c]
section
variable {z : Cz} {ρ : List Sl} {I : List Dt → List Sl → (List Sl → Prop) → (List Sl → List Sl) → Prop} {te : TE} {ta : TA} {i : Nat}
abbrev bT : List Sl → Prop := fun _ => True
abbrev bI : List Sl → List Sl := fun ρ => ρ
theorem it_list {m : Fm} {F : Hp} {K : PySem.W.Frag} {a : Addr} {xs : List V} {ds : List Dt} (hg : ∀ F' H', Same F F' → Le F' H' → Same m.J H' → H' a = some (.lst xs)) (r : Rzl z.K m.B F ds xs) : ItZ z m F (Itl K a) ds :=
  ⟨xs.length, _, _, walk_list, r.len, fun F' H' f le b => SqL.of (hg F' H' f le b), fun m2 i d F' H' H'' x σ ρ eb e f S y => by
    obtain ⟨rfl, y⟩ := y
    obtain ⟨v, e2, r2⟩ := r.at_ e
    rw [y] at e2
    cases e2
    exact ⟨F', Same.refl F', S, rz_mono f _ _ r2⟩⟩
theorem zi_list {K : PySem.W.Frag} (h : ZE z te ρ fun x _ ρ1 => ∃ t ds, x = .lst t ds ∧ I ds ρ1 bT bI) : ZI z (iList K te) ρ I := fun m F H σ R S k => by
  refine h m F H σ _ S fun x fx ρ1 F1 H1 vx n1 s1 S1 r1 => ?_
  obtain ⟨F2, s2, S2, rx⟩ := rzF_frz S1 r1
  obtain ⟨t, ds, rfl, n⟩ := n1
  simp only [Rz] at rx
  obtain ⟨a, xs, rfl, e, _, r⟩ := rx
  exact ⟨a, rfl, ⟨xs, SqL.of (S2.le.exact e rfl)⟩, k _ _ _ _ _ _ _ _ _ n (s1.trans s2) .id S2 (it_list (fun F' H' f le _ => le.exact (f _ _ e) rfl) r)⟩
/-- an owned list, held meanwhile -/
theorem zi_listo {K : PySem.W.Frag} {t : Bool} {ds : List Dt} (h : ρ[i]? = some (.o (.lst t ds))) (n : ∀ l, I ds (ρ.set i (.l l (.lst t ds))) (fun ρ => ρ[i]? = some (.l l (.lst t ds))) (fun ρ => ρ.set i (.o (.lst t ds)))) : ZI z (iList K (tVar i)) ρ I := fun m F H σ R S k => by
  obtain ⟨l, e, h1, h2, h3, ho, h4, h5⟩ := S.geto h
  cases h5 with
  | @lst xs _ r =>
    refine ⟨.ref l, e, l, rfl, ⟨xs, SqL.of h4⟩, ?_⟩
    have S' := S.pin (ho' := .lst xs) h e h4 (.inl rfl)
    rw [upd_self2 h4] at S'
    have nh : ¬ m.hd l := fun q => by
      obtain ⟨_, o, q2, _⟩ := S.hid l q
      rw [h3] at q2
      cases q2
    exact k _ _ _ _ _ _ _ _ _ (n l) (Same.refl F) (back_pin (fun ob u q => HO.noConfusion q) h2 h3 nh (.inl ⟨rfl, rfl⟩)) S' (it_list (fun F' H' _ _ b => b _ _ upd_same) r)
theorem zi_tup {K : PySem.W.Frag} (h : ZE z te ρ fun x _ ρ1 => ∃ ds, x = .tup ds ∧ I ds ρ1 bT bI) : ZI z (iTup K te) ρ I := fun m F H σ R S k => by
  refine h m F H σ _ S fun x fx ρ1 F1 H1 vx n1 s1 S1 r1 => ?_
  obtain ⟨F2, s2, S2, rx⟩ := rzF_frz S1 r1
  obtain ⟨ds, rfl, n⟩ := n1
  simp only [Rz] at rx
  obtain ⟨a, xs, rfl, e, r⟩ := rx
  refine ⟨a, rfl, ⟨xs, SqT.of (S2.le.exact e rfl)⟩, k _ _ _ _ _ _ _ _ _ n (s1.trans s2) .id S2 ⟨xs.length, _, _, walk_tup, r.len, fun F' H' f le b => SqT.of (le.exact (f _ _ e) rfl), fun m2 i d F' H' H'' x σ ρ eb e f S y => ?_⟩⟩
  obtain ⟨rfl, y⟩ := y
  obtain ⟨v, e2, r2⟩ := r.at_ e
  rw [y] at e2
  cases e2
  exact ⟨F', Same.refl F', S, rz_mono f _ _ r2⟩
theorem zi_range1 (h : ZA z ta ρ fun ds ρ1 => ∃ j : Int, ds = [.int j] ∧ -(2 ^ 62) ≤ j ∧ j < 2 ^ 62 ∧ I ((List.range j.toNat).map fun (i : Nat) => Dt.int (i : Int)) ρ1 bT bI) : ZI z (iRng1 ta) ρ I := fun m F H σ R S k => by
  refine h m F H σ _ S fun ds ρ1 F1 H1 vs n1 s1 S1 r1 => ?_
  obtain ⟨j, rfl, h1, h2, n⟩ := n1
  obtain ⟨v, r, rfl, rv, rr⟩ := r1.inv
  obtain rfl := rz_i rv
  obtain rfl := rr.inv0
  refine ⟨j, rfl, h1, h2, k _ _ _ _ _ _ _ _ _ n s1 .id S1 ⟨j.toNat, _, _, walk_range, by simp, fun _ _ _ _ _ => trivial, fun m2 i d F' H' H'' x σ ρ eb e f S y => ?_⟩⟩
  obtain ⟨rfl, rfl⟩ := y
  rw [List.getElem?_map] at e
  cases q : (List.range j.toNat)[i]? with
  | none => rw [q] at e; cases e
  | some u =>
    rw [q] at e
    cases e
    have := (List.getElem?_eq_some_iff.mp q).2
    rw [List.getElem_range] at this
    subst this
    exact ⟨F', Same.refl F', S, by simp [Rz]⟩
/-! dicts -/
/-- a frozen dict opened for a walk -/
theorem lk_open {m : Fm} {F F0 H H0 : Hp} {σ : L2.St} {ρ0 : List Sl} {a : Addr} {u : HO} {Q : V → Hp → Prop} {σ0 : L2.St} (S0 : Sm z m F0 H0 σ0 ρ0) (S : Sm z m F H σ ρ) (hF : F a = some u) (hu : isDk u = true) (mu : Mut (some u))
    (k : ∀ m' un ob H', Back z H0 F m m' un bT bI → Sm z m' F H' σ ρ → m'.J a = some (.frz ob u) → H' a = some (.frz ob u) → Q (.ref a) H') : ∃ d u', V.ref a = .ref d ∧ ((H d = some u' ∧ Mut (some u') ∧ ∀ o, Q (.ref a) (upd H d (.frz o u'))) ∨ Q (.ref a) H) := by
  refine ⟨a, u, rfl, ?_⟩
  rcases S.lk a u hF with h | ⟨_, ob, h, j⟩
  · refine .inl ⟨h, mu, fun o => k _ (some (a, u)) o _ ?_ (S.lock hF h hu o) upd_same upd_same⟩
    have nh : ¬ m.hd a := fun q => by rw [(S.hid a q).1] at hF; cases hF
    refine back_lock (fun o' u' q => ?_) hF (fun o q => ?_) (fun o q => ?_) hu nh
    · have := S.base _ _ (S0.fj a o' u' q)
      rw [h] at this
      cases this
      cases hu
    · have := S.base _ _ q
      rw [h] at this
      exact (Option.some.inj this).symm
    · rcases S.bj a o q with p | ⟨p, ob, p1⟩
      · exact p
      · have := S.base _ _ p1
        rw [h] at this
        cases this
        cases hu
  · exact .inr (k _ _ ob _ .id S j h)
theorem it_keys {m : Fm} {F : Hp} {a : Addr} {kvs : List (Key × V)} {ob : Obj} (j : m.J a = some (.frz ob (.dK kvs))) : ItZ z m F (Itk a ob kvs) ((kvs.map Prod.fst).map keyD) :=
  ⟨kvs.length, _, _, walk_keys, by simp, fun F' H' f le b => b _ _ j, fun m2 i d F' H' H'' x σ ρ eb e f S y => by
    obtain ⟨rfl, k, v, e2, rfl⟩ := y
    rw [List.getElem?_map, List.getElem?_map, e2] at e
    cases e
    exact ⟨F', Same.refl F', S, key_rz k⟩⟩
theorem it_keysT {m : Fm} {F : Hp} {a : Addr} {kvs : List (List Key × V)} {ob : Obj} (j : m.J a = some (.frz ob (.dT kvs))) : ItZ z m F (Itkt a ob kvs) ((kvs.map Prod.fst).map fun k => .tup (k.map keyD)) :=
  ⟨kvs.length, _, _, walk_keysT, by simp, fun F' H' f le b => b _ _ j, fun m2 i d F' H' H'' x σ ρ eb e f S y => by
    obtain ⟨rfl, k, v, q, e2, rfl, hq⟩ := y
    rw [List.getElem?_map, List.getElem?_map, e2] at e
    cases e
    obtain ⟨F'', f2, h2, S2⟩ := S.tup hq
    exact ⟨F'', f2, S2, by simp only [Rz]; exact ⟨q, _, rfl, h2, keys_rzl k⟩⟩⟩
theorem it_vals {m : Fm} {F : Hp} {a : Addr} {kvs : List (Key × V)} {ob : Obj} {ds : List Dt} (j : m.J a = some (.frz ob (.dK kvs))) (r : Rzl z.K m.B F ds (kvs.map Prod.snd)) : ItZ z m F (Itd a ob kvs) ds :=
  ⟨kvs.length, _, _, walk_values, by rw [← r.len]; simp, fun F' H' f le b => b _ _ j, fun m2 i d F' H' H'' x σ ρ eb e f S y => by
    obtain ⟨rfl, k, e2⟩ := y
    obtain ⟨v, e3, r3⟩ := r.at_ e
    rw [List.getElem?_map, e2] at e3
    cases e3
    exact ⟨F', Same.refl F', S, rz_mono f _ _ r3⟩⟩
def pairsD (ks : List Key) (ds : List Dt) : List Dt := List.zipWith (fun k d => .tup [keyD k, d]) ks ds
theorem it_items {m : Fm} {F : Hp} {a : Addr} {kvs : List (Key × V)} {ob : Obj} {ds : List Dt} (j : m.J a = some (.frz ob (.dK kvs))) (r : Rzl z.K m.B F ds (kvs.map Prod.snd)) : ItZ z m F (Iti a ob kvs) (pairsD (kvs.map Prod.fst) ds) :=
  ⟨kvs.length, _, _, walk_items, by unfold pairsD; rw [List.length_zipWith, ← r.len]; simp, fun F' H' f le b => b _ _ j, fun m2 i d F' H' H'' x σ ρ eb e f S y => by
    obtain ⟨T, kx, vx, rfl, hT, rfl, e2, e3⟩ := y
    dsimp only at e2 e3
    cases q : kvs[i]? with
    | none => rw [q] at e2; cases e2
    | some p =>
      rw [q] at e2 e3
      cases e2
      cases e3
      unfold pairsD at e
      rw [List.getElem?_zipWith, List.getElem?_map, q] at e
      obtain ⟨d', hd, rd⟩ := r.back (i := i) (v := p.2) (by rw [List.getElem?_map, q]; rfl)
      rw [hd] at e
      cases e
      obtain ⟨f2, S2⟩ := S.new (o := .tup [kV p.1, p.2]) hT
      exact ⟨_, f2, S2, by simp only [Rz]; exact ⟨T, _, rfl, upd_same, .cons (key_rz _) (.cons (rz_mono (f.trans f2) _ _ rd) .nil)⟩⟩⟩
/-- values, items -/
theorem zi_dK {wi : TE → TI} {f : List Key → List Dt → List Dt} {Jt : Addr → Obj → List (Key × V) → It}
    (hw : ∀ td σ H R, (td σ H fun x H1 => ∃ d o kvs, x = .ref d ∧ H1 d = some (.frz o (.dK kvs)) ∧ R (Jt d o kvs) H1) → wi td σ H R)
    (it : ∀ m F a kvs ob ds, m.J a = some (.frz ob (.dK kvs)) → Rzl z.K m.B F ds (kvs.map Prod.snd) → ItZ z m F (Jt a ob kvs) (f (kvs.map Prod.fst) ds))
    (h : ZE z te ρ fun c _ ρ1 => ∃ t ks ds, c = .dic t ks ds ∧ I (f ks ds) ρ1 bT bI) : ZI z (wi (tLk te)) ρ I := fun m F H σ R S k => by
  refine hw _ _ _ _ (h m F H σ _ S fun c fc ρ1 F1 H1 vc n1 s1 S1 r1 => ?_)
  obtain ⟨F2, s2, S2, rc⟩ := rzF_frz S1 r1
  obtain ⟨t, ks, ds, rfl, n⟩ := n1
  simp only [Rz] at rc
  obtain ⟨a, kvs, rfl, e, _, rfl, r⟩ := rc
  refine lk_open (Q := fun x H1 => ∃ d o kvs, x = .ref d ∧ H1 d = some (.frz o (.dK kvs)) ∧ R (Jt d o kvs) H1) S S2 e rfl trivial fun m' un ob H' B S3 j hh => ?_
  exact ⟨a, ob, kvs, rfl, hh, k _ _ _ _ _ _ _ _ _ n (s1.trans s2) B S3 (it m' F2 a kvs ob ds j (by rw [B.bb]; exact r))⟩
theorem zi_vals (h : ZE z te ρ fun c _ ρ1 => ∃ t ks ds, c = .dic t ks ds ∧ I ds ρ1 bT bI) : ZI z (iVals (tLk te)) ρ I := zi_dK (wi := iVals) (f := fun _ ds => ds) (fun _ _ _ _ h => h) (fun _ _ _ _ _ _ j r => it_vals j r) h
theorem zi_items (h : ZE z te ρ fun c _ ρ1 => ∃ t ks ds, c = .dic t ks ds ∧ I (pairsD ks ds) ρ1 bT bI) : ZI z (iItems (tLk te)) ρ I := zi_dK (wi := iItems) (f := pairsD) (fun _ _ _ _ h => h) (fun _ _ _ _ _ _ j r => it_items j r) h
/-- keys of either kind -/
def keysD : Dt → Option (List Dt)
  | .dic _ ks _ => some (ks.map keyD)
  | .dit _ ks _ => some (ks.map fun k => .tup (k.map keyD))
  | _ => none
theorem zi_keys (h : ZE z te ρ fun c _ ρ1 => ∃ es, keysD c = some es ∧ I es ρ1 bT bI) : ZI z (iKeys (tLk te)) ρ I := fun m F H σ R S k => by
  refine h m F H σ _ S fun c fc ρ1 F1 H1 vc n1 s1 S1 r1 => ?_
  obtain ⟨F2, s2, S2, rc⟩ := rzF_frz S1 r1
  obtain ⟨es, he, n⟩ := n1
  unfold keysD at he
  split at he <;> first | cases he | skip
  · simp only [Rz] at rc
    obtain ⟨a, kvs, rfl, e, _, rfl, r⟩ := rc
    exact lk_open (Q := fun x H1 => ∃ d o, x = .ref d ∧ ((∃ kvs, H1 d = some (.frz o (.dK kvs)) ∧ R (Itk d o kvs) H1) ∨ ∃ kvs, H1 d = some (.frz o (.dT kvs)) ∧ R (Itkt d o kvs) H1)) S S2 e rfl trivial fun m' un ob H' B S3 j hh =>
      ⟨a, ob, rfl, .inl ⟨kvs, hh, k _ _ _ _ _ _ _ _ _ n (s1.trans s2) B S3 (it_keys j)⟩⟩
  · simp only [Rz] at rc
    obtain ⟨a, kvs, rfl, e, _, rfl, r⟩ := rc
    exact lk_open (Q := fun x H1 => ∃ d o, x = .ref d ∧ ((∃ kvs, H1 d = some (.frz o (.dK kvs)) ∧ R (Itk d o kvs) H1) ∨ ∃ kvs, H1 d = some (.frz o (.dT kvs)) ∧ R (Itkt d o kvs) H1)) S S2 e rfl trivial fun m' un ob H' B S3 j hh =>
      ⟨a, ob, rfl, .inr ⟨kvs, hh, k _ _ _ _ _ _ _ _ _ n (s1.trans s2) B S3 (it_keysT j)⟩⟩
/-- keys of an owned dict, held meanwhile -/
theorem zi_keyso {c : Dt} {es : List Dt} (h : ρ[i]? = some (.o c)) (he : keysD c = some es) (n : ∀ l, I es (ρ.set i (.l l c)) (fun ρ => ρ[i]? = some (.l l c)) (fun ρ => ρ.set i (.o c))) : ZI z (iKeys (tLk (tVar i))) ρ I := fun m F H σ R S k => by
  obtain ⟨l, e, h1, h2, h3, ho, h4, h5⟩ := S.geto h
  have nh : ¬ m.hd l := fun q => by
    obtain ⟨_, o, q2, _⟩ := S.hid l q
    rw [h3] at q2
    cases q2
  have leg : ∀ o' u', H l ≠ some (.frz o' u') := fun o' u' q => by
    rw [h4] at q
    cases q
    exact absurd h5.notFz (fun z => nomatch z)
  cases h5 with
  | lst r => cases he
  | @dK kvs _ r =>
    cases he
    refine ⟨.ref l, e, l, _, rfl, .inl ⟨h4, trivial, fun o => ⟨l, o, rfl, .inl ⟨kvs, upd_same, ?_⟩⟩⟩⟩
    exact k _ _ _ _ _ _ _ _ _ (n l) (Same.refl F) (back_pin (fun ob u q => HO.noConfusion q) h2 h3 nh (.inr ⟨rfl, ⟨o, rfl⟩, rfl, leg⟩)) (S.pin (ho' := .frz o (.dK kvs)) h e h4 (.inr ⟨rfl, o, rfl⟩)) (it_keys upd_same)
  | @dT kvs _ r =>
    cases he
    refine ⟨.ref l, e, l, _, rfl, .inl ⟨h4, trivial, fun o => ⟨l, o, rfl, .inr ⟨kvs, upd_same, ?_⟩⟩⟩⟩
    exact k _ _ _ _ _ _ _ _ _ (n l) (Same.refl F) (back_pin (fun ob u q => HO.noConfusion q) h2 h3 nh (.inr ⟨rfl, ⟨o, rfl⟩, rfl, leg⟩)) (S.pin (ho' := .frz o (.dT kvs)) h e h4 (.inr ⟨rfl, o, rfl⟩)) (it_keysT upd_same)
end
/-! ### statements -/
section
variable {z : Cz} {ρ : List Sl} {t u : TS} {nx : List Sl → Prop} {rt : Dt → Bool → Prop} {bk ct : List Sl → Prop} {N : Zn} {te : TE} {i : Nat} {c : TT} {g : TG} {tb : TS}
def slF (fr : Bool) (d : Dt) : Sl := if fr = true then .o d else .v d
theorem Sm.setF {m : Fm} {F H : Hp} {σ : L2.St} {fr : Bool} {d : Dt} {v : V} (S : Sm z m F H σ ρ) (h : RzF z m F H σ ρ fr d v) : Sm z m F H (σ.set i (some v)) (ρ.set i (slF fr d)) := by
  cases fr with
  | false => exact S.setv h
  | true =>
    obtain ⟨l, rfl, o, hs⟩ := h
    exact S.set ⟨l, rfl, o⟩ (fun d' e l' j h1 h2 h3 h4 => by cases h2; exact absurd h4 (hs j e h3)) fun _ _ q => nomatch q
theorem zs_seq (h : ZS z t ρ ⟨fun ρ1 => ZS z u ρ1 ⟨nx, rt, bk, ct⟩, rt, bk, ct⟩) : ZS z (tSeq t u) ρ ⟨nx, rt, bk, ct⟩ := fun m F H σ D S kn kr kb kc =>
  h m F H σ _ S (fun ρ' F' H' σ' n s S' => n m F' H' σ' D S' (fun ρ2 F2 H2 σ2 n2 s2 => kn ρ2 F2 H2 σ2 n2 (s.trans s2)) (fun d fr F2 H2 v n2 s2 => kr d fr F2 H2 v n2 (s.trans s2)) (fun ρ2 F2 H2 σ2 n2 s2 => kb ρ2 F2 H2 σ2 n2 (s.trans s2)) fun ρ2 F2 H2 σ2 n2 s2 => kc ρ2 F2 H2 σ2 n2 (s.trans s2)) kr kb kc
theorem zs_cut (Mid : List Sl → Prop) (h : ZS z t ρ ⟨Mid, rt, bk, ct⟩) (h2 : ∀ ρ1, Mid ρ1 → ZS z u ρ1 ⟨nx, rt, bk, ct⟩) : ZS z (C8.tCut t u) ρ ⟨nx, rt, bk, ct⟩ := fun m F H σ D S kn kr kb kc =>
  ⟨fun σ' H' => ∃ ρ' F', Mid ρ' ∧ Same F F' ∧ Sm z m F' H' σ' ρ', h m F H σ _ S (fun ρ' F' H' σ' n s S' => ⟨ρ', F', n, s, S'⟩) kr kb kc, fun σ' H' ⟨ρ', F', n, s, S'⟩ =>
    h2 ρ' n m F' H' σ' D S' (fun ρ2 F2 H2 σ2 n2 s2 => kn ρ2 F2 H2 σ2 n2 (s.trans s2)) (fun d fr F2 H2 v n2 s2 => kr d fr F2 H2 v n2 (s.trans s2)) (fun ρ2 F2 H2 σ2 n2 s2 => kb ρ2 F2 H2 σ2 n2 (s.trans s2)) fun ρ2 F2 H2 σ2 n2 s2 => kc ρ2 F2 H2 σ2 n2 (s.trans s2)⟩
theorem zs_asg (h : ZE z te ρ fun d fr ρ1 => ZG z g d fr ρ1 N.nx) : ZS z (tAsg te g) ρ N := fun m F H σ D S kn kr kb kc =>
  h m F H σ _ S fun d fr ρ1 F1 H1 v n1 s1 S1 r1 => n1 m F1 H1 σ v _ S1 r1 fun ρ2 F2 H2 σ2 n2 s2 => kn ρ2 F2 H2 σ2 n2 (s1.trans s2)
theorem zg_nameT {d : Dt} {L : List Sl → Prop} (n : L (ρ.set i (.o d))) : ZG z (gName i) d true ρ L := fun m F H σ v Q S r k => k _ F H _ n (Same.refl F) (S.setF r)
theorem zg_nameF {d : Dt} {L : List Sl → Prop} (n : L (ρ.set i (.v d))) : ZG z (gName i) d false ρ L := fun m F H σ v Q S r k => k _ F H _ n (Same.refl F) (S.setF r)
theorem zg_nameB {d : Dt} {fr : Bool} {L : List Sl → Prop} (n : L (ρ.set i (slF fr d))) : ZG z (gName i) d fr ρ L := fun m F H σ v Q S r k => k _ F H _ n (Same.refl F) (S.setF r)
theorem zg_tup {K : PySem.W.Frag} {n : Nat} {gs : TGs} {ds : List Dt} {fr : Bool} {L : List Sl → Prop} (hl : ds.length = n) (h : ZGs z gs ds ρ L) : ZG z (gTup K n gs) (.tup ds) fr ρ L := fun m F H σ v Q S r k => by
  obtain ⟨F1, s1, S1, r⟩ := rzF_frz S r
  simp only [Rz] at r
  obtain ⟨a, xs, rfl, e, r⟩ := r
  exact ⟨a, xs, rfl, SqT.of (S1.le.exact e rfl), by rw [r.len, hl], h m F1 H σ xs Q S1 r fun ρ2 F2 H2 σ2 n2 s2 => k ρ2 F2 H2 σ2 n2 (s1.trans s2)⟩
theorem zgs_nil {L : List Sl → Prop} (n : L ρ) : ZGs z gNil [] ρ L := fun m F H σ vs Q S r k => ⟨r.inv0, k _ _ _ _ n (Same.refl F) S⟩
theorem zgs_cons {g : TG} {gs : TGs} {d : Dt} {ds : List Dt} {L : List Sl → Prop} (h : ZG z g d false ρ fun ρ1 => ZGs z gs ds ρ1 L) : ZGs z (gCons g gs) (d :: ds) ρ L := fun m F H σ vs Q S r k => by
  obtain ⟨v, r', rfl, r1, r2⟩ := r.inv
  exact ⟨v, r', rfl, h m F H σ v _ S r1 fun ρ1 F1 H1 σ1 n1 s1 S1 => n1 m F1 H1 σ1 r' Q S1 (rzl_mono s1 _ _ r2) fun ρ2 F2 H2 σ2 n2 s2 => k ρ2 F2 H2 σ2 n2 (s1.trans s2)⟩
theorem zs_if (h : ZT z c ρ fun b ρ1 => if b = true then ZS z t ρ1 N else ZS z u ρ1 N) : ZS z (tIfS c t u) ρ N := fun m F H σ D S kn kr kb kc => by
  refine h m F H σ _ S fun b ρ1 F1 H1 n1 s1 S1 => ?_
  cases b with
  | true => exact n1 m F1 H1 σ D S1 (fun ρ2 F2 H2 σ2 n2 s2 => kn ρ2 F2 H2 σ2 n2 (s1.trans s2)) (fun d fr F2 H2 v n2 s2 => kr d fr F2 H2 v n2 (s1.trans s2)) (fun ρ2 F2 H2 σ2 n2 s2 => kb ρ2 F2 H2 σ2 n2 (s1.trans s2)) fun ρ2 F2 H2 σ2 n2 s2 => kc ρ2 F2 H2 σ2 n2 (s1.trans s2)
  | false => exact n1 m F1 H1 σ D S1 (fun ρ2 F2 H2 σ2 n2 s2 => kn ρ2 F2 H2 σ2 n2 (s1.trans s2)) (fun d fr F2 H2 v n2 s2 => kr d fr F2 H2 v n2 (s1.trans s2)) (fun ρ2 F2 H2 σ2 n2 s2 => kb ρ2 F2 H2 σ2 n2 (s1.trans s2)) fun ρ2 F2 H2 σ2 n2 s2 => kc ρ2 F2 H2 σ2 n2 (s1.trans s2)
theorem rt_of {m : Fm} {F H : Hp} {σ : L2.St} {fr : Bool} {d : Dt} {v : V} (S : Sm z m F H σ ρ) (h : RzF z m F H σ ρ fr d v) : RtR z m F H fr d v := by
  refine ⟨S.toSc, ?_⟩
  cases fr with
  | false => exact h
  | true =>
    obtain ⟨l, rfl, o, _⟩ := h
    exact ⟨l, rfl, o⟩
theorem zs_ret (h : ZE z te ρ fun d fr _ => N.rt d fr) : ZS z (tRet te) ρ N := fun m F H σ D S kn kr kb kc =>
  h m F H σ _ S fun d fr ρ1 F1 H1 v n1 s1 S1 r1 => kr _ _ _ _ _ n1 s1 (rt_of S1 r1)
/-- an owned thing is handed out -/
theorem zs_reto {d : Dt} (h : ρ[i]? = some (.o d)) (n : N.rt d true) : ZS z (tRet (tVar i)) ρ N := fun m F H σ D S kn kr kb kc => by
  obtain ⟨l, e, o⟩ := S.geto h
  exact ⟨.ref l, e, kr _ _ _ _ _ n (Same.refl F) ⟨S.toSc, l, rfl, o⟩⟩
theorem zs_retN (n : N.rt .non false) : ZS z tRetN ρ N := fun m F H σ D S kn kr kb kc => kr _ _ F H _ n (Same.refl F) ⟨S.toSc, show Rz z.K m.B F .non .non from rzn⟩
theorem zs_next (n : N.nx ρ) : ZS z tNext ρ N := fun m F H σ D S kn kr kb kc => kn _ _ _ _ n (Same.refl F) S
theorem zs_drop (h : ZE z te ρ fun _ _ ρ1 => N.nx ρ1) : ZS z (tDrop te) ρ N := fun m F H σ D S kn kr kb kc => h m F H σ _ S fun d fr ρ1 F1 H1 v n1 s1 S1 r1 => kn _ _ _ _ n1 s1 S1
theorem zs_brk (n : N.bk ρ) : ZS z tBreak ρ N := fun m F H σ D S kn kr kb kc => kb _ _ _ _ n (Same.refl F) S
theorem zs_cont (n : N.ct ρ) : ZS z tCont ρ N := fun m F H σ D S kn kr kb kc => kc _ _ _ _ n (Same.refl F) S
theorem zs_while (W : Nat → List Sl → Prop) (w0 : ∃ n, W n ρ) (hs : ∀ n ρ1, W n ρ1 → ZT z c ρ1 fun b ρ2 => if b = true then ZS z tb ρ2 ⟨fun ρ3 => ∃ n', n' < n ∧ W n' ρ3, N.rt, N.nx, fun ρ3 => ∃ n', n' < n ∧ W n' ρ3⟩ else N.nx ρ2) : ZS z (tWhile c tb) ρ N := fun m F H σ D S kn kr kb kc => by
  obtain ⟨n0, w0⟩ := w0
  refine ⟨fun n σ' H' => ∃ F' ρ', W n ρ' ∧ Same F F' ∧ Sm z m F' H' σ' ρ', ⟨n0, F, ρ, w0, Same.refl F, S⟩, ?_⟩
  rintro n σ1 H1 ⟨F1, ρ1, w, s1, S1⟩
  refine hs n ρ1 w m F1 H1 σ1 _ S1 fun b ρ2 F2 H2 n2 s2 S2 => ?_
  cases b with
  | false => exact kn _ _ _ _ n2 (s1.trans s2) S2
  | true =>
    refine ⟨fun σ' H' => ∃ F' ρ' n', n' < n ∧ W n' ρ' ∧ Same F F' ∧ Sm z m F' H' σ' ρ', fun σ' H' ⟨F', ρ', n', h1, h2, h3, h4⟩ => ⟨n', h1, F', ρ', h2, h3, h4⟩, ?_⟩
    have ss := s1.trans s2
    exact n2 m F2 H2 σ1 _ S2 (fun ρ3 F3 H3 σ3 ⟨n', h1, h2⟩ s3 S3 => ⟨F3, ρ3, n', h1, h2, ss.trans s3, S3⟩) (fun d fr F3 H3 v n3 s3 => kr d fr F3 H3 v n3 (ss.trans s3)) (fun ρ3 F3 H3 σ3 n3 s3 => kn _ _ _ _ n3 (ss.trans s3)) fun ρ3 F3 H3 σ3 ⟨n', h1, h2⟩ s3 S3 => ⟨F3, ρ3, n', h1, h2, ss.trans s3, S3⟩
end
/-! ### comprehensions -/
def wipeZ (ρ : List Sl) : List Nat → List Sl
  | [] => ρ
  | v :: vs => (wipeZ ρ vs).set v .un
def okW (ρ : List Sl) (vs : List Nat) : Bool := vs.all fun i => match ρ[i]? with
  | some (.o _) => false
  | some (.l _ _) => false
  | _ => true
theorem wipe_get (σ : L2.St) (j : Nat) : ∀ vs : List Nat, (wipe σ vs)[j]? = if j ∈ vs then (σ[j]?).map fun _ => none else σ[j]?
  | [] => by simp [wipe]
  | v :: vs => by
    unfold wipe
    by_cases c : v = j
    · subst c
      rw [List.getElem?_set, wipe_length]
      by_cases h : v < σ.length
      · simp [h]
      · simp [h, List.getElem?_eq_none (Nat.le_of_not_lt h)]
    · rw [List.getElem?_set_ne c, wipe_get σ j vs]
      by_cases h : j ∈ vs
      · simp [h]
      · simp [h, Ne.symm c]
theorem wipeZ_length (ρ : List Sl) : ∀ vs : List Nat, (wipeZ ρ vs).length = ρ.length
  | [] => rfl
  | v :: vs => by unfold wipeZ; rw [List.length_set, wipeZ_length ρ vs]
theorem wipeZ_get (ρ : List Sl) (j : Nat) : ∀ vs : List Nat, (wipeZ ρ vs)[j]? = if j ∈ vs then (ρ[j]?).map fun _ => .un else ρ[j]?
  | [] => by simp [wipeZ]
  | v :: vs => by
    unfold wipeZ
    by_cases c : v = j
    · subst c
      rw [List.getElem?_set, wipeZ_length]
      by_cases h : v < ρ.length
      · simp [h]
      · simp [h, List.getElem?_eq_none (Nat.le_of_not_lt h)]
    · rw [List.getElem?_set_ne c, wipeZ_get ρ j vs]
      by_cases h : j ∈ vs
      · simp [h]
      · simp [h, Ne.symm c]
theorem wipe_wipe (σ : L2.St) (vs : List Nat) : wipe (wipe σ vs) vs = wipe σ vs := List.ext_getElem? fun j => by
  rw [wipe_get, wipe_get]
  by_cases h : j ∈ vs
  · simp only [h, if_true]
    cases σ[j]? <;> rfl
  · simp [h]
theorem wipe_setin {σ : L2.St} {i : Nat} {x : Option V} {vs : List Nat} (h : i ∈ vs) : wipe (σ.set i x) vs = wipe σ vs := List.ext_getElem? fun j => by
  rw [wipe_get, wipe_get]
  by_cases c : i = j
  · subst c
    simp only [h, if_true, List.getElem?_set]
    by_cases l : i < σ.length
    · simp [l]
    · simp [l, List.getElem?_eq_none (Nat.le_of_not_lt l)]
  · rw [List.getElem?_set_ne c]
section
variable {z : Cz} {m : Fm} {F F' H : Hp} {σ : L2.St} {ρ : List Sl}
theorem Sm.wipe (S : Sm z m F H σ ρ) : ∀ vs : List Nat, Sm z m F H (L2.wipe σ vs) (wipeZ ρ vs)
  | [] => S
  | v :: vs => by
    unfold L2.wipe wipeZ
    exact (Sm.wipe S vs).setu
theorem Sm.unwipe {H0 : Hp} {vs : List Nat} (S0 : Sm z m F H0 σ ρ) (S : Sm z m F' H (L2.wipe σ vs) (wipeZ ρ vs)) (f : Same F F') (ok : okW ρ vs = true) : Sm z m F' H σ ρ := by
  have okv : ∀ i ∈ vs, (∀ d, ρ[i]? ≠ some (.o d)) ∧ ∀ a d, ρ[i]? ≠ some (.l a d) := fun i hi => by
    have q := List.all_eq_true.mp ok i hi
    refine ⟨fun d e => ?_, fun a d e => ?_⟩ <;> (rw [e] at q; cases q)
  have out : ∀ {j : Nat}, j ∉ vs → (wipeZ ρ vs)[j]? = ρ[j]? ∧ (L2.wipe σ vs)[j]? = σ[j]? := fun {j} h => by
    rw [wipeZ_get, wipe_get, if_neg h, if_neg h]
    exact ⟨rfl, rfl⟩
  refine { S.toSc with len := S0.len, slot := fun i s ov a b => ?_, sep := fun i j d e l a b c c' => ?_, psep := fun i j q d e a b => ?_ }
  · by_cases h : i ∈ vs
    · have q := S0.slot i s ov a b
      cases s with
      | un => trivial
      | v d => obtain ⟨v, e, r⟩ := q; exact ⟨v, e, rz_mono f _ _ r⟩
      | o d => exact absurd a ((okv i h).1 d)
      | l x d => exact absurd a ((okv i h).2 x d)
    · obtain ⟨e1, e2⟩ := out h
      exact S.slot i s ov (by rw [e1]; exact a) (by rw [e2]; exact b)
  · have hi : i ∉ vs := fun h => (okv i h).1 d a
    have hj : j ∉ vs := fun h => (okv j h).1 e b
    exact S.sep i j d e l (by rw [(out hi).1]; exact a) (by rw [(out hj).1]; exact b) (by rw [(out hi).2]; exact c) (by rw [(out hj).2]; exact c')
  · have hi : i ∉ vs := fun h => (okv i h).2 q d a
    have hj : j ∉ vs := fun h => (okv j h).2 q e b
    exact S.psep i j q d e (by rw [(out hi).1]; exact a) (by rw [(out hj).1]; exact b)
/-- a new thing is held (the comprehension's own) -/
theorem Sm.pinNew {D : Addr} {o : HO} (S : Sm z m F H σ ρ) (e : H D = none) (nt : isTp o = false) (nf : isFz o = false) : Sm z (m.pin D o) F (upd H D o) σ ρ := by
  have hF := S.le.free e
  have hB := S.dom D e
  have hJ := S.j_none e
  have C : Sc z (m.pin D o) F (upd H D o) := ⟨fun a u q => by
      have n : a ≠ D := fun c => by rw [c, hF] at q; cases q
      rw [upd_ne n]
      refine (S.lk a u q).elim .inl fun ⟨p, ob, p1, p2⟩ => .inr ⟨p, ob, p1, ?_⟩
      show upd m.J D o a = _
      rw [upd_ne n]
      exact p2, fun a u q => by
      have q : upd m.J D o a = some u := q
      by_cases c : a = D
      · rw [c, upd_same] at q ⊢; exact q
      · rw [upd_ne c] at q ⊢; exact S.base a u q, S.fr, fun a q => by
      by_cases c : a = D
      · rw [c, upd_same] at q; cases q
      · rw [upd_ne c] at q; exact S.dom a q, fun a u q => by
      have n : a ≠ D := fun c => by
        have q : m.B a = some u := q
        rw [c, hB] at q; cases q
      show upd m.J D o a = some u ∨ isDk u = true ∧ ∃ ob, upd m.J D o a = _
      rw [upd_ne n]
      exact S.bj a u q, S.er, fun a ha => by
      rcases ha with ha | rfl
      · obtain ⟨q1, u, q2, q3⟩ := S.hid a ha
        refine ⟨q1, u, ?_, q3⟩
        show upd m.J D o a = _
        rw [upd_ne (fun c => by rw [c, hJ] at q2; cases q2)]
        exact q2
      · exact ⟨hF, o, upd_same, nt⟩, fun a ob u q => by
      show upd m.J D o a = _
      by_cases c : a = D
      · rw [c, upd_same] at q; cases q; cases nf
      · rw [upd_ne c] at q ⊢; exact S.fj a ob u q⟩
  refine { C with len := S.len, slot := fun j s ov a b => ?_, sep := S.sep, psep := S.psep }
  have q := S.slot j s ov a b
  cases s with
  | un => trivial
  | v d => exact q
  | o d2 =>
    obtain ⟨l', e', q1, q2, q3, ho2, q4, q5⟩ := q
    have n : l' ≠ D := fun z => by rw [z, e] at q4; cases q4
    refine ⟨l', e', q1, q2, ?_, ho2, by rw [upd_ne n]; exact q4, q5⟩
    show upd m.J D o l' = none
    rw [upd_ne n]; exact q3
  | l a2 d2 =>
    obtain ⟨q0, q1, q2, ho2, q4, q5⟩ := q
    have n : a2 ≠ D := fun z => by rw [z, hJ] at q4; rcases q4 with q4 | ⟨_, _, q4⟩ <;> cases q4
    refine ⟨q0, .inl q1, q2, ho2, ?_, q5⟩
    show upd m.J D o a2 = some ho2 ∨ isDk ho2 = true ∧ ∃ ob, upd m.J D o a2 = _
    rw [upd_ne n]
    exact q4
theorem Sm.unpinNew {D : Addr} {o : HO} (S : Sm z (m.pin D o) F H σ ρ) (hB : m.B D = none) (hJ : m.J D = none) (hh : ¬ m.hd D) (nf : isFz o = false) (hs : ∀ (i : Nat) (d : Dt), ρ[i]? ≠ some (.l D d)) : Sm z m F H σ ρ ∧ H D = some o ∧ F D = none := by
  have hD : H D = some o := S.base D o upd_same
  obtain ⟨hF, _⟩ := S.hid D (.inr rfl)
  have C := Sc.unpin (ho := o) (fun ob u q => by rw [q] at nf; cases nf) S.toSc hB hJ hh
  rw [upd_self2 hD] at C
  refine ⟨{ C with len := S.len, slot := fun j s ov a b => ?_, sep := S.sep, psep := S.psep }, hD, hF⟩
  have q := S.slot j s ov a b
  cases s with
  | un => trivial
  | v d => exact q
  | o d2 =>
    obtain ⟨l', e', q1, q2, q3, ho2, q4, q5⟩ := q
    have q3 : upd m.J D o l' = none := q3
    have n : l' ≠ D := fun z => by rw [z, upd_same] at q3; cases q3
    rw [upd_ne n] at q3
    exact ⟨l', e', q1, q2, q3, ho2, q4, q5⟩
  | l a2 d2 =>
    obtain ⟨q0, q1, q2, ho2, q4, q5⟩ := q
    have n : a2 ≠ D := fun z => hs j d2 (by rw [← z]; exact a)
    have q4 : upd m.J D o a2 = some ho2 ∨ isDk ho2 = true ∧ ∃ ob, upd m.J D o a2 = _ := q4
    rw [upd_ne n] at q4
    exact ⟨q0, q1.elim id fun z => absurd z n, q2, ho2, q4, q5⟩
theorem Sm.repin {D : Addr} {o o' : HO} (S : Sm z (m.pin D o) F H σ ρ) (hB : m.B D = none) (hJ : m.J D = none) (hh : ¬ m.hd D) (nf : isFz o = false) (nt' : isTp o' = false) (nf' : isFz o' = false) (hs : ∀ (i : Nat) (d : Dt), ρ[i]? ≠ some (.l D d)) : Sm z (m.pin D o') F (upd H D o') σ ρ := by
  obtain ⟨S1, hD, hF⟩ := S.unpinNew hB hJ hh nf hs
  have C : Sc z (m.pin D o') F (upd H D o') := ⟨fun a u q => by
      have n : a ≠ D := fun c => by rw [c, hF] at q; cases q
      rw [upd_ne n]
      refine (S1.lk a u q).elim .inl fun ⟨p, ob, p1, p2⟩ => .inr ⟨p, ob, p1, ?_⟩
      show upd m.J D o' a = _
      rw [upd_ne n]
      exact p2, fun a u q => by
      have q : upd m.J D o' a = some u := q
      by_cases c : a = D
      · rw [c, upd_same] at q ⊢; exact q
      · rw [upd_ne c] at q ⊢; exact S1.base a u q, S1.fr, fun a q => by
      by_cases c : a = D
      · rw [c, upd_same] at q; cases q
      · rw [upd_ne c] at q; exact S1.dom a q, fun a u q => by
      have n : a ≠ D := fun c => by
        have q : m.B a = some u := q
        rw [c, hB] at q; cases q
      show upd m.J D o' a = some u ∨ isDk u = true ∧ ∃ ob, upd m.J D o' a = _
      rw [upd_ne n]
      exact S1.bj a u q, S1.er, fun a ha => by
      rcases ha with ha | rfl
      · obtain ⟨q1, u, q2, q3⟩ := S1.hid a ha
        refine ⟨q1, u, ?_, q3⟩
        show upd m.J D o' a = _
        rw [upd_ne (fun c => by rw [c, hJ] at q2; cases q2)]
        exact q2
      · exact ⟨hF, o', upd_same, nt'⟩, fun a ob u q => by
      show upd m.J D o' a = _
      by_cases c : a = D
      · rw [c, upd_same] at q; cases q; cases nf'
      · rw [upd_ne c] at q ⊢; exact S1.fj a ob u q⟩
  refine { C with len := S.len, slot := fun j s ov a b => ?_, sep := S.sep, psep := S.psep }
  have q := S.slot j s ov a b
  cases s with
  | un => trivial
  | v d => exact q
  | o d2 =>
    obtain ⟨l', e', q1, q2, q3, ho2, q4, q5⟩ := q
    have q3 : upd m.J D o l' = none := q3
    have n : l' ≠ D := fun z => by rw [z, upd_same] at q3; cases q3
    rw [upd_ne n] at q3
    refine ⟨l', e', q1, q2, ?_, ho2, by rw [upd_ne n]; exact q4, q5⟩
    show upd m.J D o' l' = none
    rw [upd_ne n]; exact q3
  | l a2 d2 =>
    obtain ⟨q0, q1, q2, ho2, q4, q5⟩ := q
    have n : a2 ≠ D := fun z => hs j d2 (by rw [← z]; exact a)
    have q4 : upd m.J D o a2 = some ho2 ∨ isDk ho2 = true ∧ ∃ ob, upd m.J D o a2 = _ := q4
    rw [upd_ne n] at q4
    refine ⟨q0, q1, q2, ho2, ?_, q5⟩
    show upd m.J D o' a2 = some ho2 ∨ isDk ho2 = true ∧ ∃ ob, upd m.J D o' a2 = _
    rw [upd_ne n]
    exact q4
end
/-- a comprehension's target -/
def ZGw (z : Cz) (g : TG) (vs : List Nat) (d : Dt) (ρ : List Sl) (N : List Sl → Prop) : Prop := ∀ m F H σ v Q, Sm z m F H σ ρ → Rz z.K m.B F d v →
  (∀ ρ' F' H' σ', N ρ' → Same F F' → Sm z m F' H' σ' ρ' → L2.wipe σ' vs = L2.wipe σ vs → Q σ' H') → g v σ H Q
def ZGws (z : Cz) (g : TGs) (vs : List Nat) (ds : List Dt) (ρ : List Sl) (N : List Sl → Prop) : Prop := ∀ m F H σ us Q, Sm z m F H σ ρ → Rzl z.K m.B F ds us →
  (∀ ρ' F' H' σ', N ρ' → Same F F' → Sm z m F' H' σ' ρ' → L2.wipe σ' vs = L2.wipe σ vs → Q σ' H') → g us σ H Q
section
variable {z : Cz} {ρ : List Sl} {N : List Sl → Prop} {i : Nat} {vs : List Nat} {d : Dt} {ds : List Dt}
theorem zgw_name (h : i ∈ vs) (n : N (ρ.set i (.v d))) : ZGw z (gName i) vs d ρ N := fun m F H σ v Q S r k => k _ F H _ n (Same.refl F) (S.setv r) (wipe_setin h)
theorem zgw_tup {K : PySem.W.Frag} {n : Nat} {gs : TGs} (hl : ds.length = n) (h : ZGws z gs vs ds ρ N) : ZGw z (gTup K n gs) vs (.tup ds) ρ N := fun m F H σ v Q S r k => by
  simp only [Rz] at r
  obtain ⟨a, xs, rfl, e, r⟩ := r
  exact ⟨a, xs, rfl, SqT.of (S.le.exact e rfl), by rw [r.len, hl], h m F H σ xs Q S r k⟩
theorem zgws_nil (n : N ρ) : ZGws z gNil vs [] ρ N := fun m F H σ us Q S r k => ⟨r.inv0, k _ _ _ _ n (Same.refl F) S rfl⟩
theorem zgws_cons {g : TG} {gs : TGs} (h : ZGw z g vs d ρ fun ρ1 => ZGws z gs vs ds ρ1 N) : ZGws z (gCons g gs) vs (d :: ds) ρ N := fun m F H σ us Q S r k => by
  obtain ⟨v, r', rfl, r1, r2⟩ := r.inv
  exact ⟨v, r', rfl, h m F H σ v _ S r1 fun ρ1 F1 H1 σ1 n1 s1 S1 w1 => n1 m F1 H1 σ1 r' Q S1 (rzl_mono s1 _ _ r2) fun ρ2 F2 H2 σ2 n2 s2 S2 w2 => k ρ2 F2 H2 σ2 n2 (s1.trans s2) S2 (w2.trans w1)⟩
end
section
variable {z : Cz} {ρ : List Sl} {wi : TI} {g : TG} {tt : TT} {te tk tv : TE} {vs : List Nat} {N : Dt → Bool → List Sl → Prop}
theorem take_succ_get2 {α : Type} {xs : List α} {j : Nat} {x : α} (h : xs[j]? = some x) : xs.take (j + 1) = xs.take j ++ [x] := by
  rw [List.take_succ, h]; rfl
theorem filterMap_take {α β : Type} (f : α → Option β) {xs : List α} {i : Nat} {x : α} (h : xs[i]? = some x) : (xs.take (i + 1)).filterMap f = (xs.take i).filterMap f ++ (f x).toList := by
  rw [take_succ_get2 h, List.filterMap_append]
  congr 1
theorem filterMap_le {α β : Type} (f : α → Option β) (xs : List α) (i : Nat) : ((xs.take i).filterMap f).length ≤ i := Nat.le_trans (List.length_filterMap_le f _) (by rw [List.length_take]; omega)
/-- [te for g in .. if tt] -/
theorem ze_lc (h : ZI z wi ρ fun ds ρ1 bp bm => bp ρ1 ∧ okW ρ1 vs = true ∧ ds.length ≤ 100000 ∧ ∃ f : Dt → Option Dt,
    (∀ d ∈ ds, ZGw z g vs d (wipeZ ρ1 vs) fun ρ2 => ZT z tt ρ2 fun b ρ3 => if b = true then ZE z te ρ3 fun y _ ρ4 => wipeZ ρ4 vs = wipeZ ρ1 vs ∧ f d = some y else wipeZ ρ3 vs = wipeZ ρ1 vs ∧ f d = none) ∧
    N (.lst true (ds.filterMap f)) true (bm ρ1)) : ZE z (tLockLE (tLc wi g tt te vs)) ρ N := fun m F H σ Q S k => by
  refine h m F H σ _ S fun ds ρ1 bp bm m' un F1 H1 Jt n1 s1 B S1 it => ?_
  obtain ⟨hbp, hw, hz, f, hf, n⟩ := n1
  obtain ⟨n', G, Y, wk, rfl, gk, yk⟩ := it
  intro D hD
  have hB := S1.dom D hD
  have hJ := S1.j_none hD
  have hh : ¬ m'.hd D := fun q => by
    obtain ⟨_, o, q2, _⟩ := S1.hid D q
    rw [hJ] at q2
    cases q2
  have hs : ∀ (i : Nat) (d : Dt), (wipeZ ρ1 vs)[i]? ≠ some (.l D d) := fun i d e => by
    obtain ⟨ov, _, _, q1, _⟩ := (S1.wipe vs).get e
    exact hh q1
  refine lc_it wk (fun i H2 => ∃ F2 acc, Same F1 F2 ∧ Sm z (m'.pin D (.lst acc)) F2 H2 (L2.wipe σ vs) (wipeZ ρ1 vs) ∧ Rzl z.K m'.B F2 ((ds.take i).filterMap f) acc) ?_ ?_ ?_ ?_
  · refine ⟨F1, [], Same.refl F1, (S1.wipe vs).pinNew hD rfl rfl, ?_⟩
    rw [List.take_zero]
    exact .nil
  · rintro i H2 hi ⟨F2, acc, s2, S2, r2⟩
    have b2 : Same m'.J H2 := fun a u q => S2.base a u (by
      show upd m'.J D _ a = _
      rw [upd_ne (fun c => by rw [c, hJ] at q; cases q)]
      exact q)
    exact gk F2 H2 s2 S2.le b2
  · rintro i x H2 H3 hi ⟨F2, acc, s2, S2, r2⟩ y
    obtain ⟨F3, s3, S3, rx⟩ := yk (m'.pin D (.lst acc)) i ds[i] F2 H2 H3 x _ _ rfl (List.getElem?_eq_getElem hi) s2 S2 y
    have hd : ds[i]? = some ds[i] := List.getElem?_eq_getElem hi
    refine hf ds[i] (List.getElem_mem hi) (m'.pin D (.lst acc)) F3 H3 _ x _ S3 rx fun ρ2 F4 H4 σ2 n2 s4 S4 w4 => ?_
    rw [wipe_wipe] at w4
    refine ⟨w4, n2 _ F4 H4 σ2 _ S4 fun b ρ3 F5 H5 n3 s5 S5 => ?_⟩
    have ss := s2.trans (s3.trans (s4.trans s5))
    cases b with
    | false =>
      obtain ⟨e1, e2⟩ := n3
      refine ⟨F5, acc, ss, ?_, ?_⟩
      · have := S5.wipe vs
        rw [e1, w4] at this
        exact this
      · rw [filterMap_take f hd, e2]
        simp only [Option.toList, List.append_nil]
        exact rzl_mono (s3.trans (s4.trans s5)) _ _ r2
    | true =>
      refine n3 _ F5 H5 σ2 _ S5 fun yd fy ρ4 F6 H6 vy n4 s6 S6 r6 => ?_
      obtain ⟨F7, s7, S7, ry⟩ := rzF_frz S6 r6
      obtain ⟨e1, e2⟩ := n4
      have hD6 : H6 D = some (.lst acc) := S7.base D _ upd_same
      have S8 := S7.wipe vs
      rw [e1, w4] at S8
      have sf := s3.trans (s4.trans (s5.trans (s6.trans s7)))
      refine ⟨acc, hD6, ?_, F7, acc ++ [vy], s2.trans sf, S8.repin hB hJ hh rfl rfl rfl hs, ?_⟩
      · have := filterMap_le f ds i
        rw [r2.len, sizeLine_eq]
        omega
      · rw [filterMap_take f hd, e2]
        exact (rzl_mono sf _ _ r2).app (.cons ry .nil)
  · rintro H2 ⟨F2, acc, s2, S2, r2⟩
    obtain ⟨S3, hD2, hF2⟩ := S2.unpinNew hB hJ hh rfl hs
    have S4 := S1.unwipe S3 s2 hw
    rw [List.take_length] at r2
    have S5 := B.sm F2 H2 σ ρ1 s2 S4 hbp
    have S0 := B.sm F1 H1 σ ρ1 (Same.refl F1) S1 hbp
    have uD : ∀ {Hx : Hp} {Fx : Hp}, Sc z m' Fx Hx → undo un Hx D = Hx D := fun {Hx Fx} C => by
      cases un with
      | none => rfl
      | some p =>
        obtain ⟨d, u⟩ := p
        obtain ⟨od, e⟩ := B.fz Fx Hx C d u rfl
        show upd Hx d u D = Hx D
        have j := C.fj d od u e
        rw [upd_ne (fun c => by rw [← c, hJ] at j; cases j)]
    have fresh : RzF z m F2 (undo un H2) σ (bm ρ1) true (.lst true (ds.filterMap f)) (.ref D) := by
      refine ⟨D, rfl, ⟨hF2, by rw [← B.bb]; exact hB, ?_, .lst acc, by rw [uD S3.toSc]; exact hD2, .lst (by rw [← B.bb]; exact r2)⟩, fun j e a b => ?_⟩
      · exact S0.base.free (by rw [uD S1.toSc]; exact hD)
      · obtain ⟨l, hl, _, _, _, ho, h4, _⟩ := S0.geto a
        rw [b] at hl
        cases hl
        rw [uD S1.toSc, hD] at h4
        cases h4
    have fin := k _ _ _ _ _ _ n (s1.trans s2) S5 fresh
    cases un with
    | none => exact .inl fin
    | some p =>
      obtain ⟨d, u⟩ := p
      obtain ⟨od, e⟩ := B.fz F2 H2 S3.toSc d u rfl
      exact .inr ⟨d, od, u, B.leg d u rfl, e, fin⟩
end
/-! ### built-ins, methods -/
section
variable {X : Cx}
theorem CallR.or2 {f : Value} {r r' : List V → Hp → VK → Prop} (h : CallR X f r) (h' : CallR X f r') : CallR X f (fun xs H Q => r xs H Q ∨ r' xs H Q) := by
  intro pins s σ H xs us Q I rr q
  rcases q with q | q
  · exact h pins s σ H xs us Q I rr q
  · exact h' pins s σ H xs us Q I rr q
def rListDR : List V → Hp → VK → Prop := fun xs H Q => ∃ p kvs, xs = [.ref p] ∧ L2.Rd H p (.dK kvs) ∧ ∀ q, H q = none → Q (.ref q) (upd H q (.lst (kvs.map fun kv => kV kv.1)))
theorem call_list_dKR (hc : X.calm = true) : CallR X (.type "list") rListDR := by
  intro pins s σ H xs us Q I r h
  obtain ⟨p, kvs, e, hk, q⟩ := h
  subst e
  obtain ⟨u, eu, rx⟩ := vals1 r
  subst eu
  obtain rfl : u = Value.ref p := rx
  obtain ⟨z, lo, vs, rk, hd⟩ := dk_rd I.hok hk
  obtain ⟨ep, hat⟩ := hd.dictAt
  have hl : kvs.length = vs.length := Paired.length rk
  refine PySem.W.kdl_call (PySem.W.kdl_dict (knd := mixKind X.prog X.w) (kvs := vs) (ep := ep) lo) (I.ok.hd hc) hat (by rw [← hl]; exact z) fun h' tk acc' c' hkeep hS hacc => ?_
  refine ⟨.ref s.heap.objs.size, upd H s.heap.objs.size (.lst (kvs.map fun kv => kV kv.1)), I.laid hkeep (Nat.le_refl _) (show ObjOk X.prog X.w _ _ _ (.lst (kvs.map fun kv => kV kv.1)) from ⟨?_, acc'.toList, c', ?_, ?_⟩), rfl, q _ (I.hok.fresh (Nat.le_refl _))⟩
  · rw [List.length_map]; exact z
  · have el : acc'.toList.length = acc'.size := by simp
    refine vals_of_at (by rw [List.length_map, el, hacc.1, hl]) fun j x w h1 h2 => ?_
    obtain ⟨k, y, hky, hi⟩ := hacc.2 j w (by rw [← Array.getElem?_toList]; exact h2)
    have e1 : (kvs.map (·.1))[j]? = some k := by
      rw [KV.keys rk, List.getElem?_map, hky] <;> rfl
    have e2 : (kvs.map fun kv => kV kv.1)[j]? = some (kV k) := by
      have e3 : (kvs.map fun kv => kV kv.1) = (kvs.map (·.1)).map kV := by rw [List.map_map] <;> rfl
      rw [e3, List.getElem?_map, e1] <;> rfl
    rw [e2] at h1
    cases h1
    exact keyIs_rel hi
  · rw [Array.toArray_toList]; exact hS
def rListSeq (K : PySem.W.Frag) : List V → Hp → VK → Prop := fun xs H Q => ∃ p ys, xs = [.ref p] ∧ (SqL K H p ys ∨ SqT K H p ys) ∧ ∀ l, H l = none → Q (.ref l) (upd H l (.lst ys))
def rListT : List V → Hp → VK → Prop := fun xs H Q => ∃ d kvs, xs = [V.ref d] ∧ L2.Rd H d (.dT kvs) ∧ ∀ p bs, H p = none → IsKeys H kvs bs → Q (.ref p) (upd H p (.lst (bs.map V.ref)))
/-- list(x): of a list, a tuple, a dict -/
def rListZ (K : PySem.W.Frag) : List V → Hp → VK → Prop := fun xs H Q => rListSeq K xs H Q ∨ (rListDR xs H Q ∨ rListT xs H Q)
theorem call_listZ {K : PySem.W.Frag} (e : X.K = K) (hc : X.calm = true) : CallR X (.type "list") (rListZ K) := CallR.or2 (call_listK e) (CallR.or2 (call_list_dKR hc) (call_list_dT hc))
theorem call_len_dTR : CallR X (.builtin "len") (fun xs H Q => ∃ (p : Addr) (kvs : List (List Key × V)), xs = [.ref p] ∧ L2.Rd H p (.dT kvs) ∧ Q (.int ((kvs.length : Nat) : Int)) H) := by
  intro pins s σ H xs us Q I r h
  obtain ⟨p, kvs, rfl, hp, q⟩ := h
  obtain ⟨u, rfl, rx⟩ := vals1 r
  obtain rfl : u = .ref p := rx
  obtain ⟨z, hd, ys, rel, dd⟩ := dt_rd I.hok hp
  have hl : kvs.length = ys.length := Paired.length rel
  refine call_len_dictH hd dd (by rw [← hl]; rw [sizeLine_eq] at z; omega) ?_
  rw [← hl]
  exact ⟨.int ((kvs.length : Nat) : Int), H, I.tok _, ⟨_, rfl⟩, q⟩
theorem call_lenDkR : CallR X (.builtin "len") (fun xs H Q => ∃ a kvs, xs = [V.ref a] ∧ L2.Rd H a (.dK kvs) ∧ Q (.int (kvs.length : Nat)) H) := by
  intro pins s σ H xs us Q I r h
  obtain ⟨a, kvs, rfl, ha, q⟩ := h
  obtain ⟨u, rfl, ru⟩ := vals1 r
  cases ru
  exact d_len I ha fun t s' I' => ⟨.int kvs.length, H, I', ⟨t, rfl⟩, q⟩
def rLenSeq (K : PySem.W.Frag) : List V → Hp → VK → Prop := fun xs H Q => ∃ p ys, xs = [.ref p] ∧ (SqL K H p ys ∨ SqT K H p ys) ∧ Q (.int ys.length) H
def rLenZ (K : PySem.W.Frag) : List V → Hp → VK → Prop := fun xs H Q => rLenSeq K xs H Q ∨ ((∃ a kvs, xs = [V.ref a] ∧ L2.Rd H a (.dK kvs) ∧ Q (.int (kvs.length : Nat)) H) ∨ ∃ (p : Addr) (kvs : List (List Key × V)), xs = [.ref p] ∧ L2.Rd H p (.dT kvs) ∧ Q (.int ((kvs.length : Nat) : Int)) H)
theorem call_lenZ {K : PySem.W.Frag} (e : X.K = K) : CallR X (.builtin "len") (rLenZ K) := CallR.or2 (call_lenK e) (CallR.or2 call_lenDkR call_len_dTR)
end
section
variable {z : Cz} {ρ : List Sl} {N : Dt → Bool → List Sl → Prop} {ta tb te : TE} {t : TA} {i : Nat}
/-- one argument, frozen -/
theorem ze_CB1 {r : List V → Hp → VK → Prop} {W : Dt → (Dt → Bool → List Sl → Prop) → List Sl → Prop}
    (w : ∀ x ρ2 N, W x N ρ2 → ∀ m F H σ Q vx, Sm z m F H σ ρ2 → Rz z.K m.B F x vx → (∀ d fr ρ' F' H' v, N d fr ρ' → Same F F' → Sm z m F' H' σ ρ' → RzF z m F' H' σ ρ' fr d v → Q v H') → r [vx] H Q)
    (h : ZE z ta ρ fun x _ ρ1 => W x N ρ1) : ZE z (tCB r (tCons ta tNil)) ρ N := fun m F H σ Q S k => by
  refine h m F H σ _ S fun x fx ρ1 F1 H1 vx n1 s1 S1 r1 => ?_
  obtain ⟨F2, s2, S2, rx⟩ := rzF_frz S1 r1
  exact w x ρ1 N n1 m F2 H1 σ Q vx S2 rx fun d fr ρ' F' H' v n sf => k d fr ρ' F' H' v n ((s1.trans s2).trans sf)
inductive LenD : Dt → Nat → Prop
  | lst (t : Bool) (ds : List Dt) : LenD (.lst t ds) ds.length
  | tup (ds : List Dt) : LenD (.tup ds) ds.length
  | dic (t : Bool) (ks : List Key) (ds : List Dt) : LenD (.dic t ks ds) ks.length
  | dit (t : Bool) (ks : List (List Key)) (ds : List Dt) : LenD (.dit t ks ds) ks.length
/-- what a container is made of, in the heap -/
inductive CtR (K : PySem.W.Frag) (B F H : Hp) (a : Addr) : Dt → Prop
  | lst {t : Bool} {xs : List V} {ds : List Dt} : H a = some (.lst xs) → Rzl K B F ds xs → CtR K B F H a (.lst t ds)
  | tup {xs : List V} {ds : List Dt} : H a = some (.tup xs) → Rzl K B F ds xs → CtR K B F H a (.tup ds)
  | dct {d : Dt} : DctR K B F H a d → CtR K B F H a d
def isCt : Dt → Bool
  | .lst _ _ | .tup _ | .dic _ _ _ | .dit _ _ _ => true
  | _ => false
theorem rz_ct {K : PySem.W.Frag} {B F H : Hp} {d : Dt} {v : V} (h : Rz K B F d v) (le : Le F H) (i : isCt d = true) : ∃ a, v = .ref a ∧ CtR K B F H a d := by
  cases d <;> first | cases i | skip
  · simp only [Rz] at h
    obtain ⟨a, xs, rfl, h1, h2⟩ := h
    exact ⟨a, rfl, .tup (le.exact h1 rfl) h2⟩
  · simp only [Rz] at h
    obtain ⟨a, xs, rfl, h1, _, h2⟩ := h
    exact ⟨a, rfl, .lst (le.exact h1 rfl) h2⟩
  · obtain ⟨a, e, q⟩ := rz_dct h le rfl
    exact ⟨a, e, .dct q⟩
  · obtain ⟨a, e, q⟩ := rz_dct h le rfl
    exact ⟨a, e, .dct q⟩
theorem Sm.peekC {m : Fm} {F H : Hp} {σ : L2.St} (S : Sm z m F H σ ρ) {s : Sl} {c : Dt} (h : ρ[i]? = some s) (p : Pk s c) (hc : isCt c = true) : ∃ a, σ[i]? = some (some (.ref a)) ∧ CtR z.K m.B F H a c := by
  cases c <;> first | cases hc | skip
  · obtain ⟨ov, e, ok⟩ := S.get h
    rcases p with rfl | rfl | ⟨a, rfl⟩
    · obtain ⟨v, rfl, r⟩ := ok
      obtain ⟨a, rfl, q⟩ := rz_ct r S.le rfl
      exact ⟨a, e, q⟩
    · obtain ⟨l, rfl, _, _, _, ho, h1, h2⟩ := ok
      cases h2
    · obtain ⟨rfl, _, _, ho, h1, h2⟩ := ok
      cases h2
  · obtain ⟨a, xs, e, h1, h2⟩ := S.peekL h p
    exact ⟨a, e, .lst h1 h2⟩
  · obtain ⟨a, e, q⟩ := S.peekD h p rfl
    exact ⟨a, e, .dct q⟩
  · obtain ⟨a, e, q⟩ := S.peekD h p rfl
    exact ⟨a, e, .dct q⟩
theorem LenD.isCt {d : Dt} {n : Nat} (h : LenD d n) : isCt d = true := by cases h <;> rfl
theorem ct_len {K : PySem.W.Frag} {B F H : Hp} {a : Addr} {d : Dt} {n : Nat} {Q : VK} (c : CtR K B F H a d) (h : LenD d n) (q : Q (.int n) H) : rLenZ K [.ref a] H Q := by
  cases h with
  | lst t ds =>
    cases c with
    | lst h1 h2 => exact .inl ⟨a, _, rfl, .inl (SqL.of h1), by rw [h2.len]; exact q⟩
    | dct h => cases h
  | tup ds =>
    cases c with
    | tup h1 h2 => exact .inl ⟨a, _, rfl, .inr (SqT.of h1), by rw [h2.len]; exact q⟩
    | dct h => cases h
  | dic t ks ds =>
    cases c with
    | dct h =>
      cases h with
      | k h1 h2 => exact .inr (.inl ⟨a, _, rfl, h1, by rw [List.length_map] at q; exact q⟩)
  | dit t ks ds =>
    cases c with
    | dct h =>
      cases h with
      | t h1 h2 => exact .inr (.inr ⟨a, _, rfl, h1, by rw [List.length_map] at q; exact q⟩)
theorem ze_lenv {s0 : Sl} {c0 : Dt} {n : Nat} (h0 : ρ[i]? = some s0) (p0 : Pk s0 c0) (hl : LenD c0 n) (q : N (.int n) false ρ) : ZE z (tCB (rLenZ z.K) (tCons (tVar i) tNil)) ρ N := fun m F H σ Q S k => by
  obtain ⟨a, e, c⟩ := S.peekC h0 p0 hl.isCt
  exact ⟨_, e, ct_len c hl (k _ _ _ _ _ _ q (Same.refl F) S (rzF_f rzi))⟩
theorem ze_len (h : ZE z ta ρ fun x _ ρ1 => ∃ n, LenD x n ∧ N (.int (n : Nat)) false ρ1) : ZE z (tCB (rLenZ z.K) (tCons ta tNil)) ρ N :=
  ze_CB1 (W := fun x N ρ1 => ∃ n, LenD x n ∧ N (.int (n : Nat)) false ρ1) (fun x ρ2 N n1 m F H σ Q vx S r k => by
    obtain ⟨n, hl, q⟩ := n1
    obtain ⟨a, rfl, c⟩ := rz_ct r S.le hl.isCt
    exact ct_len c hl (k _ _ _ _ _ _ q (Same.refl F) S (rzF_f rzi))) h
/-- list(x) -/
inductive ListD : Dt → List Dt → Prop
  | lst (t : Bool) (ds : List Dt) : ListD (.lst t ds) ds
  | tup (ds : List Dt) : ListD (.tup ds) ds
  | dic (t : Bool) (ks : List Key) (ds : List Dt) : ListD (.dic t ks ds) (ks.map keyD)
  | dit (t : Bool) (ks : List (List Key)) (ds : List Dt) : ListD (.dit t ks ds) (ks.map fun k => .tup (k.map keyD))
theorem ListD.isCt {d : Dt} {es : List Dt} (h : ListD d es) : isCt d = true := by cases h <;> rfl
theorem isKeys_frz {m : Fm} {F H : Hp} {σ : L2.St} : ∀ {kvs : List (List Key × V)} {bs : List Addr}, Sm z m F H σ ρ → IsKeys H kvs bs → ∃ F', Same F F' ∧ Sm z m F' H σ ρ ∧ Rzl z.K m.B F' ((kvs.map Prod.fst).map fun k => .tup (k.map keyD)) (bs.map V.ref)
  | [], _, S, h => by cases h; exact ⟨F, Same.refl F, S, .nil⟩
  | p :: r, _, S, h => by
    cases h with
    | cons h1 h2 =>
      obtain ⟨F1, s1, e1, S1⟩ := S.tup h1
      obtain ⟨F2, s2, S2, r2⟩ := isKeys_frz S1 h2
      exact ⟨F2, s1.trans s2, S2, .cons (by simp only [Rz]; exact ⟨_, _, rfl, s2 _ _ e1, keys_rzl _⟩) r2⟩
theorem ct_list {m : Fm} {F H : Hp} {σ : L2.St} {a : Addr} {d : Dt} {es : List Dt} {Q : VK} (S : Sm z m F H σ ρ) (c : CtR z.K m.B F H a d) (h : ListD d es)
    (q : ∀ F' H' v, Same F F' → Sm z m F' H' σ ρ → RzF z m F' H' σ ρ true (.lst true es) v → Q v H') : rListZ z.K [.ref a] H Q := by
  cases h with
  | lst t ds =>
    cases c with
    | lst h1 h2 => exact .inl ⟨a, _, rfl, .inl (SqL.of h1), fun p hp => q _ _ _ (Same.refl F) (S.newO hp) (rzF_new S hp (.lst h2))⟩
    | dct h => cases h
  | tup ds =>
    cases c with
    | tup h1 h2 => exact .inl ⟨a, _, rfl, .inr (SqT.of h1), fun p hp => q _ _ _ (Same.refl F) (S.newO hp) (rzF_new S hp (.lst h2))⟩
    | dct h => cases h
  | dic t ks ds =>
    cases c with
    | dct h =>
      cases h with
      | @k _ kvs _ h1 h2 => exact .inr (.inl ⟨a, _, rfl, h1, fun p hp => q _ _ _ (Same.refl F) (S.newO hp) (rzF_new S hp (.lst (by
          have := keys_rzl (K := z.K) (B := m.B) (F := F) (kvs.map Prod.fst)
          rw [List.map_map (f := Prod.fst) (g := kV)] at this
          exact this)))⟩)
  | dit t ks ds =>
    cases c with
    | dct h =>
      cases h with
      | @t _ kvs _ h1 h2 => exact .inr (.inr ⟨a, _, rfl, h1, fun p bs hp hk => by
          obtain ⟨F', s', S', r'⟩ := isKeys_frz S hk
          exact q _ _ _ s' (S'.newO hp) (rzF_new S' hp (.lst r'))⟩)
theorem ze_listv {s0 : Sl} {c0 : Dt} {es : List Dt} (h0 : ρ[i]? = some s0) (p0 : Pk s0 c0) (hl : ListD c0 es) (q : N (.lst true es) true ρ) : ZE z (tCB (rListZ z.K) (tCons (tVar i) tNil)) ρ N := fun m F H σ Q S k => by
  obtain ⟨a, e, c⟩ := S.peekC h0 p0 hl.isCt
  exact ⟨_, e, ct_list S c hl fun F' H' v s S' r => k _ _ _ _ _ _ q s S' r⟩
theorem ze_list (h : ZE z ta ρ fun x _ ρ1 => ∃ es, ListD x es ∧ N (.lst true es) true ρ1) : ZE z (tCB (rListZ z.K) (tCons ta tNil)) ρ N :=
  ze_CB1 (W := fun x N ρ1 => ∃ es, ListD x es ∧ N (.lst true es) true ρ1) (fun x ρ2 N n1 m F H σ Q vx S r k => by
    obtain ⟨es, hl, q⟩ := n1
    obtain ⟨a, rfl, c⟩ := rz_ct r S.le hl.isCt
    exact ct_list S c hl fun F' H' v s S' r => k _ _ _ _ _ _ q s S' r) h
/-! items -/
theorem ze_ixT {K : PySem.W.Frag} (h : ZE z ta ρ fun x _ ρ1 => ZE z tb ρ1 fun y _ ρ2 => ∃ ds i d, x = .tup ds ∧ y = .int i ∧ atI ds i = some d ∧ N d false ρ2) : ZE z (tOp (rIxT K) ta tb) ρ N :=
  ze_op2w (W := fun x y N ρ2 => ∃ ds i d, x = .tup ds ∧ y = .int i ∧ atI ds i = some d ∧ N d false ρ2) (fun x y ρ2 N n2 m F H σ Q vx vy S r1 r2 k => by
    obtain ⟨ds, i, d, rfl, rfl, e, n⟩ := n2
    simp only [Rz] at r1
    obtain ⟨a, xs, rfl, h1, r⟩ := r1
    unfold atI at e
    cases q : ixN ds.length i with
    | none => rw [q] at e; cases e
    | some j =>
      rw [q] at e
      obtain ⟨v, e2, rv⟩ := r.at_ e
      refine ⟨a, xs, i, v, rfl, rz_i r2, SqT.of (S.le.exact h1 rfl), ?_, k _ _ _ _ _ _ n (Same.refl F) S (rzF_f rv)⟩
      unfold atI
      rw [r.len, q]
      exact e2) h
theorem ze_ixL {K : PySem.W.Frag} (h : ZE z ta ρ fun x _ ρ1 => ZE z tb ρ1 fun y _ ρ2 => ∃ t ds i d, x = .lst t ds ∧ y = .int i ∧ atI ds i = some d ∧ N d false ρ2) : ZE z (tOp (rIxL K) ta tb) ρ N :=
  ze_op2w (W := fun x y N ρ2 => ∃ t ds i d, x = .lst t ds ∧ y = .int i ∧ atI ds i = some d ∧ N d false ρ2) (fun x y ρ2 N n2 m F H σ Q vx vy S r1 r2 k => by
    obtain ⟨t, ds, i, d, rfl, rfl, e, n⟩ := n2
    simp only [Rz] at r1
    obtain ⟨a, xs, rfl, h1, _, r⟩ := r1
    unfold atI at e
    cases q : ixN ds.length i with
    | none => rw [q] at e; cases e
    | some j =>
      rw [q] at e
      obtain ⟨v, e2, rv⟩ := r.at_ e
      refine ⟨a, xs, i, v, rfl, rz_i r2, SqL.of (S.le.exact h1 rfl), ?_, k _ _ _ _ _ _ n (Same.refl F) S (rzF_f rv)⟩
      unfold atI
      rw [r.len, q]
      exact e2) h
theorem ze_ixLv {K : PySem.W.Frag} {s0 : Sl} {c0 : Dt} (h0 : ρ[i]? = some s0) (p0 : Pk s0 c0) (h : ZE z tb ρ fun y _ ρ2 => ∃ s t ds j d, ρ2[i]? = some s ∧ Pk s (.lst t ds) ∧ y = .int j ∧ atI ds j = some d ∧ N d false ρ2) : ZE z (tOp (rIxL K) (tVar i) tb) ρ N := fun m F H σ Q S k => by
  obtain ⟨v, ev⟩ := S.has h0 p0
  refine ⟨v, ev, h m F H σ _ S fun y fy ρ2 F2 H2 vy n2 s2 S2 r2 => ?_⟩
  obtain ⟨F3, s3, S3, ry⟩ := rzF_frz S2 r2
  obtain ⟨s, t, ds, j, d, hs, p, rfl, e, n⟩ := n2
  obtain ⟨a, xs, ea, h1, r⟩ := S3.peekL hs p
  rw [ev] at ea
  cases ea
  unfold atI at e
  cases q : ixN ds.length j with
  | none => rw [q] at e; cases e
  | some j' =>
    rw [q] at e
    obtain ⟨u, e2, rv⟩ := r.at_ e
    refine ⟨a, xs, j, u, rfl, rz_i ry, SqL.of h1, ?_, k _ _ _ _ _ _ n (s2.trans s3) S3 (rzF_f rv)⟩
    unfold atI
    rw [r.len, q]
    exact e2
/-! slices -/
def ZO (z : Cz) (t : TO) (ρ : List Sl) (N : Option Int → List Sl → Prop) : Prop := ∀ m F H σ Q, Sm z m F H σ ρ → (∀ o ρ' F' H', N o ρ' → Same F F' → Sm z m F' H' σ ρ' → Q o H') → t σ H Q
theorem zo_no {M : Option Int → List Sl → Prop} (h : M none ρ) : ZO z tNoPart ρ M := fun m F H σ Q S k => k _ _ _ _ h (Same.refl F) S
theorem zo_some {M : Option Int → List Sl → Prop} (h : ZE z te ρ fun x _ ρ1 => ∃ i, x = .int i ∧ M (some i) ρ1) : ZO z (tPart te) ρ M := fun m F H σ Q S k => by
  refine h m F H σ _ S fun x fx ρ1 F1 H1 vx n1 s1 S1 r1 => ?_
  obtain ⟨F2, s2, S2, rx⟩ := rzF_frz S1 r1
  obtain ⟨i, rfl, n⟩ := n1
  exact ⟨i, rz_i rx, k _ _ _ _ n (s1.trans s2) S2⟩
def cutD (ds : List Dt) (lo hi : Option Int) : List Dt := (ds.drop (HT.sIx ds.length 0 lo)).take (HT.sIx ds.length ds.length hi - HT.sIx ds.length 0 lo)
theorem cut_rzl {K : PySem.W.Frag} {B F : Hp} {ds : List Dt} {xs : List V} (r : Rzl K B F ds xs) (lo hi : Option Int) : Rzl K B F (cutD ds lo hi) (cutV xs lo hi) := by
  unfold cutD cutV
  rw [r.len]
  exact (r.drop _).take _
theorem ze_slT {K : PySem.W.Frag} {tl th : TO} (h : ZE z te ρ fun x _ ρ1 => ZO z tl ρ1 fun lo ρ2 => ZO z th ρ2 fun hi ρ3 => ∃ ds, x = .tup ds ∧ ¬ (HT.sIx ds.length 0 lo = 0 ∧ HT.sIx ds.length ds.length hi = ds.length) ∧ N (.tup (cutD ds lo hi)) false ρ3) : ZE z (tSl (rSlT K) te tl th) ρ N := fun m F H σ Q S k => by
  refine h m F H σ _ S fun x fx ρ1 F1 H1 vx n1 s1 S1 r1 => ?_
  obtain ⟨F2, s2, S2, rx⟩ := rzF_frz S1 r1
  refine n1 m F2 H1 σ _ S2 fun lo ρ2 F3 H3 n2 s3 S3 => n2 m F3 H3 σ _ S3 fun hi ρ3 F4 H4 n3 s4 S4 => ?_
  obtain ⟨ds, rfl, hn, n⟩ := n3
  have rx := rz_mono (s3.trans s4) _ _ rx
  simp only [Rz] at rx
  obtain ⟨a, xs, rfl, e, r⟩ := rx
  refine ⟨a, xs, rfl, SqT.of (S4.le.exact e rfl), by rw [r.len]; exact hn, fun p hp => ?_⟩
  obtain ⟨s5, S5⟩ := S4.new (o := .tup (cutV xs lo hi)) hp
  exact k _ _ _ _ _ _ n ((s1.trans s2).trans ((s3.trans s4).trans s5)) S5 (show Rz z.K m.B _ (.tup _) _ by simp only [Rz]; exact ⟨p, _, rfl, upd_same, rzl_mono s5 _ _ (cut_rzl r lo hi)⟩)
theorem ze_slL {K : PySem.W.Frag} {tl th : TO} (h : ZE z te ρ fun x _ ρ1 => ZO z tl ρ1 fun lo ρ2 => ZO z th ρ2 fun hi ρ3 => ∃ t ds, x = .lst t ds ∧ N (.lst true (cutD ds lo hi)) true ρ3) : ZE z (tSl (rSlL K) te tl th) ρ N := fun m F H σ Q S k => by
  refine h m F H σ _ S fun x fx ρ1 F1 H1 vx n1 s1 S1 r1 => ?_
  obtain ⟨F2, s2, S2, rx⟩ := rzF_frz S1 r1
  refine n1 m F2 H1 σ _ S2 fun lo ρ2 F3 H3 n2 s3 S3 => n2 m F3 H3 σ _ S3 fun hi ρ3 F4 H4 n3 s4 S4 => ?_
  obtain ⟨t, ds, rfl, n⟩ := n3
  have rx := rz_mono (s3.trans s4) _ _ rx
  simp only [Rz] at rx
  obtain ⟨a, xs, rfl, e, _, r⟩ := rx
  exact ⟨a, xs, rfl, SqL.of (S4.le.exact e rfl), fun p hp => k _ _ _ _ _ _ n ((s1.trans s2).trans (s3.trans s4)) (S4.newO hp) (rzF_new S4 hp (.lst (cut_rzl r lo hi)))⟩
/-! joins -/
theorem ze_cat (h : ZE z ta ρ fun x _ ρ1 => ZE z tb ρ1 fun y _ ρ2 => ∃ t u ds es, x = .lst t ds ∧ y = .lst u es ∧ ds.length + es.length ≤ 100000 ∧ N (.lst true (ds ++ es)) true ρ2) : ZE z (tOp rCat ta tb) ρ N :=
  ze_op2w (W := fun x y N ρ2 => ∃ t u ds es, x = .lst t ds ∧ y = .lst u es ∧ ds.length + es.length ≤ 100000 ∧ N (.lst true (ds ++ es)) true ρ2) (fun x y ρ2 N n2 m F H σ Q vx vy S r1 r2 k => by
    obtain ⟨t, u, ds, es, rfl, rfl, hl, n⟩ := n2
    simp only [Rz] at r1 r2
    obtain ⟨a, xs, rfl, h1, _, r1⟩ := r1
    obtain ⟨b, ys, rfl, h2, _, r2⟩ := r2
    exact ⟨a, b, xs, ys, rfl, rfl, S.le.exact h1 rfl, S.le.exact h2 rfl, by rw [r1.len, r2.len, sizeLine_eq]; omega, fun p hp => k _ _ _ _ _ _ n (Same.refl F) (S.newO hp) (rzF_new S hp (.lst (r1.app r2)))⟩) h
/-! truth -/
inductive TruD : Dt → Bool → Prop
  | lst (t : Bool) (ds : List Dt) : TruD (.lst t ds) (!ds.isEmpty)
  | tup (ds : List Dt) : TruD (.tup ds) (!ds.isEmpty)
  | bl (b : Bool) : TruD (.bl b) b
  | int (i : Int) : TruD (.int i) (i != 0)
  | non : TruD .non false
theorem isEmpty_len {α β : Type} : ∀ {xs : List α} {ys : List β}, xs.length = ys.length → xs.isEmpty = ys.isEmpty
  | [], [], _ => rfl
  | _ :: _, _ :: _, _ => rfl
  | [], _ :: _, h => by cases h
  | _ :: _, [], h => by cases h
abbrev tTru (K : PySem.W.Frag) (ta : TE) : TT := fun σ H Q => ta σ H fun x H' => ∃ k, TruV K x H' k ∧ Q k H'
theorem zt_truv {s0 : Sl} {t : Bool} {ds : List Dt} {M : Bool → List Sl → Prop} (h0 : ρ[i]? = some s0) (p0 : Pk s0 (.lst t ds)) (q : M (!ds.isEmpty) ρ) : ZT z (tTru z.K (tVar i)) ρ M := fun m F H σ Q S k => by
  obtain ⟨a, xs, e, h1, r⟩ := S.peekL h0 p0
  refine ⟨_, e, _, .inl ⟨xs, SqL.of h1, rfl⟩, ?_⟩
  rw [isEmpty_len r.len]
  exact k _ _ _ _ q (Same.refl F) S
theorem zt_tru {M : Bool → List Sl → Prop} (h : ZE z ta ρ fun x _ ρ1 => ∃ b, TruD x b ∧ M b ρ1) : ZT z (tTru z.K ta) ρ M := fun m F H σ Q S k => by
  refine h m F H σ _ S fun x fx ρ1 F1 H1 vx n1 s1 S1 r1 => ?_
  obtain ⟨F2, s2, S2, rx⟩ := rzF_frz S1 r1
  obtain ⟨b, hb, n⟩ := n1
  have q := k _ _ _ _ n (s1.trans s2) S2
  cases hb with
  | lst t ds =>
    simp only [Rz] at rx
    obtain ⟨a, xs, rfl, e, _, r⟩ := rx
    exact ⟨_, .inl ⟨xs, SqL.of (S2.le.exact e rfl), rfl⟩, by rw [isEmpty_len r.len]; exact q⟩
  | tup ds =>
    simp only [Rz] at rx
    obtain ⟨a, xs, rfl, e, r⟩ := rx
    exact ⟨_, .inr (.inl ⟨xs, SqT.of (S2.le.exact e rfl), rfl⟩), by rw [isEmpty_len r.len]; exact q⟩
  | bl b => exact ⟨b, by rw [rz_b rx]; exact rfl, q⟩
  | int i => exact ⟨_, by rw [rz_i rx]; exact rfl, q⟩
  | non => exact ⟨_, by rw [rz_n rx]; exact rfl, q⟩
/-! methods of an owned list -/
theorem ze_append {K : PySem.W.Frag} {t0 : Bool} {ds0 : List Dt} (h0 : ρ[i]? = some (.o (.lst t0 ds0))) (h : ZE z te ρ fun x _ ρ1 => ∃ ds, ρ1[i]? = some (.o (.lst true ds)) ∧ ds.length < 100000 ∧ N .non false (ρ1.set i (.o (.lst true (ds ++ [x]))))) :
    ZE z (tBM K "list" rAppend (tVar i) (tCons te tNil)) ρ N := fun m F H σ Q S k => by
  obtain ⟨l, e, h1, h2, h3, ho, h4, h5⟩ := S.geto h0
  cases h5 with
  | @lst xs _ r =>
    refine ⟨.ref l, e, .inl ⟨rfl, xs, SqL.of h4⟩, h m F H σ _ S fun x fx ρ1 F1 H1 vx n1 s1 S1 r1 => ?_⟩
    obtain ⟨F2, s2, S2, rx⟩ := rzF_frz S1 r1
    obtain ⟨ds, hs, hl, n⟩ := n1
    obtain ⟨l', e', q1, q2, q3, ho, q4, q5⟩ := S2.geto hs
    rw [e] at e'
    cases e'
    cases q5 with
    | @lst xs _ r =>
      exact ⟨l, xs, vx, rfl, rfl, q4, by rw [r.len, sizeLine_eq]; omega, k _ _ _ _ _ _ n (s1.trans s2) (S2.put hs e (.lst (r.app (.cons rx .nil)))) (rzF_f rzn)⟩
theorem ze_pop {K : PySem.W.Frag} {t0 : Bool} {ds : List Dt} {d : Dt} (h0 : ρ[i]? = some (.o (.lst t0 (ds ++ [d])))) (n : N d false (ρ.set i (.o (.lst true ds)))) : ZE z (tBM0 K "list" rPop (tVar i)) ρ N := fun m F H σ Q S k => by
  obtain ⟨l, e, h1, h2, h3, ho, h4, h5⟩ := S.geto h0
  cases h5 with
  | @lst xs _ r =>
    refine ⟨.ref l, e, .inl ⟨rfl, xs, SqL.of h4⟩, ?_⟩
    have hl := r.len
    rw [List.length_append, List.length_singleton] at hl
    obtain ⟨y, hy, ry⟩ := r.at_ (i := ds.length) (d := d) (by simp)
    refine ⟨l, xs, y, rfl, rfl, h4, by rw [hl]; exact hy, k _ _ _ _ _ _ n (Same.refl F) (S.put h0 e (.lst ?_)) (rzF_f ry)⟩
    have := r.take ds.length
    rw [List.take_left] at this
    rw [List.dropLast_eq_take, hl]
    exact this
theorem ze_extend {K : PySem.W.Frag} {t0 : Bool} {ds0 : List Dt} (h0 : ρ[i]? = some (.o (.lst t0 ds0))) (h : ZE z te ρ fun x _ ρ1 => ∃ ds t es, ρ1[i]? = some (.o (.lst true ds)) ∧ x = .lst t es ∧ ds.length + es.length ≤ 100000 ∧ N .non false (ρ1.set i (.o (.lst true (ds ++ es))))) :
    ZE z (tBM K "list" rExtend (tVar i) (tCons te tNil)) ρ N := fun m F H σ Q S k => by
  obtain ⟨l, e, h1, h2, h3, ho, h4, h5⟩ := S.geto h0
  cases h5 with
  | @lst xs _ r =>
    refine ⟨.ref l, e, .inl ⟨rfl, xs, SqL.of h4⟩, h m F H σ _ S fun x fx ρ1 F1 H1 vx n1 s1 S1 r1 => ?_⟩
    obtain ⟨F2, s2, S2, rx⟩ := rzF_frz S1 r1
    obtain ⟨ds, t, es, hs, rfl, hl, n⟩ := n1
    obtain ⟨l', e', q1, q2, q3, ho, q4, q5⟩ := S2.geto hs
    rw [e] at e'
    cases e'
    simp only [Rz] at rx
    obtain ⟨b, ys, rfl, hb, _, ry⟩ := rx
    cases q5 with
    | @lst xs _ r =>
      exact ⟨l, b, xs, ys, rfl, rfl, q4, S2.le.exact hb rfl, by rw [r.len, ry.len, sizeLine_eq]; omega, k _ _ _ _ _ _ n (s1.trans s2) (S2.put hs e (.lst (r.app ry))) (rzF_f rzn)⟩
/-! in a written tuple of texts -/
theorem ze_inStrs {a : Addr} {xs : List Str} (hk : tupStrs z.K a xs = true) (hl : xs.length ≤ 1000) (h : ZE z ta ρ fun x _ ρ1 => ∃ y, x = .str y ∧ N (.bl (inV (.str y) (xs.map V.str))) false ρ1) : ZE z (tOp (rIn z.K false) ta (tC (.ref a))) ρ N := fun m F H σ Q S k => by
  refine h m F H σ _ S fun x fx ρ1 F1 H1 vx n1 s1 S1 r1 => ?_
  obtain ⟨F2, s2, S2, rx⟩ := rzF_frz S1 r1
  obtain ⟨y, rfl, n⟩ := n1
  obtain rfl := rz_s rx
  refine ⟨a, xs.map V.str, rfl, .inr (tupStrs_ok hk hl), rfl, ?_, k _ _ _ _ _ _ n (s1.trans s2) S2 (rzF_f rzb)⟩
  exact List.all_eq_true.mpr fun v hv => by
    obtain ⟨y, _, rfl⟩ := List.mem_map.mp hv
    rfl
def flatD : Dt → Option V
  | .non => some .non | .bl b => some (.bl b) | .int i => some (.int i) | .str x => some (.str x)
  | _ => none
theorem flat_rz {K : PySem.W.Frag} {B F : Hp} {d : Dt} {v u : V} (h : flatD d = some u) (r : Rz K B F d v) : v = u ∧ flatV u = true := by
  unfold flatD at h
  split at h <;> cases h <;> (simp only [Rz] at r; exact ⟨r, rfl⟩)
theorem flat_rzl {K : PySem.W.Frag} {B F : Hp} : ∀ {ds : List Dt} {vs us : List V}, ds.mapM flatD = some us → Rzl K B F ds vs → vs = us ∧ us.all flatV = true
  | [], _, us, h, r => by
    rw [List.mapM_nil] at h
    cases h
    exact ⟨r.inv0, rfl⟩
  | d :: ds, _, us, h, r => by
    obtain ⟨v, r', rfl, r1, r2⟩ := r.inv
    rw [List.mapM_cons] at h
    cases e : flatD d with
    | none => rw [e] at h; cases h
    | some u =>
      rw [e] at h
      cases e2 : ds.mapM flatD with
      | none => rw [e2] at h; cases h
      | some us' =>
        rw [e2] at h
        cases h
        obtain ⟨h1, h2⟩ := flat_rz e r1
        obtain ⟨h3, h4⟩ := flat_rzl e2 r2
        exact ⟨by rw [h1, h3], by rw [List.all_cons, h2, h4]; rfl⟩
/-- in a list or a tuple of scalars -/
theorem ze_inF {neg : Bool} (h : ZE z ta ρ fun x _ ρ1 => ZE z tb ρ1 fun y _ ρ2 => ∃ u us ds, flatD x = some u ∧ ((∃ t, y = .lst t ds) ∨ y = .tup ds) ∧ ds.mapM flatD = some us ∧ N (.bl (if neg then !inV u us else inV u us)) false ρ2) : ZE z (tOp (rIn z.K neg) ta tb) ρ N :=
  ze_op2w (W := fun x y N ρ2 => ∃ u us ds, flatD x = some u ∧ ((∃ t, y = .lst t ds) ∨ y = .tup ds) ∧ ds.mapM flatD = some us ∧ N (.bl (if neg then !inV u us else inV u us)) false ρ2) (fun x y ρ2 N n2 m F H σ Q vx vy S r1 r2 k => by
    obtain ⟨u, us, ds, hu, hy, hm, n⟩ := n2
    obtain ⟨rfl, fu⟩ := flat_rz hu r1
    rcases hy with ⟨t, rfl⟩ | rfl
    · simp only [Rz] at r2
      obtain ⟨a, xs, rfl, e, _, r⟩ := r2
      obtain ⟨rfl, fs⟩ := flat_rzl hm r
      exact ⟨a, xs, rfl, .inl (SqL.of (S.le.exact e rfl)), fu, fs, k _ _ _ _ _ _ n (Same.refl F) S (rzF_f rzb)⟩
    · simp only [Rz] at r2
      obtain ⟨a, xs, rfl, e, r⟩ := r2
      obtain ⟨rfl, fs⟩ := flat_rzl hm r
      exact ⟨a, xs, rfl, .inr (SqT.of (S.le.exact e rfl)), fu, fs, k _ _ _ _ _ _ n (Same.refl F) S (rzF_f rzb)⟩) h
/-- in a table of the module with text keys -/
theorem ze_inTab {X : Cx} {a : Addr} (h : ZE z ta ρ fun x _ ρ1 => ∃ y b, x = .str y ∧ inTab X.K a y b = true ∧ N (.bl b) false ρ1) :
    ZE z (tOp (fun x y H Q => ∃ (z : Str) (r : Option Value), x = .str z ∧ y = .ref a ∧ PySem.W.nsIn X.K a z = some r ∧ Q (.bl r.isSome) H) ta (tC (.ref a))) ρ N := fun m F H σ Q S k => by
  refine h m F H σ _ S fun x fx ρ1 F1 H1 vx n1 s1 S1 r1 => ?_
  obtain ⟨F2, s2, S2, rx⟩ := rzF_frz S1 r1
  obtain ⟨y, b, rfl, hb, n⟩ := n1
  obtain ⟨r, e, hr⟩ := inTab_ok hb
  exact ⟨y, r, rz_s rx, rfl, e, by rw [hr]; exact k _ _ _ _ _ _ n (s1.trans s2) S2 (rzF_f rzb)⟩
/-! isinstance -/
inductive TyD (K : PySem.W.Frag) : Dt → Value → Prop
  | non : TyD K .non (.type "NoneType")
  | bl (b : Bool) : TyD K (.bl b) (.type "bool")
  | int (i : Int) : TyD K (.int i) (.type "int")
  | str (x : Str) : TyD K (.str x) (.type "str")
  | lst (t : Bool) (ds : List Dt) : TyD K (.lst t ds) (.type "list")
  | tup (ds : List Dt) : TyD K (.tup ds) (.type "tuple")
  | dic (t : Bool) (ks : List Key) (ds : List Dt) : TyD K (.dic t ks ds) (.type "dict")
  | rat (n d : Int) : isiCB K (He.ga K "Ratio") = true → Cls K (He.ga K "Ratio") → TyD K (.rat n d) (.ref (He.ga K "Ratio"))
  | ins (C : Addr) (fs : List Str) (ds : List Dt) : isiCB K C = true → Cls K C → TyD K (.ins C fs ds) (.ref C)
theorem tyD_ok {K : PySem.W.Frag} {B F H : Hp} {d : Dt} {t : Value} {v : V} (h : TyD K d t) (r : Rz K B F d v) (le : Le F H) : TyX K H v t := by
  cases h with
  | non => rw [rz_n r]; exact .base .non
  | bl b => rw [rz_b r]; exact .base (.bl b)
  | int i => rw [rz_i r]; exact .base (.int i)
  | str x => rw [rz_s r]; exact .base (.str x)
  | lst t ds =>
    simp only [Rz] at r
    obtain ⟨a, xs, rfl, e, _⟩ := r
    exact .base (.lst (le.exact e rfl))
  | tup ds =>
    simp only [Rz] at r
    obtain ⟨a, xs, rfl, e, _⟩ := r
    exact .base (.tup (le.exact e rfl))
  | dic t ks ds =>
    simp only [Rz] at r
    obtain ⟨a, xs, rfl, e, _⟩ := r
    rcases le a _ e with q | ⟨_, ob, q⟩
    · exact .base (.dK q)
    · exact .fDict q
  | rat n d h1 h2 =>
    simp only [Rz] at r
    obtain ⟨a, dx, rfl, e⟩ := r
    exact isi_ins h1 h2 (le.exact e rfl)
  | ins C fs ds h1 h2 =>
    simp only [Rz] at r
    obtain ⟨a, dx, kvs, rfl, e, _⟩ := r
    exact isi_ins h1 h2 (le.exact e rfl)
theorem ze_isi {c : V} {u : Value} (hc : ClsV c u) (h : ZE z te ρ fun x _ ρ1 => ∃ t b, TyD z.K x t ∧ PySem.W.kitOne z.K t u = some b ∧ N (.bl b) false ρ1) : ZE z (tCB (rIsi z.K) (tCons te (tCons (tC c) tNil))) ρ N := fun m F H σ Q S k => by
  refine h m F H σ _ S fun x fx ρ1 F1 H1 vx n1 s1 S1 r1 => ?_
  obtain ⟨F2, s2, S2, rx⟩ := rzF_frz S1 r1
  obtain ⟨t, b, ht, hk, n⟩ := n1
  exact ⟨vx, c, t, u, b, rfl, hc, tyD_ok ht rx S2.le, hk, k _ _ _ _ _ _ n (s1.trans s2) S2 (rzF_f rzb)⟩
/-! operators of an own class -/
def isIn (K : PySem.W.Frag) (C : Addr) : Dt → Prop
  | .rat _ _ => C = He.ga K "Ratio"
  | .ins D _ _ => C = D
  | _ => False
theorem rz_ins {K : PySem.W.Frag} {B F H : Hp} {C : Addr} {d : Dt} {v : V} (h : isIn K C d) (r : Rz K B F d v) (le : Le F H) : ∃ a dx fs, v = .ref a ∧ H a = some (.ins C dx fs) := by
  cases d <;> first | exact h.elim | skip
  · obtain rfl := h
    simp only [Rz] at r
    obtain ⟨a, dx, rfl, e⟩ := r
    exact ⟨a, dx, _, rfl, le.exact e rfl⟩
  · obtain rfl := h
    simp only [Rz] at r
    obtain ⟨a, dx, kvs, rfl, e, _⟩ := r
    exact ⟨a, dx, kvs, rfl, le.exact e rfl⟩
theorem ze_bin {C : Addr} {w : Wz} {E : XK} (h : ZE z ta ρ fun x _ ρ1 => ZE z tb ρ1 fun y _ ρ2 => isIn z.K C x ∧ isIn z.K C y ∧ w [x.old, y.old] (fun d fr => N d fr ρ2) fun _ _ => False) : ZE z (tOp (rBin C (spZ z.K w) E) ta tb) ρ N :=
  ze_op2w (W := fun x y N ρ2 => isIn z.K C x ∧ isIn z.K C y ∧ w [x.old, y.old] (fun d fr => N d fr ρ2) fun _ _ => False) (fun x y ρ2 N n2 m F H σ Q vx vy S r1 r2 k => by
    obtain ⟨hx, hy, n⟩ := n2
    obtain ⟨a, dx, fs, rfl, ha⟩ := rz_ins hx r1 S.le
    obtain ⟨b, dy, gs, rfl, hb⟩ := rz_ins hy r2 S.le
    refine ⟨a, b, dx, dy, fs, gs, rfl, rfl, ha, hb, F, _, _, _, S.le, .cons (rz_old _ _ r1) (.cons (rz_old _ _ r2) .nil), n, fun d fr F' H' v nd g => ?_, fun C fs dd H' f => f.elim⟩
    obtain ⟨S2, r⟩ := S.got g
    exact k _ _ _ _ _ _ nd g.1 S2 r) h
theorem ze_neO {C : Addr} {w : Wz} {E : XK} (h : ZE z ta ρ fun x _ ρ1 => ZE z tb ρ1 fun y _ ρ2 => isIn z.K C x ∧ isIn z.K C y ∧ w [x.old, y.old] (fun d fr => ∃ b, d = .bl b ∧ fr = false ∧ N (.bl (!b)) false ρ2) fun _ _ => False) : ZE z (tOp (rNeO C (spZ z.K w) E) ta tb) ρ N :=
  ze_op2w (W := fun x y N ρ2 => isIn z.K C x ∧ isIn z.K C y ∧ w [x.old, y.old] (fun d fr => ∃ b, d = .bl b ∧ fr = false ∧ N (.bl (!b)) false ρ2) fun _ _ => False) (fun x y ρ2 N n2 m F H σ Q vx vy S r1 r2 k => by
    obtain ⟨hx, hy, n⟩ := n2
    obtain ⟨a, dx, fs, rfl, ha⟩ := rz_ins hx r1 S.le
    obtain ⟨b, dy, gs, rfl, hb⟩ := rz_ins hy r2 S.le
    refine ⟨a, b, dx, dy, fs, gs, rfl, rfl, ha, hb, F, _, _, _, S.le, .cons (rz_old _ _ r1) (.cons (rz_old _ _ r2) .nil), n, fun d fr F' H' v nd g => ?_, fun C fs dd H' f => f.elim⟩
    obtain ⟨t, rfl, rfl, nd⟩ := nd
    obtain ⟨S2, r⟩ := S.got g
    exact ⟨t, rz_b (show Rz z.K m.B F' (.bl t) v from r), k _ _ _ _ _ _ nd g.1 S2 (rzF_f rzb)⟩) h
theorem ze_unO {C : Addr} {w : Wz} {E : XK} (h : ZE z ta ρ fun x _ ρ1 => isIn z.K C x ∧ w [x.old] (fun d fr => N d fr ρ1) fun _ _ => False) : ZE z (tUn (rUnO C (spZ z.K w) E) ta) ρ N :=
  ze_un1 fun m F H σ Q S k => h m F H σ Q S fun x fx ρ1 F1 H1 vx n1 s1 S1 r1 => k x fx ρ1 F1 H1 vx (by
    obtain ⟨hx, n⟩ := n1
    intro m F H σ Q vx S r1 k
    obtain ⟨a, dx, fs, rfl, ha⟩ := rz_ins hx r1 S.le
    refine ⟨a, dx, fs, rfl, ha, F, _, _, _, S.le, .cons (rz_old _ _ r1) .nil, n, fun d fr F' H' v nd g => ?_, fun C fs dd H' f => f.elim⟩
    obtain ⟨S2, r⟩ := S.got g
    exact k _ _ _ _ _ _ nd g.1 S2 r) s1 S1 r1
end
/-! ### combinations of itertools over a range -/
namespace CB
open PySem PySem.Spec PyProof.Rows L2
abbrev tC : String := "itertools.combinations"
theorem mroC : mroOf (.type tC) = pure [.type tC, .type "object"] := by rw [mroOf_type]; kernel_rfl
theorem newC : typeLookup (.type tC) "__new__" = pure (some (.builtin "itertools.combinations.__new__")) := by rw [typeLookup_type, builtinLookup_eq_fast]; kernel_rfl
theorem subC : isSubtype (.type tC) (.type tC) = pure true := by rw [isSubtype_type]; kernel_rfl
theorem initC : Slot tC "__init__" "object.__init__" := .of (owner := "object") (n := "__init__") (by rw [typeLookup_type, builtinLookup_eq_fast]; kernel_rfl) (by decide +kernel) (by decide +kernel) (by decide +kernel) (by first | exact .inl (by decide +kernel) | exact .inr (by decide +kernel)) (by rw [isSubtype_type]; kernel_rfl)
theorem calledC : TypeCalled tC "itertools.combinations.__new__" "object.__init__" :=
  ⟨by decide +kernel, by decide +kernel, ⟨_, _, mroC⟩, madeBy_type mroC newC (by decide +kernel), by decide +kernel, subC, initC⟩
theorem tyCall (a b : Value) : checkTypeCall tC ⟨[a, b], []⟩ = pure () := by kernel_rfl
theorem nwCall (a b : Value) : checkBuiltinCall "itertools.combinations.__new__" ⟨[.type tC, a, b], []⟩ = pure () := by kernel_rfl
theorem enNew : entryFor table "itertools.combinations.__new__" = some Builtin.«itertools.combinations.__new__» := entryFor_of_tree (by kernel_rfl)
theorem plNew : plainId "itertools.combinations.__new__" = true := by decide +kernel
theorem enNext : entryFor table "itertools.combinations.__next__" = some Builtin.«itertools.combinations.__next__» := entryFor_of_tree (by kernel_rfl)
theorem slIter : Slot tC "__iter__" "itertools.combinations.__iter__" := .of (owner := tC) (n := "__iter__") (by rw [typeLookup_type, builtinLookup_eq_fast]; kernel_rfl) (by decide +kernel) (by decide +kernel) (by decide +kernel) (by first | exact .inl (by decide +kernel) | exact .inr (by decide +kernel)) subC
theorem slNext : Slot tC "__next__" "itertools.combinations.__next__" := .of (owner := tC) (n := "__next__") (by rw [typeLookup_type, builtinLookup_eq_fast]; kernel_rfl) (by decide +kernel) (by decide +kernel) (by decide +kernel) (by first | exact .inl (by decide +kernel) | exact .inr (by decide +kernel)) subC
theorem enIter : entryFor table "itertools.combinations.__iter__" = some Builtin.«dict_keyiterator.__iter__» :=
  entryFor_alias (id' := "dict_keyiterator.__iter__") (by kernel_rfl) (by first | rfl | decide +kernel) (by decide +kernel) (by kernel_rfl)
theorem ndC : typeHasDict (.type tC) = false := by decide +kernel
theorem agIter (a : Value) : argsOk "itertools.combinations.__iter__" ⟨[a], []⟩ := by
  unfold argsOk; kernel_rfl
theorem agNext (a : Value) : argsOk "itertools.combinations.__next__" ⟨[a], []⟩ := by
  unfold argsOk; kernel_rfl
/-- the numbers behind xs -/
def pickN (xs : List Nat) : Option Nat → Option (List Nat)
  | none => none
  | some i => some (xs.take i ++ (List.range (xs.length - i)).map fun j => xs.getD i 0 + 1 + j)
def nextN (n : Nat) (xs : List Nat) : Option (List Nat) := pickN xs ((List.range xs.length).reverse.find? fun i => xs.getD i 0 != i + n - xs.length)
def recV (p : Addr) (st : Int) (last : Value) (xs : List Nat) : List Value := [.ref p, rawInt st, last] ++ xs.map fun (i : Nat) => rawInt i
abbrev IsC (h : Heap) (z p : Addr) (st : Int) (last : Value) (xs : List Nat) : Prop := h.get? z = some { cls := .type tC, dict := none, data := .fields (recV p st last xs).toArray, slots := #[] }
section
variable {prog : Program} {w : World} {A : Around} {E : Value → Shared → Prop} {s : Shared} {z p : Addr} {st : Int} {last : Value} {xs : List Nat} {acc : Array Value}
theorem pure_eq {α : Type} {M : Model} {a b : α} {Q : α → Shared → Prop} (e : a = b) (h : Q b s) : wpAny M A (pure a) Q E s := by
  subst e
  exact wpAny_pure h
theorem nums_rec (p : Addr) (st : Int) (last : Value) (xs : List Nat) : ((recV p st last xs).toArray.toList.drop 3).map (fun | .int n _ => n.toNat | _ => 0) = xs := by
  unfold recV
  simp only [List.cons_append, List.nil_append, List.drop_succ_cons, List.drop_zero, List.map_map]
  conv => rhs; rw [← List.map_id xs]
  exact List.map_congr_left fun i _ => rfl
theorem intF (S : IsC s.heap z p st last xs) {Q : Int → Shared → Prop} (h : Q st s) : wpAny (model prog w) A (Builtin.Itertools.itIntField (.ref z) 1) Q E s := by
  show wpAny _ _ (field (.ref z) 1 >>= _) _ _ _
  apply wpAny_bind
  apply wpAny_field S rfl (x := rawInt st) rfl
  exact wpAny_pure h
theorem setF (S : IsC s.heap z p st last xs) {ys : List Nat} (hl : ys.length ≤ 1000) {Q : Unit → Shared → Prop} (h : ∀ g, IsC g z p st last ys → Heap.SameBut z s.heap g → Q () { s with heap := g }) : wpAny (model prog w) A (Builtin.Itertools.itSetNumbersFrom (.ref z) 3 ys) Q E s := by
  show wpAny _ _ (updateFields z _) _ _ _
  have e : ((recV p st last xs).toArray.extract 0 3 ++ (ys.map fun (n : Nat) => rawInt n).toArray) = (recV p st last ys).toArray := by
    unfold recV
    simp
  refine wpAny_updateFields S rfl (h _ ?_ (Heap.SameBut.update ..)) ?_
  · have u := Heap.get?_update_self (Obj.mapFields fun fs => fs.extract 0 3 ++ (ys.map fun (n : Nat) => rawInt n).toArray) S rfl
    unfold IsC
    rw [← e]
    exact u
  · rw [e, List.size_toArray]
    unfold recV
    rw [List.length_append, List.length_map, sizeLine_eq]
    show 3 + _ ≤ _
    omega
theorem tup_but {g : Heap} (S : IsC s.heap z p st last xs) (hp : s.heap.IsTuple p acc) (m : Heap.SameBut z s.heap g) : g.IsTuple p acc := by
  obtain ⟨po, hpo, pc, pn, pd⟩ := id hp
  have pz : p ≠ z := fun e => by
    subst e
    rw [S] at hpo
    cases hpo
    cases pd
  exact ⟨po, m.extBut _ _ pz hpo, pc, pn, pd⟩
/-- a tuple is handed out -/
theorem hand (S : IsC s.heap z p st last xs) (hp : s.heap.IsTuple p acc) (hl : xs.length ≤ 1000) {Q : Value → Shared → Prop}
    (q : ∀ g, IsC g z p st (.ref s.heap.objs.size) xs → g.get? s.heap.objs.size = some ⟨.type "tuple", none, .seq (xs.map fun i => acc.getD i .none).toArray, #[]⟩ → (∀ c o, c ≠ z → s.heap.get? c = some o → g.get? c = some o) → Q (.ref s.heap.objs.size) { s with heap := g }) :
    wpAny (model prog w) A (do
      let r ← (do
        let items ← Builtin.Itertools.itPoolItems (.ref p)
        newTuple (xs.map fun i => items.getD i .none))
      let b ← field (.ref z) 2
      setField (.ref z) 2 r
      letGo [b] [r]
      ret r) (fun fin s' => ∃ v, fin = .done (.ret v) ∧ Q v s') E s := by
  have hz : z < s.heap.objs.size := Heap.lt_size S
  obtain ⟨po, hpo, pc, pn, pd⟩ := id hp
  apply wpAny_bind
  apply wpAny_bind
  show wpAny _ _ (seqItems? (.ref p) >>= _) _ _ _
  apply wpAny_bind
  apply wpAny_seqItems hpo pd
  refine wpAny_pure ?_
  refine wpAny_newTuple ?_ (by rw [List.length_map, sizeLine_eq]; omega)
  apply wpAny_bind
  have S1 : IsC (s.heap.push { cls := .type "tuple", data := .seq (xs.map fun i => acc.getD i .none).toArray }) z p st last xs := Heap.get?_push_of_some _ S
  apply wpAny_field S1 rfl (x := last) rfl
  apply wpAny_bind
  refine wpAny_setField_rec S1 (by rw [List.size_toArray]; unfold recV; simp) fun g1 n1 m1 => ?_
  apply wpAny_bind
  refine wpAny_letGo (wpAny_pure ⟨_, rfl, ?_⟩)
  refine q g1 n1 (m1.extBut _ _ (Nat.ne_of_gt hz) (Heap.get?_push_size _ rfl)) fun c o nc e => m1.extBut _ _ nc (Heap.get?_push_of_some _ e)
theorem next0 (S : IsC s.heap z p 0 last xs) (hp : s.heap.IsTuple p acc) (hl : xs.length ≤ 1000) {Q : Value → Shared → Prop}
    (q : ∀ g, IsC g z p 1 (.ref s.heap.objs.size) xs → g.get? s.heap.objs.size = some ⟨.type "tuple", none, .seq (xs.map fun i => acc.getD i .none).toArray, #[]⟩ → (∀ c o, c ≠ z → s.heap.get? c = some o → g.get? c = some o) → Q (.ref s.heap.objs.size) { s with heap := g }) :
    wpAny (model prog w) A (Builtin.«itertools.combinations.__next__» ⟨[.ref z], []⟩) (fun fin s' => ∃ v, fin = .done (.ret v) ∧ Q v s') E s := by
  show wpAny _ _ (field (.ref z) 0 >>= _) _ _ _
  apply wpAny_bind
  apply wpAny_field S rfl (x := .ref p) rfl
  show wpAny _ _ (load z >>= _) _ _ _
  apply wpAny_bind
  apply wpAny_load S
  show wpAny _ _ (pure _ >>= _) _ _ _
  apply wpAny_bind
  refine pure_eq (nums_rec p 0 last xs) ?_
  show wpAny _ _ (Builtin.Itertools.itIntField (.ref z) 1 >>= _) _ _ _
  apply wpAny_bind
  refine intF S ?_
  show wpAny _ _ (setField (.ref z) 1 (rawInt 1) >>= _) _ _ _
  apply wpAny_bind
  refine wpAny_setField_rec S (by rw [List.size_toArray]; unfold recV; simp) fun g1 n1 m1 => ?_
  have S1 : IsC g1 z p 1 last xs := n1
  have hz : z < s.heap.objs.size := Heap.lt_size S
  exact hand (s := { s with heap := g1 }) S1 (tup_but S hp m1) hl fun g h1 h2 h3 => by
    have e : g1.objs.size = s.heap.objs.size := m1.1
    dsimp only at h1 h2 h3 ⊢
    rw [e] at h1 h2 ⊢
    exact q g h1 h2 fun c o nc e => h3 c o nc (m1.extBut _ _ nc e)
theorem next1 {ys : List Nat} (S : IsC s.heap z p 1 last xs) (hp : s.heap.IsTuple p acc) (hn : nextN acc.size xs = some ys) (hl : ys.length ≤ 1000) {Q : Value → Shared → Prop}
    (q : ∀ g, IsC g z p 1 (.ref s.heap.objs.size) ys → g.get? s.heap.objs.size = some ⟨.type "tuple", none, .seq (ys.map fun i => acc.getD i .none).toArray, #[]⟩ → (∀ c o, c ≠ z → s.heap.get? c = some o → g.get? c = some o) → Q (.ref s.heap.objs.size) { s with heap := g }) :
    wpAny (model prog w) A (Builtin.«itertools.combinations.__next__» ⟨[.ref z], []⟩) (fun fin s' => ∃ v, fin = .done (.ret v) ∧ Q v s') E s := by
  show wpAny _ _ (field (.ref z) 0 >>= _) _ _ _
  apply wpAny_bind
  apply wpAny_field S rfl (x := .ref p) rfl
  show wpAny _ _ (load z >>= _) _ _ _
  apply wpAny_bind
  apply wpAny_load S
  show wpAny _ _ (pure _ >>= _) _ _ _
  apply wpAny_bind
  refine pure_eq (nums_rec p 1 last xs) ?_
  show wpAny _ _ (Builtin.Itertools.itIntField (.ref z) 1 >>= _) _ _ _
  apply wpAny_bind
  refine intF S ?_
  show wpAny _ _ (Builtin.Itertools.itPoolItems (.ref p) >>= _) _ _ _
  apply wpAny_bind
  obtain ⟨po, hpo, pc, pn, pd⟩ := id hp
  show wpAny _ _ (seqItems? (.ref p) >>= _) _ _ _
  apply wpAny_bind
  apply wpAny_seqItems hpo pd
  refine wpAny_pure ?_
  split
  · rename_i next e
    have e' : nextN acc.size xs = some next := e
    rw [hn] at e'
    cases e'
    show wpAny _ _ (Builtin.Itertools.itSetNumbersFrom (.ref z) 3 ys >>= _) _ _ _
    apply wpAny_bind
    refine setF S hl fun g1 S1 m1 => ?_
    exact hand (s := { s with heap := g1 }) S1 (tup_but S hp m1) hl fun g h1 h2 h3 => by
      have e : g1.objs.size = s.heap.objs.size := m1.1
      dsimp only at h1 h2 h3 ⊢
      rw [e] at h1 h2 ⊢
      exact q g h1 h2 fun c o nc e => h3 c o nc (m1.extBut _ _ nc e)
  · rename_i e
    have e' : nextN acc.size xs = none := e
    rw [hn] at e'
    cases e'
theorem stop1 (hh : A.handled = none) (S : IsC s.heap z p 1 last xs) (hp : s.heap.IsTuple p acc) (hn : nextN acc.size xs = none) {Q : Fin → Shared → Prop}
    (q : ∀ g e, (∀ c o, c ≠ z → s.heap.get? c = some o → g.get? c = some o) → (∃ o, g.get? e = some o ∧ o.cls = .type "StopIteration") → E (.ref e) { s with heap := g }) :
    wpAny (model prog w) A (Builtin.«itertools.combinations.__next__» ⟨[.ref z], []⟩) Q E s := by
  show wpAny _ _ (field (.ref z) 0 >>= _) _ _ _
  apply wpAny_bind
  apply wpAny_field S rfl (x := .ref p) rfl
  show wpAny _ _ (load z >>= _) _ _ _
  apply wpAny_bind
  apply wpAny_load S
  show wpAny _ _ (pure _ >>= _) _ _ _
  apply wpAny_bind
  refine pure_eq (nums_rec p 1 last xs) ?_
  show wpAny _ _ (Builtin.Itertools.itIntField (.ref z) 1 >>= _) _ _ _
  apply wpAny_bind
  refine intF S ?_
  show wpAny _ _ (Builtin.Itertools.itPoolItems (.ref p) >>= _) _ _ _
  apply wpAny_bind
  obtain ⟨po, hpo, pc, pn, pd⟩ := id hp
  show wpAny _ _ (seqItems? (.ref p) >>= _) _ _ _
  apply wpAny_bind
  apply wpAny_seqItems hpo pd
  refine wpAny_pure ?_
  split
  · rename_i next e
    have e' : nextN acc.size xs = some next := e
    rw [hn] at e'
    cases e'
  · show wpAny _ _ (setField (.ref z) 1 (rawInt 2) >>= _) _ _ _
    apply wpAny_bind
    refine wpAny_setField_rec S (by rw [List.size_toArray]; unfold recV; simp) fun g1 n1 m1 => ?_
    show wpAny _ _ (newExc (.type "StopIteration") [] >>= _) _ _ _
    refine wpAny_bind ?_
    simp only [newExc, newTuple]
    refine wpAny_bind (wpAny_newObj_type ?_ (by size_fits))
    refine wpAny_bind (m := firstArgMember _ _) (wpAny_of_eq (a := Value.none) (by first | rfl | (simp only [firstArgMember]; rfl)) ?_)
    refine wpAny_newObj_type ?_ (by size_fits)
    simp only [raiseNew]
    refine wpAny_bind (wpAny_handled ?_)
    first | rw [show A.in1.handled = none from hh] | rw [hh]
    refine wpAny_bind (wpAny_pure (wpAny_throw ?_))
    exact q _ _ (fun c o nc e => Heap.get?_push_of_some _ (Heap.get?_push_of_some _ (m1.extBut _ _ nc e))) ⟨_, Heap.get?_push_size _ rfl, rfl⟩
theorem iterC (S : IsC s.heap z p st last xs) {Q : Value → Shared → Prop} (h : Q (.ref z) s) : wpAny (model prog w) A (pyIter (.ref z)) Q E s := by
  have hT : s.TypeIs (.ref z) tC := ⟨_, S, rfl⟩
  refine wpAny_pyIter_slot hT slIter (wpAny_call_entry slIter hT enIter ?_ (agIter _))
  show wpAny _ _ (ret (.ref z)) _ _ s
  exact wpAny_pure ⟨_, rfl, tC, _, hT, slNext.lookup, h⟩
theorem pyN0 (S : IsC s.heap z p 0 last xs) (hp : s.heap.IsTuple p acc) (hl : xs.length ≤ 1000) {Q : Option Value → Shared → Prop}
    (q : ∀ g, IsC g z p 1 (.ref s.heap.objs.size) xs → g.get? s.heap.objs.size = some ⟨.type "tuple", none, .seq (xs.map fun i => acc.getD i .none).toArray, #[]⟩ → (∀ c o, c ≠ z → s.heap.get? c = some o → g.get? c = some o) → Q (some (.ref s.heap.objs.size)) { s with heap := g }) :
    wpAny (model prog w) A (pyNext (.ref z)) Q E s := by
  have ty : s.TypeIs (.ref z) tC := ⟨_, S, rfl⟩
  unfold pyNext
  apply wpAny_bind
  apply wpAny_attempt
  refine wpAny_callSpecial?_slot (name := Str.ofString "__next__") ty slNext ?_
  exact wpAny_call_entry slNext ty enNext (next0 S hp hl fun g c1 c2 c3 => wpAny_pure (q g c1 c2 c3)) (agNext _)
theorem pyN1 {ys : List Nat} (S : IsC s.heap z p 1 last xs) (hp : s.heap.IsTuple p acc) (hn : nextN acc.size xs = some ys) (hl : ys.length ≤ 1000) {Q : Option Value → Shared → Prop}
    (q : ∀ g, IsC g z p 1 (.ref s.heap.objs.size) ys → g.get? s.heap.objs.size = some ⟨.type "tuple", none, .seq (ys.map fun i => acc.getD i .none).toArray, #[]⟩ → (∀ c o, c ≠ z → s.heap.get? c = some o → g.get? c = some o) → Q (some (.ref s.heap.objs.size)) { s with heap := g }) :
    wpAny (model prog w) A (pyNext (.ref z)) Q E s := by
  have ty : s.TypeIs (.ref z) tC := ⟨_, S, rfl⟩
  unfold pyNext
  apply wpAny_bind
  apply wpAny_attempt
  refine wpAny_callSpecial?_slot (name := Str.ofString "__next__") ty slNext ?_
  exact wpAny_call_entry slNext ty enNext (next1 S hp hn hl fun g c1 c2 c3 => wpAny_pure (q g c1 c2 c3)) (agNext _)
theorem pyNE (hh : A.handled = none) (S : IsC s.heap z p 1 last xs) (hp : s.heap.IsTuple p acc) (hn : nextN acc.size xs = none) {Q : Option Value → Shared → Prop}
    (q : ∀ g, (∀ c o, c ≠ z → s.heap.get? c = some o → g.get? c = some o) → Q none { s with heap := g }) :
    wpAny (model prog w) A (pyNext (.ref z)) Q E s := by
  have ty : s.TypeIs (.ref z) tC := ⟨_, S, rfl⟩
  unfold pyNext
  apply wpAny_bind
  apply wpAny_attempt
  refine wpAny_callSpecial?_slot (name := Str.ofString "__next__") ty slNext ?_
  refine wpAny_call_entry slNext ty enNext (stop1 (A := A.in1) hh S hp hn fun g e m he => ?_) (agNext _)
  obtain ⟨o, h1, h2⟩ := he
  apply wpAny_bind
  exact wpAny_isInstance (T := "StopIteration") (b := true) ⟨o, h1, h2⟩ isSubtype_stop (wpAny_pure (q g m))
end
/-- the k-th of the choices -/
def comb (n r : Nat) : Nat → Option (List Nat)
  | 0 => some (List.range r)
  | k + 1 => (comb n r k).bind (nextN n)
structure Combs (n r : Nat) (L : List (List Nat)) : Prop where
  at_ : ∀ k, comb n r k = L[k]?
  len : ∀ ys ∈ L, ys.length ≤ 1000
  lt : ∀ ys ∈ L, ∀ y ∈ ys, y < n
def ItC (L : List (List Nat)) : It :=
  ⟨fun i _ => i < L.length, fun i H v H' => ∃ T ys, v = .ref T ∧ L[i]? = some ys ∧ H T = none ∧ H' = upd H T (.tup (ys.map fun (k : Nat) => V.int k)), fun i _ => L.length ≤ i⟩
/-- the record before turn i -/
def tnC (r : Nat) (L : List (List Nat)) (z p : Addr) (acc : Array Value) (i : Nat) (h : Heap) : Prop :=
  h.IsTuple p acc ∧ ∃ st last xs, IsC h z p st last xs ∧ ((i = 0 ∧ st = 0 ∧ xs = List.range r) ∨ ∃ k, i = k + 1 ∧ st = 1 ∧ L[k]? = some xs)
theorem valsC {acc : Array Value} {n : Nat} (ha : ItemsOf (fun i v => ∃ t, v = .int (0 + i * 1) t) acc n) : ∀ ys : List Nat, (∀ y ∈ ys, y < n) → Vals (ys.map fun (k : Nat) => V.int k) (ys.map fun i => acc.getD i .none)
  | [], _ => .nil
  | y :: ys, h => by
    refine .cons ?_ (valsC ha ys fun x hx => h x (List.mem_cons_of_mem _ hx))
    have hy : y < acc.size := by rw [ha.1]; exact h y List.mem_cons_self
    obtain ⟨t, e⟩ := ha.2 y acc[y] (Array.getElem?_eq_getElem hy)
    refine ⟨t, ?_⟩
    show acc.getD y .none = _
    rw [Array.getD, dif_pos hy]
    show acc[y] = _
    rw [e]
    congr 1
    omega
theorem turnC {P : Program} {w : World} {K : PySem.W.Frag} {tg : Expr} {n r : Nat} {L : List (List Nat)} {z p : Addr} {acc : Array Value} (hL : Combs n r L) (hr : r ≤ n) (hrl : r ≤ 1000) (ha : ItemsOf (fun i v => ∃ t, v = .int (0 + i * 1) t) acc n) :
    Turn P w K tg (ItC L) [z, p] z (tnC r L z p acc) where
  mem := List.mem_cons_self
  obj := fun i h ⟨hp, st, last, xs, S, _⟩ c hc => by
    simp only [List.mem_cons, List.not_mem_nil, or_false] at hc
    rcases hc with rfl | rfl
    · exact ⟨_, S, fun v e => nomatch e⟩
    · obtain ⟨o, ho, _, k, hd⟩ := hp
      exact ⟨o, ho, fun v e => by rw [hd] at e; cases e⟩
  keep := fun i h g ⟨hp, st, last, xs, S, q⟩ k => by
    obtain ⟨o, ho, hc, m, hd⟩ := hp
    exact ⟨⟨o, k p (by simp) o ho, hc, m, hd⟩, st, last, xs, k z (by simp) _ S, q⟩
  item := by
    intro X eP ew eK hc i pins s σ H E I hf st hg
    subst eP ew eK
    obtain ⟨hp, st, last, xs, S, q⟩ := st
    have fin : ∀ (ys : List Nat) (g : Heap), L[i]? = some ys → IsC g z p 1 (.ref s.heap.objs.size) ys → g.get? s.heap.objs.size = some ⟨.type "tuple", none, .seq (ys.map fun i => acc.getD i .none).toArray, #[]⟩ → (∀ c o, c ≠ z → s.heap.get? c = some o → g.get? c = some o) →
        ∃ u, some (Value.ref s.heap.objs.size) = some u ∧ wpAny (model X.prog X.w) X.A (letOwnedTupleGo tg (.ref z) u) (fun _ s2 => ∃ x H', Inv X pins σ H' s2 ∧ RelV x u ∧ (ItC L).yld i H x H' ∧ tnC r L z p acc (i + 1) s2.heap ∧ ∀ b ∈ [z, p], H' b = none) E { s with heap := g } := by
      intro ys g hi S1 hT out
      have mem : ys ∈ L := List.mem_of_getElem? hi
      have zl : z < s.heap.objs.size := Heap.lt_size S
      obtain ⟨po, hpo, hpc, pm, hpd⟩ := id hp
      have pl : p < s.heap.objs.size := Heap.lt_size hpo
      have pz : p ≠ z := fun e => by
        subst e
        rw [S] at hpo
        cases hpo
        cases hpd
      refine ⟨_, rfl, go_of (s := { s with heap := g }) (n := tC) S1 rfl rfl (by decide) ?_⟩
      have ok : ObjOk X.prog X.w (upd H s.heap.objs.size (.tup (ys.map fun (k : Nat) => V.int k))) g s.heap.objs.size (.tup (ys.map fun (k : Nat) => V.int k)) := by
        refine ⟨by rw [List.length_map, sizeLine_eq]; have := hL.len ys mem; omega, _, valsC ha ys (hL.lt ys mem), _, hT, rfl, _, rfl⟩
      have I1 : Inv X pins σ (upd H s.heap.objs.size (.tup (ys.map fun (k : Nat) => V.int k))) { s with heap := g } := by
        refine I.turnedNew (t' := s.toks) (ch := [z, p]) (fun c o nb e => ?_) hf (Nat.le_refl _) ok
        simp only [List.mem_cons, List.not_mem_nil, or_false, not_or] at nb
        exact out c o nb.1 e
      refine ⟨.ref s.heap.objs.size, _, I1, rfl, ⟨_, ys, rfl, hi, I.hok.fresh (Nat.le_refl _), rfl⟩, ⟨⟨po, out p po pz hpo, hpc, pm, hpd⟩, 1, _, ys, S1, .inr ⟨i, rfl, rfl, hi⟩⟩, fun c hc => ?_⟩
      have cl : c < s.heap.objs.size := by
        simp only [List.mem_cons, List.not_mem_nil, or_false] at hc
        rcases hc with rfl | rfl
        · exact zl
        · exact pl
      rw [upd_ne (Nat.ne_of_lt cl)]
      exact (hf c hc).1
    rcases q with ⟨rfl, rfl, rfl⟩ | ⟨k, rfl, rfl, hk⟩
    · exact pyN0 S hp (by rw [List.length_range]; exact hrl) fun g a b c => fin _ g ((hL.at_ 0).symm) a b c
    · have hlt : k + 1 < L.length := hg
      have e : L[k + 1]? = some L[k + 1] := List.getElem?_eq_getElem hlt
      have e2 : nextN n xs = some L[k + 1] := by
        rw [← e, ← hL.at_ (k + 1), comb, hL.at_ k, hk]
        rfl
      refine pyN1 S hp (by rw [ha.1]; exact e2) (hL.len _ (List.getElem_mem hlt)) fun g a b c => fin _ g e a b c
  done := by
    intro X eP ew eK hc i pins s σ H E I hf st hg
    subst eP ew eK
    obtain ⟨hp, st, last, xs, S, q⟩ := st
    have hle : L.length ≤ i := hg
    rcases q with ⟨rfl, rfl, rfl⟩ | ⟨k, rfl, rfl, hk⟩
    · have := (hL.at_ 0).symm
      rw [List.getElem?_eq_none hle] at this
      cases this
    · have e2 : nextN n xs = none := by
        have h := hL.at_ (k + 1)
        rw [comb, hL.at_ k, hk, List.getElem?_eq_none hle] at h
        exact h
      refine pyNE (I.ok.hd hc) S hp (by rw [ha.1]; exact e2) fun g out => ⟨rfl, I.turnedL (t' := s.toks) (ch := [z, p]) (fun c o nb e => ?_) hf⟩
      simp only [List.mem_cons, List.not_mem_nil, or_false, not_or] at nb
      exact out c o nb.1 e
  self := fun A i s Q E ⟨hp, st, last, xs, S, _⟩ q => iterC S q
end CB
namespace CB
open PySem PySem.Spec PyProof.Rows L2
section
variable {prog : Program} {w : World} {A : Around} {E : Value → Shared → Prop} {s : Shared} {ra : Addr} {n k : Nat} {t u v tk : Tok}
set_option maxHeartbeats 4000000 in
theorem codeC {Q₁ : Value → Shared → Prop} (hh : A.handled = none) (hr : IsRange s.heap ra 0 n 1 t u v) (hn : n ≤ 1000) (hk : k ≤ n)
    (h : ∀ (g : Heap) (tk : Nat) (acc : Array Value), (∀ b o, s.heap.get? b = some o → g.get? b = some o) → ItemsOf (fun i v => ∃ t, v = .int (0 + i * 1) t) acc n →
      Q₁ (.ref (g.objs.size + 1)) { s with heap := (g.push { cls := .type "tuple", data := .seq acc }).push { cls := .type tC, data := .fields (recV g.objs.size 0 .none (List.range k)).toArray }, toks := tk }) :
    codeAny (model prog w) A (.call (.builtin "itertools.combinations.__new__") ⟨[.type tC, .ref ra, .int k tk], []⟩) (wants Q₁ E) s := by
  refine codeAny_of_tree ?_
  show wpAny _ A.in1 (do checkBuiltinCall "itertools.combinations.__new__" ⟨[.type tC, .ref ra, .int k tk], []⟩; again (.builtin "itertools.combinations.__new__" ⟨[.type tC, .ref ra, .int k tk], []⟩)) _ _ s
  refine wpAny_bind (wpAny_of_eq (nwCall _ _) (wpAny_pure ⟨plainId_quiet plNew _, codeAny_builtin enNew ?_⟩))
  rw [Around.under_plainId plNew _]
  have hsub : isSubtype (.type tC) (.type ("itertools." ++ "combinations")) = pure true := by
    have e : "itertools." ++ "combinations" = tC := by decide +kernel
    rw [e]
    exact subC
  have hnd := ndC
  have hh1 : A.in1.handled = none := hh
  have hsmall : Builtin.Range.small 0 n 1 = true := small_one (by omega) (by omega) (by omega) (by omega)
  have hsz : Builtin.Range.rangeSize 0 n 1 = n := by have := rangeSize_nat 0 n; simpa using this
  wp_walk
  refine wpAny_ite_false ?_ ?_
  · have a : decide ((k : Int) < -2 ^ 63) = false := decide_eq_false (by omega)
    have b : decide ((k : Int) ≥ 2 ^ 63) = false := decide_eq_false (by omega)
    rw [a, b]
    rfl
  refine wpAny_pure ?_
  refine wpAny_bind (collect_range (A := A.in1) hh1 hr hsmall hsz (by omega) fun g tk acc hg hacc => ?_)
  refine wpAny_ite_false (decide_eq_false (by omega)) ?_
  show wpAny _ _ (if Builtin.Itertools.itTooMany (k : Int) = true then _ else _) _ _ _
  refine wpAny_ite_false (decide_eq_false (show ¬ decide ((k : Int) > 2 ^ 20) = true by rw [decide_eq_false (by have : (2 : Int) ^ 20 = 1048576 := rfl; omega)]; exact Bool.false_ne_true)) ?_
  show wpAny _ _ (newTuple acc.toList >>= _) _ _ _
  have hal : acc.toList.length = n := by rw [Array.length_toList]; exact hacc.1
  refine wpAny_bind (wpAny_newTuple ?_ (by rw [hal, sizeLine_eq]; omega))
  refine wpAny_pure ?_
  show wpAny _ _ (Builtin.Itertools.itNewRecord (.type tC) _ >>= _) _ _ _
  refine wpAny_bind ?_
  unfold Builtin.Itertools.itNewRecord
  rw [hnd]
  refine wpAny_ite_true rfl ?_
  have e0 : ((k : Int)).toNat = k := Int.toNat_natCast k
  have e : (if ((k : Int)).toNat > acc.toList.length then (2 : Int) else 0) = 0 := by rw [if_neg (by omega)]
  refine wpAny_newObj_type ?_ ?_
  · refine wpAny_pure ?_
    have q := h g tk acc hg hacc
    rw [e, e0]
    have ea : acc.toList.toArray = acc := by simp
    rw [ea]
    show Q₁ _ _
    have ez : (g.push { cls := .type "tuple", data := .seq acc }).objs.size = g.objs.size + 1 := Heap.size_push _ _
    rw [ez]
    exact q
  · show (List.toArray _).size ≤ _
    rw [List.size_toArray, List.length_append, List.length_map, List.length_range, sizeLine_eq, e0]
    show 3 + k ≤ _
    omega
end
end CB
namespace CB
open PySem PySem.Spec PyProof.Rows L2
section
variable {prog : Program} {w : World} {A : Around} {E : Value → Shared → Prop} {s : Shared} {ra : Addr} {n k : Nat} {t u v tk : Tok}
theorem callC {Q : Value → Shared → Prop} (hh : A.handled = none) (hr : IsRange s.heap ra 0 n 1 t u v) (hn : n ≤ 1000) (hk : k ≤ n)
    (h : ∀ (g : Heap) (tk : Nat) (acc : Array Value), (∀ b o, s.heap.get? b = some o → g.get? b = some o) → ItemsOf (fun i v => ∃ t, v = .int (0 + i * 1) t) acc n →
      Q (.ref (g.objs.size + 1)) { s with heap := (g.push { cls := .type "tuple", data := .seq acc }).push { cls := .type tC, data := .fields (recV g.objs.size 0 .none (List.range k)).toArray }, toks := tk }) :
    wpAny (model prog w) A (call (.type tC) [.ref ra, .int k tk]) Q E s := by
  refine callType_codes (Q₁ := fun obj s₁ => s₁.TypeIs obj tC ∧ Q obj s₁) calledC (tyCall _ _) F.entry_object_init
    (codeC (A := A.in1) hh hr hn hk fun g tk acc hg hacc => ⟨?_, h g tk acc hg hacc⟩) fun obj s₁ h₁ => ?_
  · have ez : (g.push { cls := .type "tuple", data := .seq acc }).objs.size = g.objs.size + 1 := Heap.size_push _ _
    rw [← ez]
    exact ⟨_, Heap.get?_push_size _ rfl, rfl⟩
  · exact ⟨h₁.1, F.args_object_init_3 obj _ _, object_init_meets calledC.init.lookup calledC.made (by decide) prog w A.in1 _ s₁ ⟨h₁.1, rfl, h₁.2⟩⟩
end
def iComb (ta tb : TE) : TI := fun σ H R => ta σ H fun x H1 => ∃ n : Nat, x = .int n ∧ n ≤ 1000 ∧ tb σ H1 fun y H2 => ∃ (r : Nat) (L : List (List Nat)), y = .int r ∧ r ≤ n ∧ Combs n r L ∧ R (ItC L) H2
section
variable {X : Cx} {a b tg : Expr} {ta tb : TE} {x : Str} {p pos pr posr : Pos}
theorem pi_comb (hc : X.calm = true) (hg : Gl X x) (hm : X.mg x = some (.type tC)) (hgr : Gl X "range") (hmr : X.mg "range" = none) (ha : PE X a ta) (hb : PE X b tb) (hdb : (x == ("__debug__" : Str)) = false := by decide)
    (n1 : starEach [Expr.Call (.Name "range" pr) [a] [] posr, b] X.env = (false, eval (Expr.Call (.Name "range" pr) [a] [] posr) X.env) :: starEach [b] X.env := by rfl) (n2 : starEach [b] X.env = (false, eval b X.env) :: starEach [] X.env := by rfl)
    (na : starEach [a] X.env = (false, eval a X.env) :: starEach [] X.env := by rfl) (hpl : (backTo pos (starEach [b] X.env)).any (·.1) = false := by rfl) :
    PI X tg (.Call (.Name x p) [.Call (.Name "range" pr) [a] [] posr, b] [] pos) (iComb ta tb) := by
  refine ⟨fun pins s σ H R I h => ?_⟩
  refine Call_ (ld_glob I hg hm (PyProof.Rows.callWith_type1 (args_cons (Call_ (ld_blt I hgr hmr boot_range (PyProof.Rows.callWith_type1 (one_arg ha I h (fun v s2 y H2 I2 r q => ?_) na) na))) n1) n1 hpl) hdb)
  obtain ⟨n, rfl, hn, q⟩ := q
  obtain ⟨tn, rfl⟩ := r
  refine call_range_1 ?_
  have le0 := Nat.le_refl s2.heap.objs.size
  have I3 : Inv X pins σ H2 { s2 with heap := s2.heap.push { cls := .type "range", data := .fields #[.int 0 s2.toks, .int n tn, .int 1 (s2.toks + 1)] }, toks := s2.toks + 1 + 1 } := I2.kept fun b u e => Heap.get?_push_of_some _ e
  have I4 : Inv X ((s2.heap.objs.size, ⟨.type "range", none, .fields #[.int 0 s2.toks, .int n tn, .int 1 (s2.toks + 1)], #[]⟩) :: pins) σ H2 { s2 with heap := s2.heap.push { cls := .type "range", data := .fields #[.int 0 s2.toks, .int n tn, .int 1 (s2.toks + 1)] }, toks := s2.toks + 1 + 1 } := by
    refine I3.pins_of fun p hp => ?_
    rcases List.mem_cons.mp hp with rfl | hp
    · exact ⟨Heap.get?_push_size _ rfl, I2.hok.fresh le0, Nat.ne_of_gt I2.lt, I2.nofs le0, fun v e => nomatch e⟩
    · exact I3.pin p (List.mem_append_right _ hp)
  refine one_arg hb I4 q (fun u s4 y H4 I5 r5 q5 => ?_) n2
  obtain ⟨r, L, rfl, hr, hL, q⟩ := q5
  obtain ⟨tk, rfl⟩ := r5
  have hr0 : IsRange s4.heap s2.heap.objs.size 0 n 1 s2.toks tn (s2.toks + 1) := (I5.pin _ (List.mem_append_right _ List.mem_cons_self)).1
  refine callC (I5.ok.hd hc) hr0 hn hr fun g tk acc hg hacc => ?_
  have I6 : Inv X pins σ H4 s4 := I5.pins_of fun p hp => I5.pin p (List.mem_append_right _ (List.mem_cons_of_mem _ hp))
  have I7 : Inv X pins σ H4 { s4 with heap := g, toks := tk } := I6.kept hg
  have I8 : Inv X pins σ H4 { s4 with heap := (g.push { cls := .type "tuple", data := .seq acc }).push { cls := .type tC, data := .fields (recV g.objs.size 0 .none (List.range r)).toArray }, toks := tk } :=
    I6.kept fun b u e => Heap.get?_push_of_some _ (Heap.get?_push_of_some _ (hg b u e))
  have ez : (g.push { cls := .type "tuple", data := .seq acc }).objs.size = g.objs.size + 1 := Heap.size_push _ _
  have hp : ((g.push { cls := .type "tuple", data := .seq acc }).push { cls := .type tC, data := .fields (recV g.objs.size 0 .none (List.range r)).toArray }).IsTuple g.objs.size acc := ⟨_, Heap.get?_push_of_some _ (Heap.get?_push_size _ rfl), rfl, 0, rfl⟩
  have S : IsC ((g.push { cls := .type "tuple", data := .seq acc }).push { cls := .type tC, data := .fields (recV g.objs.size 0 .none (List.range r)).toArray }) (g.objs.size + 1) g.objs.size 0 .none (List.range r) := by
    unfold IsC
    rw [← ez]
    exact Heap.get?_push_size _ rfl
  refine iterC S ?_
  refine ⟨g.objs.size + 1, [g.objs.size + 1, g.objs.size], _, _, H4, rfl, I8, turnC hL hr (by omega) hacc, ⟨hp, 0, .none, _, S, .inl ⟨rfl, rfl, rfl⟩⟩, fun c hc => ?_, q⟩
  have le1 : g.objs.size ≤ c := by
    simp only [List.mem_cons, List.not_mem_nil, or_false] at hc
    rcases hc with rfl | rfl
    · exact Nat.le_succ _
    · exact Nat.le_refl _
  exact I7.fpOk le1 (I7.hok.fresh le1)
end
end CB
/-! ### systems by tears, in plain words -/
namespace Tr
/-- what row k still has open -/
def openR (U : List (List Nat)) (K : List Nat) (k : Nat) : List Nat := ((U[k]?).getD []).filter fun c => !decide (c ∈ K)
def oneR (U : List (List Nat)) (K : List Nat) (k : Nat) : Bool := (openR U K k).length == 1
def readyL (U : List (List Nat)) (K : List Nat) : List Nat := (List.range U.length).filter (oneR U K)
inductive Run (U : List (List Nat)) : List Nat → List (Nat × Nat) → Prop
  | nil {K : List Nat} : readyL U K = [] → Run U K []
  | cons {K r : List Nat} {k c : Nat} {P : List (Nat × Nat)} : readyL U K = k :: r → openR U K k = [c] → Run U (K ++ [c]) P → Run U K ((k, c) :: P)
def runF (U : List (List Nat)) : Nat → List Nat → List (Nat × Nat)
  | 0, _ => []
  | f + 1, K => match readyL U K with
    | [] => []
    | k :: _ => (k, (openR U K k).headD 0) :: runF U f (K ++ [(openR U K k).headD 0])
theorem openR_snoc (U : List (List Nat)) (K : List Nat) (c k : Nat) : openR U (K ++ [c]) k = (openR U K k).filter fun d => !decide (d = c) := by
  unfold openR
  rw [List.filter_filter]
  refine List.filter_congr fun d _ => ?_
  by_cases h : d ∈ K <;> by_cases g : d = c <;> simp [h, g]
theorem openR_mem {U : List (List Nat)} {K : List Nat} {k c : Nat} (h : c ∈ openR U K k) : c ∉ K ∧ ∃ r, U[k]? = some r ∧ c ∈ r := by
  unfold openR at h
  rw [List.mem_filter] at h
  obtain ⟨h1, h2⟩ := h
  refine ⟨by simpa using h2, ?_⟩
  cases e : U[k]? with
  | none => rw [e] at h1; cases h1
  | some r => rw [e] at h1; exact ⟨r, rfl, h1⟩
theorem ready_mem {U : List (List Nat)} {K r : List Nat} {k : Nat} (h : readyL U K = k :: r) : k < U.length ∧ ∃ c, openR U K k = [c] := by
  have m : k ∈ readyL U K := by rw [h]; exact List.mem_cons_self
  unfold readyL at m
  rw [List.mem_filter, List.mem_range] at m
  refine ⟨m.1, ?_⟩
  have := m.2
  unfold oneR at this
  simp only [beq_iff_eq] at this
  exact List.length_eq_one_iff.mp this
/-- all columns below n -/
def Below (n : Nat) (U : List (List Nat)) : Prop := ∀ r ∈ U, ∀ c ∈ r, c < n
def left (n : Nat) (K : List Nat) : Nat := ((List.range n).filter fun c => !decide (c ∈ K)).length
theorem filter_lt {α : Type} {p q : α → Bool} : ∀ {xs : List α} {x : α}, (∀ y, q y = true → p y = true) → x ∈ xs → p x = true → q x = false → (xs.filter q).length < (xs.filter p).length
  | y :: ys, x, hs, hm, hp, hq => by
    have le : (ys.filter q).length ≤ (ys.filter p).length := by
      clear hm
      induction ys with
      | nil => exact Nat.le_refl _
      | cons z zs ih =>
        by_cases a : q z = true
        · rw [List.filter_cons_of_pos a, List.filter_cons_of_pos (hs z a)]
          exact Nat.succ_le_succ ih
        · rw [List.filter_cons_of_neg a]
          by_cases b : p z = true
          · rw [List.filter_cons_of_pos b]
            exact Nat.le_succ_of_le ih
          · rw [List.filter_cons_of_neg b]
            exact ih
    rcases List.mem_cons.mp hm with rfl | hm
    · rw [List.filter_cons_of_pos hp, List.filter_cons_of_neg (by rw [hq]; exact Bool.false_ne_true)]
      exact Nat.lt_succ_of_le le
    · have ih := filter_lt hs hm hp hq
      by_cases a : q y = true
      · rw [List.filter_cons_of_pos a, List.filter_cons_of_pos (hs y a)]
        exact Nat.succ_lt_succ ih
      · rw [List.filter_cons_of_neg a]
        by_cases b : p y = true
        · rw [List.filter_cons_of_pos b]
          exact Nat.lt_succ_of_lt ih
        · rw [List.filter_cons_of_neg b]
          exact ih
theorem left_snoc {n c : Nat} {K : List Nat} (hc : c < n) (hn : c ∉ K) : left n (K ++ [c]) < left n K := by
  unfold left
  refine filter_lt (x := c) (fun y h => ?_) (List.mem_range.mpr hc) (by simpa using hn) (by simp)
  simp only [Bool.not_eq_true', decide_eq_false_iff_not, List.mem_append, List.mem_singleton, not_or] at h ⊢
  exact h.1
theorem left_le (n : Nat) (K : List Nat) : left n K ≤ n := by
  unfold left
  exact Nat.le_trans (List.length_filter_le _ _) (by rw [List.length_range]; exact Nat.le_refl _)
theorem runF_ok {n : Nat} {U : List (List Nat)} (hU : Below n U) : ∀ {f : Nat} {K : List Nat}, left n K ≤ f → Run U K (runF U f K)
  | f, K, h => by
    cases e : readyL U K with
    | nil => cases f with
      | zero => exact .nil e
      | succ f => rw [runF, e]; exact .nil e
    | cons k r =>
      obtain ⟨hk, c, ho⟩ := ready_mem e
      obtain ⟨hn, row, hr, hc⟩ := openR_mem (U := U) (K := K) (k := k) (c := c) (by rw [ho]; exact List.mem_cons_self)
      have lt := left_snoc (hU row (List.mem_of_getElem? hr) c hc) hn
      cases f with
      | zero => omega
      | succ f =>
        rw [runF, e]
        simp only [ho, List.headD_cons]
        exact .cons e ho (runF_ok hU (by omega))
theorem Run.det {U : List (List Nat)} {K : List Nat} {P : List (Nat × Nat)} (h : Run U K P) : ∀ {Q : List (Nat × Nat)}, Run U K Q → P = Q := by
  induction h with
  | nil e => intro Q q; cases q with
    | nil => rfl
    | cons e2 _ _ => rw [e] at e2; cases e2
  | cons e o _ ih => intro Q q; cases q with
    | nil e2 => rw [e] at e2; cases e2
    | cons e2 o2 r2 =>
      rw [e] at e2
      obtain ⟨rfl, rfl⟩ := List.cons.inj e2
      rw [o] at o2
      obtain ⟨rfl, _⟩ := List.cons.inj o2
      rw [ih r2]
theorem Run.cols {n : Nat} {U : List (List Nat)} (hU : Below n U) {K : List Nat} {P : List (Nat × Nat)} (h : Run U K P) : (∀ c ∈ P.map Prod.snd, c < n ∧ c ∉ K) ∧ (P.map Prod.snd).Nodup := by
  induction h with
  | nil _ => exact ⟨fun c hc => (by cases hc), List.nodup_nil⟩
  | @cons K r k c P e o _ ih =>
    obtain ⟨hn, row, hr, hc⟩ := openR_mem (U := U) (K := K) (k := k) (c := c) (by rw [o]; exact List.mem_cons_self)
    refine ⟨fun d hd => ?_, ?_⟩
    · rw [List.map_cons] at hd
      rcases List.mem_cons.mp hd with rfl | hd
      · exact ⟨hU row (List.mem_of_getElem? hr) _ hc, hn⟩
      · obtain ⟨h1, h2⟩ := ih.1 d hd
        exact ⟨h1, fun q => h2 (List.mem_append_left _ q)⟩
    · rw [List.map_cons, List.nodup_cons]
      exact ⟨fun q => (ih.1 c q).2 (by simp), ih.2⟩
theorem nodup_len : ∀ {n : Nat} {xs : List Nat}, xs.Nodup → (∀ x ∈ xs, x < n) → xs.length ≤ n
  | 0, [], _, _ => Nat.le_refl _
  | 0, x :: _, _, h => absurd (h x List.mem_cons_self) (Nat.not_lt_zero _)
  | n + 1, xs, hn, hl => by
    have h1 : (xs.erase n).Nodup := hn.erase n
    have h2 : ∀ x ∈ xs.erase n, x < n := fun x hx => by
      have := hl x (List.mem_of_mem_erase hx)
      have ne : x ≠ n := fun e => by
        subst e
        exact (List.Nodup.not_mem_erase hn) hx
      omega
    have h3 := nodup_len h1 h2
    have h4 : xs.length ≤ (xs.erase n).length + 1 := by
      rw [List.length_erase]
      split <;> omega
    omega
theorem Run.fits {n : Nat} {U : List (List Nat)} (hU : Below n U) {K : List Nat} {P : List (Nat × Nat)} (h : Run U K P) (hk : K.Nodup) (hl : ∀ c ∈ K, c < n) : K.length + P.length ≤ n := by
  obtain ⟨h1, h2⟩ := h.cols hU
  have := nodup_len (n := n) (xs := K ++ P.map Prod.snd) ?_ ?_
  · rw [List.length_append, List.length_map] at this
    exact this
  · rw [List.nodup_append]
    exact ⟨hk, h2, fun a ha b hb e => (h1 b hb).2 (e ▸ ha)⟩
  · intro x hx
    rcases List.mem_append.mp hx with hx | hx
    · exact hl x hx
    · exact (h1 x hx).1
theorem first_of {p : Nat → Bool} : ∀ {n i : Nat}, (∀ k, k < i → p k = false) → i < n → p i = true → ∃ r, (List.range n).filter p = i :: r
  | n, i, h, hi, hp => by
    have e : List.range n = List.range i ++ (List.range (n - i)).map (i + ·) := by
      rw [← List.range_add]
      congr 1
      omega
    have e0 : (List.range i).filter p = [] := by
      rw [List.filter_eq_nil_iff]
      intro a ha
      rw [h a (List.mem_range.mp ha)]
      exact Bool.false_ne_true
    obtain ⟨m, em⟩ : ∃ m, n - i = m + 1 := ⟨n - i - 1, by omega⟩
    rw [e, List.filter_append, e0, List.nil_append, em, List.range_succ_eq_map, List.map_cons, List.filter_cons_of_pos (by simpa using hp)]
    exact ⟨_, rfl⟩
theorem none_of {p : Nat → Bool} {n : Nat} (h : ∀ k, k < n → p k = false) : (List.range n).filter p = [] := by
  rw [List.filter_eq_nil_iff]
  intro a ha
  rw [h a (List.mem_range.mp ha)]
  exact Bool.false_ne_true
/-! ### the choices of tears -/
def low (one : List Nat) : Nat := match one.getLast? with | none => 0 | some c => c + 1
def lists (n : Nat) : Nat → List (List Nat)
  | 0 => [[]]
  | s + 1 => (lists n s).flatMap fun one => (List.range (n - low one)).map fun j => one ++ [low one + j]
def goodB (U : List (List Nat)) (n : Nat) (t : List Nat) : Bool := (runF U n t).length + t.length == n
def bestL (U : List (List Nat)) (n : Nat) : List Nat := (((List.range (n + 1)).flatMap (lists n)).find? (goodB U n)).getD []
theorem lists_all {n : Nat} (h : n ≤ 6) : lists n n = [List.range n] := by
  have : ∀ n ∈ List.range 7, lists n n = [List.range n] := by decide +kernel
  exact this n (List.mem_range.mpr (by omega))
theorem good_all {n : Nat} {U : List (List Nat)} (hU : Below n U) : goodB U n (List.range n) = true := by
  have r := runF_ok hU (f := n) (K := List.range n) (left_le _ _)
  have f := r.fits hU List.nodup_range (fun c hc => List.mem_range.mp hc)
  unfold goodB
  rw [List.length_range] at f ⊢
  rw [beq_iff_eq]
  omega
theorem best_own {n : Nat} {U : List (List Nat)} (hU : Below n U) (h : n ≤ 6) : bestL U n = (((List.range n).flatMap (lists n)).find? (goodB U n)).getD (List.range n) := by
  unfold bestL
  rw [List.range_succ, List.flatMap_append, List.find?_append, List.flatMap_singleton, lists_all h]
  cases ((List.range n).flatMap (lists n)).find? (goodB U n) with
  | some t => rfl
  | none => simp [good_all hU]
end Tr
/-! ### the law's own helpers: the stream -/
def spStream (K : PySem.W.Frag) : Sp := fun vs H Q _ => ∃ (a : Addr) (ns : List Int), vs = [.ref a] ∧ SqL K H a (ns.map V.int) ∧ ns.length ≤ 63 ∧ ∀ s H', Same H H' → Strm H' s → Q (.ref s) H'
def spDraw : Sp := fun vs H Q _ => ∃ (s : Addr) (n : Int), vs = [.ref s, .int n] ∧ Strm H s ∧ 0 < n ∧ n < 18446744073709551616 ∧ ∀ v, 0 ≤ v → v < n → Q (.int v) H
section
variable {P : Program} {w : World} {K : PySem.W.Frag} {mg : Str → Option Value} {base : Heap}
theorem small31 {i : Int} (h0 : 0 ≤ i) (h : i < 2147483648) : i.natAbs < 2 ^ 31 := by omega
theorem mulW31 {i j : Int} (h0 : 0 ≤ i) (h : i < 2147483648) (h2 : 0 ≤ j) (h3 : j < 2147483648) : CMulW i j := wide_mul (a := 31) (b := 31) (by omega) (by omega) (by decide) (by decide) (by decide)
theorem item_int {ns : List Int} {i : Nat} {x : V} (h : (ns.map V.int)[i]? = some x) : ∃ z, ns[i]? = some z ∧ x = .int z := by
  rw [List.getElem?_map] at h
  cases e : ns[i]? with
  | none => rw [e] at h; cases h
  | some z => rw [e] at h; exact ⟨z, rfl, (Option.some.inj h).symm⟩
theorem atI_ints {ns : List Int} {j : Int} (h0 : 0 ≤ j) (h : j < ((ns.map V.int).length : Int)) : ∃ z, atI (ns.map V.int) j = some (.int z) := by
  rw [List.length_map] at h
  have hk : j.toNat < ns.length := by omega
  have e : j = ((j.toNat : Nat) : Int) := by omega
  refine ⟨ns[j.toNat], ?_⟩
  have q : atI (ns.map V.int) ((j.toNat : Nat) : Int) = some (.int ns[j.toNat]) := atI_nat (by rw [List.getElem?_map, List.getElem?_eq_getElem hk] <;> rfl)
  rw [← e] at q
  exact q
theorem ok__law_draw (T : Top w K mg) : FnOk P w K mg base CX0 1 (He.ga K ("_law_draw" : Str)) (fdOf K d__law_draw) ["stream", "many"] spDraw := by
  refine (T.f__law_draw).ok sc__law_draw (fun vs H Q E h => ?_) (fun cdv A outer s H vs Q E hr h => ?_)
  · obtain ⟨a, n, rfl, _⟩ := h
    rfl
  · obtain ⟨s0, n, rfl, ⟨l, ns, hs, hl, h63⟩, h0, h1, k⟩ := h
    refine ⟨_, PSs.nox (pss_open s0 l (C8.pss_cut (ps_if (PW.pt (pw_and (pt_cmpR op_eq (pe_ix (ix_listK (K := K) rfl) (pv 0) pe_int (fun _ _ => rfl)) pe_int (nomark _)) (pw_and1 (pt_cmpR op_lt (pe_ix (ix_listK (K := K) rfl) (pv 0) pe_int (fun _ _ => rfl)) (pe_callB (call_lenK (K := K) rfl) (by rfl) T.n_len PySem.boot_len (pa_cons (pe_ix (ix_listK (K := K) rfl) (pv 0) pe_int (fun _ _ => rfl)) pa_nil)) (nomark _)))))
    (pss_cons (ps_asg (pe_callB call_abs (by rfl) T.n_abs (by decide +kernel) (pa_cons (pe_callTy call_int1 (by rfl) T.n_int (by decide +kernel) (pa_cons (pe_ix (ix_listK (K := K) rfl) (pe_ix (ix_listK (K := K) rfl) (pv 0) pe_int (fun _ _ => rfl)) (pe_ix (ix_listK (K := K) rfl) (pv 0) pe_int (fun _ _ => rfl)) (fun _ _ => rfl)) pa_nil)) pa_nil)) (pg_sub (pv 0) pe_int set_list))
    (pss_one (ps_asg (pe_op op_add (pe_ix (ix_listK (K := K) rfl) (pv 0) pe_int (fun _ _ => rfl)) pe_int) (pg_sub (pv 0) pe_int set_list))))
    pss_nil)
    (pss_cons (ps_if (pt_cmpR op_eq (pe_ix (ix_listK (K := K) rfl) (pv 0) pe_int (fun _ _ => rfl)) pe_int (nomark _))
    (pss_cons (ps_asg (pe_op op_mod (pe_callTy call_int1 (by rfl) T.n_int (by decide +kernel) (pa_cons (pe_op op_add (pe_op op_mulW (pe_ix (ix_listK (K := K) rfl) (pv 0) pe_int (fun _ _ => rfl)) pe_int) pe_int) pa_nil)) pe_int) (pg_sub (pv 0) pe_int set_list))
    (pss_one (ps_ret (pe_op op_mod (pe_callTy call_int1 (by rfl) T.n_int (by decide +kernel) (pa_cons (pe_op op_fdivG (pe_ix (ix_listK (K := K) rfl) (pv 0) pe_int (fun _ _ => rfl)) pe_int) pa_nil)) (pv 1)))))
    pss_nil)
    (pss_cons (ps_set (i := 2) sc__law_draw.nd rfl (Or.inl rfl) (pe_op op_mod (pe_callTy call_int1 (by rfl) T.n_int (by decide +kernel) (pa_cons (pe_ix (ix_listK (K := K) rfl) (pv 0) pe_int (fun _ _ => rfl)) pa_nil)) (pv 1)))
    (pss_cons (ps_asg (pe_op op_fdivG (pe_ix (ix_listK (K := K) rfl) (pv 0) pe_int (fun _ _ => rfl)) (pv 1)) (pg_sub (pv 0) pe_int set_list))
    (pss_one (ps_ret (pv 2)))))))), ?_⟩
    refine r_open hs (fun i j m hj => ?_)
    have hls : l ≠ s0 := ne_of hl hs (by intro z; cases z)
    refine r_cut (fun σ H' => σ = [some (.ref s0), some (.int n), none] ∧ ∃ i j, okS j m ∧ H' = upd H s0 (.lst (cellsV l i j m))) ?_ ?_
    · have hl' : ∀ o, SqL K (upd H s0 o) l (ns.map V.int) := fun o => SqL.of (by rw [upd_ne hls]; exact hl)
      walk_at "go"
      refine ite_d (fun c1 => ?_) (fun c1 => ?_)
      · walk_at "go"
        refine ⟨_, _, rfl, .inl (hl' _), ?_⟩
        walk_at "go"
        refine ite_d (fun c2 => ?_) (fun c2 => ?_)
        · obtain ⟨z, hz⟩ := atI_ints hj.1 c2
          walk_at "go"
          refine r_ixL (hl' _) hz ?_
          walk_at "go"
          exact ⟨rfl, _, j + 1, ⟨by have := hj.1; omega, hj.2⟩, by rw [upd_upd, upd_upd] <;> rfl⟩
        · walk_at "go"
          exact ⟨rfl, i, j, hj, rfl⟩
      · walk_at "go"
        exact ⟨rfl, i, j, hj, rfl⟩
    · rintro σ H' ⟨rfl, i, j, hj, rfl⟩
      walk_at "go"
      refine ite_d (fun c1 => ?_) (fun c1 => ?_)
      · walk_at "go"
        refine ⟨mulW31 hj.2.1 hj.2.2 (by decide) (by decide), ?_⟩
        walk_at "go"
        refine ⟨cdivG (b := 64) (by omega) (by omega) (by decide) (by decide), ?_⟩
        walk_at "go"
        refine ⟨i, j, (m * 48271 + 11) % 2147483647, upd_same, ⟨hj.1, by omega, by omega⟩, ?_⟩
        rw [upd_back2 hs]
        exact k _ (Int.emod_nonneg _ (by omega)) (Int.emod_lt_of_pos _ h0)
      · walk_at "go"
        refine ⟨cdivG (b := 64) (by omega) (by omega) (by decide) (by decide), ?_⟩
        walk_at "go"
        refine ⟨i.fdiv n, j, m, upd_same, hj, ?_⟩
        rw [upd_back2 hs]
        exact k _ (Int.emod_nonneg _ (by omega)) (Int.emod_lt_of_pos _ h0)
/-- a draw: any number below -/
theorem draw_at {s : Addr} {n : Int} {H : Hp} {Q : VK} {E : XK} (hS : Strm H s) (h0 : 0 < n) (h1 : n < 18446744073709551616) (k : ∀ v, 0 ≤ v → v < n → Q (.int v) H) : spDraw [.ref s, .int n] H Q E := ⟨s, n, rfl, hS, h0, h1, k⟩
theorem ok__law_stream (T : Top w K mg) : FnOk P w K mg base CX0 1 (He.ga K ("_law_stream" : Str)) (fdOf K d__law_stream) ["script"] (spStream K) := by
  refine (T.f__law_stream).ok sc__law_stream (fun vs H Q E h => ?_) (fun cdv A outer s H vs Q E hr h => ?_)
  · obtain ⟨a, n, rfl, _⟩ := h
    rfl
  · obtain ⟨a, ns, rfl, hS, h63, k⟩ := h
    refine ⟨_, PSs.nox (pss_shut (pss_cons (ps_set (i := 1) sc__law_stream.nd rfl (Or.inl rfl) pe_int)
    (pss_cons (ps_for PassesOwn.never rfl (pi_listK (K := K) rfl (pv 0)) (pg_name (i := 2) sc__law_stream.nd rfl (Or.inl rfl))
    (pss_one (ps_set (i := 1) sc__law_stream.nd rfl (Or.inl rfl) (pe_op op_mod (pe_callTy call_int1 (by rfl) T.n_int (by decide +kernel) (pa_cons (pe_op op_add (pe_op op_add (pe_op op_mulW (pv 1) pe_int) (pe_op op_mod (pe_callTy call_int1 (by rfl) T.n_int (by decide +kernel) (pa_cons (pv 2) pa_nil)) pe_int)) pe_int) pa_nil)) pe_int))))
    (pss_one (ps_ret (pe_lst (pa_cons (pe_callTy (call_listK (K := K) rfl) (by rfl) T.n_list (by decide +kernel) (pa_cons (pv 0) pa_nil)) (pa_cons pe_int (pa_cons pe_int (pa_cons (pv 1) pa_nil)))))))))), ?_⟩
    refine r_shut ?_
    walk_at "go"
    refine ⟨⟨_, hS⟩, for_lst (xs := ns.map V.int) (fun i σ H' => H' = H ∧ ∃ (m : Int) (v : Option V), σ = [some (.ref a), some (.int m), v] ∧ 0 ≤ m ∧ m < 2147483648) ⟨rfl, 17, none, rfl, by omega, by omega⟩ (fun i σ H' _ h => by rw [h.1]; exact hS) ?_ ?_⟩
    · rintro i x σ H' hx ⟨rfl, m, v, rfl, h0, h1⟩
      obtain ⟨z, hz, rfl⟩ := item_int hx
      walk_at "go"
      refine ⟨mulW31 h0 h1 (by decide) (by decide), ?_⟩
      walk_at "go"
      exact ⟨rfl, _, _, rfl, Int.emod_nonneg _ (by omega), by show _ % (2147483647 : Int) < _; omega⟩
    · rintro σ H' ⟨rfl, m, v, rfl, h0, h1⟩
      walk_at "go"
      refine ⟨_, _, rfl, .inl hS, fun l hl => ?_⟩
      walk_at "go"
      refine ⟨by show 4 ≤ sizeLine; decide, fun p hp => ?_⟩
      have hlp : l ≠ p := ne_of_none upd_same hp
      have s1 : Same H' (upd H' l (.lst (ns.map V.int))) := same_new hl
      have hp0 : H' p = none := s1.free hp
      refine ⟨p, l, 0, 0, m, rfl, upd_same, ⟨by omega, h0, h1⟩, k p _ (fun b o e => ?_) ⟨l, ns, upd_same, by rw [upd_ne hlp, upd_ne hlp, upd_same], h63⟩⟩
      rw [upd_ne (ne_of_none e hp0), upd_ne (ne_of_none e hp0)]
      exact s1 b o e
end
/-! ### the law's pair in lowest terms -/
def gcdI (n d : Int) : Int := ((Nat.gcd n.natAbs d.natAbs : Nat) : Int)
def sgc (n d : Int) : Int := if d < 0 then -gcdI n d else gcdI n d
def pn (n d : Int) : Int := n.fdiv (sgc n d)
def pd (n d : Int) : Int := d.fdiv (sgc n d)
theorem gcdI_pos {n d : Int} (h : d ≠ 0) : 0 < gcdI n d := by
  have : 0 < Nat.gcd n.natAbs d.natAbs := Nat.gcd_pos_of_pos_right _ (Int.natAbs_pos.mpr h)
  unfold gcdI
  omega
theorem sgc_ne {n d : Int} (h : d ≠ 0) : sgc n d ≠ 0 := by
  have := gcdI_pos (n := n) h
  unfold sgc
  split <;> omega
theorem sgc_abs {n d : Int} (h : d ≠ 0) : (sgc n d).natAbs ≤ d.natAbs := by
  have h1 : Nat.gcd n.natAbs d.natAbs ≤ d.natAbs := Nat.gcd_le_right _ (Int.natAbs_pos.mpr h)
  unfold sgc gcdI
  split <;> omega
/-! ### lowest terms -/
structure Low (n d : Int) : Prop where
  pos : 0 < d
  cop : Nat.gcd n.natAbs d.natAbs = 1
theorem sgc_nat (n d : Int) : (sgc n d).natAbs = Nat.gcd n.natAbs d.natAbs := by
  unfold sgc gcdI
  split
  · rw [Int.natAbs_neg, Int.natAbs_natCast]
  · rw [Int.natAbs_natCast]
theorem sgc_dvd_n (n d : Int) : sgc n d ∣ n := Int.natAbs_dvd_natAbs.mp (by rw [sgc_nat]; exact Nat.gcd_dvd_left _ _)
theorem sgc_dvd_d (n d : Int) : sgc n d ∣ d := Int.natAbs_dvd_natAbs.mp (by rw [sgc_nat]; exact Nat.gcd_dvd_right _ _)
theorem pn_mul (n d : Int) : pn n d * sgc n d = n := Int.fdiv_mul_cancel (sgc_dvd_n n d)
theorem pd_mul (n d : Int) : pd n d * sgc n d = d := Int.fdiv_mul_cancel (sgc_dvd_d n d)
theorem low_of {n d : Int} (h : d ≠ 0) : Low (pn n d) (pd n d) := by
  have hs := sgc_ne (n := n) h
  have e1 := pn_mul n d
  have e2 := pd_mul n d
  have g0 : 0 < (sgc n d).natAbs := Int.natAbs_pos.mpr hs
  refine ⟨?_, ?_⟩
  · rcases Int.lt_trichotomy d 0 with c | c | c
    · have s0 : sgc n d < 0 := by
        have := gcdI_pos (n := n) h
        unfold sgc
        rw [if_pos c]
        omega
      rcases Int.lt_or_le 0 (pd n d) with p | p
      · exact p
      · have := Int.mul_nonneg_of_nonpos_of_nonpos p (Int.le_of_lt s0)
        rw [e2] at this
        omega
    · exact absurd c h
    · have s0 : 0 < sgc n d := by
        have := gcdI_pos (n := n) h
        unfold sgc
        rw [if_neg (by omega)]
        exact this
      rcases Int.lt_or_le 0 (pd n d) with p | p
      · exact p
      · have := Int.mul_nonpos_of_nonpos_of_nonneg p (Int.le_of_lt s0)
        rw [e2] at this
        omega
  · have a1 : n.natAbs = (pn n d).natAbs * (sgc n d).natAbs := by rw [← Int.natAbs_mul, e1]
    have a2 : d.natAbs = (pd n d).natAbs * (sgc n d).natAbs := by rw [← Int.natAbs_mul, e2]
    have a3 := sgc_nat n d
    have a4 : Nat.gcd ((pn n d).natAbs * (sgc n d).natAbs) ((pd n d).natAbs * (sgc n d).natAbs) = (sgc n d).natAbs := by
      rw [← a1, ← a2, a3]
    rw [Nat.gcd_mul_right] at a4
    exact Nat.eq_of_mul_eq_mul_right g0 (by rw [a4, Nat.one_mul])
theorem sgc_low {n d : Int} (h : Low n d) : sgc n d = 1 := by
  have hp := h.pos
  unfold sgc gcdI
  rw [if_neg (by omega), h.cop] <;> rfl
theorem pn_low {n d : Int} (h : Low n d) : pn n d = n := by unfold pn; rw [sgc_low h, Int.fdiv_one]
theorem pd_low {n d : Int} (h : Low n d) : pd n d = d := by unfold pd; rw [sgc_low h, Int.fdiv_one]
theorem pn_le {n d : Int} (h : d ≠ 0) : (pn n d).natAbs ≤ n.natAbs := by
  have a1 : n.natAbs = (pn n d).natAbs * (sgc n d).natAbs := by rw [← Int.natAbs_mul, pn_mul]
  have g0 : 0 < (sgc n d).natAbs := Int.natAbs_pos.mpr (sgc_ne h)
  rw [a1]
  exact Nat.le_mul_of_pos_right _ g0
theorem pd_le {n d : Int} (h : d ≠ 0) : (pd n d).natAbs ≤ d.natAbs := by
  have a1 : d.natAbs = (pd n d).natAbs * (sgc n d).natAbs := by rw [← Int.natAbs_mul, pd_mul]
  have g0 : 0 < (sgc n d).natAbs := Int.natAbs_pos.mpr (sgc_ne h)
  rw [a1]
  exact Nat.le_mul_of_pos_right _ g0
theorem Low.neg {n d : Int} (h : Low n d) : Low (-n) d := ⟨h.pos, by rw [Int.natAbs_neg]; exact h.cop⟩
section
variable {P : Program} {w : World} {K : PySem.W.Frag} {mg : Str → Option Value} {base : Heap}
/-! ### Ratios -/
def rfl2 (n d : Int) : List (Str × V) := [("top", .int n), ("bottom", .int d)]
theorem r2_top (n d : Int) : (rfl2 n d).lookup ("top" : Str) = some (.int n) := rfl
theorem r2_bot (n d : Int) : (rfl2 n d).lookup ("bottom" : Str) = some (.int d) := by
  show (match (("bottom" : Str) == "top") with | true => some (V.int n) | false => List.lookup ("bottom" : Str) [("bottom", V.int d)]) = some (.int d)
  rw [show ((("bottom" : Str) == "top") = false) from by decide +kernel]
  rfl
theorem r2_put (n d : Int) : putF "bottom" (.int d) (putF "top" (.int n) []) = rfl2 n d := by
  show (if ("top" : Str) = "bottom" then [(("top" : Str), V.int d)] else (("top" : Str), V.int n) :: putF "bottom" (V.int d) []) = rfl2 n d
  rw [if_neg (show ¬ (("top" : Str) = "bottom") from by decide +kernel)]
  rfl
def RatAt (K : PySem.W.Frag) (H : Hp) (x : Addr) (n d : Int) : Prop := ∃ dx, H x = some (.ins (He.ga K "Ratio") dx (rfl2 n d))
theorem RatAt.mono {H H' : Hp} {x : Addr} {n d : Int} (h : RatAt K H x n d) (e : Same H H') : RatAt K H' x n d := by
  obtain ⟨dx, h⟩ := h
  exact ⟨dx, e _ _ h⟩
def spInit (K : PySem.W.Frag) : Sp := fun vs H Q E => ∃ (x dx : Addr) (n d : Int), vs = [.ref x, .int n, .int d] ∧ H x = some (.ins (He.ga K "Ratio") dx []) ∧ (d ≠ 0 → Bits 8000 (sgc n d)) ∧ (d = 0 → E (.ref (He.ga K "ByZero")) none H) ∧
  (d ≠ 0 → Q .non (upd H x (.ins (He.ga K "Ratio") dx (rfl2 (pn n d) (pd n d)))))
theorem ok_Ratio___init__ (T : Top w K mg) : FnOk P w K mg base (L2.CX P w) 1 (He.ma K (He.ga K ("Ratio" : Str)) ("__init__" : Str)) (fdOf K d_Ratio___init__) ["self", "numerator", "denominator"] (spInit K) := by
  refine (T.f_Ratio___init__).ok sc_Ratio___init__ (fun vs H Q E h => ?_) (fun cdv A outer s H vs Q E hr h => ?_)
  · obtain ⟨x, dx, n, d, rfl, _⟩ := h
    rfl
  · obtain ⟨x, dx, n, d, rfl, hx, hb, k0, k1⟩ := h
    refine ⟨_, (pss_cons (ps_if (pt_cmpR op_eq (pv 2) pe_int (nomark _))
    (pss_one (ps_raise rfl (takes_of rfl rfl rfl rfl) (pmk_own PySem.F.excBase_ValueError T.exc_ByZero.1 T.g_ByZero T.exc_ByZero.2.1 (raises_own T.exc_ByZero.2.2.1 T.exc_ByZero.2.2.2) rfl)))
    pss_nil)
    (pss_cons (ps_set (i := 3) sc_Ratio___init__.nd rfl (Or.inl rfl) (pe_callBfun cr_gcd rfl T.gcdM (pa_cons (pv 1) (pa_cons (pv 2) pa_nil))))
    (C8.pss_cut (ps_if (pt_cmpR op_lt (pv 2) pe_int (nomark _))
    (pss_one (ps_set (i := 3) sc_Ratio___init__.nd rfl (Or.inl rfl) (pe_un un_neg (pv 3))))
    pss_nil)
    (pss_cons (ps_fldK (K := K) rfl (pv 0) (pe_op op_fdivG (pv 1) (pv 3)) rfl)
    (pss_one (ps_fldK (K := K) rfl (pv 0) (pe_op op_fdivG (pv 2) (pv 3)) rfl)))))), ?_⟩
    walk_at "go"
    refine ite_d (fun c => ?_) (fun c => ?_)
    · exact k0 (vint_inj c)
    · walk_at "go"
      have hd : d ≠ 0 := vint_ne c
      refine r_cut (fun σ H' => σ = [some (.ref x), some (.int n), some (.int d), some (.int (sgc n d))] ∧ H' = H) ?_ ?_
      · walk_at "go"
        refine ite_d (fun c => ?_) (fun c => ?_)
        · walk_at "go"
          refine ⟨?_, rfl⟩
          have e : sgc n d = -(((n.natAbs.gcd d.natAbs : Nat)) : Int) := by rw [sgc, if_pos c] <;> rfl
          rw [e] <;> rfl
        · walk_at "go"
          refine ⟨?_, rfl⟩
          have e : sgc n d = (((n.natAbs.gcd d.natAbs : Nat)) : Int) := by rw [sgc, if_neg c] <;> rfl
          rw [e] <;> rfl
      · rintro σ H' ⟨rfl, rfl⟩
        have cd : ∀ i, CDivG i (sgc n d) := fun i => Bits.divG (sgc_ne hd) (hb hd) (by decide)
        walk_at "go"
        refine ⟨cd _, ?_⟩
        walk_at "go"
        refine ⟨_, _, _, _, rfl, hx, T.cls_Ratio, T.na_Ratio_top, (by show 0 < 1000; decide), ?_⟩
        walk_at "go"
        refine ⟨cd _, ?_⟩
        walk_at "go"
        refine ⟨_, _, _, _, rfl, upd_same, T.cls_Ratio, T.na_Ratio_bottom, (by show 1 < 1000; decide), ?_⟩
        have z := k1 hd
        rw [upd_upd]
        have e := r2_put (pn n d) (pd n d)
        show Q .non (upd H' x (.ins _ dx (putF "bottom" (.int (pd n d)) (putF "top" (.int (pn n d)) []))))
        rw [e]
        exact z
end
/-! ### plain data; sorted -/
mutual
def toP : Dt → Option PyData
  | .non => some .none
  | .bl b => some (.bool b)
  | .int i => some (.int i)
  | .str x => some (.str x)
  | .tup ds => match toPs ds with
    | some ps => some (.tuple ps)
    | none => none
  | .lst _ _ | .ty _ | .adr _ | .strm | .rat _ _ | .dic _ _ _ | .dit _ _ _ | .ins _ _ _ => none
def toPs : List Dt → Option (List PyData)
  | [] => some []
  | d :: ds => match toP d, toPs ds with
    | some p, some ps => some (p :: ps)
    | _, _ => none
end
mutual
theorem toP_dat {K : PySem.W.Frag} {B F H : Hp} (le : Le F H) : ∀ (d : Dt) (p : PyData) (v : V), toP d = some p → Rz K B F d v → DatV K H v p
  | .non, _, _, h, r => by simp only [toP] at h; cases h; rw [rz_n r]; exact .non
  | .bl b, _, _, h, r => by simp only [toP] at h; cases h; rw [rz_b r]; exact .bl b
  | .int i, _, _, h, r => by simp only [toP] at h; cases h; rw [rz_i r]; exact .int i
  | .str x, _, _, h, r => by simp only [toP] at h; cases h; rw [rz_s r]; exact .str x
  | .tup ds, _, _, h, r => by
    simp only [toP] at h
    split at h <;> first | cases h | skip
    rename_i ps e
    simp only [Rz] at r
    obtain ⟨a, xs, rfl, e1, r⟩ := r
    exact .tup (SqT.of (le.exact e1 rfl)) (toPs_dat le ds ps xs e r)
  | .lst _ _, _, _, h, _ => by simp only [toP] at h; cases h
  | .ty _, _, _, h, _ => by simp only [toP] at h; cases h
  | .adr _, _, _, h, _ => by simp only [toP] at h; cases h
  | .strm, _, _, h, _ => by simp only [toP] at h; cases h
  | .rat _ _, _, _, h, _ => by simp only [toP] at h; cases h
  | .dic _ _ _, _, _, h, _ => by simp only [toP] at h; cases h
  | .dit _ _ _, _, _, h, _ => by simp only [toP] at h; cases h
  | .ins _ _ _, _, _, h, _ => by simp only [toP] at h; cases h
theorem toPs_dat {K : PySem.W.Frag} {B F H : Hp} (le : Le F H) : ∀ (ds : List Dt) (ps : List PyData) (vs : List V), toPs ds = some ps → Rzl K B F ds vs → DatsV K H vs ps
  | [], _, _, h, r => by
    simp only [toPs] at h
    cases h
    rw [r.inv0]
    exact .nil
  | d :: ds, _, _, h, r => by
    simp only [toPs] at h
    split at h <;> first | cases h | skip
    rename_i p ps e1 e2
    obtain ⟨v, r', rfl, r1, r2⟩ := r.inv
    exact .cons (toP_dat le d p v e1 r1) (toPs_dat le ds ps r' e2 r2)
end
/-- data with the key it is sorted by -/
abbrev KD : Type := Dt × PyData
def sortZ (ps : List KD) : List KD := ps.mergeSort (PySem.W.dataLe false fun p : KD => p.2)
theorem sortZ_perm (ps : List KD) : (sortZ ps).Perm ps := List.mergeSort_perm _ _
abbrev KT3 : Type := V × Dt × PyData
theorem rzl_triples {K : PySem.W.Frag} {B F : Hp} : ∀ {ps : List KD} {xs : List V}, Rzl K B F (ps.map (·.1)) xs → ∃ ts : List KT3, ts.map (·.1) = xs ∧ ts.map (·.2) = ps ∧ ∀ t ∈ ts, Rz K B F t.2.1 t.1
  | [], _, h => ⟨[], h.inv0.symm, rfl, fun _ q => nomatch q⟩
  | p :: ps, _, h => by
    obtain ⟨v, r, rfl, h1, h2⟩ := h.inv
    obtain ⟨ts, e1, e2, h3⟩ := rzl_triples h2
    exact ⟨(v, p) :: ts, by rw [List.map_cons, e1], by rw [List.map_cons, e2], fun t q => by
      rcases List.mem_cons.mp q with rfl | q
      · exact h1
      · exact h3 t q⟩
theorem rzl_of_all {K : PySem.W.Frag} {B F : Hp} : ∀ {ts : List KT3}, (∀ t ∈ ts, Rz K B F t.2.1 t.1) → Rzl K B F ((ts.map (·.2)).map (·.1)) (ts.map (·.1))
  | [], _ => .nil
  | t :: ts, h => .cons (h t List.mem_cons_self) (rzl_of_all fun u q => h u (List.mem_cons_of_mem _ q))
/-- the sorted values read as the sorted data -/
theorem sorted_rzl {K : PySem.W.Frag} {B F : Hp} {ts : List KT3} (h : ∀ t ∈ ts, Rz K B F t.2.1 t.1) :
    Rzl K B F ((sortZ (ts.map (·.2))).map (·.1)) ((sortD (ts.map fun t => ((t.1, t.2.2) : VD))).map (·.1)) := by
  have e1 : sortZ (ts.map (·.2)) = (ts.mergeSort (PySem.W.dataLe false fun t : KT3 => t.2.2)).map (·.2) :=
    (List.map_mergeSort (f := fun t : KT3 => t.2) (r := PySem.W.dataLe false fun t : KT3 => t.2.2) (s := PySem.W.dataLe false fun p : KD => p.2) (l := ts) fun _ _ _ _ => rfl).symm
  have e2 : sortD (ts.map fun t => ((t.1, t.2.2) : VD)) = (ts.mergeSort (PySem.W.dataLe false fun t : KT3 => t.2.2)).map fun t => ((t.1, t.2.2) : VD) :=
    (List.map_mergeSort (f := fun t : KT3 => ((t.1, t.2.2) : VD)) (r := PySem.W.dataLe false fun t : KT3 => t.2.2) (s := PySem.W.dataLe false fun p : VD => p.2) (l := ts) fun _ _ _ _ => rfl).symm
  rw [e1, e2, List.map_map (g := fun (x : VD) => x.1)]
  exact rzl_of_all fun t q => h t (List.mem_mergeSort.mp q)
section
variable {z : Cz} {ρ : List Sl} {N : Dt → Bool → List Sl → Prop} {ta tb te : TE} {t : TA} {i : Nat}
theorem ze_sorted (h : ZE z ta ρ fun x _ ρ1 => ∃ t ps, x = .lst t (ps.map (·.1)) ∧ (∀ p ∈ ps, toP p.1 = some p.2 ∧ p.2.depth ≤ 8) ∧ PySem.W.AllAlike (ps.map (·.2)) ∧ PySem.W.Sortable (ps.map (·.2)) ∧ N (.lst true ((sortZ ps).map (·.1))) true ρ1) :
    ZE z (tCB (rSortedD z.K) (tCons ta tNil)) ρ N :=
  ze_CB1 (W := fun x N ρ1 => ∃ t ps, x = .lst t (ps.map (·.1)) ∧ (∀ p ∈ ps, toP p.1 = some p.2 ∧ p.2.depth ≤ 8) ∧ PySem.W.AllAlike (ps.map (·.2)) ∧ PySem.W.Sortable (ps.map (·.2)) ∧ N (.lst true ((sortZ ps).map (·.1))) true ρ1) (fun x ρ2 N n1 m F H σ Q vx S r k => by
    obtain ⟨t, ps, rfl, hp, hal, hs, n⟩ := n1
    simp only [Rz] at r
    obtain ⟨a, xs, rfl, e, _, r⟩ := r
    obtain ⟨ts, e1, e2, h3⟩ := rzl_triples r
    have e3 : (ts.map fun t => ((t.1, t.2.2) : VD)).map (·.2) = ps.map (·.2) := by rw [← e2, List.map_map, List.map_map]; rfl
    refine ⟨a, ts.map fun t => ((t.1, t.2.2) : VD), rfl, ?_, fun b hb => ?_, by rw [e3]; exact hal, by rw [e3]; exact hs, fun p hp' => ?_⟩
    · rw [List.map_map]
      refine SqL.of ?_
      rw [S.le.exact e rfl, ← e1]
      rfl
    · obtain ⟨t, ht, rfl⟩ := List.mem_map.mp hb
      obtain ⟨q1, q2⟩ := hp t.2 (by rw [← e2]; exact List.mem_map_of_mem ht)
      exact ⟨toP_dat S.le _ _ _ q1 (h3 t ht), q2⟩
    · have q := sorted_rzl h3
      rw [e2] at q
      exact k _ _ _ _ _ _ n (Same.refl F) (S.newO hp') (rzF_new S hp' (.lst q))) h
/-- sorted(xs, key=f) -/
theorem ze_sortK {K' : PySem.W.Frag} {f : Addr} {w : Wz} (hK : K' = z.K) (h : ZE z ta ρ fun x _ ρ1 => ∃ t ps, x = .lst t (ps.map (·.1)) ∧ (∀ p ∈ ps, p.2.depth ≤ 8 ∧ ∃ d, toP d = some p.2 ∧ ∀ Nv Ne, Nv d false → w [p.1.old] Nv Ne) ∧
    PySem.W.AllAlike (ps.map (·.2)) ∧ PySem.W.Sortable (ps.map (·.2)) ∧ N (.lst true ((sortZ ps).map (·.1))) true ρ1) :
    ZE z (tCKw (rSortK K' f (spZ z.K w)) (tCons ta tNil) (tCons (tC (.ref f)) tNil)) ρ N := fun m F H σ Q S k => by
  subst hK
  refine h m F H σ _ S fun x fx ρ1 F1 H1 vx n1 s1 S1 r1 => ?_
  obtain ⟨F2, s2, S2, rx⟩ := rzF_frz S1 r1
  obtain ⟨t, ps, rfl, hp, hal, hs, n⟩ := n1
  simp only [Rz] at rx
  obtain ⟨a, xs, rfl, e, _, r⟩ := rx
  obtain ⟨ts, e1, e2, h3⟩ := rzl_triples r
  have e3 : (ts.map fun t => ((t.1, t.2.2) : VD)).map (·.2) = ps.map (·.2) := by rw [← e2, List.map_map, List.map_map]; rfl
  have elen : (ts.map fun t => ((t.1, t.2.2) : VD)).length = ps.length := by rw [← e2]; simp
  refine ⟨a, ts.map fun t => ((t.1, t.2.2) : VD), rfl, rfl, ?_, fun b hb => ?_, by rw [e3]; exact hal, by rw [e3]; exact hs,
    fun i ys H' => ∃ F' ks, Same F2 F' ∧ Sm z m F' H' σ ρ1 ∧ Rzl z.K m.B F' ks ys ∧ toPs ks = some ((ps.map (·.2)).take i), ?_, ?_, ?_⟩
  · rw [List.map_map]
    refine SqL.of ?_
    rw [S2.le.exact e rfl, ← e1]
    rfl
  · obtain ⟨t, ht, rfl⟩ := List.mem_map.mp hb
    exact (hp t.2 (by rw [← e2]; exact List.mem_map_of_mem ht)).1
  · exact ⟨F2, [], Same.refl F2, S2, .nil, by simp [toPs]⟩
  · rintro i b ys H' hb ⟨F', ks, s', S', rk, ek⟩
    rw [List.getElem?_map] at hb
    cases q : ts[i]? with
    | none => rw [q] at hb; cases hb
    | some tr =>
      rw [q] at hb
      cases hb
      have hm : tr ∈ ts := List.mem_of_getElem? q
      have hps : ps[i]? = some tr.2 := by rw [← e2, List.getElem?_map, q]; rfl
      obtain ⟨_, d, hd, hw⟩ := hp tr.2 (List.mem_of_getElem? hps)
      refine ⟨F', [tr.2.1.old], fun d' fr => d' = d ∧ fr = false, fun _ _ => False, S'.le, .cons (rz_old _ _ (rz_mono s' _ _ (h3 tr hm))) .nil, hw _ _ ⟨rfl, rfl⟩, ?_, fun _ _ _ _ f => f.elim⟩
      rintro d' fr F'' H'' v ⟨rfl, rfl⟩ g
      obtain ⟨S3, r3⟩ := S'.got g
      refine ⟨F'', ks ++ [d'], s'.trans g.1, S3, (rzl_mono g.1 _ _ rk).app (.cons r3 .nil), ?_⟩
      have ap : ∀ {as : List Dt} {bs : List PyData}, toPs as = some bs → toPs (as ++ [d']) = some (bs ++ [tr.2.2]) := fun {as} => by
        induction as with
        | nil =>
          intro bs q
          simp only [toPs] at q
          cases q
          simp only [List.nil_append, toPs, hd]
        | cons x as ih =>
          intro bs q
          simp only [toPs] at q
          split at q <;> first | cases q | skip
          rename_i p ps' h1 h2
          simp only [List.cons_append, toPs, h1, ih h2]
      rw [ap ek, take_succ_get2 (x := tr.2.2) (by rw [List.getElem?_map, hps]; rfl)]
  · rintro ys H' ⟨F', ks, s', S', rk, ek⟩
    rw [elen, List.take_of_length_le (by rw [List.length_map]; exact Nat.le_refl _)] at ek
    refine ⟨by rw [e3]; exact toPs_dat S'.le _ _ _ ek rk, fun p hp' => ?_⟩
    have q := sorted_rzl fun t ht => rz_mono s' _ _ (h3 t ht)
    rw [e2] at q
    exact k _ _ _ _ _ _ n ((s1.trans s2).trans s') (S'.newO hp') (rzF_new S' hp' (.lst q))
/-- name = [..] -/
theorem zs_setlc {wi : TI} {g : TG} {tt : TT} {vs : List Nat} {D : Zn} (h : ZE z (tLockLE (tLc wi g tt te vs)) ρ fun d fr ρ1 => ZG z (gName i) d fr ρ1 D.nx) : ZS z (tLockL (tAsg (tLc wi g tt te vs) (gName i))) ρ D := fun m F H σ E S kn kr kb kc =>
  h m F H σ (fun x H1 => E.nx (σ.set i (some x)) H1) S fun d fr ρ1 F1 H1 v n1 s1 S1 r1 => n1 m F1 H1 σ v (fun σ2 H2 => E.nx σ2 H2) S1 r1 fun ρ2 F2 H2 σ2 n2 s2 => kn ρ2 F2 H2 σ2 n2 (s1.trans s2)
/-- a plain comparison of two lists or tuples -/
theorem toP_dp {K : PySem.W.Frag} {B F H : Hp} (le : Le F H) {d : Dt} {p : PyData} {v : V} (h : toP d = some p) (r : Rz K B F d v) : DatV K H v p := toP_dat le d p v h r
end
/-! ### Ratios -/
section
variable {z : Cz} {ρ : List Sl} {N : Dt → Bool → List Sl → Prop} {t : TA} {E : XK}
theorem sm_ins {m : Fm} {F H : Hp} {σ : L2.St} {C : Addr} {fs : List (Str × V)} {x dx : Addr} (S : Sm z m F H σ ρ) (hx : H x = none) (hd : H dx = none) (ne : dx ≠ x) :
    Same F (upd F x (.ins C dx fs)) ∧ Sm z m (upd F x (.ins C dx fs)) (upd (upd H dx (.own x)) x (.ins C dx fs)) σ ρ := by
  have S1 := S.newO (o := .own x) hd
  exact S1.new (o := .ins C dx fs) (by rw [upd_ne (Ne.symm ne)]; exact hx)
theorem ze_ratio {dvs : List V} (h : ZA z t ρ fun ds ρ1 => ∃ n d, ((ds = [.int n, .int d] ∧ dvs = []) ∨ (ds = [.int n] ∧ dvs = [.int d])) ∧ d ≠ 0 ∧ Bits 8000 (sgc n d) ∧ N (.rat (pn n d) (pd n d)) false ρ1) : ZE z (tMake (He.ga z.K "Ratio") (spInit z.K) dvs E t) ρ N := fun m F H σ Q S k => by
  refine h m F H σ _ S fun ds ρ1 F1 H1 vs n1 s1 S1 r1 x dx hx hd ne => ?_
  obtain ⟨n, d, hds, h0, hb, n1⟩ := n1
  have ev : vs ++ dvs = [.int n, .int d] := by
    rcases hds with ⟨rfl, rfl⟩ | ⟨rfl, rfl⟩
    · obtain ⟨v, r, rfl, q1, q2⟩ := r1.inv
      obtain ⟨v2, r, rfl, q3, q4⟩ := q2.inv
      rw [rz_i q1, rz_i q3, q4.inv0]
      rfl
    · obtain ⟨v, r, rfl, q1, q2⟩ := r1.inv
      rw [rz_i q1, q2.inv0]
      rfl
  rw [ev]
  refine ⟨x, dx, n, d, rfl, upd_same, fun _ => hb, fun z => absurd z h0, fun _ => ⟨rfl, ?_⟩⟩
  rw [upd_upd]
  obtain ⟨s2, S2⟩ := sm_ins (C := He.ga z.K "Ratio") (fs := rfl2 (pn n d) (pd n d)) S1 hx hd ne
  exact k _ _ _ _ _ _ n1 (s1.trans s2) S2 (rzF_f (show Rz z.K m.B _ (.rat _ _) _ by simp only [Rz]; exact ⟨x, dx, rfl, upd_same⟩))
theorem pn_one (n : Int) : pn n 1 = n ∧ pd n 1 = 1 := ⟨pn_low ⟨by decide, by simp⟩, pd_low ⟨by decide, by simp⟩⟩
theorem sgc_one (n : Int) : Bits 8000 (sgc n 1) := by
  have := sgc_abs (n := n) (d := 1) (by decide)
  exact Bits.small (by omega) (by decide)
/-- a draw -/
theorem ze_draw (h : ZA z t ρ fun ds ρ1 => ∃ n, ds = [.strm, .int n] ∧ 0 < n ∧ n < 18446744073709551616 ∧ ∀ v, 0 ≤ v → v < n → N (.int v) false ρ1) : ZE z (tCall spDraw [] E t) ρ N := fun m F H σ Q S k => by
  refine h m F H σ _ S fun ds ρ1 F1 H1 vs n1 s1 S1 r1 => ?_
  obtain ⟨n, rfl, h0, h1, n1⟩ := n1
  obtain ⟨v, r, rfl, q1, q2⟩ := r1.inv
  obtain ⟨v2, r, rfl, q3, q4⟩ := q2.inv
  obtain rfl := rz_i q3
  obtain rfl := q4.inv0
  simp only [Rz] at q1
  obtain ⟨s0, rfl, l, ns, e1, e2, e3⟩ := q1
  rw [List.append_nil]
  exact ⟨s0, n, rfl, ⟨l, ns, S1.le.exact e1 rfl, S1.le.exact e2 rfl, e3⟩, h0, h1, fun v a b => k _ _ _ _ _ _ (n1 v a b) s1 S1 (rzF_f rzi)⟩
end
/-! ### plain data with lists; == and in -/
mutual
def toQ : Dt → Option PyData
  | .non => some .none
  | .bl b => some (.bool b)
  | .int i => some (.int i)
  | .str x => some (.str x)
  | .tup ds => match toQs ds with
    | some ps => some (.tuple ps)
    | none => none
  | .lst _ ds => match toQs ds with
    | some ps => some (.list ps)
    | none => none
  | .ty _ | .adr _ | .strm | .rat _ _ | .dic _ _ _ | .dit _ _ _ | .ins _ _ _ => none
def toQs : List Dt → Option (List PyData)
  | [] => some []
  | d :: ds => match toQ d, toQs ds with
    | some p, some ps => some (p :: ps)
    | _, _ => none
end
mutual
theorem toQ_dp {K : PySem.W.Frag} {B F H : Hp} (le : Le F H) : ∀ (d : Dt) (p : PyData) (v : V), toQ d = some p → Rz K B F d v → Dp K H v p
  | .non, _, _, h, r => by simp only [toQ] at h; cases h; rw [rz_n r]; exact .non
  | .bl b, _, _, h, r => by simp only [toQ] at h; cases h; rw [rz_b r]; exact .bl b
  | .int i, _, _, h, r => by simp only [toQ] at h; cases h; rw [rz_i r]; exact .int i
  | .str x, _, _, h, r => by simp only [toQ] at h; cases h; rw [rz_s r]; exact .str x
  | .tup ds, _, _, h, r => by
    simp only [toQ] at h
    split at h <;> first | cases h | skip
    rename_i ps e
    simp only [Rz] at r
    obtain ⟨a, xs, rfl, e1, r⟩ := r
    exact .tup (SqT.of (le.exact e1 rfl)) (toQs_dp le ds ps xs e r)
  | .lst _ ds, _, _, h, r => by
    simp only [toQ] at h
    split at h <;> first | cases h | skip
    rename_i ps e
    simp only [Rz] at r
    obtain ⟨a, xs, rfl, e1, _, r⟩ := r
    exact .lst (SqL.of (le.exact e1 rfl)) (toQs_dp le ds ps xs e r)
  | .ty _, _, _, h, _ => by simp only [toQ] at h; cases h
  | .adr _, _, _, h, _ => by simp only [toQ] at h; cases h
  | .strm, _, _, h, _ => by simp only [toQ] at h; cases h
  | .rat _ _, _, _, h, _ => by simp only [toQ] at h; cases h
  | .dic _ _ _, _, _, h, _ => by simp only [toQ] at h; cases h
  | .dit _ _ _, _, _, h, _ => by simp only [toQ] at h; cases h
  | .ins _ _ _, _, _, h, _ => by simp only [toQ] at h; cases h
theorem toQs_dp {K : PySem.W.Frag} {B F H : Hp} (le : Le F H) : ∀ (ds : List Dt) (ps : List PyData) (vs : List V), toQs ds = some ps → Rzl K B F ds vs → DpAll K H vs ps
  | [], _, _, h, r => by
    simp only [toQs] at h
    cases h
    rw [r.inv0]
    exact .nil
  | d :: ds, _, _, h, r => by
    simp only [toQs] at h
    split at h <;> first | cases h | skip
    rename_i p ps e1 e2
    obtain ⟨v, r', rfl, r1, r2⟩ := r.inv
    exact .cons (toQ_dp le d p v e1 r1) (toQs_dp le ds ps r' e2 r2)
end
section
variable {z : Cz} {ρ : List Sl} {N : Dt → Bool → List Sl → Prop} {ta tb : TE}
theorem ze_eqD (h : ZE z ta ρ fun x _ ρ1 => ZE z tb ρ1 fun y _ ρ2 => ∃ p q, toQ x = some p ∧ toQ y = some q ∧ SeqAt.shaped p = true ∧ SeqAt.shaped q = true ∧ N (.bl (PyData.eqv p q)) false ρ2) : ZE z (tOp (rEqD z.K) ta tb) ρ N :=
  ze_op2w (W := fun x y N ρ2 => ∃ p q, toQ x = some p ∧ toQ y = some q ∧ SeqAt.shaped p = true ∧ SeqAt.shaped q = true ∧ N (.bl (PyData.eqv p q)) false ρ2) (fun x y ρ2 N n2 m F H σ Q vx vy S r1 r2 k => by
    obtain ⟨p, q, h1, h2, h3, h4, n⟩ := n2
    exact ⟨p, q, toQ_dp S.le x p vx h1 r1, toQ_dp S.le y q vy h2 r2, h3, h4, k _ _ _ _ _ _ n (Same.refl F) S (rzF_f rzb)⟩) h
theorem ze_neD (h : ZE z ta ρ fun x _ ρ1 => ZE z tb ρ1 fun y _ ρ2 => ∃ p q, toQ x = some p ∧ toQ y = some q ∧ SeqAt.shaped p = true ∧ SeqAt.shaped q = true ∧ N (.bl (!PyData.eqv p q)) false ρ2) : ZE z (tOp (rNeD z.K) ta tb) ρ N :=
  ze_op2w (W := fun x y N ρ2 => ∃ p q, toQ x = some p ∧ toQ y = some q ∧ SeqAt.shaped p = true ∧ SeqAt.shaped q = true ∧ N (.bl (!PyData.eqv p q)) false ρ2) (fun x y ρ2 N n2 m F H σ Q vx vy S r1 r2 k => by
    obtain ⟨p, q, h1, h2, h3, h4, n⟩ := n2
    exact ⟨p, q, toQ_dp S.le x p vx h1 r1, toQ_dp S.le y q vy h2 r2, h3, h4, k _ _ _ _ _ _ n (Same.refl F) S (rzF_f rzb)⟩) h
theorem ze_inD (h : ZE z ta ρ fun x _ ρ1 => ZE z tb ρ1 fun y _ ρ2 => ∃ p t ds ps, toQ x = some p ∧ y = .lst t ds ∧ toQs ds = some ps ∧ SeqAt.shaped p = true ∧ SeqAt.shaped (.list ps) = true ∧ N (.bl (ps.any fun z => PyData.eqv z p)) false ρ2) : ZE z (tOp (rInD z.K) ta tb) ρ N :=
  ze_op2w (W := fun x y N ρ2 => ∃ p t ds ps, toQ x = some p ∧ y = .lst t ds ∧ toQs ds = some ps ∧ SeqAt.shaped p = true ∧ SeqAt.shaped (.list ps) = true ∧ N (.bl (ps.any fun z => PyData.eqv z p)) false ρ2) (fun x y ρ2 N n2 m F H σ Q vx vy S r1 r2 k => by
    obtain ⟨p, t, ds, ps, h1, rfl, h2, h3, h4, n⟩ := n2
    exact ⟨p, ps, toQ_dp S.le x p vx h1 r1, toQ_dp S.le _ (.list ps) vy (by simp only [toQ, h2]) r2, h3, h4, k _ _ _ _ _ _ n (Same.refl F) S (rzF_f rzb)⟩) h
theorem ze_notInD (h : ZE z ta ρ fun x _ ρ1 => ZE z tb ρ1 fun y _ ρ2 => ∃ p t ds ps, toQ x = some p ∧ y = .lst t ds ∧ toQs ds = some ps ∧ SeqAt.shaped p = true ∧ SeqAt.shaped (.list ps) = true ∧ N (.bl (!ps.any fun z => PyData.eqv z p)) false ρ2) : ZE z (tOp (rNotInD z.K) ta tb) ρ N :=
  ze_op2w (W := fun x y N ρ2 => ∃ p t ds ps, toQ x = some p ∧ y = .lst t ds ∧ toQs ds = some ps ∧ SeqAt.shaped p = true ∧ SeqAt.shaped (.list ps) = true ∧ N (.bl (!ps.any fun z => PyData.eqv z p)) false ρ2) (fun x y ρ2 N n2 m F H σ Q vx vy S r1 r2 k => by
    obtain ⟨p, t, ds, ps, h1, rfl, h2, h3, h4, n⟩ := n2
    exact ⟨p, ps, toQ_dp S.le x p vx h1 r1, toQ_dp S.le _ (.list ps) vy (by simp only [toQ, h2]) r2, h3, h4, k _ _ _ _ _ _ n (Same.refl F) S (rzF_f rzb)⟩) h
end
/-! ### small -/
theorem zT {c A B : Prop} [Decidable c] (h : c) (a : A) : if c then A else B := by rw [if_pos h]; exact a
theorem zF {c A B : Prop} [Decidable c] (h : ¬ c) (b : B) : if c then A else B := by rw [if_neg h]; exact b
theorem atI_k {α : Type} {xs : List α} {k : Nat} {x : α} (h : xs[k]? = some x) : atI xs (k : Int) = some x := by
  unfold atI
  rw [Evl.ixN_nat (List.getElem?_eq_some_iff.mp h).1]
  exact h
theorem cut1 {x : Dt} {xs : List Dt} : cutD (x :: xs) (some 1) none = xs := by
  unfold cutD HT.sIx
  simp
theorem cutN {x : Dt} {xs : List Dt} : ¬ (HT.sIx (x :: xs).length 0 (some 1) = 0 ∧ HT.sIx (x :: xs).length (x :: xs).length none = (x :: xs).length) := by
  unfold HT.sIx
  simp
theorem zD {c A B : Prop} [Decidable c] (a : c → A) (b : ¬ c → B) : if decide c = true then A else B := by
  by_cases h : c
  · rw [if_pos (by simpa using h)]; exact a h
  · rw [if_neg (by simpa using h)]; exact b h
theorem zB {x : Bool} {A B : Prop} (a : x = true → A) (b : x = false → B) : if x = true then A else B := by
  cases x
  · rw [if_neg (by decide)]; exact b rfl
  · rw [if_pos rfl]; exact a rfl
/-! ### stars, tuples, sums -/
section
variable {z : Cz} {ρ : List Sl} {N : Dt → Bool → List Sl → Prop} {L : List Dt → List Sl → Prop} {ta tb te : TE} {t : TA} {i j : Nat}
inductive SeqD : Dt → List Dt → Prop
  | lst (t : Bool) (ds : List Dt) : SeqD (.lst t ds) ds
  | tup (ds : List Dt) : SeqD (.tup ds) ds
theorem SeqD.rz {K : PySem.W.Frag} {B F H : Hp} {d : Dt} {ds : List Dt} {v : V} (h : SeqD d ds) (r : Rz K B F d v) (le : Le F H) (K' : PySem.W.Frag) : ∃ p xs, v = .ref p ∧ (SqT K' H p xs ∨ SqL K' H p xs) ∧ Rzl K B F ds xs := by
  cases h with
  | lst t ds =>
    simp only [Rz] at r
    obtain ⟨a, xs, rfl, e, _, r⟩ := r
    exact ⟨a, xs, rfl, .inr (SqL.of (le.exact e rfl)), r⟩
  | tup ds =>
    simp only [Rz] at r
    obtain ⟨a, xs, rfl, e, r⟩ := r
    exact ⟨a, xs, rfl, .inl (SqT.of (le.exact e rfl)), r⟩
theorem za_star {K' : PySem.W.Frag} (h : ZE z te ρ fun x _ ρ1 => ∃ ds, SeqD x ds ∧ ZA z t ρ1 fun es ρ2 => L (ds ++ es) ρ2) : ZA z (StX.tStar K' te t) ρ L := fun m F H σ Q S k => by
  refine h m F H σ _ S fun x fx ρ1 F1 H1 vx n1 s1 S1 r1 => ?_
  obtain ⟨F2, s2, S2, rx⟩ := rzF_frz S1 r1
  obtain ⟨ds, sq, n1⟩ := n1
  obtain ⟨p, xs, rfl, hs, r⟩ := sq.rz rx S2.le K'
  exact ⟨p, xs, rfl, hs, n1 m F2 H1 σ _ S2 fun es ρ' F' H' vs n s S' re => k _ _ _ _ _ n ((s1.trans s2).trans s) S' ((rzl_mono s _ _ r).app re)⟩
/-- tuple(x) -/
def rTupOf (K : PySem.W.Frag) : List V → Hp → VK → Prop := fun xs H Q => ∃ p ys, xs = [.ref p] ∧ ((SqL K H p ys ∧ ∀ l, H l = none → Q (.ref l) (upd H l (.tup ys))) ∨ (SqT K H p ys ∧ Q (.ref p) H))
theorem ze_tupOf {K' : PySem.W.Frag} (h : ZE z ta ρ fun x _ ρ1 => ∃ ds, SeqD x ds ∧ N (.tup ds) false ρ1) : ZE z (tCB (fun xs H Q => ∃ p ys, xs = [.ref p] ∧ ((SqL K' H p ys ∧ ∀ l, H l = none → Q (.ref l) (upd H l (.tup ys))) ∨ (SqT K' H p ys ∧ Q (.ref p) H))) (tCons ta tNil)) ρ N :=
  ze_CB1 (W := fun x N ρ1 => ∃ ds, SeqD x ds ∧ N (.tup ds) false ρ1) (fun x ρ2 N n1 m F H σ Q vx S r k => by
    obtain ⟨ds, hl, q⟩ := n1
    cases hl with
    | lst t ds =>
      simp only [Rz] at r
      obtain ⟨a, xs, rfl, e, _, r⟩ := r
      refine ⟨a, xs, rfl, .inl ⟨SqL.of (S.le.exact e rfl), fun p hp => ?_⟩⟩
      obtain ⟨s2, S2⟩ := S.new (o := .tup xs) hp
      exact k _ _ _ _ _ _ q s2 S2 (show Rz z.K m.B _ (.tup ds) _ by simp only [Rz]; exact ⟨p, xs, rfl, upd_same, rzl_mono s2 _ _ r⟩)
    | tup ds =>
      have r' := r
      simp only [Rz] at r
      obtain ⟨a, xs, rfl, e, r⟩ := r
      exact ⟨a, xs, rfl, .inr ⟨SqT.of (S.le.exact e rfl), k _ _ _ _ _ _ q (Same.refl F) S (rzF_f r')⟩⟩) h
theorem rzl_ints {K : PySem.W.Frag} {B F : Hp} : ∀ {is : List Int} {xs : List V}, Rzl K B F (is.map Dt.int) xs → xs = is.map V.int
  | [], _, r => r.inv0
  | i :: is, _, r => by
    obtain ⟨v, r', rfl, r1, r2⟩ := r.inv
    rw [rz_i r1, rzl_ints r2]
    rfl
theorem ze_sum {K' : PySem.W.Frag} (h : ZE z ta ρ fun x _ ρ1 => ∃ (t : Bool) (is : List Int), x = .lst t (is.map Dt.int) ∧ N (.int is.sum) false ρ1) : ZE z (tCB (rSum K') (tCons ta tNil)) ρ N :=
  ze_CB1 (W := fun x N ρ1 => ∃ (t : Bool) (is : List Int), x = .lst t (is.map Dt.int) ∧ N (.int is.sum) false ρ1) (fun x ρ2 N n1 m F H σ Q vx S r k => by
    obtain ⟨t, is, rfl, q⟩ := n1
    simp only [Rz] at r
    obtain ⟨a, xs, rfl, e, _, r⟩ := r
    refine ⟨a, is, rfl, ?_, k _ _ _ _ _ _ q (Same.refl F) S (rzF_f rzi)⟩
    rw [← rzl_ints r]
    exact SqL.of (S.le.exact e rfl)) h
/-- t + u of tuples, the first not empty -/
theorem ze_catT {K' : PySem.W.Frag} (h : ZE z ta ρ fun x _ ρ1 => ZE z tb ρ1 fun y _ ρ2 => ∃ ds es, x = .tup ds ∧ y = .tup es ∧ ds ≠ [] ∧ ds.length + es.length ≤ 100000 ∧ N (.tup (ds ++ es)) false ρ2) : ZE z (tOp (rCatT K') ta tb) ρ N :=
  ze_op2w (W := fun x y N ρ2 => ∃ ds es, x = .tup ds ∧ y = .tup es ∧ ds ≠ [] ∧ ds.length + es.length ≤ 100000 ∧ N (.tup (ds ++ es)) false ρ2) (fun x y ρ2 N n2 m F H σ Q vx vy S r1 r2 k => by
    obtain ⟨ds, es, rfl, rfl, hne, hl, n⟩ := n2
    have r1' := r1
    simp only [Rz] at r1 r2
    obtain ⟨a, xs, rfl, h1, r1⟩ := r1
    obtain ⟨b, ys, rfl, h2, r2⟩ := r2
    refine ⟨a, b, xs, ys, rfl, rfl, SqT.of (S.le.exact h1 rfl), SqT.of (S.le.exact h2 rfl), fun q => ?_, by rw [r1.len, r2.len, sizeLine_eq]; omega, fun q => ?_, fun q p hp => ?_⟩
    · have := r1.len
      rw [q] at this
      exact hne (List.eq_nil_of_length_eq_zero this.symm)
    · have := r2.len
      rw [q] at this
      have e0 := List.eq_nil_of_length_eq_zero this.symm
      rw [e0, List.append_nil] at n
      exact k _ _ _ _ _ _ n (Same.refl F) S (rzF_f r1')
    · obtain ⟨s2, S2⟩ := S.new (o := .tup (xs ++ ys)) hp
      exact k _ _ _ _ _ _ n s2 S2 (show Rz z.K m.B _ (.tup (ds ++ es)) _ by simp only [Rz]; exact ⟨p, xs ++ ys, rfl, upd_same, rzl_mono s2 _ _ (r1.app r2)⟩)) h
/-- int(b) -/
theorem ze_intOf {r : List V → Hp → VK → Prop} (hr : r = fun xs H Q => (∃ i, xs = [.int i] ∧ Q (.int i) H) ∨ ∃ k, xs = [.bl k] ∧ Q (.int (if k then 1 else 0)) H)
    (h : ZE z ta ρ fun x _ ρ1 => (∃ i, x = .int i ∧ N (.int i) false ρ1) ∨ ∃ k, x = .bl k ∧ N (.int (if k = true then 1 else 0)) false ρ1) : ZE z (tCB r (tCons ta tNil)) ρ N :=
  ze_CB1 (W := fun x N ρ1 => (∃ i, x = .int i ∧ N (.int i) false ρ1) ∨ ∃ k, x = .bl k ∧ N (.int (if k = true then 1 else 0)) false ρ1) (fun x ρ2 N n1 m F H σ Q vx S r k => by
    subst hr
    rcases n1 with ⟨i, rfl, q⟩ | ⟨b, rfl, q⟩
    · exact .inl ⟨i, by rw [rz_i r], k _ _ _ _ _ _ q (Same.refl F) S (rzF_f rzi)⟩
    · exact .inr ⟨b, by rw [rz_b r], k _ _ _ _ _ _ q (Same.refl F) S (rzF_f rzi)⟩) h
/-! ### an owned variable, compared -/
theorem Sm.own_dp {m : Fm} {F H : Hp} {σ : L2.St} (S : Sm z m F H σ ρ) {t : Bool} {ds : List Dt} {p : PyData} {a : Addr} (h : ρ[i]? = some (.o (.lst t ds))) (hv : σ[i]? = some (some (.ref a))) (hp : toQ (.lst t ds) = some p) : Dp z.K H (.ref a) p := by
  obtain ⟨l, e, _, _, _, ho, h4, h5⟩ := S.geto h
  rw [hv] at e
  cases e
  cases h5 with
  | lst r =>
    simp only [toQ] at hp
    split at hp <;> first | cases hp | skip
    rename_i ps e2
    exact .lst (SqL.of h4) (toQs_dp S.le ds ps _ e2 r)
theorem ze_neDv {K' : PySem.W.Frag} (hK : K' = z.K) {c0 : Dt} (h0 : ρ[i]? = some (.o c0)) (h : ZE z tb ρ fun y _ ρ2 => ∃ t ds p q, ρ2[i]? = some (.o (.lst t ds)) ∧ toQ (.lst t ds) = some p ∧ toQ y = some q ∧ SeqAt.shaped p = true ∧ SeqAt.shaped q = true ∧ N (.bl (!PyData.eqv p q)) false ρ2) : ZE z (tOp (rNeD K') (tVar i) tb) ρ N := fun m F H σ Q S k => by
  subst hK
  obtain ⟨l, e, _⟩ := S.geto h0
  refine ⟨_, e, h m F H σ _ S fun y fy ρ2 F2 H2 vy n2 s2 S2 r2 => ?_⟩
  obtain ⟨F3, s3, S3, ry⟩ := rzF_frz S2 r2
  obtain ⟨t, ds, p, q, hi, h1, h2, h3, h4, n⟩ := n2
  exact ⟨p, q, S3.own_dp hi e h1, toQ_dp S3.le y q vy h2 ry, h3, h4, k _ _ _ _ _ _ n (s2.trans s3) S3 (rzF_f rzb)⟩
/-- isinstance of an owned variable -/
theorem ze_isiv {c : V} {u : Value} (hc : ClsV c u) {d0 : Dt} (h0 : ρ[i]? = some (.o d0)) {t : Value} {b : Bool} (ht : TyD z.K d0 t) (hb : PySem.W.kitOne z.K t u = some b) (n : N (.bl b) false ρ) : ZE z (tCB (rIsi z.K) (tCons (tVar i) (tCons (tC c) tNil))) ρ N := fun m F H σ Q S k => by
  obtain ⟨l, e, h1, h2, h3, ho, h4, h5⟩ := S.geto h0
  refine ⟨_, e, _, c, _, u, b, rfl, hc, ?_, hb, k _ _ _ _ _ _ n (Same.refl F) S (rzF_f rzb)⟩
  have r := h5.rz h2 h1
  refine tyD_ok ht r (H := H) fun a o q => ?_
  by_cases c : a = l
  · subst c
    rw [upd_same] at q
    cases q
    exact .inl h4
  · rw [upd_ne c] at q
    exact S.le a o q
end
section
variable {z : Cz} {ρ : List Sl} {wi : TI} {g : TG} {tt : TT} {te : TE} {vs : List Nat} {N : Dt → Bool → List Sl → Prop}
/-- [te for g in .. if tt]: what the turns may give -/
theorem ze_lcW (h : ZI z wi ρ fun ds ρ1 bp bm => bp ρ1 ∧ okW ρ1 vs = true ∧ ds.length ≤ 100000 ∧ ∃ W : Nat → List Dt → Prop, W 0 [] ∧
    (∀ i d ad, ds[i]? = some d → W i ad → ZGw z g vs d (wipeZ ρ1 vs) fun ρ2 => ZT z tt ρ2 fun b ρ3 => if b = true then ZE z te ρ3 fun y _ ρ4 => wipeZ ρ4 vs = wipeZ ρ1 vs ∧ W (i + 1) (ad ++ [y]) else wipeZ ρ3 vs = wipeZ ρ1 vs ∧ W (i + 1) ad) ∧
    ∀ ad, W ds.length ad → N (.lst true ad) true (bm ρ1)) : ZE z (tLockLE (tLc wi g tt te vs)) ρ N := fun m F H σ Q S k => by
  refine h m F H σ _ S fun ds ρ1 bp bm m' un F1 H1 Jt n1 s1 B S1 it => ?_
  obtain ⟨hbp, hw, hz, W, w0, hf, n⟩ := n1
  obtain ⟨n', G, Y, wk, rfl, gk, yk⟩ := it
  intro D hD
  have hB := S1.dom D hD
  have hJ := S1.j_none hD
  have hh : ¬ m'.hd D := fun q => by
    obtain ⟨_, o, q2, _⟩ := S1.hid D q
    rw [hJ] at q2
    cases q2
  have hs : ∀ (i : Nat) (d : Dt), (wipeZ ρ1 vs)[i]? ≠ some (.l D d) := fun i d e => by
    obtain ⟨ov, _, _, q1, _⟩ := (S1.wipe vs).get e
    exact hh q1
  refine lc_it wk (fun i H2 => ∃ F2 acc ad, W i ad ∧ ad.length ≤ i ∧ Same F1 F2 ∧ Sm z (m'.pin D (.lst acc)) F2 H2 (L2.wipe σ vs) (wipeZ ρ1 vs) ∧ Rzl z.K m'.B F2 ad acc) ?_ ?_ ?_ ?_
  · exact ⟨F1, [], [], w0, Nat.le_refl _, Same.refl F1, (S1.wipe vs).pinNew hD rfl rfl, .nil⟩
  · rintro i H2 hi ⟨F2, acc, ad, wa, la, s2, S2, r2⟩
    have b2 : Same m'.J H2 := fun a u q => S2.base a u (by
      show upd m'.J D _ a = _
      rw [upd_ne (fun c => by rw [c, hJ] at q; cases q)]
      exact q)
    exact gk F2 H2 s2 S2.le b2
  · rintro i x H2 H3 hi ⟨F2, acc, ad, wa, la, s2, S2, r2⟩ y
    obtain ⟨F3, s3, S3, rx⟩ := yk (m'.pin D (.lst acc)) i ds[i] F2 H2 H3 x _ _ rfl (List.getElem?_eq_getElem hi) s2 S2 y
    have hd : ds[i]? = some ds[i] := List.getElem?_eq_getElem hi
    refine hf i ds[i] ad hd wa (m'.pin D (.lst acc)) F3 H3 _ x _ S3 rx fun ρ2 F4 H4 σ2 n2 s4 S4 w4 => ?_
    rw [wipe_wipe] at w4
    refine ⟨w4, n2 _ F4 H4 σ2 _ S4 fun b ρ3 F5 H5 n3 s5 S5 => ?_⟩
    have ss := s2.trans (s3.trans (s4.trans s5))
    cases b with
    | false =>
      obtain ⟨e1, e2⟩ := n3
      refine ⟨F5, acc, ad, e2, by omega, ss, ?_, rzl_mono (s3.trans (s4.trans s5)) _ _ r2⟩
      have := S5.wipe vs
      rw [e1, w4] at this
      exact this
    | true =>
      refine n3 _ F5 H5 σ2 _ S5 fun yd fy ρ4 F6 H6 vy n4 s6 S6 r6 => ?_
      obtain ⟨F7, s7, S7, ry⟩ := rzF_frz S6 r6
      obtain ⟨e1, e2⟩ := n4
      have hD6 : H6 D = some (.lst acc) := S7.base D _ upd_same
      have S8 := S7.wipe vs
      rw [e1, w4] at S8
      have sf := s3.trans (s4.trans (s5.trans (s6.trans s7)))
      refine ⟨acc, hD6, ?_, F7, acc ++ [vy], ad ++ [yd], e2, by rw [List.length_append, List.length_singleton]; omega, s2.trans sf, S8.repin hB hJ hh rfl rfl rfl hs, ?_⟩
      · rw [r2.len, sizeLine_eq]
        omega
      · exact (rzl_mono sf _ _ r2).app (.cons ry .nil)
  · rintro H2 ⟨F2, acc, ad, wa, la, s2, S2, r2⟩
    obtain ⟨S3, hD2, hF2⟩ := S2.unpinNew hB hJ hh rfl hs
    have S4 := S1.unwipe S3 s2 hw
    have S5 := B.sm F2 H2 σ ρ1 s2 S4 hbp
    have S0 := B.sm F1 H1 σ ρ1 (Same.refl F1) S1 hbp
    have uD : ∀ {Hx : Hp} {Fx : Hp}, Sc z m' Fx Hx → undo un Hx D = Hx D := fun {Hx Fx} C => by
      cases un with
      | none => rfl
      | some p =>
        obtain ⟨d, u⟩ := p
        obtain ⟨od, e⟩ := B.fz Fx Hx C d u rfl
        show upd Hx d u D = Hx D
        have j := C.fj d od u e
        rw [upd_ne (fun c => by rw [← c, hJ] at j; cases j)]
    have fresh : RzF z m F2 (undo un H2) σ (bm ρ1) true (.lst true ad) (.ref D) := by
      refine ⟨D, rfl, ⟨hF2, by rw [← B.bb]; exact hB, ?_, .lst acc, by rw [uD S3.toSc]; exact hD2, .lst (by rw [← B.bb]; exact r2)⟩, fun j e a b => ?_⟩
      · exact S0.base.free (by rw [uD S1.toSc]; exact hD)
      · obtain ⟨l, hl, _, _, _, ho, h4, _⟩ := S0.geto a
        rw [b] at hl
        cases hl
        rw [uD S1.toSc, hD] at h4
        cases h4
    have fin := k _ _ _ _ _ _ (n ad wa) (s1.trans s2) S5 fresh
    cases un with
    | none => exact .inl fin
    | some p =>
      obtain ⟨d, u⟩ := p
      obtain ⟨od, e⟩ := B.fz F2 H2 S3.toSc d u rfl
      exact .inr ⟨d, od, u, B.leg d u rfl, e, fin⟩
/-- [te for g in .. if tt], over what stands for as -/
theorem ze_lcM {α : Type} (as : List α) (gd : α → Dt) (f : α → Option Dt) (h : ZI z wi ρ fun ds ρ1 bp bm => ds = as.map gd ∧ bp ρ1 ∧ okW ρ1 vs = true ∧ as.length ≤ 100000 ∧
    (∀ a ∈ as, ZGw z g vs (gd a) (wipeZ ρ1 vs) fun ρ2 => ZT z tt ρ2 fun b ρ3 => if b = true then ZE z te ρ3 fun y _ ρ4 => wipeZ ρ4 vs = wipeZ ρ1 vs ∧ f a = some y else wipeZ ρ3 vs = wipeZ ρ1 vs ∧ f a = none) ∧
    N (.lst true (as.filterMap f)) true (bm ρ1)) : ZE z (tLockLE (tLc wi g tt te vs)) ρ N :=
  ze_lcW fun m F H σ R S k => h m F H σ R S fun ds ρ1 bp bm m' un F1 H1 Jt n1 => k ds ρ1 bp bm m' un F1 H1 Jt <| by
    obtain ⟨rfl, h1, h2, h3, h4, h5⟩ := n1
    refine ⟨h1, h2, by rw [List.length_map]; exact h3, fun i ad => ad = (as.take i).filterMap f, rfl, fun i d ad hd ha => ?_, fun ad ha => ?_⟩
    · rw [List.getElem?_map] at hd
      cases q : as[i]? with
      | none => rw [q] at hd; cases hd
      | some a =>
        rw [q] at hd
        cases hd
        have hf := h4 a (List.mem_of_getElem? q)
        refine fun m F H σ v Q S r k => hf m F H σ v Q S r fun ρ2 F2 H2 σ2 n2 => k ρ2 F2 H2 σ2 fun m F H σ Q S k => n2 m F H σ Q S fun b ρ3 F3 H3 n3 => k b ρ3 F3 H3 ?_
        cases b with
        | false =>
          rw [if_neg (by decide)] at n3 ⊢
          refine ⟨n3.1, ?_⟩
          show ad = (as.take (i + 1)).filterMap f
          rw [filterMap_take f q, n3.2, ha]
          simp
        | true =>
          rw [if_pos rfl] at n3 ⊢
          refine fun m F H σ Q S k => n3 m F H σ Q S fun y fy ρ4 F4 H4 v n4 => k y fy ρ4 F4 H4 v ⟨n4.1, ?_⟩
          show ad ++ [y] = (as.take (i + 1)).filterMap f
          rw [filterMap_take f q, n4.2, ha]
          rfl
    · rw [List.length_map, List.take_length] at ha
      rw [ha]
      exact h5
end
/-! ### dicts: displays, copies -/
theorem zmerge_nodup : ∀ (more acc : List (Key × V)), (more.map (·.1)).Nodup → (∀ k ∈ more.map (·.1), valV acc k = none) → mergeK acc more = acc ++ more
  | [], acc, _, _ => (List.append_nil acc).symm
  | (k, v) :: r, acc, nd, hn => by
    rw [List.map_cons, List.nodup_cons] at nd
    show mergeK (putK acc k v) r = _
    have h0 : valV acc k = none := hn k List.mem_cons_self
    rw [putK_new v h0, zmerge_nodup r _ nd.2 fun j hj => ?_, List.append_assoc]
    · rfl
    · rw [valV_snoc k j v acc h0, if_neg fun z => nd.1 (by rw [← z]; exact hj)]
      exact hn j (List.mem_cons_of_mem _ hj)
def noL (ρ : List Sl) : Bool := ρ.all fun s => match s with
  | .l _ _ => false
  | _ => true
theorem noL_not {ρ : List Sl} (h : noL ρ = true) (a : Addr) (i : Nat) (d : Dt) : ρ[i]? ≠ some (.l a d) := fun e => by
  have := List.all_eq_true.mp h _ (List.mem_of_getElem? e)
  cases this
def ZP (z : Cz) : List (TE × TE) → List Sl → (List Key → List Dt → List Sl → Prop) → Prop
  | [], ρ, N => N [] [] ρ
  | (tk, tv) :: r, ρ, N => ZE z tk ρ fun x _ ρ1 => ∃ k, x = keyD k ∧ ZE z tv ρ1 fun y _ ρ2 => ZP z r ρ2 fun ks ds ρ3 => N (k :: ks) (y :: ds) ρ3
section
variable {z : Cz} {ρ : List Sl} {N : Dt → Bool → List Sl → Prop} {ta tb te : TE}
theorem zp_run : ∀ (trs : List (TE × TE)) (ρ : List Sl) (N : List Key → List Dt → List Sl → Prop), ZP z trs ρ N → ∀ (m : Fm) (F H : Hp) (σ : L2.St) (Q : List (V × V) → Hp → Prop), Sm z m F H σ ρ →
    (∀ ks ds ρ' F' H' (kvs : List (Key × V)), N ks ds ρ' → Same F F' → Sm z m F' H' σ ρ' → kvs.map Prod.fst = ks → Rzl z.K m.B F' ds (kvs.map Prod.snd) → Q (kvs.map fun kv => (kV kv.1, kv.2)) H') → tPairs trs σ H Q
  | [], ρ, N, h, m, F, H, σ, Q, S, k => k [] [] ρ F H [] h (Same.refl F) S rfl .nil
  | (tk, tv) :: r, ρ, N, h, m, F, H, σ, Q, S, k => by
    refine h m F H σ _ S fun x fx ρ1 F1 H1 vx n1 s1 S1 r1 => ?_
    obtain ⟨F2, s2, S2, rx⟩ := rzF_frz S1 r1
    obtain ⟨kk, rfl, n1⟩ := n1
    obtain rfl := rz_key rx
    refine n1 m F2 H1 σ _ S2 fun y fy ρ2 F3 H3 vy n2 s3 S3 r3 => ?_
    obtain ⟨F4, s4, S4, ry⟩ := rzF_frz S3 r3
    refine zp_run r ρ2 _ n2 m F4 H3 σ _ S4 fun ks ds ρ' F' H' kvs n s S' e rr => ?_
    exact k (kk :: ks) (y :: ds) ρ' F' H' ((kk, vy) :: kvs) n (((s1.trans s2).trans (s3.trans s4)).trans s) S' (by rw [List.map_cons, e]) (.cons (rz_mono s _ _ ry) rr)
theorem ze_disp {trs : List (TE × TE)} (h : ZP z trs ρ fun ks ds ρ1 => noL ρ1 = true ∧ ks.Nodup ∧ ks.length ≤ 15 ∧ N (.dic true ks ds) true ρ1) : ZE z (tDisp trs) ρ N := fun m F H σ Q S k => by
  intro D hD
  have hB := S.dom D hD
  have hJ := S.j_none hD
  have hh : ¬ m.hd D := fun q => by
    obtain ⟨_, o, q2, _⟩ := S.hid D q
    rw [hJ] at q2
    cases q2
  refine zp_run trs ρ _ h (m.pin D (.dK [])) F (upd H D (.dK [])) σ _ (S.pinNew hD rfl rfl) fun ks ds ρ' F' H' kvs n s S' e rr => ?_
  obtain ⟨nl, nd, hl, n⟩ := n
  have hs : ∀ (i : Nat) (d : Dt), ρ'[i]? ≠ some (.l D d) := noL_not nl D
  have S2 := S'.repin (o' := .dK kvs) hB hJ hh rfl rfl rfl hs
  obtain ⟨S3, hD2, hF2⟩ := S2.unpinNew hB hJ hh rfl hs
  have em : mergeK [] kvs = kvs := by
    have := zmerge_nodup kvs [] (by rw [show kvs.map (·.1) = ks from e]; exact nd) fun _ _ => rfl
    rw [this]
    rfl
  have hD6 : H' D = some (.dK []) := S'.base D _ upd_same
  refine ⟨hD6, kvs, rfl, by rw [← List.length_map (f := Prod.fst), e]; exact hl, ?_⟩
  rw [em]
  refine k _ _ _ _ _ _ n s S3 ⟨D, rfl, ⟨hF2, hB, hJ, .dK kvs, hD2, ?_⟩, fun j e' a b => ?_⟩
  · rw [← e]
    exact .dK rr
  · obtain ⟨l, hl, _, _, q3, _⟩ := S'.geto a
    rw [b] at hl
    cases hl
    have q3 : upd m.J D _ D = none := q3
    rw [upd_same] at q3
    cases q3
/-- dict(d) -/
theorem ze_dictOf (h : ZE z ta ρ fun x _ ρ1 => ∃ t ks ds, x = .dic t ks ds ∧ N (.dic true ks ds) true ρ1) : ZE z (tCB (fun xs H Q => ∃ (a : Addr) (kvs : List (Key × V)), xs = [.ref a] ∧ L2.Rd H a (.dK kvs) ∧ ∀ p, H p = none → Q (.ref p) (upd H p (.dK kvs))) (tCons ta tNil)) ρ N :=
  ze_CB1 (W := fun x N ρ1 => ∃ t ks ds, x = .dic t ks ds ∧ N (.dic true ks ds) true ρ1) (fun x ρ2 N n1 m F H σ Q vx S r k => by
    obtain ⟨t, ks, ds, rfl, q⟩ := n1
    simp only [Rz] at r
    obtain ⟨a, kvs, rfl, e, _, e2, r⟩ := r
    refine ⟨a, kvs, rfl, S.le.rd e, fun p hp => ?_⟩
    refine k _ _ _ _ _ _ q (Same.refl F) (S.newO hp) (rzF_new S hp ?_)
    rw [← e2]
    exact .dK r) h
end
theorem zp_nil {z : Cz} {ρ : List Sl} {N : List Key → List Dt → List Sl → Prop} (h : N [] [] ρ) : ZP z [] ρ N := h
theorem zp_cons {z : Cz} {ρ : List Sl} {tk tv : TE} {r : List (TE × TE)} {N : List Key → List Dt → List Sl → Prop} (h : ZE z tk ρ fun x _ ρ1 => ∃ k, x = keyD k ∧ ZE z tv ρ1 fun y _ ρ2 => ZP z r ρ2 fun ks ds ρ3 => N (k :: ks) (y :: ds) ρ3) : ZP z ((tk, tv) :: r) ρ N := h
/-! ### making: a class whose __init__ sets its fields to what it is given -/
def spF (C : Addr) (fs : List Str) : Sp := fun vs H Q _ => ∃ (x dx : Addr) (args : List V), vs = .ref x :: args ∧ args.length = fs.length ∧ H x = some (.ins C dx []) ∧ Q .non (upd H x (.ins C dx (fs.zip args)))
theorem zip_fst {fs : List Str} : ∀ {vs : List V}, vs.length = fs.length → (fs.zip vs).map Prod.fst = fs := by
  induction fs with
  | nil => intro vs _; rfl
  | cons f r ih =>
    intro vs h
    cases vs with
    | nil => cases h
    | cons v vs => rw [List.zip_cons_cons, List.map_cons, ih (Nat.succ.inj h)]
theorem zip_snd {fs : List Str} : ∀ {vs : List V}, vs.length = fs.length → (fs.zip vs).map Prod.snd = vs := by
  induction fs with
  | nil => intro vs h; cases vs with | nil => rfl | cons _ _ => cases h
  | cons f r ih =>
    intro vs h
    cases vs with
    | nil => cases h
    | cons v vs => rw [List.zip_cons_cons, List.map_cons, ih (Nat.succ.inj h)]
theorem flat_mk {K : PySem.W.Frag} {B F : Hp} : ∀ {ds : List Dt} {vs : List V}, ds.mapM flatD = some vs → Rzl K B F ds vs
  | [], vs, h => by rw [List.mapM_nil] at h; cases h; exact .nil
  | d :: ds, vs, h => by
    rw [List.mapM_cons] at h
    cases e : flatD d with
    | none => rw [e] at h; cases h
    | some u =>
      rw [e] at h
      cases e2 : ds.mapM flatD with
      | none => rw [e2] at h; cases h
      | some us =>
        rw [e2] at h
        cases h
        refine .cons ?_ (flat_mk e2)
        cases d <;> simp only [flatD] at e <;> cases e <;> simp only [Rz]
section
variable {z : Cz} {ρ : List Sl} {N : Dt → Bool → List Sl → Prop} {t : TA} {E : XK}
theorem ze_makeF {C : Addr} {fs : List Str} {dvs : List V} (h : ZA z t ρ fun ds ρ1 => ∃ es, es.mapM flatD = some dvs ∧ ds.length + es.length = fs.length ∧ N (.ins C fs (ds ++ es)) false ρ1) : ZE z (tMake C (spF C fs) dvs E t) ρ N := fun m F H σ Q S k => by
  refine h m F H σ _ S fun ds ρ1 F1 H1 vs n1 s1 S1 r1 x dx hx hd ne => ?_
  obtain ⟨es, he, hl, n1⟩ := n1
  have r2 : Rzl z.K m.B F1 (ds ++ es) (vs ++ dvs) := r1.app (flat_mk he)
  have hlen : (vs ++ dvs).length = fs.length := by rw [r2.len, List.length_append]; exact hl
  refine ⟨x, dx, vs ++ dvs, rfl, hlen, upd_same, rfl, ?_⟩
  rw [upd_upd]
  obtain ⟨s2, S2⟩ := sm_ins (C := C) (fs := fs.zip (vs ++ dvs)) S1 hx hd ne
  refine k _ _ _ _ _ _ n1 (s1.trans s2) S2 (rzF_f (show Rz z.K m.B _ (.ins C fs _) _ from ?_))
  simp only [Rz]
  refine ⟨x, dx, _, rfl, upd_same, zip_fst hlen, ?_⟩
  rw [zip_snd hlen]
  exact rzl_mono s2 _ _ r2
end
/-! ### dict comprehensions -/
section
variable {J : It} {n : Nat} {G : Hp → Prop} {Y : Nat → Hp → V → Hp → Prop}
theorem zdc_it (w : Walk J n G Y) {g : TG} {tt : TT} {tk tv : TE} {vs : List Nat} {σ : St} {H1 : Hp} {D : Addr} {Qd : Hp → Prop} (Pv : Nat → Hp → Prop) (h0 : Pv 0 (upd H1 D (.dK []))) (hG : ∀ i H, i ≤ n → Pv i H → G H)
    (hs : ∀ i x H H', i < n → Pv i H → Y i H x H' → g x (wipe σ vs) H' fun σ2 H2 => wipe σ2 vs = wipe σ vs ∧ tt σ2 H2 fun b H3 =>
      if b = true then tk σ2 H3 fun y H4 => tv σ2 H4 fun z H5 => ∃ kvs k, y = kV k ∧ H5 D = some (.dK kvs) ∧ kvs.length < sizeLine ∧ Pv (i + 1) (upd H5 D (.dK (putK kvs k z))) else Pv (i + 1) H3) (hd : ∀ H, Pv n H → Qd H) :
    ∃ W : Nat → Nat → Hp → Prop, (∃ m, W 0 m (upd H1 D (.dK []))) ∧ ∀ i m H, W i m H →
      (J.stop i H ∧ Qd H) ∨ (J.go i H ∧ ∃ Nx : Hp → Prop, (∀ H', Nx H' → ∃ m', m' < m ∧ W (i + 1) m' H') ∧ ∀ x H', J.yld i H x H' → g x (wipe σ vs) H' fun σ2 H2 => wipe σ2 vs = wipe σ vs ∧ tt σ2 H2 fun b H3 =>
        if b = true then tk σ2 H3 fun y H4 => tv σ2 H4 fun z H5 => ∃ kvs k, y = kV k ∧ H5 D = some (.dK kvs) ∧ kvs.length < sizeLine ∧ Nx (upd H5 D (.dK (putK kvs k z))) else Nx H3) := by
  refine ⟨fun i m H => m = n - i ∧ i ≤ n ∧ Pv i H, ⟨n, by simp, Nat.zero_le _, h0⟩, ?_⟩
  rintro i m H ⟨rfl, hi, p⟩
  have q := hG i H hi p
  by_cases hlt : i < n
  · exact .inr ⟨w.goes i H hlt q, Pv (i + 1), fun H' p' => ⟨n - (i + 1), by omega, rfl, hlt, p'⟩, fun x H' y => hs i x H H' hlt p (w.yields i H x H' hlt q y)⟩
  · have e : i = n := by omega
    subst e
    exact .inl ⟨w.stops H q, hd H p⟩
end
section
variable {z : Cz} {ρ : List Sl} {wi : TI} {g : TG} {tt : TT} {tk tv : TE} {vs : List Nat} {N : Dt → Bool → List Sl → Prop}
/-- {tk: tv for g in .. if tt} -/
theorem ze_dcW (h : ZI z wi ρ fun ds ρ1 bp bm => bp ρ1 ∧ okW ρ1 vs = true ∧ ds.length ≤ 100000 ∧ ∃ W : Nat → List Key → List Dt → Prop, W 0 [] [] ∧
    (∀ i d ks ad, ds[i]? = some d → W i ks ad → ZGw z g vs d (wipeZ ρ1 vs) fun ρ2 => ZT z tt ρ2 fun b ρ3 => if b = true then ZE z tk ρ3 fun y _ ρ4 => ∃ kk, y = keyD kk ∧ ZE z tv ρ4 fun y2 _ ρ5 => wipeZ ρ5 vs = wipeZ ρ1 vs ∧ W (i + 1) (putKs ks kk) (putDs ks ad kk y2) else wipeZ ρ3 vs = wipeZ ρ1 vs ∧ W (i + 1) ks ad) ∧
    ∀ ks ad, W ds.length ks ad → N (.dic true ks ad) true (bm ρ1)) : ZE z (tLockLE (tDc wi g tt tk tv vs)) ρ N := fun m F H σ Q S k => by
  refine h m F H σ _ S fun ds ρ1 bp bm m' un F1 H1 Jt n1 s1 B S1 it => ?_
  obtain ⟨hbp, hw, hz, W, w0, hf, n⟩ := n1
  obtain ⟨n', G, Y, wk, rfl, gk, yk⟩ := it
  intro D hD
  have hB := S1.dom D hD
  have hJ := S1.j_none hD
  have hh : ¬ m'.hd D := fun q => by
    obtain ⟨_, o, q2, _⟩ := S1.hid D q
    rw [hJ] at q2
    cases q2
  have hs : ∀ (i : Nat) (d : Dt), (wipeZ ρ1 vs)[i]? ≠ some (.l D d) := fun i d e => by
    obtain ⟨ov, _, _, q1, _⟩ := (S1.wipe vs).get e
    exact hh q1
  refine zdc_it wk (fun i H2 => ∃ F2 acc ad, W i (acc.map Prod.fst) ad ∧ acc.length ≤ i ∧ Same F1 F2 ∧ Sm z (m'.pin D (.dK acc)) F2 H2 (L2.wipe σ vs) (wipeZ ρ1 vs) ∧ Rzl z.K m'.B F2 ad (acc.map Prod.snd)) ?_ ?_ ?_ ?_
  · exact ⟨F1, [], [], w0, Nat.le_refl _, Same.refl F1, (S1.wipe vs).pinNew hD rfl rfl, .nil⟩
  · rintro i H2 hi ⟨F2, acc, ad, wa, la, s2, S2, r2⟩
    have b2 : Same m'.J H2 := fun a u q => S2.base a u (by
      show upd m'.J D _ a = _
      rw [upd_ne (fun c => by rw [c, hJ] at q; cases q)]
      exact q)
    exact gk F2 H2 s2 S2.le b2
  · rintro i x H2 H3 hi ⟨F2, acc, ad, wa, la, s2, S2, r2⟩ y
    obtain ⟨F3, s3, S3, rx⟩ := yk (m'.pin D (.dK acc)) i ds[i] F2 H2 H3 x _ _ rfl (List.getElem?_eq_getElem hi) s2 S2 y
    have hd : ds[i]? = some ds[i] := List.getElem?_eq_getElem hi
    refine hf i ds[i] _ ad hd wa (m'.pin D (.dK acc)) F3 H3 _ x _ S3 rx fun ρ2 F4 H4 σ2 n2 s4 S4 w4 => ?_
    rw [wipe_wipe] at w4
    refine ⟨w4, n2 _ F4 H4 σ2 _ S4 fun b ρ3 F5 H5 n3 s5 S5 => ?_⟩
    have ss := s2.trans (s3.trans (s4.trans s5))
    cases b with
    | false =>
      obtain ⟨e1, e2⟩ := n3
      refine ⟨F5, acc, ad, e2, by omega, ss, ?_, rzl_mono (s3.trans (s4.trans s5)) _ _ r2⟩
      have := S5.wipe vs
      rw [e1, w4] at this
      exact this
    | true =>
      refine n3 _ F5 H5 σ2 _ S5 fun yd fy ρ4 F6 H6 vy n4 s6 S6 r6 => ?_
      obtain ⟨F7, s7, S7, ry⟩ := rzF_frz S6 r6
      obtain ⟨kk, rfl, n4⟩ := n4
      obtain rfl := rz_key ry
      refine n4 _ F7 H6 σ2 _ S7 fun y2 fy2 ρ5 F8 H8 v2 n5 s8 S8 r8 => ?_
      obtain ⟨F9, s9, S9, rv⟩ := rzF_frz S8 r8
      obtain ⟨e1, e2⟩ := n5
      have hD6 : H8 D = some (.dK acc) := S9.base D _ upd_same
      have S10 := S9.wipe vs
      rw [e1, w4] at S10
      have sf := s3.trans (s4.trans (s5.trans (s6.trans (s7.trans (s8.trans s9)))))
      refine ⟨acc, kk, rfl, hD6, by rw [sizeLine_eq]; omega, F9, putK acc kk v2, _, by rw [tab_putK]; exact e2, Nat.le_trans (length_putK acc kk v2) (by omega), s2.trans sf, S10.repin hB hJ hh rfl rfl rfl hs, ?_⟩
      exact tab_putD (rzl_mono sf _ _ r2) rv
  · rintro H2 ⟨F2, acc, ad, wa, la, s2, S2, r2⟩
    obtain ⟨S3, hD2, hF2⟩ := S2.unpinNew hB hJ hh rfl hs
    have S4 := S1.unwipe S3 s2 hw
    have S5 := B.sm F2 H2 σ ρ1 s2 S4 hbp
    have S0 := B.sm F1 H1 σ ρ1 (Same.refl F1) S1 hbp
    have uD : ∀ {Hx : Hp} {Fx : Hp}, Sc z m' Fx Hx → undo un Hx D = Hx D := fun {Hx Fx} C => by
      cases un with
      | none => rfl
      | some p =>
        obtain ⟨d, u⟩ := p
        obtain ⟨od, e⟩ := B.fz Fx Hx C d u rfl
        show upd Hx d u D = Hx D
        have j := C.fj d od u e
        rw [upd_ne (fun c => by rw [← c, hJ] at j; cases j)]
    have fresh : RzF z m F2 (undo un H2) σ (bm ρ1) true (.dic true (acc.map Prod.fst) ad) (.ref D) := by
      refine ⟨D, rfl, ⟨hF2, by rw [← B.bb]; exact hB, ?_, .dK acc, by rw [uD S3.toSc]; exact hD2, .dK (by rw [← B.bb]; exact r2)⟩, fun j e a b => ?_⟩
      · exact S0.base.free (by rw [uD S1.toSc]; exact hD)
      · obtain ⟨l, hl, _, _, _, ho, h4, _⟩ := S0.geto a
        rw [b] at hl
        cases hl
        rw [uD S1.toSc, hD] at h4
        cases h4
    have fin := k _ _ _ _ _ _ (n _ ad wa) (s1.trans s2) S5 fresh
    cases un with
    | none => exact .inl fin
    | some p =>
      obtain ⟨d, u⟩ := p
      obtain ⟨od, e⟩ := B.fz F2 H2 S3.toSc d u rfl
      exact .inr ⟨d, od, u, B.leg d u rfl, e, fin⟩
end
/-- name = {..} on one line, the name a local -/
theorem ps_setDc {X : Cx} {i : Nat} {y : Str} {py : Pos} {kx vx tg iter : Expr} {ifs : List Expr} {scope : Scope} {own : List (Str × Nat)} {pos spos : Pos} {wi : TI} {g : TG} {tt : TT} {tk tv : TE} (hc : X.calm = true) (hN : X.N.Nodup) (hy : X.N[i]? = some y) (hyl : X.env.scope.names.lookup y = some .local)
    (hsw : swapsWith (.DictComp kx vx [⟨tg, iter, ifs, 0⟩] scope pos) (some (.Name y py)) spos.line X.env = pure true) (hi : PI X tg iter wi) (ok : BlkOk X.N X.env.scope scope own)
    (hg : ∀ (s : Shared) (H : Hp) (C : Addr) (cl : List (Str × Addr)) (fp : List Addr), PG (X.blk s H scope (compEnvC scope cl C X.env) fp) tg g) (ht : ∀ (s : Shared) (H : Hp) (C : Addr) (cl : List (Str × Addr)) (fp : List Addr), PTs (X.blk s H scope (compEnvC scope cl C X.env) fp) ifs tt)
    (hk : ∀ (s : Shared) (H : Hp) (C : Addr) (cl : List (Str × Addr)) (fp : List Addr), PE (X.blk s H scope (compEnvC scope cl C X.env) fp) kx tk)
    (he : ∀ (s : Shared) (H : Hp) (C : Addr) (cl : List (Str × Addr)) (fp : List Addr), PE (X.blk s H scope (compEnvC scope cl C X.env) fp) vx tv) (hs : ∀ x, foldedSetIterable iter X.env x = pure x := by intro _; rfl) :
    PS X (.Assign [.Name y py] (.DictComp kx vx [⟨tg, iter, ifs, 0⟩] scope pos) spos) (tAsg (tDc wi g tt tk tv (own.map (·.2))) (gName i)) := by
  refine ⟨fun pins s σ H D I h => ?_⟩
  rw [exec_Assign_Name_used _ _ _ _ hsw]
  refine wpAny_bind (wpAny_standAt (wpAny_bind ?_))
  show wpAny _ X.A (do let _ ← comprehension (.DictComp kx vx [⟨tg, iter, ifs, 0⟩] scope pos) scope X.env (firstIterPos [⟨tg, iter, ifs, 0⟩] pos) newDict false (eval iter X.env) (some (assign (.Name y py) X.env))) _ _ s
  have h : tDc wi g tt tk tv (own.map (·.2)) σ H (fun x H1 => gName i x σ H1 D.nx) := h
  refine wpAny_bind (thn (dc_core (Qf := fun _ s' => SP X pins D .next s') hc hN I hi ok hg ht hk he hs h fun L C s' m H' I' q hn f => ?_) fun _ s' hq => wpAny_pure (wpAny_pure hq))
  show wpAny _ _ (assign (.Name y py) X.env (.ref L)) _ _ _
  refine wpAny_assign_Name (store_ok2 (v := V.ref L) I' hN hy (.inl hyl) rfl (fun s2 I2 ⟨a, sb, ha⟩ => ?_) (.inr hyl))
  obtain ⟨f0, f1, f2, f3, f4, f5⟩ := f
  have haC : C ≠ a := by
    rcases ha with z | z
    · rw [z]; exact f1
    · exact fun e => f4 y a z e.symm
  refine ⟨m, hn.sameBut sb haC, fun h3 sb3 => ?_⟩
  exact ⟨_, H', I2.turned (t' := s2.toks) (fun b o hb e => (sb3.2 b hb).trans e) f0 f1 f3 f4 f5, q⟩
theorem zs_setdc {z : Cz} {ρ : List Sl} {i : Nat} {wi : TI} {g : TG} {tt : TT} {tk tv : TE} {vs : List Nat} {D : Zn} (h : ZE z (tLockLE (tDc wi g tt tk tv vs)) ρ fun d fr ρ1 => ZG z (gName i) d fr ρ1 D.nx) : ZS z (tLockL (tAsg (tDc wi g tt tk tv vs) (gName i))) ρ D := fun m F H σ E S kn kr kb kc =>
  h m F H σ (fun x H1 => E.nx (σ.set i (some x)) H1) S fun d fr ρ1 F1 H1 v n1 s1 S1 r1 => n1 m F1 H1 σ v (fun σ2 H2 => E.nx σ2 H2) S1 r1 fun ρ2 F2 H2 σ2 n2 s2 => kn ρ2 F2 H2 σ2 n2 (s1.trans s2)
/-! ### xs[::step] of a list, step 1 or -1 -/
section
variable {X : Cx}
def tStepL (K : PySem.W.Frag) (te : TE) (to : TO) : TE := fun σ H Q => te σ H fun x H1 => to σ H1 fun o H2 => ∃ a xs, x = .ref a ∧ SqL K H2 a xs ∧
  ((o = some (-1) ∧ ∀ p, H2 p = none → Q (.ref p) (upd H2 p (.lst xs.reverse))) ∨ (o = some 1 ∧ ∀ p, H2 p = none → Q (.ref p) (upd H2 p (.lst xs))))
theorem pick_one (items : Array Value) : slicePick items none none (some 1) = items := by
  have e : slicePick items none none (some 1) = slicePick items none none none := rfl
  have h := slicePick_cut items.toList none none
  rw [Array.toArray_toList] at h
  rw [e, h]
  unfold HT.sIx
  have e2 : items.size = items.toList.length := by simp
  simp only [Option.getD, e2, Nat.sub_zero, List.drop_zero, List.take_length, Array.toArray_toList]
theorem pe_stepL {K : PySem.W.Frag} (hK : X.K = K) {e est : Expr} {te : TE} {to : TO} {p3 pos : Pos} (he : PE X e te) (hs : PO X (some est) to) (hsub : ∀ u v : Value, subscripted (.Slice none none (some est) p3) false u v = operate [u, v] (getItem u v) := by intro _ _; with_unfolding_all rfl) (lt : ∀ v r, letTemporaryGo e v r = pure () := by intro _ _; rfl) : PE X (.Subscript e (.Slice none none (some est) p3) pos) (tStepL K te to) := by
  subst hK
  refine ⟨fun pins s σ H Q I h => ?_⟩
  refine Subscript_ (thn (he.run pins s σ H _ I h) fun v s1 ⟨x, H1, I1, r1, q1⟩ => ?_)
  refine wpAny_Slice (thn (po_none.run pins s1 σ H1 (fun o H2 => o = none ∧ H2 = H1) I1 ⟨rfl, rfl⟩) fun vl s2 ⟨l, H2, I2, pl, el, e2⟩ => ?_)
  subst el e2
  refine thn (po_none.run pins s2 σ H2 (fun o H3 => o = none ∧ H3 = H2) I2 ⟨rfl, rfl⟩) fun vu s3 ⟨u, H3, I3, pu, eu, e3⟩ => ?_
  subst eu e3
  refine thn (hs.run pins s3 σ H3 _ I3 q1) fun vs s4 ⟨o, H4, I4, ps, a, xs, ex, hx, q⟩ => ?_
  subst ex
  cases r1
  have I5 : Inv X pins σ H4 { s4 with heap := s4.heap.push { cls := .type "slice", data := .fields #[vl, vu, vs] } } := I4.kept (t' := s4.toks) fun b ob q => Heap.get?_push_of_some _ q
  obtain ⟨its, r, ht, hz⟩ := I5.list hx
  have hlen := r.length
  show wpAny (model X.prog X.w) X.A (subscriptTail e (.Slice none none (some est) p3) (.ref a) (.ref s4.heap.objs.size)) (EP X pins σ Q) X.xe { s4 with heap := s4.heap.push { cls := .type "slice", data := .fields #[vl, vu, vs] } }
  refine tail_any (ops := [.ref a, .ref s4.heap.objs.size]) ht.isList.typeIs (PySem.slot_list_getitem.lookup) ?_ (hsub _ _)
  rcases q with ⟨rfl, q⟩ | ⟨rfl, q⟩
  · refine wpAny_getItem_list_slice ht.isList (Heap.IsSliceOf.new _ vl vu vs) pl pu ps (by decide) ?_ (by rw [List.size_toArray]; omega)
    rw [PySem.W.krv_pick]
    refine ⟨.ref _, _, I5.laid (t' := s4.toks) (o := .lst xs.reverse) (fun b ob q => Heap.get?_push_of_some _ q) (Nat.le_refl _) ?_, rfl, q _ (I5.hok.fresh (Nat.le_refl _))⟩
    exact ⟨by rw [List.length_reverse]; exact hz, _, 0, r.reverse, Heap.get?_push_size _ rfl⟩
  · refine wpAny_getItem_list_slice ht.isList (Heap.IsSliceOf.new _ vl vu vs) pl pu ps (by decide) ?_ (by rw [List.size_toArray]; omega)
    rw [pick_one]
    refine ⟨.ref _, _, I5.laid (t' := s4.toks) (o := .lst xs) (fun b ob q => Heap.get?_push_of_some _ q) (Nat.le_refl _) ?_, rfl, q _ (I5.hok.fresh (Nat.le_refl _))⟩
    exact ⟨hz, _, 0, r, Heap.get?_push_size _ rfl⟩
end
/-! ### max(xs, default=d) of ints -/
section
variable {X : Cx}
def maxL (d : Int) : List Int → Int
  | [] => d
  | y :: ys => ys.foldl max y
def rMaxDef (K : PySem.W.Frag) : List V → List V → Hp → VK → Prop := fun xs zs H Q => ∃ (a : Addr) (ns : List Int) (d : Int), xs = [.ref a] ∧ zs = [.int d] ∧ SqL K H a (ns.map V.int) ∧ Q (.int (maxL d ns)) H
theorem datsV_ints {K : PySem.W.Frag} {H : Hp} : ∀ ns : List Int, DatsV K H (ns.map V.int) (ns.map PyData.int)
  | [] => .nil
  | n :: ns => .cons (.int n) (datsV_ints ns)
theorem maxOf_int : ∀ (ys : List Int) (y : Int), PySem.W.maxOf y ys = ys.foldl max y
  | [], y => rfl
  | x :: ys, y => by
    have ih := maxOf_int ys (max y x)
    unfold PySem.W.maxOf at ih ⊢
    rw [List.foldl_cons, List.foldl_cons, ← ih]
    congr 1
    show (if decide (y < x) = true then x else y) = max y x
    rw [Int.max_def]
    by_cases h : y < x
    · rw [if_pos (by simpa using h), if_pos (Int.le_of_lt h)]
    · rw [if_neg (by simpa using h)]
      split <;> omega
theorem cr_maxDef {K : PySem.W.Frag} (hK : X.K = K) (hc : X.calm = true) (hu : X.A.units + 1 < cLine) : CallRK X (.builtin "max") [Str.ofString "default"] (rMaxDef K) := by
  subst hK
  intro pins s σ H vs zs us ws Q I r rz h
  obtain ⟨a, ns, d, rfl, rfl, hs, q⟩ := h
  obtain ⟨its, rv, hl, hz⟩ := I.list hs
  rw [Vals.ref1 r]
  obtain ⟨w1, rfl, e1⟩ := vals1 rz
  obtain ⟨td, rfl⟩ := e1
  obtain ⟨as, ra⟩ := DatsV.reads I _ _ _ (datsV_ints ns) rv
  have ra2 : ReadsAll s.heap its (ns.map PySem.W.Datum.toD) as := ra
  refine PySem.W.max_list_datum_default (α := Int) (xs := ns) (I.ok.hd hc) hl.isList ⟨as, ra2⟩ (by show X.A.units + 1 + 0 < cLine; omega) (fun e h' tk hk => ?_) fun y ys i v h' tk e hi hv hk => ?_
  · subst e
    exact ⟨.int d, H, I.kept hk, ⟨_, rfl⟩, q⟩
  · subst e
    have hv2 : ∃ t, v = .int (PySem.W.maxOf y ys) t := by
      obtain ⟨bs, hr⟩ := hv
      cases hr
      exact ⟨_, rfl⟩
    obtain ⟨t, rfl⟩ := hv2
    refine ⟨.int (PySem.W.maxOf y ys), H, I.kept hk, ⟨_, rfl⟩, ?_⟩
    rw [maxOf_int]
    exact q
end
/-! ### what an error left locked is open again where it is caught -/
def strip : HO → HO
  | .frz _ u => strip u
  | o => o
theorem strip_not (o : HO) : isFz (strip o) = false := by
  induction o with
  | frz _ u ih => exact ih
  | _ => rfl
theorem objOk_strip {P : Program} {w : World} {H : Hp} {h : Heap} {a : Addr} {o : HO} (x : ObjOk P w H h a o) : ObjOk P w H h a (strip o) := by
  induction o with
  | frz _ u ih => exact ih x.2
  | _ => exact x
def unLk (H0 H : Hp) : Hp := fun a => match H a with
  | some (.frz ob u) => (match H0 a with
    | some (.frz _ _) => some (.frz ob u)
    | _ => some (strip u))
  | o => o
theorem unLk_of {H0 H : Hp} {a : Addr} {o : HO} (h : H a = some o) (n : isFz o = false) : unLk H0 H a = some o := by
  unfold unLk
  rw [h]
  cases o <;> first | rfl | exact nomatch n
theorem unLk_keep {H0 H : Hp} {a : Addr} {o u o0 u0} (h : H a = some (.frz o u)) (h0 : H0 a = some (.frz o0 u0)) : unLk H0 H a = some (.frz o u) := by
  unfold unLk
  rw [h, h0]
theorem unLk_open {H0 H : Hp} {a : Addr} {o u} (h : H a = some (.frz o u)) (h0 : ∀ o0 u0, H0 a ≠ some (.frz o0 u0)) : unLk H0 H a = some (strip u) := by
  unfold unLk
  rw [h]
  cases e : H0 a with
  | none => rfl
  | some x => cases x <;> first | rfl | exact absurd e (h0 _ _)
theorem unLk_none {H0 H : Hp} {a : Addr} (h : H a = none) : unLk H0 H a = none := by
  unfold unLk
  rw [h]
theorem unLk_fz {H0 H : Hp} {a : Addr} {ob u} (q : unLk H0 H a = some (.frz ob u)) : ∃ o1 u1, H a = some (.frz o1 u1) ∧ ∃ o2 u2, H0 a = some (.frz o2 u2) := by
  cases e : H a with
  | none => rw [unLk_none e] at q; cases q
  | some o =>
    by_cases c : isFz o = false
    · rw [unLk_of e c] at q
      cases q
      exact absurd c Bool.noConfusion
    · obtain ⟨o1, u1, rfl⟩ : ∃ ob u, o = .frz ob u := by
        cases o with
        | frz ob u => exact ⟨ob, u, rfl⟩
        | _ => exact absurd rfl c
      by_cases c0 : ∃ o0 u0, H0 a = some (.frz o0 u0)
      · exact ⟨o1, u1, rfl, c0⟩
      · rw [unLk_open e fun o0 u0 z => c0 ⟨o0, u0, z⟩] at q
        have := strip_not u1
        injection q with q
        rw [q] at this
        exact nomatch this
theorem inv_unLk {X : Cx} {pins : List (Addr × Obj)} {σ : L2.St} {H0 H : Hp} {s : Shared} (hz : ∀ b o u, X.H_0 b = some (.frz o u) → H0 b = some (.frz o u)) (I : Inv X pins σ H s) : Inv X pins σ (unLk H0 H) s where
  ok := I.ok
  os := I.os
  bare := I.bare
  base := ⟨I.base.keep, I.base.slot, fun b o q n hx => unLk_none (I.base.free b o q n hx), I.base.there, fun b xs q => unLk_of (I.base.tups b xs q) rfl, fun b o u q => unLk_keep (I.base.frzs b o u q) (hz b o u q), fun b ps q => by
    obtain ⟨more, hm⟩ := I.base.tbls b ps q
    exact ⟨more, unLk_of hm rfl⟩⟩
  loc := I.loc
  cell := I.cell
  free := unLk_none I.free
  freeC := fun x c q => unLk_none (I.freeC x c q)
  pin := fun p hp => by
    obtain ⟨h1, h2, h3⟩ := I.pin p hp
    exact ⟨h1, unLk_none h2, h3⟩
  hok := fun a o q => by
    have mv : ∀ {o' : HO}, ObjOk X.prog X.w H s.heap a o' → ObjOk X.prog X.w (unLk H0 H) s.heap a o' := fun x => x.stay (fun _ _ _ z => z) (fun b z => unLk_of z rfl) fun b xs z => unLk_of z rfl
    cases e : H a with
    | none => rw [unLk_none e] at q; cases q
    | some x =>
      by_cases c : isFz x = false
      · rw [unLk_of e c] at q
        cases q
        exact mv (I.hok a _ e)
      · obtain ⟨ob, u, rfl⟩ : ∃ ob u, x = .frz ob u := by
          cases x with
          | frz ob u => exact ⟨ob, u, rfl⟩
          | _ => exact absurd rfl c
        by_cases c0 : ∃ o0 u0, H0 a = some (.frz o0 u0)
        · obtain ⟨o0, u0, h0⟩ := c0
          rw [unLk_keep e h0] at q
          cases q
          exact mv (I.hok a _ e)
        · rw [unLk_open e fun o0 u0 z => c0 ⟨o0, u0, z⟩] at q
          cases q
          obtain ⟨_, x2⟩ := (show ObjOk X.prog X.w H s.heap a (.frz ob _) from I.hok a _ e)
          exact mv (objOk_strip x2)
  len := I.len
theorem ps_unlk {X : Cx} {body : List Stmt} {t : TS} {H0 : Hp} (hz : ∀ b o u, X.H_0 b = some (.frz o u) → H0 b = some (.frz o u)) (h : PSs X body t) : PSs X body (fun D σ H => t D σ (unLk H0 H)) := ⟨fun pins s σ H D I q => h.run pins s σ _ D (inv_unLk hz I) q⟩
section
variable {X : Cx} {x n : Str} {c : Value} {i : Nat} {body suite : List Stmt} {b₀ : Stmt} {np pos pos' : Pos} {tb : WX → TS} {ts : Addr → Value → Option Addr → TS} {Wout : WX}
def wAsU (K : PySem.W.Frag) (c : Value) (i : Nat) (ts : Addr → Value → Option Addr → TS) (Wout : WX) (H : Hp) (D : Ends) : WX := wAs K c i (fun a cls d D σ H' => ts a cls d D σ (unLk H H')) Wout D
def wOnlyU (K : PySem.W.Frag) (c : Value) (ts : Addr → Value → Option Addr → TS) (Wout : WX) (H : Hp) (D : Ends) : WX := wOnly K c (fun a cls d D σ H' => ts a cls d D σ (unLk H H')) Wout D
theorem ps_tryU (hs : X.stack = X.env :: X.outer) (hf : X.env.frame = some X.env.locals) (hN : X.N.Nodup) (hi : X.N[i]? = some n) (hln : X.env.kindOf n = some .local) (hc : Names X x c) (tk : Takes X Wout)
    (hb : ∀ (W : WX) (pn : List (Addr × Obj)) (xe : Value → Shared → Prop), Takes (X.tr pn xe) W → PassesOwn (model X.prog X.w) X.A X.env xe → PSs (X.tr pn xe) body (tb W))
    (hsu : ∀ (a : Addr) (oe : Obj) (cls : Value) (d : Option Addr) (pn : List (Addr × Obj)), Zc cls d oe → (∃ vs, oe.data = .fields vs) → PSs (X.suite a ((a, oe) :: pn)) (b₀ :: suite) (ts a cls d)) :
    PS X (.Try body [.ExceptHandler (some (.Name x np)) (some n) (b₀ :: suite) pos'] [] [] pos) (fun D σ H => tb (wAsU X.K c i ts Wout H D) D σ H) := ⟨fun pins s σ H D I q =>
  (ps_try_as (ts := fun a cls d D σ H' => ts a cls d D σ (unLk H H')) hs hf hN hi hln hc tk hb fun a oe cls d pn h1 h2 => ps_unlk (H0 := H) (fun b o u z => I.base.frzs b o u z) (hsu a oe cls d pn h1 h2)).run pins s σ H D I q⟩
theorem ps_tryO (hs : X.stack = X.env :: X.outer) (hf : X.env.frame = some X.env.locals) (hc : Names X x c) (tk : Takes X Wout)
    (hb : ∀ (W : WX) (pn : List (Addr × Obj)) (xe : Value → Shared → Prop), Takes (X.tr pn xe) W → PassesOwn (model X.prog X.w) X.A X.env xe → PSs (X.tr pn xe) body (tb W))
    (hsu : ∀ (a : Addr) (oe : Obj) (cls : Value) (d : Option Addr) (pn : List (Addr × Obj)), Zc cls d oe → (∃ vs, oe.data = .fields vs) → PSs (X.suite a ((a, oe) :: pn)) (b₀ :: suite) (ts a cls d)) :
    PS X (.Try body [.ExceptHandler (some (.Name x np)) none (b₀ :: suite) pos'] [] [] pos) (fun D σ H => tb (wOnlyU X.K c ts Wout H D) D σ H) := ⟨fun pins s σ H D I q =>
  (ps_try_only (ts := fun a cls d D σ H' => ts a cls d D σ (unLk H H')) hs hf hc tk hb fun a oe cls d pn h1 h2 => ps_unlk (H0 := H) (fun b o u z => I.base.frzs b o u z) (hsu a oe cls d pn h1 h2)).run pins s σ H D I q⟩
end
/-! ### several except clauses, what an error left locked opened again -/
def wManyU (K : PySem.W.Frag) (l : List (Value × (Addr → Value → Option Addr → TS))) (Wout : WX) (H : Hp) (D : Ends) : WX :=
  wMany K Wout D (l.map fun p => (p.1, fun a cls d D σ H' => p.2 a cls d D σ (unLk H H')))
theorem hds_unlk {X : Cx} {H0 : Hp} (hz : ∀ b o u, X.H_0 b = some (.frz o u) → H0 b = some (.frz o u)) {hds : List ExceptHandler} {l : List (Value × (Addr → Value → Option Addr → TS))} (h : HdsOk X hds l) :
    HdsOk X hds (l.map fun p => (p.1, fun a cls d D σ H' => p.2 a cls d D σ (unLk H0 H'))) := by
  induction h with
  | nil => exact .nil
  | @cons x c ts b₀ suite np pos' hds2 l2 hc hsu r ih => exact .cons hc (fun a oe cls d pn h1 h2 => ps_unlk (H0 := H0) hz (hsu a oe cls d pn h1 h2)) ih
section
variable {X : Cx} {body : List Stmt} {h₀ : ExceptHandler} {hds : List ExceptHandler} {l : List (Value × (Addr → Value → Option Addr → TS))} {pos : Pos} {tb : WX → TS} {Wout : WX}
theorem ps_tryM (hs : X.stack = X.env :: X.outer) (hf : X.env.frame = some X.env.locals) (tk : Takes X Wout)
    (hb : ∀ (W : WX) (pn : List (Addr × Obj)) (xe : Value → Shared → Prop), Takes (X.tr pn xe) W → PassesOwn (model X.prog X.w) X.A X.env xe → PSs (X.tr pn xe) body (tb W))
    (hh : HdsOk X (h₀ :: hds) l) : PS X (.Try body (h₀ :: hds) [] [] pos) (fun D σ H => tb (wManyU X.K l Wout H D) D σ H) := ⟨fun pins s σ H D I q =>
  (ps_try_many hs hf tk hb (hds_unlk (H0 := H) (fun b o u z => I.base.frzs b o u z) hh)).run pins s σ H D I q⟩
end
/-! ### raise, try, max with a default -/
section
variable {z : Cz} {ρ : List Sl} {N : Zn} {t : TS} {ta : TA} {w : Wz} {i : Nat}
theorem zs_raise {C : Addr} (h : z.Eh C []) : ZS z (fun _ _ H => z.Er (.ref C) none H) ρ N := fun m F H σ D S _ _ _ _ => S.er C [] none H h ⟨S.bj.same S.base, rfl⟩
theorem zs_given {p : Prop} (q : p) (h : ZS z t ρ N) : ZS z (fun D σ H => p ∧ t D σ H) ρ N := fun m F H σ D S a b c d => ⟨q, h m F H σ D S a b c d⟩
theorem Sm.unLk {m : Fm} {F F1 H H1 H' : Hp} {σ : L2.St} {ρ1 : List Sl} (S1 : Sm z m F1 H1 σ ρ1) (S : Sm z m F H σ ρ) (le : Le H1 H') : Sm z m F1 (unLk H H') σ ρ1 := by
  have dkf : ∀ {o : HO}, isDk o = true → isFz o = false := fun {o} h => by cases o <;> first | rfl | exact nomatch h
  have same : Same H1 (Lk.unLk H H') := fun a o e => by
    rcases le a o e with q | ⟨q, ob, q2⟩
    · by_cases c : isFz o = false
      · exact unLk_of q c
      · obtain ⟨ob, u, rfl⟩ : ∃ ob u, o = .frz ob u := by
          cases o with
          | frz ob u => exact ⟨ob, u, rfl⟩
          | _ => exact absurd rfl c
        exact unLk_keep q (S.base _ _ (S1.fj _ _ _ e))
    · have so : strip o = o := by cases o <;> first | rfl | exact nomatch q
      refine (unLk_open (H0 := H) q2 fun o0 u0 h0 => ?_).trans (congrArg some so)
      have := S1.base _ _ (S.fj _ _ _ h0)
      rw [e] at this
      cases this
      exact nomatch q
  refine S1.ext (Same.refl F1) same (S1.lk.same same) (Nw.refl F1 H1) fun a ob u q => ?_
  obtain ⟨o1, u1, h1, h0⟩ := unLk_fz q
  obtain ⟨o2, u2, h2⟩ := h0
  have h3 := S1.base _ _ (S.fj _ _ _ h2)
  rcases le a _ h3 with q1 | ⟨q1, _⟩
  · rw [unLk_keep q1 h2] at q
    rw [h3, q]
  · exact nomatch q1
theorem zs_tryRet {K' : PySem.W.Frag} {c : Value} {ts : Addr → Value → Option Addr → TS} {Wout : WX}
    (hK : K' = z.K) (h : ZA z ta ρ fun ds ρ1 => w (Dt.olds ds) N.rt fun C fs => fs = [] ∧ PySem.W.exmOne z.K (.ref C) c = some true ∧
      ∀ a, ZS z (ts a (.ref C) none) (ρ1.set i (.v (.adr a))) ⟨fun ρ' => N.nx (ρ'.set i .un), N.rt, fun ρ' => N.bk (ρ'.set i .un), fun ρ' => N.ct (ρ'.set i .un)⟩) :
    ZS z (fun D σ H => tRet (tCallS (spZ z.K w) (WE (wAsU K' c i ts Wout H D)) ta) D σ H) ρ N := fun m F H σ D S kn kr kb kc => by
  subst hK
  refine h m F H σ _ S fun ds ρ1 F1 H1 vs n1 s1 S1 r1 => ?_
  refine ⟨F1, Dt.olds ds, N.rt, _, S1.le, rzl_old _ _ r1, n1, fun d fr F' H' v nd g => ?_, fun C fs dd H' e er => ?_⟩
  · obtain ⟨S2, r2⟩ := S1.got g
    exact kr _ _ _ _ _ nd (s1.trans g.1) (rt_of S2 r2)
  · obtain ⟨rfl, ex, go⟩ := e
    obtain ⟨le, hd⟩ := er
    cases hd
    refine ⟨true, ex, fun _ a ha => ?_, fun q => Bool.noConfusion q⟩
    have S3 := S1.unLk S le
    exact go a m F1 (unLk H H') _ _ (S3.setv (d := .adr a) (by simp only [Rz])) (fun ρ' F' H'' σ' n s S4 => kn _ _ _ _ n (s1.trans s) S4.setu) (fun d fr F' H'' v n s R => kr _ _ _ _ _ n (s1.trans s) R)
      (fun ρ' F' H'' σ' n s S4 => kb _ _ _ _ n (s1.trans s) S4.setu) fun ρ' F' H'' σ' n s S4 => kc _ _ _ _ n (s1.trans s) S4.setu
end
section
variable {z : Cz} {ρ : List Sl} {N : Dt → Bool → List Sl → Prop} {ta : TE} {i : Nat}
theorem ze_isE {K' : PySem.W.Frag} {D a : Addr} {c : V} {u : Value} {b : Bool} (hK : K' = z.K) (hc : ClsV c u) (h0 : ρ[i]? = some (.v (.adr a))) (hk : PySem.W.kitOne z.K (.ref D) u = some b) (n : N (.bl b) false ρ) : ZE z (tCB (rIsE K' D a) (tCons (tVar i) (tCons (tC c) tNil))) ρ N := fun m F H σ Q S k => by
  subst hK
  obtain ⟨hi, e⟩ := List.getElem?_eq_some_iff.mp h0
  have hi2 : i < σ.length := by rw [S.len]; exact hi
  obtain ⟨v, e1, r⟩ := S.slot i _ _ h0 (List.getElem?_eq_getElem hi2)
  simp only [Rz] at r
  subst r
  exact ⟨_, (List.getElem?_eq_getElem hi2).trans (congrArg some e1), c, u, b, rfl, fun w hw => hc.eq hw, hk, k _ _ _ _ _ _ n (Same.refl F) S (rzF_f rzb)⟩
theorem rzl_intsX {K : PySem.W.Frag} {B F : Hp} : ∀ {bs : List Int} {xs : List V}, Rzl K B F (bs.map Dt.int) xs → xs = bs.map V.int
  | [], _, h => h.inv0
  | b :: bs, _, h => by
    obtain ⟨v, r, rfl, h1, t⟩ := h.inv
    rw [rz_i h1, rzl_intsX t]
    rfl
theorem ze_maxDef {K' : PySem.W.Frag} {d : Int} (hK : K' = z.K) (h : ZE z ta ρ fun x _ ρ1 => ∃ (t : Bool) (ns : List Int), x = .lst t (ns.map Dt.int) ∧ N (.int (maxL d ns)) false ρ1) : ZE z (tCKw (rMaxDef K') (tCons ta tNil) (tCons (tC (.int d)) tNil)) ρ N := fun m F H σ Q S k => by
  subst hK
  refine h m F H σ _ S fun x fx ρ1 F1 H1 vx n1 s1 S1 r1 => ?_
  obtain ⟨F2, s2, S2, rx⟩ := rzF_frz S1 r1
  obtain ⟨t, ns, rfl, n⟩ := n1
  simp only [Rz] at rx
  obtain ⟨a, xs, rfl, e, _, r⟩ := rx
  refine ⟨a, ns, d, rfl, rfl, ?_, k _ _ _ _ _ _ n (s1.trans s2) S2 (rzF_f rzi)⟩
  rw [← rzl_intsX r]
  exact SqL.of (S2.le.exact e rfl)
end
section
variable {z : Cz} {ρ : List Sl} {N : Dt → Bool → List Sl → Prop} {wi : TI} {g : TG} {te : TE} {vs : List Nat}
/-- [te for g in ..], where each item's value tells more -/
theorem ze_lcR {α : Type} (as : List α) (gd : α → Dt) (f : α → Dt) (ok : α → Prop) (h : ZI z wi ρ fun ds ρ1 bp bm => ds = as.map gd ∧ bp ρ1 ∧ okW ρ1 vs = true ∧ as.length ≤ 100000 ∧
    (∀ a ∈ as, ZGw z g vs (gd a) (wipeZ ρ1 vs) fun ρ2 => ZE z te ρ2 fun y _ ρ4 => wipeZ ρ4 vs = wipeZ ρ1 vs ∧ y = f a ∧ ok a) ∧
    ((∀ a ∈ as, ok a) → N (.lst true (as.map f)) true (bm ρ1))) : ZE z (tLockLE (tLc wi g tYes te vs)) ρ N :=
  ze_lcW fun m F H σ R S k => h m F H σ R S fun ds ρ1 bp bm m' un F1 H1 Jt n1 => k ds ρ1 bp bm m' un F1 H1 Jt <| by
    obtain ⟨rfl, h1, h2, h3, h4, h5⟩ := n1
    refine ⟨h1, h2, by rw [List.length_map]; exact h3, fun i ad => ad = (as.take i).map f ∧ ∀ a ∈ as.take i, ok a, ⟨rfl, fun _ q => nomatch q⟩, fun i d ad hd ha => ?_, fun ad ha => ?_⟩
    · rw [List.getElem?_map] at hd
      cases q : as[i]? with
      | none => rw [q] at hd; cases hd
      | some a =>
        rw [q] at hd
        cases hd
        have hf := h4 a (List.mem_of_getElem? q)
        refine fun m F H σ v Q S r k => hf m F H σ v Q S r fun ρ2 F2 H2 σ2 n2 => k ρ2 F2 H2 σ2 (zt_yes ?_)
        rw [if_pos rfl]
        have et : as.take (i + 1) = as.take i ++ [a] := by rw [List.take_add_one, q]; rfl
        refine fun m F H σ Q S k => n2 m F H σ Q S fun y fy ρ4 F4 H4 v n4 => k y fy ρ4 F4 H4 v ⟨n4.1, ?_, ?_⟩
        · rw [et, List.map_append, ha.1, n4.2.1]
          rfl
        · intro b hb
          rw [et] at hb
          rcases List.mem_append.mp hb with c | c
          · exact ha.2 b c
          · rw [List.mem_singleton.mp c]
            exact n4.2.2
    · rw [List.length_map, List.take_length] at ha
      rw [ha.1]
      exact h5 ha.2
end
/-! ### what catches -/
section
variable {z : Cz} {ρ : List Sl} {N : Zn} {ta : TA} {w : Wz} {i : Nat}
/-- an error of the class C, thrown where the locals are ρ, is caught -/
def Catch (z : Cz) (N : Zn) (W : Hp → Ends → WX) (ρ1 : List Sl) (C : Addr) : Prop := ∀ (m : Fm) (F F1 H H1 H' : Hp) (σ : L2.St) (D : Ends) (ρ0 : List Sl), Sm z m F H σ ρ0 → Same F F1 → Sm z m F1 H1 σ ρ1 → Le H1 H' →
  (∀ ρ' F' H' σ', N.nx ρ' → Same F F' → Sm z m F' H' σ' ρ' → D.nx σ' H') → (∀ d fr F' H' v, N.rt d fr → Same F F' → RtR z m F' H' fr d v → D.rt v H') →
  (∀ ρ' F' H' σ', N.bk ρ' → Same F F' → Sm z m F' H' σ' ρ' → D.bk σ' H') → (∀ ρ' F' H' σ', N.ct ρ' → Same F F' → Sm z m F' H' σ' ρ' → D.ct σ' H') → W H D (.ref C) none σ H'
theorem catch_as {K' : PySem.W.Frag} {c : Value} {ts : Addr → Value → Option Addr → TS} {Wout : WX} {ρ1 : List Sl} {C : Addr} (hK : K' = z.K) (ex : PySem.W.exmOne z.K (.ref C) c = some true)
    (h : ∀ a, ZS z (ts a (.ref C) none) (ρ1.set i (.v (.adr a))) ⟨fun ρ' => N.nx (ρ'.set i .un), N.rt, fun ρ' => N.bk (ρ'.set i .un), fun ρ' => N.ct (ρ'.set i .un)⟩) : Catch z N (wAsU K' c i ts Wout) ρ1 C :=
  fun m F F1 H H1 H' σ D ρ0 S s1 S1 le kn kr kb kc => by
  subst hK
  refine ⟨true, ex, fun _ a ha => ?_, fun q => Bool.noConfusion q⟩
  have S3 := S1.unLk S le
  exact h a m F1 (unLk H H') _ _ (S3.setv (d := .adr a) (by simp only [Rz])) (fun ρ' F' H'' σ' n s S4 => kn _ _ _ _ n (s1.trans s) S4.setu) (fun d fr F' H'' v n s R => kr _ _ _ _ _ n (s1.trans s) R)
    (fun ρ' F' H'' σ' n s S4 => kb _ _ _ _ n (s1.trans s) S4.setu) fun ρ' F' H'' σ' n s S4 => kc _ _ _ _ n (s1.trans s) S4.setu
theorem catch_only {K' : PySem.W.Frag} {c : Value} {ts : Addr → Value → Option Addr → TS} {Wout : WX} {ρ1 : List Sl} {C : Addr} (hK : K' = z.K) (ex : PySem.W.exmOne z.K (.ref C) c = some true)
    (h : ∀ a, ZS z (ts a (.ref C) none) ρ1 N) : Catch z N (wOnlyU K' c ts Wout) ρ1 C :=
  fun m F F1 H H1 H' σ D ρ0 S s1 S1 le kn kr kb kc => by
  subst hK
  refine ⟨true, ex, fun _ a ha => ?_, fun q => Bool.noConfusion q⟩
  exact h a m F1 (unLk H H') _ _ (S1.unLk S le) (fun ρ' F' H'' σ' n s S4 => kn _ _ _ _ n (s1.trans s) S4) (fun d fr F' H'' v n s R => kr _ _ _ _ _ n (s1.trans s) R)
    (fun ρ' F' H'' σ' n s S4 => kb _ _ _ _ n (s1.trans s) S4) fun ρ' F' H'' σ' n s S4 => kc _ _ _ _ n (s1.trans s) S4
theorem catch_yes {K' : PySem.W.Frag} {c : Value} {ts : Addr → Value → Option Addr → TS} {r : List (Value × (Addr → Value → Option Addr → TS))} {Wout : WX} {ρ1 : List Sl} {C : Addr} (hK : K' = z.K) (ex : PySem.W.exmOne z.K (.ref C) c = some true)
    (h : ∀ a, ZS z (ts a (.ref C) none) ρ1 N) : Catch z N (wManyU K' ((c, ts) :: r) Wout) ρ1 C :=
  fun m F F1 H H1 H' σ D ρ0 S s1 S1 le kn kr kb kc => by
  subst hK
  refine ⟨true, ex, fun _ a ha => ?_, fun q => Bool.noConfusion q⟩
  exact h a m F1 (unLk H H') _ _ (S1.unLk S le) (fun ρ' F' H'' σ' n s S4 => kn _ _ _ _ n (s1.trans s) S4) (fun d fr F' H'' v n s R => kr _ _ _ _ _ n (s1.trans s) R)
    (fun ρ' F' H'' σ' n s S4 => kb _ _ _ _ n (s1.trans s) S4) fun ρ' F' H'' σ' n s S4 => kc _ _ _ _ n (s1.trans s) S4
theorem catch_no {K' : PySem.W.Frag} {c : Value} {ts : Addr → Value → Option Addr → TS} {r : List (Value × (Addr → Value → Option Addr → TS))} {Wout : WX} {ρ1 : List Sl} {C : Addr} (hK : K' = z.K) (ex : PySem.W.exmOne z.K (.ref C) c = some false)
    (h : Catch z N (wManyU K' r Wout) ρ1 C) : Catch z N (wManyU K' ((c, ts) :: r) Wout) ρ1 C :=
  fun m F F1 H H1 H' σ D ρ0 S s1 S1 le kn kr kb kc => by
  subst hK
  exact ⟨false, ex, fun q => Bool.noConfusion q, fun _ => h m F F1 H H1 H' σ D ρ0 S s1 S1 le kn kr kb kc⟩
/-- try: return f(..) -/
theorem zs_tryRetC {W : Hp → Ends → WX} (h : ZA z ta ρ fun ds ρ1 => w (Dt.olds ds) N.rt fun C fs => fs = [] ∧ Catch z N W ρ1 C) :
    ZS z (fun D σ H => tRet (tCallS (spZ z.K w) (WE (W H D)) ta) D σ H) ρ N := fun m F H σ D S kn kr kb kc => by
  refine h m F H σ _ S fun ds ρ1 F1 H1 vs n1 s1 S1 r1 => ?_
  refine ⟨F1, Dt.olds ds, N.rt, _, S1.le, rzl_old _ _ r1, n1, fun d fr F' H' v nd g => ?_, fun C fs dd H' e er => ?_⟩
  · obtain ⟨S2, r2⟩ := S1.got g
    exact kr _ _ _ _ _ nd (s1.trans g.1) (rt_of S2 r2)
  · obtain ⟨rfl, e⟩ := e
    obtain ⟨le, hd⟩ := er
    cases hd
    exact e m F F1 H H1 H' σ D ρ S s1 S1 le kn kr kb kc
/-- try: x = f(..) -/
theorem zs_trySetC {W : Hp → Ends → WX} {g : TG} (h : ZA z ta ρ fun ds ρ1 => w (Dt.olds ds) (fun d fr => ZG z g d fr ρ1 N.nx) fun C fs => fs = [] ∧ Catch z N W ρ1 C) :
    ZS z (fun D σ H => tAsg (tCallS (spZ z.K w) (WE (W H D)) ta) g D σ H) ρ N := fun m F H σ D S kn kr kb kc => by
  refine h m F H σ _ S fun ds ρ1 F1 H1 vs n1 s1 S1 r1 => ?_
  refine ⟨F1, Dt.olds ds, (fun d fr => ZG z g d fr ρ1 N.nx), _, S1.le, rzl_old _ _ r1, n1, fun d fr F' H' v nd q => ?_, fun C fs dd H' e er => ?_⟩
  · obtain ⟨S2, r2⟩ := S1.got q
    exact nd m F' H' σ v _ S2 r2 fun ρ' F'' H'' σ' n s S3 => kn _ _ _ _ n ((s1.trans q.1).trans s) S3
  · obtain ⟨rfl, e⟩ := e
    obtain ⟨le, hd⟩ := er
    cases hd
    exact e m F F1 H H1 H' σ D ρ S s1 S1 le kn kr kb kc
/-- try: f(..) -/
theorem zs_tryDropC {W : Hp → Ends → WX} (h : ZA z ta ρ fun ds ρ1 => w (Dt.olds ds) (fun _ _ => N.nx ρ1) fun C fs => fs = [] ∧ Catch z N W ρ1 C) :
    ZS z (fun D σ H => tDrop (tCallS (spZ z.K w) (WE (W H D)) ta) D σ H) ρ N := fun m F H σ D S kn kr kb kc => by
  refine h m F H σ _ S fun ds ρ1 F1 H1 vs n1 s1 S1 r1 => ?_
  refine ⟨F1, Dt.olds ds, (fun _ _ => N.nx ρ1), _, S1.le, rzl_old _ _ r1, n1, fun d fr F' H' v nd q => ?_, fun C fs dd H' e er => ?_⟩
  · obtain ⟨S2, r2⟩ := S1.got q
    exact kn _ _ _ _ nd (s1.trans q.1) S2
  · obtain ⟨rfl, e⟩ := e
    obtain ⟨le, hd⟩ := er
    cases hd
    exact e m F F1 H H1 H' σ D ρ S s1 S1 le kn kr kb kc
/-- try: x = f(..), then what raises nothing -/
theorem zs_trySeqC {W : Hp → Ends → WX} {g : TG} {tb : TS} (h : ZA z ta ρ fun ds ρ1 => w (Dt.olds ds) (fun d fr => ZG z g d fr ρ1 fun ρ2 => ZS z tb ρ2 N) fun C fs => fs = [] ∧ Catch z N W ρ1 C) :
    ZS z (fun D σ H => tSeq (tAsg (tCallS (spZ z.K w) (WE (W H D)) ta) g) tb D σ H) ρ N := fun m F H σ D S kn kr kb kc => by
  refine h m F H σ _ S fun ds ρ1 F1 H1 vs n1 s1 S1 r1 => ?_
  refine ⟨F1, Dt.olds ds, (fun d fr => ZG z g d fr ρ1 fun ρ2 => ZS z tb ρ2 N), _, S1.le, rzl_old _ _ r1, n1, fun d fr F' H' v nd q => ?_, fun C fs dd H' e er => ?_⟩
  · obtain ⟨S2, r2⟩ := S1.got q
    exact nd m F' H' σ v _ S2 r2 fun ρ' F'' H'' σ' n s S3 => n m F'' H'' σ' D S3 (fun _ _ _ _ a b c => kn _ _ _ _ a (((s1.trans q.1).trans s).trans b) c) (fun _ _ _ _ _ a b c => kr _ _ _ _ _ a (((s1.trans q.1).trans s).trans b) c)
      (fun _ _ _ _ a b c => kb _ _ _ _ a (((s1.trans q.1).trans s).trans b) c) fun _ _ _ _ a b c => kc _ _ _ _ a (((s1.trans q.1).trans s).trans b) c
  · obtain ⟨rfl, e⟩ := e
    obtain ⟨le, hd⟩ := er
    cases hd
    exact e m F F1 H H1 H' σ D ρ S s1 S1 le kn kr kb kc
end
/-- Ratio(n, d), or ByZero -/
theorem ze_ratioR {z : Cz} {ρ : List Sl} {N : Dt → Bool → List Sl → Prop} {t : TA} {dvs : List V} (h : ZA z t ρ fun ds ρ1 => ∃ n d, ((ds = [.int n, .int d] ∧ dvs = []) ∨ (ds = [.int n] ∧ dvs = [.int d])) ∧ (d ≠ 0 → Bits 8000 (sgc n d)) ∧ (d ≠ 0 → N (.rat (pn n d) (pd n d)) false ρ1) ∧ (d = 0 → z.Eh (He.ga z.K "ByZero") [])) :
    ZE z (tMake (He.ga z.K "Ratio") (spInit z.K) dvs z.Er t) ρ N := fun m F H σ Q S k => by
  refine h m F H σ _ S fun ds ρ1 F1 H1 vs n1 s1 S1 r1 x dx hx hd ne => ?_
  obtain ⟨n, d, hds, hb, n1, ne0⟩ := n1
  have ev : vs ++ dvs = [.int n, .int d] := by
    rcases hds with ⟨rfl, rfl⟩ | ⟨rfl, rfl⟩
    · obtain ⟨v, r, rfl, q1, q2⟩ := r1.inv
      obtain ⟨v2, r, rfl, q3, q4⟩ := q2.inv
      rw [rz_i q1, rz_i q3, q4.inv0]
      rfl
    · obtain ⟨v, r, rfl, q1, q2⟩ := r1.inv
      rw [rz_i q1, q2.inv0]
      rfl
  rw [ev]
  refine ⟨x, dx, n, d, rfl, upd_same, hb, fun h0 => ?_, fun h0 => ⟨rfl, ?_⟩⟩
  · exact S1.er _ [] none _ (ne0 h0) ⟨(S1.bj.same S1.base).same (same_mk hx hd), rfl⟩
  · rw [upd_upd]
    obtain ⟨s2, S2⟩ := sm_ins (C := He.ga z.K "Ratio") (fs := rfl2 (pn n d) (pd n d)) S1 hx hd ne
    exact k _ _ _ _ _ _ (n1 h0) (s1.trans s2) S2 (rzF_f (show Rz z.K m.B _ (.rat _ _) _ by simp only [Rz]; exact ⟨x, dx, rfl, upd_same⟩))
theorem zg_lst {z : Cz} {ρ : List Sl} {K : PySem.W.Frag} {n : Nat} {gs : TGs} {t : Bool} {ds : List Dt} {fr : Bool} {L : List Sl → Prop} (hl : ds.length = n) (h : ZGs z gs ds ρ L) : ZG z (gLst K n gs) (.lst t ds) fr ρ L := fun m F H σ v Q S r k => by
  obtain ⟨F1, s1, S1, r⟩ := rzF_frz S r
  simp only [Rz] at r
  obtain ⟨a, xs, rfl, e, _, r⟩ := r
  exact ⟨a, xs, rfl, SqL.of (S1.le.exact e rfl), by rw [r.len, hl], h m F1 H σ xs Q S1 r fun ρ2 F2 H2 σ2 n2 s2 => k ρ2 F2 H2 σ2 n2 (s1.trans s2)⟩
/-! ### enumerate, starred targets, stores into parts of a list -/
section
variable {z : Cz} {ρ : List Sl} {ta tb te ti : TE} {t : TA} {i : Nat} {I : List Dt → List Sl → (List Sl → Prop) → (List Sl → List Sl) → Prop}
def enumD : Nat → List Dt → List Dt
  | _, [] => []
  | k, d :: ds => .tup [.int (k : Int), d] :: enumD (k + 1) ds
theorem enumD_length : ∀ (ds : List Dt) (k : Nat), (enumD k ds).length = ds.length
  | [], _ => rfl
  | _ :: ds, k => by rw [enumD, List.length_cons, List.length_cons, enumD_length ds]
theorem enumD_get : ∀ (ds : List Dt) (k i : Nat), (enumD k ds)[i]? = (ds[i]?).map fun d => .tup [.int ((k + i : Nat) : Int), d]
  | [], _, _ => rfl
  | d :: ds, k, 0 => rfl
  | d :: ds, k, i + 1 => by
    rw [enumD, List.getElem?_cons_succ, List.getElem?_cons_succ, enumD_get ds (k + 1) i, show k + 1 + i = k + (i + 1) by omega]
theorem zi_enum {K' : PySem.W.Frag} (hK : K' = z.K) (h : ZA z t ρ fun ds ρ1 => ∃ (u : Bool) (xs : List Dt), ds = [.lst u xs] ∧ I (enumD 0 xs) ρ1 bT bI) : ZI z (iEnum K' t) ρ I := fun m F H σ R S k => by
  subst hK
  refine h m F H σ _ S fun ds ρ1 F1 H1 vs n1 s1 S1 r1 => ?_
  obtain ⟨u, xs, rfl, n⟩ := n1
  obtain ⟨v, r, rfl, rv, rr⟩ := r1.inv
  obtain rfl := rr.inv0
  simp only [Rz] at rv
  obtain ⟨b, us, rfl, e, _, rx⟩ := rv
  refine ⟨b, us, rfl, SqL.of (S1.le.exact e rfl), k _ _ _ _ _ _ _ _ _ n s1 .id S1 ⟨us.length, _, _, walk_enum, by rw [enumD_length, rx.len], fun F' H' f le _ => SqL.of (le.exact (f _ _ e) rfl), fun m2 i d F' H' H'' x σ ρ eb e f S y => ?_⟩⟩
  obtain ⟨T, vx, vy, rfl, hN, rfl, e2, e3⟩ := y
  obtain ⟨dx, hd, rd⟩ := rx.back e3
  rw [enumD_get, hd] at e
  cases e
  cases e2
  obtain ⟨f2, S2⟩ := S.new (o := .tup [.int (i : Nat), vy]) hN
  refine ⟨_, f2, S2, ?_⟩
  simp only [Rz, Nat.zero_add]
  exact ⟨T, _, rfl, upd_same, .cons rzi (.cons (rz_mono (f.trans f2) _ _ rd) .nil)⟩
end
/-! ### for x in f(..): if isinstance(x[1], list): x[1].append(k): what f has made is changed, and never looked at again -/
namespace Md
def AppOk (e : Dt) : Prop := ∃ x, (∃ t, e = .tup [.str x, .tup t]) ∨ ∃ es, e = .tup [.str x, .lst true es] ∧ es.length ≤ 10000
def vOn (ρ : List Sl) : Prop := ∀ (k : Nat) (s : Sl), ρ[k]? = some s → s = .un ∨ ∃ d, s = .v d
/-- at the i-th turn: an inner list may have grown -/
structure Grow (H1 F2 H' : Hp) (a : Addr) (xs : List V) (i : Nat) : Prop where
  out : H' a = some (.lst xs)
  tup : ∀ b ys, F2 b = some (.tup ys) → H' b = some (.tup ys)
  lst : ∀ l ys, F2 l = some (.lst ys) → H1 l = none → ∃ ys', H' l = some (.lst ys') ∧ ys'.length ≤ ys.length + i
section
variable {z : Cz} {ρ : List Sl} {N : Zn} {m : Fm} {F1 F2 H1 H2 H' : Hp} {σ : L2.St}
theorem sm_app (S : Sm z m F1 H' σ ρ) (vo : vOn ρ) {l : Addr} {o : HO} (fl : F1 l = none) (jl : m.J l = none) (no : isFz o = false) : Sm z m F1 (upd H' l o) σ ρ := by
  have ne : ∀ {c : Addr} {o : HO} {G : Hp}, G l = none → G c = some o → c ≠ l := fun {c o G} e q z => by rw [z, e] at q; cases q
  have C : Sc z m F1 (upd H' l o) := ⟨fun c u q => by
      have n := ne fl q
      rw [upd_ne n]
      exact S.lk c u q, fun c u q => by
      rw [upd_ne (ne jl q)]
      exact S.base c u q, S.fr, fun c q => by
      by_cases n : c = l
      · rw [n, upd_same] at q; cases q
      · rw [upd_ne n] at q; exact S.dom c q, S.bj, S.er, S.hid, fun c ob u q => by
      by_cases n : c = l
      · rw [n, upd_same] at q
        cases q
        cases no
      · rw [upd_ne n] at q; exact S.fj c ob u q⟩
  refine { C with len := S.len, slot := fun k s ov a b => ?_, sep := fun k k' d e l' a b _ _ => ?_, psep := fun k k' q d e a b => ?_ }
  · have q := S.slot k s ov a b
    rcases vo k s a with rfl | ⟨d, rfl⟩
    · trivial
    · exact q
  · rcases vo k _ a with h | ⟨_, h⟩ <;> cases h
  · rcases vo k _ a with h | ⟨_, h⟩ <;> cases h
theorem sm_down (S1 : Sm z m F1 H1 σ ρ) (S2 : Sm z m F2 H2 σ ρ) (s : Same F1 F2) (vo : vOn ρ) : Sm z m F1 H2 σ ρ := by
  have C : Sc z m F1 H2 := ⟨fun c o q => S2.lk c o (s _ _ q), S2.base, S1.fr, S2.dom, S1.bj, S1.er, S1.hid, S2.fj⟩
  refine { C with len := S1.len, slot := fun k s ov a b => ?_, sep := fun k k' d e l' a b _ _ => ?_, psep := fun k k' q d e a b => ?_ }
  · have q := S1.slot k s ov a b
    rcases vo k s a with rfl | ⟨d, rfl⟩
    · trivial
    · exact q
  · rcases vo k _ a with h | ⟨_, h⟩ <;> cases h
  · rcases vo k _ a with h | ⟨_, h⟩ <;> cases h
theorem sm_un (S : Sm z m F1 H' σ ρ) (vo : vOn ρ) {i : Nat} (v : Option V) : Sm z m F1 H' (σ.set i v) (ρ.set i .un) := by
  have vo2 : vOn (ρ.set i .un) := fun k s q => by
    by_cases c : i = k
    · subst c
      by_cases hi : i < ρ.length
      · rw [List.getElem?_set_self hi] at q
        exact .inl (Option.some.inj q).symm
      · rw [List.getElem?_eq_none (by rw [List.length_set]; omega)] at q
        cases q
    · rw [List.getElem?_set_ne c] at q
      exact vo k s q
  have C : Sc z m F1 H' := S.toSc
  refine { C with len := by rw [List.length_set, List.length_set]; exact S.len, slot := fun k s ov a b => ?_, sep := fun k k' d e l' a b _ _ => ?_, psep := fun k k' q d e a b => ?_ }
  · by_cases c : i = k
    · subst c
      by_cases hi : i < ρ.length
      · rw [List.getElem?_set_self hi] at a
        cases a
        trivial
      · rw [List.getElem?_eq_none (by rw [List.length_set]; omega)] at a
        cases a
    · rw [List.getElem?_set_ne c] at a b
      exact S.slot k s ov a b
  · rcases vo2 k _ a with h | ⟨_, h⟩ <;> cases h
  · rcases vo2 k _ a with h | ⟨_, h⟩ <;> cases h
theorem vOn_un (vo : vOn ρ) (i : Nat) : vOn (ρ.set i .un) := fun k s q => by
  by_cases c : i = k
  · subst c
    by_cases hi : i < ρ.length
    · rw [List.getElem?_set_self hi] at q
      exact .inl (Option.some.inj q).symm
    · rw [List.getElem?_eq_none (by rw [List.length_set]; omega)] at q
      cases q
  · rw [List.getElem?_set_ne c] at q
    exact vo k s q
theorem un_un (i : Nat) : (ρ.set i .un).set i .un = ρ.set i .un := by rw [List.set_set]
theorem zs_forApp {w : Wz} {E : XK} {t : TA} {i : Nat} {j : Int} {K1 K3 K4 K5 : PySem.W.Frag} (kt : PySem.W.kitOne z.K (.type "tuple") (.type "list") = some false) (kl : PySem.W.kitOne z.K (.type "list") (.type "list") = some true)
    (h : ZA z t ρ fun ds ρ1 => vOn ρ1 ∧ i < ρ1.length ∧ w (Dt.olds ds) (fun d fr => ∃ es, fr = true ∧ d = .lst true es ∧ (∀ e ∈ es, AppOk e) ∧ es.length ≤ 10000 ∧ N.nx (ρ1.set i .un)) fun _ _ => False) :
    ZS z (tLockL (tFor (iList K1 (tCall (spZ z.K w) [] E t)) (gName i) (tIfS (tB (tCB (rIsi z.K) (tCons (tOp (rIxT K3) (tVar i) (tC (.int 1))) (tCons (tC (.ty "list")) tNil)))) (tDrop (tBM K4 "list" rAppend (tOp (rIxT K5) (tVar i) (tC (.int 1))) (tCons (tC (.int j)) tNil))) tNext))) ρ N := fun m F H σ D S kn kr kb kc => by
  refine h m F H σ _ S fun ds ρ1 F1 H1 vs n1 s1 S1 r1 => ?_
  obtain ⟨vo, hi, hw⟩ := n1
  rw [List.append_nil]
  refine ⟨F1, Dt.olds ds, _, _, S1.le, rzl_old _ _ r1, hw, fun d fr F2 H2 v nd g => ?_, fun _ _ _ _ f => f.elim⟩
  obtain ⟨es, rfl, rfl, hes, hle, hN⟩ := nd
  obtain ⟨S2, _⟩ := S1.got g
  have sF := g.1
  have raw := g.2.2.2.2.2
  rw [if_pos rfl] at raw
  obtain ⟨a, rfl, fa, ha, ho, h4, h5⟩ := raw
  cases h5 with
  | @lst xs _ rx =>
    have S3 : Sm z m F1 H2 σ (ρ1.set i .un) := by
      have q := sm_un (sm_down S1 S2 sF vo) vo (i := i) (σ[i]?.join)
      have e : σ.set i (σ[i]?.join) = σ := by
        apply List.ext_getElem?
        intro k
        by_cases c : i = k
        · subst c
          have hl : i < σ.length := by rw [S1.len]; exact hi
          rw [List.getElem?_set_self hl, List.getElem?_eq_getElem hl]
          rfl
        · rw [List.getElem?_set_ne c]
      rw [e] at q
      exact q
    have vo2 := vOn_un vo i
    refine ⟨a, rfl, ⟨xs, SqL.of h4⟩, ?_⟩
    refine for_it (walk_list (K := K1) (a := a) (xs := xs)) (D := ⟨unlN H D.nx, unlV H D.rt, unlN H D.bk, unlN H D.ct⟩) (fun k σ' H' => Sm z m F1 H' σ' (ρ1.set i .un) ∧ Grow H1 F2 H' a xs k)
      ⟨S3, h4, fun b ys q => S2.le.exact q rfl, fun l ys q _ => ⟨ys, S2.le.exact q rfl, Nat.le_refl _⟩⟩ (fun k σ' H' _ q => SqL.of q.2.out) ?_ fun σ' H' q => .inl (kn _ _ _ _ hN s1 q.1)
    rintro k x σ' H' H'' hk ⟨S4, G⟩ y
    obtain ⟨rfl, y⟩ := y
    have hk2 : k < es.length := by rw [← rx.len]; exact hk
    have he : es[k]? = some es[k] := List.getElem?_eq_getElem hk2
    obtain ⟨v, e2, r2⟩ := rx.at_ he
    rw [y] at e2
    cases e2
    obtain ⟨x0, hx0⟩ := hes _ (List.mem_of_getElem? he)
    generalize es[k] = e at r2 hx0
    have S5 : Sm z m F1 H'' (σ'.set i (some x)) (ρ1.set i .un) := by
      have q := sm_un S4 vo2 (i := i) (some x)
      rw [un_un] at q
      exact q
    have hσ : (σ'.set i (some x))[i]? = some (some x) := List.getElem?_set_self (by rw [S4.len, List.length_set]; exact hi)
    show tIfS _ _ _ _ (σ'.set i (some x)) H''
    rcases hx0 with ⟨t, rfl⟩ | ⟨es', rfl, hl⟩
    · simp only [Rz] at r2
      obtain ⟨b, ys, rfl, eb, r2⟩ := r2
      obtain ⟨v1, r, rfl, q1, r2⟩ := r2.inv
      obtain ⟨v2, r, rfl, q2, r2⟩ := r2.inv
      obtain rfl := r2.inv0
      simp only [Rz] at q2
      obtain ⟨q, zs, rfl, eq, _⟩ := q2
      refine ⟨_, hσ, b, [v1, .ref q], 1, .ref q, rfl, rfl, SqT.of (G.tup _ _ eb), atI_k (k := 1) rfl, .ref q, .ty "list", .type "tuple", .type "list", false, rfl, .ty "list", .base (.tup (G.tup _ _ eq)), kt, false, rfl, ?_⟩
      show (if (false = true) then _ else _)
      rw [if_neg (by decide)]
      exact ⟨S5, G.out, G.tup, fun l ys e1 e2 => (G.lst l ys e1 e2).elim fun ys' p => ⟨ys', p.1, by omega⟩⟩
    · simp only [Rz] at r2
      obtain ⟨b, ys, rfl, eb, r2⟩ := r2
      obtain ⟨v1, r, rfl, q1, r2⟩ := r2.inv
      obtain ⟨v2, r, rfl, q2, r2⟩ := r2.inv
      obtain rfl := r2.inv0
      simp only [Rz] at q2
      obtain ⟨q, zs, rfl, eq, hnew, rz⟩ := q2
      have hq1 : H1 q = none := hnew trivial
      obtain ⟨ys', hL, hlen⟩ := G.lst q zs eq hq1
      have hzl : zs.length ≤ 10000 := by rw [rz.len]; exact hl
      have hTb := G.tup _ _ eb
      refine ⟨_, hσ, b, [v1, .ref q], 1, .ref q, rfl, rfl, SqT.of hTb, atI_k (k := 1) rfl, .ref q, .ty "list", .type "list", .type "list", true, rfl, .ty "list", .base (.lst hL), kl, true, rfl, ?_⟩
      show (if (true = true) then _ else _)
      rw [if_pos rfl]
      refine ⟨_, hσ, b, [v1, .ref q], 1, .ref q, rfl, rfl, SqT.of hTb, atI_k (k := 1) rfl, .inl ⟨rfl, ys', SqL.of hL⟩, q, ys', .int j, rfl, rfl, hL, by rw [sizeLine_eq]; omega, ?_⟩
      have fq : F1 q = none := S1.le.free hq1
      have jq : m.J q = none := S1.j_none hq1
      refine ⟨sm_app S5 vo2 fq jq rfl, ?_, fun c us e => ?_, fun l us e1 e2 => ?_⟩
      · rw [upd_ne (fun z => by rw [z, eq] at fa; cases fa)]
        exact G.out
      · rw [upd_ne (fun z => by rw [z, eq] at e; cases e)]
        exact G.tup c us e
      · obtain ⟨us', p1, p2⟩ := G.lst l us e1 e2
        by_cases c : l = q
        · subst c
          rw [hL] at p1
          cases p1
          exact ⟨_, upd_same, by rw [List.length_append]; exact Nat.succ_le_succ p2⟩
        · exact ⟨us', by rw [upd_ne c]; exact p1, by omega⟩
end
end Md
/-! ### combinations walked; what a call has made is changed behind tests, or at once -/
section
variable {z : Cz} {ρ : List Sl} {ta tb : TE} {I : List Dt → List Sl → (List Sl → Prop) → (List Sl → List Sl) → Prop}
def natsD (ys : List Nat) : List Dt := ys.map fun (k : Nat) => Dt.int (k : Int)
theorem nats_rzl {K : PySem.W.Frag} {B F : Hp} : ∀ ys : List Nat, Rzl K B F (natsD ys) (ys.map fun (k : Nat) => V.int (k : Int))
  | [] => .nil
  | _ :: ys => .cons rzi (nats_rzl ys)
theorem walkC {L : List (List Nat)} : Walk (CB.ItC L) L.length (fun _ => True) (fun i H v H' => ∃ T ys, v = V.ref T ∧ L[i]? = some ys ∧ H T = none ∧ H' = upd H T (.tup (ys.map fun (k : Nat) => V.int (k : Int)))) :=
  ⟨fun _ _ hi _ => hi, fun _ _ => Nat.le_refl _, fun _ _ _ _ _ _ y => y⟩
theorem zi_comb (h : ZE z ta ρ fun x _ ρ1 => ∃ n : Nat, x = .int (n : Int) ∧ n ≤ 1000 ∧ ZE z tb ρ1 fun y _ ρ2 => ∃ (r : Nat) (L : List (List Nat)), y = .int (r : Int) ∧ r ≤ n ∧ CB.Combs n r L ∧ I (L.map fun ys => Dt.tup (natsD ys)) ρ2 bT bI) : ZI z (CB.iComb ta tb) ρ I := fun m F H σ R S k => by
  refine h m F H σ _ S fun x fx ρ1 F1 H1 vx n1 s1 S1 r1 => ?_
  obtain ⟨F2, s2, S2, rx⟩ := rzF_frz S1 r1
  obtain ⟨n, rfl, hn, n1⟩ := n1
  obtain rfl := rz_i rx
  refine ⟨n, rfl, hn, n1 m F2 H1 σ _ S2 fun y fy ρ2 F3 H3 vy n2 s3 S3 r3 => ?_⟩
  obtain ⟨F4, s4, S4, ry⟩ := rzF_frz S3 r3
  obtain ⟨r, L, rfl, hr, hL, n3⟩ := n2
  obtain rfl := rz_i ry
  refine ⟨r, L, rfl, hr, hL, k _ _ _ _ _ _ _ _ _ n3 ((s1.trans s2).trans (s3.trans s4)) .id S4 ⟨L.length, fun _ => True, _, walkC, by rw [List.length_map], fun _ _ _ _ _ => trivial, fun m2 i d F' H' H'' x σ ρ eb e f S y => ?_⟩⟩
  obtain ⟨T, ys, rfl, hi, hN, rfl⟩ := y
  rw [List.getElem?_map, hi] at e
  cases e
  obtain ⟨f2, S2⟩ := S.new (o := .tup (ys.map fun (k : Nat) => V.int (k : Int))) hN
  exact ⟨_, f2, S2, by simp only [Rz]; exact ⟨T, _, rfl, upd_same, nats_rzl ys⟩⟩
end
section
variable {z : Cz} {ρ : List Sl} {N : Zn}
/-- x = f(..), tests that let all through, x[0].append(j) -/
theorem zs_callApp3 {w : Wz} {E : XK} {t : TA} {tt1 tt2 tt3 : TT} {tb1 tb2 tb3 u : TS} {i : Nat} {j : Int} {K' K'' : PySem.W.Frag}
    (h : ZA z t ρ fun ds ρ1 => Md.vOn ρ1 ∧ i < ρ1.length ∧ w (Dt.olds ds) (fun d fr => ∃ es r, fr = false ∧ d = .tup (.lst true es :: r) ∧ es.length < 100000 ∧
      ZT z tt1 (ρ1.set i (.v d)) (fun b ρ2 => b = false ∧ ρ2 = ρ1.set i (.v d)) ∧ ZT z tt2 (ρ1.set i (.v d)) (fun b ρ2 => b = false ∧ ρ2 = ρ1.set i (.v d)) ∧ ZT z tt3 (ρ1.set i (.v d)) (fun b _ => b = false) ∧ ZS z u (ρ1.set i .un) N) fun _ _ => False) :
    ZS z (tSeq (tAsg (tCall (spZ z.K w) [] E t) (gName i)) (tSeq (tIfS tt1 tb1 tNext) (tSeq (tIfS tt2 tb2 tNext) (tSeq (tIfS tt3 tb3 tNext) (tSeq (tDrop (tBM K' "list" rAppend (tOp (rIxT K'') (tVar i) (tC (.int 0))) (tCons (tC (.int j)) tNil))) u))))) ρ N := fun m F H σ D S kn kr kb kc => by
  refine h m F H σ _ S fun ds ρ1 F1 H1 vs n1 s1 S1 r1 => ?_
  obtain ⟨vo, hi, hw⟩ := n1
  rw [List.append_nil]
  refine ⟨F1, Dt.olds ds, _, _, S1.le, rzl_old _ _ r1, hw, fun d fr F2 H2 v nd g => ?_, fun _ _ _ _ f => f.elim⟩
  obtain ⟨es, r, rfl, rfl, hl, hT1, hT2, hT3, hU⟩ := nd
  obtain ⟨S2, r2⟩ := S1.got g
  have raw : Rz z.K H1 F2 (.tup (.lst true es :: r)) v := g.2.2.2.2.2
  have sF := g.1
  simp only [Rz] at raw
  obtain ⟨a, xs, rfl, ea, rx⟩ := raw
  obtain ⟨v1, xr, rfl, r3, _⟩ := rx.inv
  simp only [Rz] at r3
  obtain ⟨l, ys, rfl, el, hnew, ry⟩ := r3
  have hl1 : H1 l = none := hnew trivial
  have S3 := S2.setv (i := i) r2
  refine hT1 m F2 H2 _ _ S3 fun b ρ2 F3 H3 hb s3 S4 => ?_
  obtain ⟨rfl, rfl⟩ := hb
  rw [if_neg (by decide)]
  refine hT2 m F3 H3 _ _ S4 fun b ρ2 F4 H4 hb s4 S5 => ?_
  obtain ⟨rfl, rfl⟩ := hb
  rw [if_neg (by decide)]
  refine hT3 m F4 H4 _ _ S5 fun b ρ2 F5 H5 hb s5 S6 => ?_
  subst hb
  rw [if_neg (by decide)]
  have ss := s3.trans (s4.trans s5)
  have hσ : (σ.set i (some (V.ref a)))[i]? = some (some (V.ref a)) := List.getElem?_set_self (by rw [S1.len]; exact hi)
  have hA : H5 a = some (.tup (.ref l :: xr)) := S6.le.exact (ss _ _ ea) rfl
  have hL : H5 l = some (.lst ys) := S6.le.exact (ss _ _ el) rfl
  refine ⟨_, hσ, a, .ref l :: xr, 0, .ref l, rfl, rfl, SqT.of hA, atI_k (k := 0) rfl, .inl ⟨rfl, ys, SqL.of hL⟩, l, ys, .int j, rfl, rfl, hL, by rw [ry.len, sizeLine_eq]; omega, ?_⟩
  have fl : F1 l = none := S1.le.free hl1
  have jl : m.J l = none := S1.j_none hl1
  have C : Sc z m F1 H5 := ⟨fun c o q => S6.lk c o (ss _ _ (sF _ _ q)), S6.base, S1.fr, S6.dom, S1.bj, S1.er, S1.hid, S6.fj⟩
  have S7 : Sm z m F1 H5 σ ρ1 := { C with len := S1.len, slot := fun k s ov a b => ?_, sep := fun k k' d e l' a b _ _ => ?_, psep := fun k k' q d e a b => ?_ }
  · have S8 := Md.sm_app (Md.sm_un S7 vo (i := i) (some (V.ref a))) (Md.vOn_un vo i) (l := l) (o := .lst (ys ++ [.int j])) fl jl rfl
    exact hU m F1 _ _ D S8 (fun ρ' F' H' σ' n s => kn ρ' F' H' σ' n (s1.trans s)) (fun d fr F' H' v n s => kr d fr F' H' v n (s1.trans s)) (fun ρ' F' H' σ' n s => kb ρ' F' H' σ' n (s1.trans s)) fun ρ' F' H' σ' n s => kc ρ' F' H' σ' n (s1.trans s)
  · have q := S1.slot k s ov a b
    rcases vo k s a with rfl | ⟨d, rfl⟩
    · trivial
    · exact q
  · rcases vo k _ a with h | ⟨_, h⟩ <;> cases h
  · rcases vo k _ a with h | ⟨_, h⟩ <;> cases h
/-- f(..).append(j) -/
theorem zs_appTmp {w : Wz} {E : XK} {t : TA} {j : Int} {K' : PySem.W.Frag}
    (h : ZA z t ρ fun ds ρ1 => Md.vOn ρ1 ∧ w (Dt.olds ds) (fun d fr => ∃ es, fr = true ∧ d = .lst true es ∧ es.length < 100000 ∧ N.nx ρ1) fun _ _ => False) :
    ZS z (tDrop (tBM K' "list" rAppend (tCall (spZ z.K w) [] E t) (tCons (tC (.int j)) tNil))) ρ N := fun m F H σ D S kn kr kb kc => by
  refine h m F H σ _ S fun ds ρ1 F1 H1 vs n1 s1 S1 r1 => ?_
  obtain ⟨vo, hw⟩ := n1
  rw [List.append_nil]
  refine ⟨F1, Dt.olds ds, _, _, S1.le, rzl_old _ _ r1, hw, fun d fr F2 H2 v nd g => ?_, fun _ _ _ _ f => f.elim⟩
  obtain ⟨es, rfl, rfl, hl, hN⟩ := nd
  obtain ⟨S2, r2⟩ := S1.got g
  obtain ⟨l, rfl, ⟨f1, b1, j1, ho, h4, h5⟩, _⟩ := r2
  cases h5 with
  | @lst ys _ ry =>
    refine ⟨.inl ⟨rfl, ys, SqL.of h4⟩, l, ys, .int j, rfl, rfl, h4, by rw [ry.len, sizeLine_eq]; omega, ?_⟩
    exact kn _ _ _ _ hN (s1.trans g.1) (Md.sm_app S2 vo f1 j1 rfl)
end
/-! ### owned variables frozen on purpose; truth of an owned list; a draw as index -/
namespace Tr
section
variable {z : Cz} {ρ : List Sl} {D : Zn} {t : TS} {i : Nat} {d : Dt}
theorem frzVarM {m : Fm} {F H : Hp} {σ : L2.St} (S : Sm z m F H σ ρ) (h : ρ[i]? = some (.o d)) : ∃ F', Same F F' ∧ Sm z m F' H σ (ρ.set i (.v d)) := by
  have := ze_varo (z := z) (N := fun _ _ ρ' => ρ' = ρ.set i (.v d)) h rfl m F H σ (fun _ H' => ∃ F', Same F F' ∧ Sm z m F' H' σ (ρ.set i (.v d))) S fun d' fr ρ' F' H' v n s S' r => by subst n; exact ⟨F', s, S'⟩
  obtain ⟨v, e', q⟩ := this
  exact q
theorem zt_truM {K' : PySem.W.Frag} (hK : K' = z.K) {s0 : Sl} {t : Bool} {ds : List Dt} {M : Bool → List Sl → Prop} (h0 : ρ[i]? = some s0) (p0 : Pk s0 (.lst t ds)) (q : M (!ds.isEmpty) ρ) : ZT z (tTru K' (tVar i)) ρ M := by
  subst hK
  exact zt_truv h0 p0 q
theorem atI_M {α : Type} {f : α → Dt} {xs : List α} {j : Int} (h0 : 0 ≤ j) (h1 : j < (xs.length : Int)) : ∃ x ∈ xs, atI (xs.map f) j = some (f x) := by
  have hk : j.toNat < xs.length := by omega
  have e : j = ((j.toNat : Nat) : Int) := by omega
  refine ⟨xs[j.toNat], List.getElem_mem hk, ?_⟩
  have q : atI (xs.map f) ((j.toNat : Nat) : Int) = some (f xs[j.toNat]) := atI_k (by rw [List.getElem?_map, List.getElem?_eq_getElem hk]; rfl)
  rw [← e] at q
  exact q
theorem ze_frzM {N : Dt → Bool → List Sl → Prop} {te : TE} (h : ρ[i]? = some (.o d)) (n : ZE z te (ρ.set i (.v d)) N) : ZE z te ρ N := fun m F H σ Q S k => by
  obtain ⟨F', s, S'⟩ := frzVarM S h
  exact n m F' H σ Q S' fun d2 fr ρ' F2 H2 v n2 s2 => k d2 fr ρ' F2 H2 v n2 (s.trans s2)
theorem zs_frzM (h : ρ[i]? = some (.o d)) (n : ZS z t (ρ.set i (.v d)) D) : ZS z t ρ D := fun m F H σ E S kn kr kb kc => by
  obtain ⟨F', s, S'⟩ := frzVarM S h
  exact n m F' H σ E S' (fun ρ' F2 H2 σ2 n2 s2 => kn ρ' F2 H2 σ2 n2 (s.trans s2)) (fun d fr F2 H2 v n2 s2 => kr d fr F2 H2 v n2 (s.trans s2)) (fun ρ' F2 H2 σ2 n2 s2 => kb ρ' F2 H2 σ2 n2 (s.trans s2)) fun ρ' F2 H2 σ2 n2 s2 => kc ρ' F2 H2 σ2 n2 (s.trans s2)
end
end Tr
/-! ### range of two; in an owned list; the last item -/
section
variable {z : Cz} {ρ : List Sl} {N : Dt → Bool → List Sl → Prop} {ta tb te : TE} {t : TA} {i : Nat} {I : List Dt → List Sl → (List Sl → Prop) → (List Sl → List Sl) → Prop}
theorem zi_range2 (h : ZA z t ρ fun ds ρ1 => ∃ i j : Int, ds = [.int i, .int j] ∧ -1000000 ≤ i ∧ i ≤ 1000000 ∧ -1000000 ≤ j ∧ j ≤ 1000000 ∧ I ((List.range (j - i).toNat).map fun (k : Nat) => Dt.int (i + (k : Int))) ρ1 bT bI) : ZI z (iRng2 t) ρ I := fun m F H σ R S k => by
  refine h m F H σ _ S fun ds ρ1 F1 H1 vs n1 s1 S1 r1 => ?_
  obtain ⟨a, b, rfl, h1, h2, h3, h4, nn⟩ := n1
  obtain ⟨v, r, rfl, rv, rr⟩ := r1.inv
  obtain ⟨v2, r, rfl, rv2, rr⟩ := rr.inv
  obtain rfl := rr.inv0
  obtain rfl := rz_i rv
  obtain rfl := rz_i rv2
  refine ⟨a, b, rfl, ⟨by omega, by omega, by omega, by omega⟩, k _ _ _ _ _ _ _ _ _ nn s1 .id S1 ⟨(b - a).toNat, _, _, walk_range, by simp, fun _ _ _ _ _ => trivial, fun m2 i d F' H' H'' x σ ρ eb e f S y => ?_⟩⟩
  obtain ⟨rfl, rfl⟩ := y
  rw [List.getElem?_map] at e
  cases q : (List.range (b - a).toNat)[i]? with
  | none => rw [q] at e; cases e
  | some u =>
    rw [q] at e
    cases e
    have := (List.getElem?_eq_some_iff.mp q).2
    rw [List.getElem_range] at this
    subst this
    exact ⟨F', Same.refl F', S, by simp only [Rz]⟩
theorem ze_inFv {neg : Bool} {K' : PySem.W.Frag} {c0 : Dt} (hK : K' = z.K) (h0 : ρ[i]? = some (.o c0)) (h : ZE z ta ρ fun x _ ρ1 => ∃ (u : V) (us : List V) (t : Bool) (ds : List Dt), ρ1[i]? = some (.o (.lst t ds)) ∧ flatD x = some u ∧ ds.mapM flatD = some us ∧ N (.bl (if neg then !inV u us else inV u us)) false ρ1) : ZE z (tOp (rIn K' neg) ta (tVar i)) ρ N := fun m F H σ Q S k => by
  subst hK
  refine h m F H σ _ S fun x fx ρ1 F1 H1 vx n1 s1 S1 r1 => ?_
  obtain ⟨F2, s2, S2, rx⟩ := rzF_frz S1 r1
  obtain ⟨u, us, t, ds, hs, hu, hm, n⟩ := n1
  obtain ⟨l, e, q1, q2, q3, ho, q4, q5⟩ := S2.geto hs
  obtain ⟨rfl, fu⟩ := flat_rz hu rx
  cases q5 with
  | @lst xs _ r =>
    obtain ⟨rfl, fs⟩ := flat_rzl hm r
    exact ⟨.ref l, e, l, xs, rfl, .inl (SqL.of q4), fu, fs, k _ _ _ _ _ _ n (s1.trans s2) S2 (rzF_f rzb)⟩
end
local macro_rules | `(tactic| walk_at "z1") => `(tactic| first
  | (with_reducible apply zs_seq) | (with_reducible apply zs_asg) | (with_reducible apply zs_setlc) | (with_reducible apply zs_if) | (with_reducible apply zs_reto; exact rfl) | (with_reducible apply zs_ret) | (with_reducible apply zs_next) | (with_reducible apply zs_drop) | (with_reducible apply zs_brk) | (with_reducible apply zs_cont) | (with_reducible apply zs_retN) | (with_reducible apply zs_dput)
  | (with_reducible apply zg_nameT) | (with_reducible apply zg_nameF) | (with_reducible apply zg_tup) | (with_reducible apply zgs_nil) | (with_reducible apply zgs_cons)
  | ((with_reducible apply ze_var); exact rfl) | ((with_reducible apply ze_varo); exact rfl) | (with_reducible apply ze_int) | (with_reducible apply ze_str) | (with_reducible apply ze_bl) | (with_reducible apply ze_non) | (with_reducible apply ze_adr) | (with_reducible apply ze_ty)
  | (with_reducible apply ze_I0) | (with_reducible apply ze_IB) | (with_reducible apply ze_I) | (with_reducible apply ze_neg) | (with_reducible apply ze_eq) | (with_reducible apply ze_ne)
  | (with_reducible apply zt_val) | (with_reducible apply zt_B) | (with_reducible apply zt_and) | (with_reducible apply zt_or) | (with_reducible apply zt_not) | (with_reducible apply zt_yes) | (with_reducible apply ze_andV) | (with_reducible apply ze_orV) | (with_reducible apply ze_notV) | (with_reducible apply ze_ifE) | (with_reducible apply ze_chain)
  | (with_reducible apply za_nil) | (with_reducible apply za_cons) | (with_reducible apply ze_tup) | (with_reducible apply ze_lst) | (with_reducible apply ze_dnewT) | (with_reducible apply ze_dnewK) | (with_reducible apply ze_fld) | (with_reducible apply ze_call) | (with_reducible apply ze_draw) | (with_reducible apply ze_ratio))
local macro_rules | `(tactic| walk_at "z1") => `(tactic| first
  | ((with_reducible apply ze_dgetv); exact rfl; walk_at "pk") | (with_reducible apply ze_dget) | ((with_reducible apply ze_dinv); exact rfl) | ((with_reducible apply ze_dnotinv); exact rfl) | (with_reducible apply ze_din) | ((with_reducible apply ze_dget2v); exact rfl; walk_at "pk"; exact rfl)
  | ((with_reducible apply ze_lenv); exact rfl; walk_at "pk"; walk_at "ln") | (with_reducible apply ze_len) | ((with_reducible apply ze_listv); exact rfl; walk_at "pk"; walk_at "li") | (with_reducible apply ze_list)
  | (with_reducible apply ze_ixT) | ((with_reducible apply ze_ixLv); exact rfl; walk_at "pk") | (with_reducible apply ze_ixL) | (with_reducible apply ze_slT) | (with_reducible apply ze_slL) | (with_reducible apply zo_no) | (with_reducible apply zo_some) | (with_reducible apply ze_cat)
  | ((with_reducible apply zt_truv); exact rfl; walk_at "pk") | (with_reducible apply zt_tru) | ((with_reducible apply ze_append); exact rfl) | ((with_reducible apply ze_pop); exact rfl) | ((with_reducible apply ze_extend); exact rfl)
  | (with_reducible apply ze_inF) | (with_reducible apply ze_inTab) | (with_reducible apply ze_isi) | (with_reducible apply ze_bin) | (with_reducible apply ze_neO) | (with_reducible apply ze_unO) | (with_reducible apply ze_sorted) | (with_reducible apply za_star) | (with_reducible apply ze_tupOf) | (with_reducible apply ze_disp) | (with_reducible apply zp_cons) | (with_reducible apply zp_nil) | (with_reducible apply ze_dictOf) | (with_reducible apply ze_sum) | (with_reducible apply ze_catT) | ((with_reducible apply ze_sortK); exact rfl) | (with_reducible apply ze_eqD) | (with_reducible apply ze_neD) | (with_reducible apply ze_inD) | (with_reducible apply ze_notInD))
local macro_rules | `(tactic| walk_at "pk") => `(tactic| first | exact Or.inl rfl | exact Or.inr (Or.inl rfl) | exact Or.inr (Or.inr ⟨_, rfl⟩))
local macro_rules | `(tactic| walk_at "ln") => `(tactic| first | exact .lst _ _ | exact .tup _ | exact .dic _ _ _ | exact .dit _ _ _)
local macro_rules | `(tactic| walk_at "li") => `(tactic| first | exact .lst _ _ | exact .tup _ | exact .dic _ _ _ | exact .dit _ _ _)
local macro_rules | `(tactic| walk_at "z2") => `(tactic| first
  | (refine ⟨_, rfl, cutN, ?_⟩) | (refine ⟨_, _, rfl, rfl, ?_⟩) | (refine ⟨_, rfl, ?_⟩) | (refine ⟨_, .ii _ _, ?_⟩) | (refine ⟨_, .ss _ _, ?_⟩) | (refine ⟨_, .bb _ _, ?_⟩) | (refine ⟨_, _, _, rfl, rfl, rfl, ?_⟩) | (refine ⟨_, .lst _ _, ?_⟩) | (refine ⟨_, .tup _, ?_⟩) | (refine ⟨Nat.le_of_ble_eq_true rfl, ?_⟩) | (refine ⟨by decide, ?_⟩)
  | (refine ⟨Sum.inr _, rfl, ?_⟩) | (rw [cut1]) | (refine zT (by decide) ?_) | (refine zF (by decide) ?_)
  | (refine ⟨_, _, rfl, Or.inr (Or.inl rfl), ?_⟩) | (refine ⟨_, _, rfl, Or.inl rfl, ?_⟩)
  | (refine ⟨_, _, _, rfl, rfl, atI_k (k := 0) rfl, ?_⟩) | (refine ⟨_, _, _, rfl, rfl, atI_k (k := 1) rfl, ?_⟩) | (refine ⟨_, _, _, rfl, rfl, atI_k (k := 2) rfl, ?_⟩) | (refine ⟨_, _, _, rfl, rfl, atI_k (k := 3) rfl, ?_⟩))
local macro_rules | `(tactic| walk_at "zz") => `(tactic| repeat first | walk_at "z1" | walk_at "z2")
local macro_rules | `(tactic| walk_at "z1") => `(tactic| ((with_reducible apply zs_reto); exact rfl))
section
variable {z : Cz} {ρ : List Sl} {N : Dt → Bool → List Sl → Prop} {D : Zn} {t : TA}
theorem ze_max2 (h : ZA z t ρ fun ds ρ1 => ∃ i j, ds = [.int i, .int j] ∧ N (.int (if j > i then j else i)) false ρ1) : ZE z (tCB (fun xs H Q => ∃ i j : Int, xs = [V.int i, .int j] ∧ Q (.int (if j > i then j else i)) H) t) ρ N := fun m F H σ Q S k => by
  refine h m F H σ _ S fun ds ρ1 F1 H1 vs n1 s1 S1 r1 => ?_
  obtain ⟨i, j, rfl, n⟩ := n1
  obtain ⟨v, r, rfl, h1, t1⟩ := r1.inv
  obtain ⟨v2, r2, rfl, h2, t2⟩ := t1.inv
  obtain rfl := t2.inv0
  exact ⟨i, j, by rw [rz_i h1, rz_i h2], k _ _ _ _ _ _ n s1 S1 (rzF_f rzi)⟩
theorem ze_abs (h : ZA z t ρ fun ds ρ1 => ∃ i, ds = [.int i] ∧ N (.int (if i < 0 then -i else i)) false ρ1) : ZE z (tCB (fun xs H Q => ∃ i : Int, xs = [V.int i] ∧ Q (.int (if i < 0 then -i else i)) H) t) ρ N := fun m F H σ Q S k => by
  refine h m F H σ _ S fun ds ρ1 F1 H1 vs n1 s1 S1 r1 => ?_
  obtain ⟨i, rfl, n⟩ := n1
  obtain ⟨v, r, rfl, h1, t1⟩ := r1.inv
  obtain rfl := t1.inv0
  exact ⟨i, by rw [rz_i h1], k _ _ _ _ _ _ n s1 S1 (rzF_f rzi)⟩
theorem zs_par {i j : Nat} (h : ZA z t ρ fun ds ρ1 => ∃ x y, ds = [x, y] ∧ D.nx ((ρ1.set i (.v x)).set j (.v y))) : ZS z (tPar i j t) ρ D := fun m F H σ E S kn kr kb kc => by
  refine h m F H σ _ S fun ds ρ1 F1 H1 vs n1 s1 S1 r1 => ?_
  obtain ⟨x, y, rfl, n⟩ := n1
  obtain ⟨v, r, rfl, h1, t1⟩ := r1.inv
  obtain ⟨v2, r2, rfl, h2, t2⟩ := t1.inv
  obtain rfl := t2.inv0
  exact ⟨v, v2, rfl, kn _ _ _ _ n s1 ((S1.setv h1).setv h2)⟩
end
local macro_rules | `(tactic| walk_at "z1") => `(tactic| first | (with_reducible apply ze_max2) | (with_reducible apply ze_abs) | (with_reducible apply zs_par) | ((with_reducible apply ze_intOf); exact rfl))
section
variable {P : Program} {w : World} {K : PySem.W.Frag} {mg : Str → Option Value} {base : Heap}
theorem fdiv_small {t g : Int} (h : 0 < g) : (t.fdiv g).natAbs ≤ t.natAbs := by
  rw [Int.fdiv_eq_ediv_of_nonneg _ (Int.le_of_lt h)]
  exact Int.natAbs_ediv_le_natAbs t g
theorem fdiv_pos {b g : Int} (h : 0 < g) (l : g ≤ b) : 0 < b.fdiv g := by
  rw [Int.fdiv_eq_ediv_of_nonneg _ (Int.le_of_lt h)]
  exact (Int.le_ediv_iff_mul_le h).mpr (by omega)
def wPart : Wz := fun ds Nv _ => ∃ a b, ds = [.int a, .int b] ∧ 0 < b ∧ ∀ g, 0 < g → g ≤ b → Nv (.int g) false
def wLow : Wz := fun ds Nv _ => ∃ t b p, ds = [.int t, .int b] ∧ 0 < b ∧ Bits p t ∧ Bits p b ∧ p ≤ 8000 ∧ ∀ t' b', 0 < b' → Bits p t' → Bits p b' → Nv (.tup [.int t', .int b']) false
theorem ok__law_part (T : Top w K mg) : FnOk P w K mg base CX0 1 (He.ga K ("_law_part" : Str)) (fdOf K d__law_part) ["a", "b"] (spZ K wPart) := by
  refine (T.f__law_part).ok sc__law_part (fun vs H Q E h => spz_len h (n := 2) fun ds Nv Ne hw => ?_) (fun cdv A outer s H vs Q E hr h => ?_)
  · obtain ⟨_, _, rfl, _⟩ := hw
    rfl
  · refine z_fn h (PSs.nox (pss_cons (ps_while PassesOwn.never (pt_cmpR op_ne (pv 1) pe_int (nomark _))
    (pss_one (ps_par (i := 0) (j := 1) (by rfl) sc__law_part.nd rfl rfl (by decide) rfl rfl (pa_cons (pv 1) (pa_cons (pe_op op_mod (pe_callTy call_int1 (by rfl) T.n_int (by decide +kernel) (pa_cons (pv 0) pa_nil)) (pv 1)) pa_nil)) (by rfl))))
    (pss_one (ps_ret (pe_callB (call_max2 rfl) (by rfl) T.n_max (by decide +kernel) (pa_cons pe_int (pa_cons (pe_callB call_abs (by rfl) T.n_abs (by decide +kernel) (pa_cons (pv 0) pa_nil)) pa_nil))))))) fun ds Nv Ne hw => ?_
    obtain ⟨a, b, rfl, hb, k⟩ := hw
    walk_at "zz"
    refine zs_while (fun n ρ => ∃ x y : Int, ρ = [.v (.int x), .v (.int y)] ∧ 0 ≤ y ∧ y ≤ b ∧ (y = 0 → 0 < x ∧ x ≤ b) ∧ n = y.toNat) ⟨_, a, b, rfl, by omega, by omega, fun q => by omega, rfl⟩ ?_
    rintro n ρ ⟨x, y, rfl, h0, hl, hx, rfl⟩
    walk_at "zz"
    by_cases c : y = 0
    · refine zF (by simp [c]) ?_
      obtain ⟨x0, xl⟩ := hx c
      walk_at "zz"
      refine ⟨_, _, rfl, k _ ?_ ?_⟩
      · split <;> split <;> omega
      · split <;> split <;> omega
    · refine zT (by simp [c]) ?_
      walk_at "zz"
      refine .inl ⟨_, rfl, ?_⟩
      walk_at "zz"
      refine ⟨by omega, ?_⟩
      walk_at "zz"
      have e1 : 0 ≤ x % y := Int.emod_nonneg x c
      have e2 : x % y < y := Int.emod_lt_of_pos x (by omega)
      refine ⟨_, _, rfl, (x % y).toNat, by omega, _, _, rfl, e1, by omega, fun _ => ⟨by omega, hl⟩, rfl⟩
set_option maxHeartbeats 1000000 in
theorem ok__law_lowest (T : Top w K mg) : FnOk P w K mg base CX0 2 (He.ga K ("_law_lowest" : Str)) (fdOf K d__law_lowest) ["top", "bottom"] (spZ K wLow) := by
  refine (T.f__law_lowest).ok sc__law_lowest (fun vs H Q E h => spz_len h (n := 2) fun ds Nv Ne hw => ?_) (fun cdv A outer s H vs Q E hr h => ?_)
  · obtain ⟨_, _, _, rfl, _⟩ := hw
    rfl
  · refine z_fn h (PSs.nox (pss_cons (ps_set (i := 2) sc__law_lowest.nd rfl (Or.inl rfl) (pe_call (ok__law_part (K := K) T) (hr.mono (by decide)) rfl T.g__law_part T.f__law_part.kp T.b__law_part .nil pass0 (pa_cons (pv 0) (pa_cons (pv 1) pa_nil))))
    (pss_cons (ps_if (pt_cmpR op_lt (pv 1) pe_int (nomark _))
    (pss_one (ps_set (i := 2) sc__law_lowest.nd rfl (Or.inl rfl) (pe_un un_neg (pv 2))))
    pss_nil)
    (pss_one (ps_ret (pe_tup (pa_cons (pe_op op_fdivG (pv 0) (pv 2)) (pa_cons (pe_op op_fdivG (pv 1) (pv 2)) pa_nil)))))))) fun ds Nv Ne hw => ?_
    obtain ⟨t, b, p, rfl, hb, bt, bb, hp, k⟩ := hw
    walk_at "zz"
    refine ⟨t, b, rfl, hb, fun g hg hgb => ?_⟩
    walk_at "zz"
    refine zF (by simp; omega) ?_
    have gb : Bits p g := Nat.lt_of_le_of_lt (by omega) bb
    have gd : CDivG t g := Bits.divG (by omega) gb (by omega)
    walk_at "zz"
    refine ⟨gd, ?_⟩
    walk_at "zz"
    refine ⟨gd, ?_⟩
    walk_at "zz"
    exact k _ _ (fdiv_pos hg hgb) (Nat.lt_of_le_of_lt (fdiv_small hg) bt) (Nat.lt_of_le_of_lt (fdiv_small hg) bb)
def wSum : Wz := fun ds Nv _ => ∃ a b c d p, ds = [.tup [.int a, .int b], .tup [.int c, .int d]] ∧ 0 < b ∧ 0 < d ∧ Bits p a ∧ Bits p b ∧ Bits p c ∧ Bits p d ∧ p ≤ 3000 ∧ ∀ t' b', 0 < b' → Bits (2 * p + 1) t' → Bits (2 * p + 1) b' → Nv (.tup [.int t', .int b']) false
def wTimes : Wz := fun ds Nv _ => ∃ a b c d p q, ds = [.tup [.int a, .int b], .tup [.int c, .int d]] ∧ 0 < b ∧ 0 < d ∧ Bits p a ∧ Bits p b ∧ Bits q c ∧ Bits q d ∧ p ≤ 3000 ∧ q ≤ 3000 ∧ ∀ t' b', 0 < b' → Bits (p + q) t' → Bits (p + q) b' → Nv (.tup [.int t', .int b']) false
set_option maxHeartbeats 1000000 in
theorem ok__law_sum (T : Top w K mg) : FnOk P w K mg base CX0 3 (He.ga K ("_law_sum" : Str)) (fdOf K d__law_sum) ["one", "two"] (spZ K wSum) := by
  refine (T.f__law_sum).ok sc__law_sum (fun vs H Q E h => spz_len h (n := 2) fun ds Nv Ne hw => ?_) (fun cdv A outer s H vs Q E hr h => ?_)
  · obtain ⟨_, _, _, _, _, rfl, _⟩ := hw
    rfl
  · refine z_fn h (PSs.nox (pss_one (ps_ret (pe_call (ok__law_lowest (K := K) T) (hr.mono (by decide)) rfl T.g__law_lowest T.f__law_lowest.kp T.b__law_lowest .nil pass0 (pa_cons (pe_op op_add (pe_op op_mulW (pe_ix (ix_tupK (K := K) rfl) (pv 0) pe_int (fun _ _ => rfl)) (pe_ix (ix_tupK (K := K) rfl) (pv 1) pe_int (fun _ _ => rfl))) (pe_op op_mulW (pe_ix (ix_tupK (K := K) rfl) (pv 1) pe_int (fun _ _ => rfl)) (pe_ix (ix_tupK (K := K) rfl) (pv 0) pe_int (fun _ _ => rfl)))) (pa_cons (pe_op op_mulW (pe_ix (ix_tupK (K := K) rfl) (pv 0) pe_int (fun _ _ => rfl)) (pe_ix (ix_tupK (K := K) rfl) (pv 1) pe_int (fun _ _ => rfl))) pa_nil)))))) fun ds Nv Ne hw => ?_
    obtain ⟨a, b, c, d, p, rfl, hb, hd, ba, bb, bc, bd, hp, k⟩ := hw
    walk_at "zz"
    refine ⟨Bits.mulW ba bd (by omega), ?_⟩
    walk_at "zz"
    refine ⟨Bits.mulW bc bb (by omega), ?_⟩
    walk_at "zz"
    refine ⟨Bits.mulW bb bd (by omega), ?_⟩
    walk_at "zz"
    refine ⟨_, _, 2 * p + 1, rfl, Int.mul_pos hb hd, Bits.add (ba.mul bd) (bc.mul bb) (by omega) (by omega), (bb.mul bd).mono (by omega), by omega, fun t' b' h1 h2 h3 => k t' b' h1 h2 h3⟩
set_option maxHeartbeats 1000000 in
theorem ok__law_times (T : Top w K mg) : FnOk P w K mg base CX0 3 (He.ga K ("_law_times" : Str)) (fdOf K d__law_times) ["one", "two"] (spZ K wTimes) := by
  refine (T.f__law_times).ok sc__law_times (fun vs H Q E h => spz_len h (n := 2) fun ds Nv Ne hw => ?_) (fun cdv A outer s H vs Q E hr h => ?_)
  · obtain ⟨_, _, _, _, _, _, rfl, _⟩ := hw
    rfl
  · refine z_fn h (PSs.nox (pss_one (ps_ret (pe_call (ok__law_lowest (K := K) T) (hr.mono (by decide)) rfl T.g__law_lowest T.f__law_lowest.kp T.b__law_lowest .nil pass0 (pa_cons (pe_op op_mulW (pe_ix (ix_tupK (K := K) rfl) (pv 0) pe_int (fun _ _ => rfl)) (pe_ix (ix_tupK (K := K) rfl) (pv 1) pe_int (fun _ _ => rfl))) (pa_cons (pe_op op_mulW (pe_ix (ix_tupK (K := K) rfl) (pv 0) pe_int (fun _ _ => rfl)) (pe_ix (ix_tupK (K := K) rfl) (pv 1) pe_int (fun _ _ => rfl))) pa_nil)))))) fun ds Nv Ne hw => ?_
    obtain ⟨a, b, c, d, p, q, rfl, hb, hd, ba, bb, bc, bd, hp, hq, k⟩ := hw
    walk_at "zz"
    refine ⟨Bits.mulW ba bc (by omega), ?_⟩
    walk_at "zz"
    refine ⟨Bits.mulW bb bd (by omega), ?_⟩
    walk_at "zz"
    refine ⟨_, _, p + q, rfl, Int.mul_pos hb hd, ba.mul bc, bb.mul bd, by omega, fun t' b' h1 h2 h3 => k t' b' h1 h2 h3⟩
end
local macro_rules | `(tactic| walk_at "z1") => `(tactic| first | (with_reducible apply ze_isiT))
namespace Tr
structure EntOk (p : Nat) (e : Int × Int) : Prop where
  pos : 0 < e.2
  top : Bits p e.1
  bot : Bits p e.2
theorem EntOk.mono {p q : Nat} {e : Int × Int} (h : EntOk p e) (l : p ≤ q) : EntOk q e := ⟨h.pos, h.top.mono l, h.bot.mono l⟩
def entD (e : Int × Int) : Dt := .tup [.int e.1, .int e.2]
def rowD (t : Bool) (r : List (Int × Int)) : Dt := .lst t (r.map entD)
def matD (t t' : Bool) (m : List (List (Int × Int))) : Dt := .lst t (m.map (rowD t'))
def RowOk (wide p : Nat) (r : List (Int × Int)) : Prop := r.length = wide ∧ ∀ e ∈ r, EntOk p e
def bl : Nat → Nat
  | 0 => 4
  | k + 1 => 2 * bl k + 5
theorem bl_le : ∀ {k : Nat}, k ≤ 6 → bl k ≤ 600 := by
  have : ∀ k ∈ List.range 7, bl k ≤ 600 := by decide
  intro k h
  exact this k (List.mem_range.mpr (by omega))
theorem bits2 {i : Int} (h : i.natAbs < 4) : Bits 2 i := h
theorem bits4 {i : Int} (h : i.natAbs < 16) : Bits 4 i := h
def jOk (s : Sl) : Prop := s = .un ∨ ∃ i, s = .v (.int i)
theorem rng_at {n i : Nat} {d : Dt} (h : (List.map (fun (i : Nat) => Dt.int (i : Int)) (List.range ((n : Int)).toNat))[i]? = some d) : i < n ∧ d = .int (i : Int) := by
  rw [Int.toNat_natCast, List.getElem?_map] at h
  cases q : (List.range n)[i]? with
  | none => rw [q] at h; cases h
  | some x =>
    rw [q] at h
    cases h
    obtain ⟨h1, h2⟩ := List.getElem?_eq_some_iff.mp q
    rw [List.length_range] at h1
    rw [List.getElem_range] at h2
    exact ⟨h1, by rw [h2]⟩
theorem rng_len (n : Nat) : (List.map (fun (i : Nat) => Dt.int (i : Int)) (List.range ((n : Int)).toNat)).length = n := by rw [List.length_map, List.length_range, Int.toNat_natCast]
theorem bl_four (k : Nat) : 4 ≤ bl k := by cases k <;> simp only [bl] <;> omega
theorem entD_old (e : Int × Int) : (entD e).old = entD e := rfl
section
variable {P : Program} {w : World} {K : PySem.W.Frag} {mg : Str → Option Value} {base : Heap}
def wMatrix : Wz := fun ds Nv _ => ∃ many wide : Nat, ds = [.strm, .int (many : Int), .int (wide : Int)] ∧ many ≤ 6 ∧ wide ≤ 6 ∧ ∀ m : List (List (Int × Int)), m.length = many → (∀ r ∈ m, RowOk wide 600 r) → Nv (matD true true m) true
set_option maxHeartbeats 4000000 in
theorem ok__law_matrix (T : Top w K mg) : FnOk P w K mg base CX0 4 (He.ga K ("_law_matrix" : Str)) (fdOf K d__law_matrix) ["stream", "many", "wide"] (spZ K wMatrix) := by
  refine (T.f__law_matrix).ok sc__law_matrix (fun vs H Q E h => spz_len h (n := 3) fun ds Nv Ne hw => ?_) (fun cdv A outer s H vs Q E hr h => ?_)
  · obtain ⟨_, _, rfl, _⟩ := hw
    rfl
  · refine z_fn h (PSs.nox (pss_cons (ps_set (i := 3) sc__law_matrix.nd rfl (Or.inl rfl) (pe_lst pa_nil))
    (pss_cons (ps_lockL (ps_for PassesOwn.never rfl (pi_range1 rfl T.n_range (pa_cons (pv 1) pa_nil)) (pg_name (i := 4) sc__law_matrix.nd rfl (Or.inl rfl))
    (pss_cons (ps_set (i := 5) sc__law_matrix.nd rfl (Or.inl rfl) (pe_lst pa_nil))
    (pss_cons (ps_lockL (ps_for PassesOwn.never rfl (pi_range1 rfl T.n_range (pa_cons (pv 2) pa_nil)) (pg_name (i := 6) sc__law_matrix.nd rfl (Or.inl rfl))
    (pss_cons (ps_set (i := 7) sc__law_matrix.nd rfl (Or.inl rfl) (pe_op op_sub (pe_call (ok__law_draw (K := K) T) (hr.mono (by decide)) rfl T.g__law_draw T.f__law_draw.kp T.b__law_draw .nil pass0 (pa_cons (pv 0) (pa_cons pe_int pa_nil))) pe_int))
    (pss_cons (ps_if (pt_cmpR op_eq (pe_call (ok__law_draw (K := K) T) (hr.mono (by decide)) rfl T.g__law_draw T.f__law_draw.kp T.b__law_draw .nil pass0 (pa_cons (pv 0) (pa_cons pe_int pa_nil))) pe_int (nomark _))
    (pss_one (ps_set (i := 7) sc__law_matrix.nd rfl (Or.inl rfl) pe_int))
    pss_nil)
    (pss_one (ps_expr (pe_bm PySem.F.plainAttrs_list PySem.F.slot_list_append PySem.F.type_list_append mt_append (pv 5) (pa_cons (pe_call (ok__law_lowest (K := K) T) (hr.mono (by decide)) rfl T.g__law_lowest T.f__law_lowest.kp T.b__law_lowest .nil pass0 (pa_cons (pv 7) (pa_cons (pe_op op_add pe_int (pe_op op_mulW (pe_call (ok__law_draw (K := K) T) (hr.mono (by decide)) rfl T.g__law_draw T.f__law_draw.kp T.b__law_draw .nil pass0 (pa_cons (pv 0) (pa_cons pe_int pa_nil))) (pe_callTy call_int1 (by rfl) T.n_int (by decide +kernel) (pa_cons (pe_cmpR op_eq (pe_call (ok__law_draw (K := K) T) (hr.mono (by decide)) rfl T.g__law_draw T.f__law_draw.kp T.b__law_draw .nil pass0 (pa_cons (pv 0) (pa_cons pe_int pa_nil))) pe_int (nomark _)) pa_nil)))) pa_nil))) pa_nil))))))))
    (pss_cons (ps_if (PW.pt (pw_and (pt_truth (pv 3) (by intro _; rfl)) (pw_and1 (pt_cmpR op_eq (pe_call (ok__law_draw (K := K) T) (hr.mono (by decide)) rfl T.g__law_draw T.f__law_draw.kp T.b__law_draw .nil pass0 (pa_cons (pv 0) (pa_cons pe_int pa_nil))) pe_int (nomark _)))))
    (pss_cons (ps_set (i := 8) sc__law_matrix.nd rfl (Or.inr rfl) (pe_ix (ix_listK (K := K) rfl) (pv 3) (pe_call (ok__law_draw (K := K) T) (hr.mono (by decide)) rfl T.g__law_draw T.f__law_draw.kp T.b__law_draw .nil pass0 (pa_cons (pv 0) (pa_cons (pe_callB (call_lenZ (K := K) rfl) (by rfl) T.n_len PySem.boot_len (pa_cons (pv 3) pa_nil)) pa_nil))) (fun _ _ => rfl)))
    (pss_cons (ps_set (i := 9) sc__law_matrix.nd rfl (Or.inr rfl) (pe_ix (ix_listK (K := K) rfl) (pv 3) (pe_call (ok__law_draw (K := K) T) (hr.mono (by decide)) rfl T.g__law_draw T.f__law_draw.kp T.b__law_draw .nil pass0 (pa_cons (pv 0) (pa_cons (pe_callB (call_lenZ (K := K) rfl) (by rfl) T.n_len PySem.boot_len (pa_cons (pv 3) pa_nil)) pa_nil))) (fun _ _ => rfl)))
    (pss_one (ps_lockL (ps_setLc (i := 5) (own := [(("j" : Str), 6)]) (g := (gName 6)) (tt := tYes) rfl sc__law_matrix.nd rfl rfl (by rfl) (pi_range1 rfl T.n_range (pa_cons (pv 2) pa_nil)) (blkOk_by (N := ["stream", "many", "wide", "rows", "k", "row", "j", "value", "one", "two"]) (sc := defScope s__law_matrix) (by decide +kernel)) (fun _ _ _ _ _ => (pg_name (i := 6) sc__law_matrix.nd rfl (Or.inl rfl))) (fun _ _ _ _ _ => pts_nil) (fun _ _ _ _ _ => (pe_call (ok__law_sum (K := K) T) (hr.mono (by decide)) rfl T.g__law_sum T.f__law_sum.kp T.b__law_sum .nil pass0 (pa_cons (pe_call (ok__law_times (K := K) T) (hr.mono (by decide)) rfl T.g__law_times T.f__law_times.kp T.b__law_times .nil pass0 (pa_cons (pe_tup (pa_cons pe_int (pa_cons pe_int pa_nil))) (pa_cons (pe_ix (ix_listK (K := K) rfl) (pv 8) (pv 6) (fun _ _ => rfl)) pa_nil))) (pa_cons (pe_call (ok__law_times (K := K) T) (hr.mono (by decide)) rfl T.g__law_times T.f__law_times.kp T.b__law_times .nil pass0 (pa_cons (pe_tup (pa_cons (pe_un un_neg pe_int) (pa_cons pe_int pa_nil))) (pa_cons (pe_ix (ix_listK (K := K) rfl) (pv 9) (pv 6) (fun _ _ => rfl)) pa_nil))) pa_nil)))))))))
    pss_nil)
    (pss_one (ps_expr (pe_bm PySem.F.plainAttrs_list PySem.F.slot_list_append PySem.F.type_list_append mt_append (pv 3) (pa_cons (pv 5) pa_nil)))))))))
    (pss_one (ps_ret (pv 3)))))) fun ds Nv Ne hw => ?_
    obtain ⟨many, wide, rfl, h1, h2, k⟩ := hw
    walk_at "zz"
    refine zs_forL (zi_range1 ?_)
    walk_at "zz"
    refine ⟨by omega, by omega, fun i ρ => ∃ (m : List (List (Int × Int))) (p4 p5 p6 p7 p8 p9 : Sl), ρ = [.v .strm, .v (.int (many : Int)), .v (.int (wide : Int)), .o (matD true true m), p4, p5, p6, p7, p8, p9] ∧ jOk p6 ∧ m.length = i ∧ ∀ r ∈ m, RowOk wide (bl i) r,
      ⟨[], .un, .un, .un, .un, .un, .un, rfl, .inl rfl, rfl, fun r hr => nomatch hr⟩, ?_, ?_⟩
    · rintro ρ ⟨m, p4, p5, p6, p7, p8, p9, rfl, _, hm, hr⟩
      rw [rng_len] at hm hr
      refine ⟨trivial, ?_⟩
      dsimp only [bI]
      walk_at "zz"
      exact k m hm fun r h => ⟨(hr r h).1, fun e he => ((hr r h).2 e he).mono (bl_le h1)⟩
    · rintro i d ρ hd ⟨m, p4, p5, p6, p7, p8, p9, rfl, hp6, hm, hr⟩
      obtain ⟨hi, rfl⟩ := rng_at hd
      walk_at "zz"
      refine zs_forL (zi_range1 ?_)
      walk_at "zz"
      refine ⟨by omega, by omega, fun j ρ => ∃ (r : List (Int × Int)) (p6 p7 : Sl), ρ = [.v .strm, .v (.int (many : Int)), .v (.int (wide : Int)), .o (matD true true m), .v (.int (i : Int)), .o (rowD true r), p6, p7, p8, p9] ∧ jOk p6 ∧ r.length = j ∧ ∀ e ∈ r, EntOk 4 e,
        ⟨[], p6, p7, rfl, hp6, rfl, fun e he => nomatch he⟩, ?_, ?_⟩
      · rintro ρ ⟨r, p6, p7, rfl, hp6, hrl, hre⟩
        rw [rng_len] at hrl
        refine ⟨trivial, ?_⟩
        dsimp only [bI]
        walk_at "zz"
        refine zt_truM rfl rfl (.inr (.inl rfl)) ?_
        have fin : ∀ (r : List (Int × Int)) (p6 p7 p8 p9 : Sl), jOk p6 → RowOk wide (bl (i + 1)) r → ∃ (m' : List (List (Int × Int))) (p4 p5 p6' p7' p8' p9' : Sl), [Sl.v .strm, .v (.int (many : Int)), .v (.int (wide : Int)), .o (.lst true (m.map (rowD true) ++ [rowD true r])), .v (.int (i : Int)), .v (rowD true r), p6, p7, p8, p9] = [Sl.v .strm, .v (.int (many : Int)), .v (.int (wide : Int)), .o (matD true true m'), p4, p5, p6', p7', p8', p9'] ∧ jOk p6' ∧ m'.length = i + 1 ∧ ∀ r ∈ m', RowOk wide (bl (i + 1)) r := fun r p6 p7 p8 p9 h6 hr1 => by
          refine ⟨m ++ [r], _, _, _, _, _, _, by unfold matD; rw [List.map_append]; rfl, h6, by rw [List.length_append, hm]; rfl, fun x hx => ?_⟩
          rcases List.mem_append.mp hx with hx | hx
          · exact ⟨(hr x hx).1, fun e he => ((hr x hx).2 e he).mono (by simp only [bl]; omega)⟩
          · rw [List.mem_singleton.mp hx]
            exact hr1
        have r0 : RowOk wide (bl (i + 1)) r := ⟨hrl, fun e he => (hre e he).mono (bl_four _)⟩
        by_cases c : (!(List.map (rowD true) m).isEmpty) = true
        · refine zT c ?_
          have m0 : 0 < m.length := by
            cases m with
            | nil => simp at c
            | cons _ _ => simp
          walk_at "zz"
          intro v1 a0 a1
          walk_at "zz"
          by_cases d0 : v1 = 0
          · refine zT (by simp [d0]) ?_
            walk_at "zz"
            refine ⟨by rw [List.length_map]; omega, by rw [List.length_map]; omega, fun u e0 e1 => ?_⟩
            rw [List.length_map] at e1
            obtain ⟨o1, ho1, at1⟩ := atI_M (f := rowD true) e0 e1
            refine ⟨_, _, _, _, _, rfl, .inr (.inl rfl), rfl, at1, ?_⟩
            walk_at "zz"
            refine ⟨by rw [List.length_map]; omega, by rw [List.length_map]; omega, fun u e0 e1 => ?_⟩
            rw [List.length_map] at e1
            obtain ⟨o2, ho2, at2⟩ := atI_M (f := rowD true) e0 e1
            refine ⟨_, _, _, _, _, rfl, .inr (.inl rfl), rfl, at2, ?_⟩
            walk_at "zz"
            refine ze_lcW (zi_range1 ?_)
            walk_at "zz"
            have okw : okW (([Sl.v Dt.strm, Sl.v (Dt.int (many : Int)), Sl.v (Dt.int (wide : Int)), Sl.o (matD true true m), Sl.v (Dt.int (i : Int)), Sl.o (rowD true r), p6, p7, p8, p9].set 8 (Sl.v (rowD true o1))).set 9 (Sl.v (rowD true o2))) [6] = true := by rcases hp6 with rfl | ⟨_, rfl⟩ <;> rfl
            refine ⟨by omega, by omega, trivial, okw, by rw [rng_len]; omega, fun j ad => ∃ r' : List (Int × Int), ad = r'.map entD ∧ r'.length = j ∧ ∀ e ∈ r', EntOk (bl (i + 1)) e, ⟨[], rfl, rfl, fun e he => nomatch he⟩, ?_, ?_⟩
            · rintro j d ad hd ⟨r', rfl, hl', he'⟩
              obtain ⟨hj, rfl⟩ := rng_at hd
              refine zgw_name (by decide) ?_
              walk_at "zz"
              obtain ⟨ho1l, ho1e⟩ := hr o1 ho1
              obtain ⟨ho2l, ho2e⟩ := hr o2 ho2
              obtain ⟨e1, he1, ae1⟩ := atI_M (f := entD) (xs := o1) (j := (j : Int)) (by omega) (by omega)
              obtain ⟨e2, he2, ae2⟩ := atI_M (f := entD) (xs := o2) (j := (j : Int)) (by omega) (by omega)
              have k1 := ho1e e1 he1
              have k2 := ho2e e2 he2
              have hb := bl_le (k := i) (by omega)
              refine ⟨_, _, _, _, _, rfl, .inl rfl, rfl, ae1, ?_⟩
              walk_at "zz"
              refine ⟨2, 1, e1.1, e1.2, 2, bl i, rfl, by decide, k1.pos, bits2 (by decide), bits2 (by decide), k1.top, k1.bot, by decide, by omega, fun t1 b1 q1 q2 q3 => ?_⟩
              walk_at "zz"
              refine ⟨_, _, _, _, _, rfl, .inl rfl, rfl, ae2, ?_⟩
              walk_at "zz"
              refine ⟨-1, 3, e2.1, e2.2, 2, bl i, rfl, by decide, k2.pos, bits2 (by decide), bits2 (by decide), k2.top, k2.bot, by decide, by omega, fun t2 b2 u1 u2 u3 => ?_⟩
              walk_at "zz"
              refine ⟨t1, b1, t2, b2, 2 + bl i, rfl, q1, u1, q2, q3, u2, u3, by omega, fun t3 b3 z1 z2 z3 => ?_⟩
              have eb : 2 * (2 + bl i) + 1 = bl (i + 1) := by simp only [bl]; omega
              rw [eb] at z2 z3
              refine ⟨by rcases hp6 with rfl | ⟨_, rfl⟩ <;> rfl, r' ++ [(t3, b3)], by rw [List.map_append]; rfl, by rw [List.length_append, hl']; rfl, fun e he => ?_⟩
              rcases List.mem_append.mp he with he | he
              · exact he' e he
              · rw [List.mem_singleton.mp he]
                exact ⟨z1, z2, z3⟩
            · rintro ad ⟨r', rfl, hl', he'⟩
              rw [rng_len] at hl'
              walk_at "zz"
              exact ⟨by rw [List.length_map]; omega, fin r' p6 p7 (.v (rowD true o1)) (.v (rowD true o2)) hp6 ⟨hl', he'⟩⟩
          · refine zF (by simp [d0]) ?_
            walk_at "zz"
            exact ⟨by rw [List.length_map]; omega, fin r p6 p7 p8 p9 hp6 r0⟩
        · refine zF c ?_
          walk_at "zz"
          exact ⟨by rw [List.length_map]; omega, fin r p6 p7 p8 p9 hp6 r0⟩
      · rintro j d ρ hd ⟨r, p6, p7, rfl, hp6, hrl, hre⟩
        obtain ⟨hj, rfl⟩ := rng_at hd
        walk_at "zz"
        intro v1 a0 a1
        walk_at "zz"
        intro v2 b0 b1
        walk_at "zz"
        by_cases d0 : v2 = 0
        · refine zT (by simp [d0]) ?_
          walk_at "zz"
          intro v3 c0 c1
          walk_at "zz"
          intro v4 g0 g1
          walk_at "zz"
          refine .inr ⟨_, rfl, ?_⟩
          have hz : (if decide (v4 = 0) = true then (1 : Int) else 0) = 0 ∨ (if decide (v4 = 0) = true then (1 : Int) else 0) = 1 := by split <;> simp
          generalize (if decide (v4 = 0) = true then (1 : Int) else 0) = q at hz
          have hq : 0 ≤ v3 * q ∧ v3 * q ≤ 2 := by rcases hz with rfl | rfl <;> simp <;> omega
          walk_at "zz"
          refine ⟨Bits.mulW (a := 2) (b := 2) (bits2 (by omega)) (bits2 (by omega)) (by decide), ?_⟩
          walk_at "zz"
          refine ⟨_, 1 + v3 * q, 4, rfl, by omega, bits4 (by omega), bits4 (by omega), by decide, fun t' b' u1 u2 u3 => ?_⟩
          walk_at "zz"
          refine ⟨by rw [List.length_map]; omega, r ++ [(t', b')], _, _, by unfold rowD; rw [List.map_append]; rfl, .inr ⟨_, rfl⟩, by rw [List.length_append, hrl]; rfl, fun e he => ?_⟩
          rcases List.mem_append.mp he with he | he
          · exact hre e he
          · rw [List.mem_singleton.mp he]
            exact ⟨u1, u2, u3⟩
        · refine zF (by simp [d0]) ?_
          walk_at "zz"
          intro v3 c0 c1
          walk_at "zz"
          intro v4 g0 g1
          walk_at "zz"
          refine .inr ⟨_, rfl, ?_⟩
          have hz : (if decide (v4 = 0) = true then (1 : Int) else 0) = 0 ∨ (if decide (v4 = 0) = true then (1 : Int) else 0) = 1 := by split <;> simp
          generalize (if decide (v4 = 0) = true then (1 : Int) else 0) = q at hz
          have hq : 0 ≤ v3 * q ∧ v3 * q ≤ 2 := by rcases hz with rfl | rfl <;> simp <;> omega
          walk_at "zz"
          refine ⟨Bits.mulW (a := 2) (b := 2) (bits2 (by omega)) (bits2 (by omega)) (by decide), ?_⟩
          walk_at "zz"
          refine ⟨_, 1 + v3 * q, 4, rfl, by omega, bits4 (by omega), bits4 (by omega), by decide, fun t' b' u1 u2 u3 => ?_⟩
          walk_at "zz"
          refine ⟨by rw [List.length_map]; omega, r ++ [(t', b')], _, _, by unfold rowD; rw [List.map_append]; rfl, .inr ⟨_, rfl⟩, by rw [List.length_append, hrl]; rfl, fun e he => ?_⟩
          rcases List.mem_append.mp he with he | he
          · exact hre e he
          · rw [List.mem_singleton.mp he]
            exact ⟨u1, u2, u3⟩
end
end Tr
namespace Tr
def ratE (e : Int × Int) : Dt := .rat (pn e.1 e.2) (pd e.1 e.2)
def ratsD (t t' : Bool) (m : List (List (Int × Int))) : Dt := .lst t (m.map fun r => .lst t' (r.map ratE))
def MatOk (n : Nat) (m : List (List (Int × Int))) : Prop := m.length ≤ 6 ∧ ∀ r ∈ m, r.length = n ∧ ∀ e ∈ r, EntOk 600 e
def usedRow (r : List (Int × Int)) : List Nat := (List.range r.length).filter fun c => !decide (((r[c]?).getD (0, 1)).1 = 0)
def usedOf (m : List (List (Int × Int))) : List (List Nat) := m.map usedRow
def natL (t : Bool) (xs : List Nat) : Dt := .lst t (natsD xs)
def usedD (t t' : Bool) (U : List (List Nat)) : Dt := .lst t (U.map (natL t'))
theorem filterMap_some {α β : Type} (f : α → β) (xs : List α) : xs.filterMap (fun x => some (f x)) = xs.map f := by
  induction xs with
  | nil => rfl
  | cons x xs ih =>
    rw [List.map_cons, ← ih]
    rfl
theorem filterMap_if {α : Type} (f : α → Dt) (p : α → Bool) (xs : List α) : xs.filterMap (fun x => if p x then some (f x) else none) = (xs.filter p).map f := by
  induction xs with
  | nil => rfl
  | cons x xs ih =>
    by_cases h : p x = true
    · rw [List.filter_cons_of_pos h, List.map_cons, ← ih, List.filterMap_cons]
      simp [h]
    · rw [List.filter_cons_of_neg h, ← ih, List.filterMap_cons]
      simp [h]
theorem pn_zero {t b : Int} (h : b ≠ 0) : pn t b = 0 ↔ t = 0 := by
  have := pn_mul t b
  constructor
  · intro e
    rw [e, Int.zero_mul] at this
    exact this.symm
  · intro e
    subst e
    unfold pn
    exact Int.zero_fdiv _
theorem used_below {n : Nat} {m : List (List (Int × Int))} (h : MatOk n m) : Below n (usedOf m) := by
  intro r hr c hc
  obtain ⟨r0, h0, rfl⟩ := List.mem_map.mp hr
  unfold usedRow at hc
  rw [List.mem_filter, List.mem_range, (h.2 r0 h0).1] at hc
  exact hc.1
section
variable {P : Program} {w : World} {K : PySem.W.Frag} {mg : Str → Option Value} {base : Heap}
def wRatios : Wz := fun ds Nv _ => ∃ n m, ds = [matD false false m] ∧ n ≤ 6 ∧ MatOk n m ∧ Nv (ratsD true true m) true
set_option maxHeartbeats 4000000 in
theorem ok__law_ratios (T : Top w K mg) : FnOk P w K mg base CX0 4 (He.ga K ("_law_ratios" : Str)) (fdOf K d__law_ratios) ["rows"] (spZ K wRatios) := by
  obtain ⟨ds1, B1⟩ := T.b1_Ratio___init__
  refine (T.f__law_ratios).ok sc__law_ratios (fun vs H Q E h => spz_len h (n := 1) fun ds Nv Ne hw => ?_) (fun cdv A outer s H vs Q E hr h => ?_)
  · obtain ⟨_, _, rfl, _⟩ := hw
    rfl
  · refine z_fn h (PSs.nox (pss_one (ps_ret (pe_lockL (pe_lc (own := [(("row" : Str), 2)]) (g := (gName 2)) (tt := tYes) rfl sc__law_ratios.nd (pi_listK (K := K) rfl (pv 0)) (blkOk_by (N := ["rows", "one", "row"]) (sc := defScope s__law_ratios) (by decide +kernel)) (fun _ _ _ _ _ => (pg_name (i := 2) sc__law_ratios.nd rfl (Or.inl rfl))) (fun _ _ _ _ _ => pts_nil) (fun _ _ _ _ _ => (pe_lockL (pe_lc (own := [(("one" : Str), 1)]) (g := (gName 1)) (tt := tYes) rfl sc__law_ratios.nd (pi_listK (K := K) rfl (pv 2)) (blkOk_by (N := ["rows", "one", "row"]) (by first | decide +kernel | kernel_rfl)) (fun _ _ _ _ _ => (pg_name (i := 1) sc__law_ratios.nd rfl (Or.inl rfl))) (fun _ _ _ _ _ => pts_nil) (fun _ _ _ _ _ => (pe_make (C := He.ga K ("Ratio" : Str)) T.mk_Ratio (ok_Ratio___init__ (K := K) T) (hr.mono (by decide)) rfl T.g_Ratio (B1.2) (B1.1) passL (pa_cons (pe_ix (ix_tupK (K := K) rfl) (pv 1) pe_int (fun _ _ => rfl)) (pa_cons (pe_ix (ix_tupK (K := K) rfl) (pv 1) pe_int (fun _ _ => rfl)) pa_nil)))))))))))) fun ds Nv Ne hw => ?_
    obtain ⟨n, m, rfl, hn, ⟨hm, hr⟩, k⟩ := hw
    walk_at "zz"
    refine ze_lcM m (rowD false) (fun r => some (.lst true (r.map ratE))) (zi_list ?_)
    walk_at "zz"
    refine ⟨trivial, rfl, by omega, fun r hrm => ?_, ?_⟩
    · refine zgw_name (by decide) ?_
      walk_at "zz"
      obtain ⟨hl, he⟩ := hr r hrm
      refine ze_lcM r entD (fun e => some (ratE e)) (zi_list ?_)
      walk_at "zz"
      refine ⟨trivial, rfl, by omega, fun e hem => ?_, ?_⟩
      · obtain ⟨t, b⟩ := e
        have ek := he _ hem
        have b0 : b ≠ 0 := Int.ne_of_gt ek.pos
        refine zgw_name (by decide) ?_
        walk_at "zz"
        refine ⟨t, b, .inl ⟨rfl, rfl⟩, b0, Nat.lt_of_le_of_lt (sgc_abs b0) (ek.bot.mono (by decide)), rfl, rfl⟩
      · refine ⟨rfl, ?_⟩
        rw [filterMap_some]
    · rw [filterMap_some]
      walk_at "zz"
      exact k
def wUsed : Wz := fun ds Nv _ => ∃ n m, ds = [ratsD false false m] ∧ n ≤ 6 ∧ MatOk n m ∧ Nv (usedD true true (usedOf m)) true
set_option maxHeartbeats 4000000 in
theorem ok__used_columns (T : Top w K mg) : FnOk P w K mg base CX0 4 (He.ga K ("_used_columns" : Str)) (fdOf K d__used_columns) ["rows"] (spZ K wUsed) := by
  refine (T.f__used_columns).ok sc__used_columns (fun vs H Q E h => spz_len h (n := 1) fun ds Nv Ne hw => ?_) (fun cdv A outer s H vs Q E hr h => ?_)
  · obtain ⟨_, _, rfl, _⟩ := hw
    rfl
  · refine z_fn h (PSs.nox (pss_one (ps_ret (pe_lockL (pe_lc (own := [(("row" : Str), 2)]) (g := (gName 2)) (tt := tYes) rfl sc__used_columns.nd (pi_listK (K := K) rfl (pv 0)) (blkOk_by (N := ["rows", "column", "row"]) (sc := defScope s__used_columns) (by decide +kernel)) (fun _ _ _ _ _ => (pg_name (i := 2) sc__used_columns.nd rfl (Or.inr rfl))) (fun _ _ _ _ _ => pts_nil) (fun _ _ _ _ _ => (pe_lockL (pe_lc (own := [(("column" : Str), 1)]) (g := (gName 1)) rfl sc__used_columns.nd (pi_range1 rfl T.n_range (pa_cons (pe_callB (call_lenZ (K := K) rfl) (by rfl) T.n_len PySem.boot_len (pa_cons (pv 2) pa_nil)) pa_nil)) (blkOk_by (N := ["rows", "column", "row"]) (by first | decide +kernel | kernel_rfl)) (fun _ _ _ _ _ => (pg_name (i := 1) sc__used_columns.nd rfl (Or.inl rfl))) (fun _ _ _ _ _ => pts_one (pt_cmpR op_ne (pe_fldK (K := K) rfl (pe_ix (ix_listK (K := K) rfl) (pv 2) (pv 1) (fun _ _ => rfl)) rfl) pe_int (nomark _))) (fun _ _ _ _ _ => (pv 1)))))))))) fun ds Nv Ne hw => ?_
    obtain ⟨n, m, rfl, hn, ⟨hm, hr⟩, k⟩ := hw
    walk_at "zz"
    refine ze_lcM m (fun r => .lst false (r.map ratE)) (fun r => some (natL true (usedRow r))) (zi_list ?_)
    walk_at "zz"
    refine ⟨trivial, rfl, by omega, fun r hrm => ?_, ?_⟩
    · refine zgw_name (by decide) ?_
      walk_at "zz"
      obtain ⟨hl, he⟩ := hr r hrm
      refine ze_lcM (List.range r.length) (fun c => .int (c : Int)) (fun c => if !decide (((r[c]?).getD (0, 1)).1 = 0) then some (.int (c : Int)) else none) (zi_range1 ?_)
      walk_at "zz"
      refine ⟨by rw [List.length_map]; omega, by rw [List.length_map]; omega, by rw [List.length_map, Int.toNat_natCast], trivial, rfl, by rw [List.length_range]; omega, fun c hc => ?_, ?_⟩
      · have hcl := List.mem_range.mp hc
        have ec : r[c]? = some r[c] := List.getElem?_eq_getElem hcl
        have ek := he _ (List.getElem_mem hcl)
        have eat : atI (r.map ratE) (c : Int) = some (ratE r[c]) := atI_k (by rw [List.getElem?_map, ec]; rfl)
        refine zgw_name (by decide) ?_
        walk_at "zz"
        refine ⟨_, _, _, _, _, rfl, .inl rfl, rfl, eat, ?_⟩
        refine ⟨_, _, .top _ _, T.cls_Ratio, T.na_Ratio_top, ?_⟩
        walk_at "zz"
        rw [ec]
        have z := pn_zero (t := r[c].1) (Int.ne_of_gt ek.pos)
        by_cases h0 : r[c].1 = 0
        · refine zF (by simp [z.mpr h0]) ?_
          exact ⟨rfl, by simp [h0]⟩
        · refine zT (by simp [mt z.mp h0]) ?_
          walk_at "zz"
          exact ⟨rfl, by simp [h0]⟩
      · refine ⟨rfl, ?_⟩
        rw [filterMap_if (fun c : Nat => Dt.int (c : Int)) (fun c : Nat => !decide (((r[c]?).getD (0, 1)).1 = 0))]
        rfl
    · rw [filterMap_some]
      walk_at "zz"
      have e : usedD true true (usedOf m) = Dt.lst true (m.map fun r => natL true (usedRow r)) := by
        unfold usedD usedOf
        rw [List.map_map]
        rfl
      rw [← e]
      exact k
end
end Tr
namespace Tr
def keysN (n : Nat) : List Key := (List.range n).map fun (k : Nat) => Sum.inl (k : Int)
theorem keysN_mem {n k : Nat} : Sum.inl (k : Int) ∈ keysN n ↔ k < n := by
  unfold keysN
  rw [List.mem_map]
  constructor
  · rintro ⟨j, hj, e⟩
    have := List.mem_range.mp hj
    have : (j : Int) = k := Sum.inl.inj e
    omega
  · exact fun h => ⟨k, List.mem_range.mpr h, rfl⟩
theorem keysN_put (n : Nat) : putKs (keysN n) (.inl (n : Int)) = keysN (n + 1) := by
  unfold putKs
  rw [if_neg (fun h => absurd (keysN_mem.mp h) (Nat.lt_irrefl _))]
  unfold keysN
  rw [List.range_succ, List.map_append]
  rfl
theorem valsN_put (n : Nat) (f : Nat → Dt) : putDs (keysN n) ((List.range n).map f) (.inl (n : Int)) (f n) = (List.range (n + 1)).map f := by
  unfold putDs
  rw [if_neg (fun h => absurd (keysN_mem.mp h) (Nat.lt_irrefl _)), List.range_succ, List.map_append]
  rfl
theorem look_rng {f : Nat → Dt} {k : Nat} : ∀ {xs : List Nat}, k ∈ xs → look (xs.map fun (j : Nat) => (Sum.inl (j : Int) : Key)) (xs.map f) (.inl (k : Int)) = some (f k)
  | x :: xs, h => by
    rw [List.map_cons, List.map_cons, look]
    by_cases e : x = k
    · subst e
      rw [if_pos rfl]
    · rw [if_neg (fun z => e (by have := Sum.inl.inj z; omega))]
      exact look_rng ((List.mem_cons.mp h).resolve_left fun z => e z.symm)
theorem look_keysN {n k : Nat} (h : k < n) (f : Nat → Dt) : look (keysN n) ((List.range n).map f) (.inl (k : Int)) = some (f k) := look_rng (List.mem_range.mpr h)
def waitD (U : List (List Nat)) (K : List Nat) : Dt := .dic true (keysN U.length) ((List.range U.length).map fun k => natL true (openR U K k))
def pairD (p : Nat × Nat) : Dt := .tup [.int (p.1 : Int), .int (p.2 : Int)]
def pairsD (t : Bool) (P : List (Nat × Nat)) : Dt := .lst t (P.map pairD)
def tearsOk (d : Dt) (K : List Nat) : Prop := d = natL false K ∨ d = .tup (natsD K)
theorem flat_nats : ∀ ys : List Nat, (natsD ys).mapM flatD = some (ys.map fun (k : Nat) => V.int (k : Int))
  | [] => rfl
  | y :: ys => by
    show (Dt.int (y : Int) :: natsD ys).mapM flatD = _
    rw [List.mapM_cons, flat_nats ys]
    rfl
theorem inV_nats (c : Nat) (ys : List Nat) : inV (.int (c : Int)) (ys.map fun (k : Nat) => V.int (k : Int)) = decide (c ∈ ys) := by
  unfold inV
  rw [Bool.eq_iff_iff]
  simp only [List.any_map, List.any_eq_true, decide_eq_true_eq, Function.comp_apply]
  constructor
  · rintro ⟨y, hy, e⟩
    have : (y : Int) = c := by simpa [eqV] using e
    have : y = c := by omega
    exact this ▸ hy
  · exact fun h => ⟨c, h, by simp [eqV]⟩
theorem kmap (n : Nat) : List.map keyD (keysN n) = List.map (fun (k : Nat) => Dt.int (k : Int)) (List.range n) := by
  unfold keysN
  rw [List.map_map]
  rfl
theorem one_dec {U : List (List Nat)} {K : List Nat} {k : Nat} : oneR U K k = true ↔ decide (((natsD (openR U K k)).length : Int) = 1) = true := by
  unfold oneR natsD
  rw [List.length_map, decide_eq_true_eq, beq_iff_eq]
  omega
theorem runF_len (U : List (List Nat)) : ∀ (f : Nat) (K : List Nat), (runF U f K).length ≤ f
  | 0, _ => Nat.le_refl _
  | f + 1, K => by
    rw [runF]
    cases readyL U K with
    | nil => exact Nat.zero_le _
    | cons k r => exact Nat.succ_le_succ (runF_len U f _)
theorem openR_len (U : List (List Nat)) (K : List Nat) (k : Nat) (h : ∀ r ∈ U, r.length ≤ 6) : (openR U K k).length ≤ 6 := by
  unfold openR
  refine Nat.le_trans (List.length_filter_le _ _) ?_
  cases e : U[k]? with
  | none => exact Nat.zero_le _
  | some r => exact h r (List.mem_of_getElem? e)
section
variable {P : Program} {w : World} {K : PySem.W.Frag} {mg : Str → Option Value} {base : Heap}
def wPairs : Wz := fun ds Nv _ => ∃ (n : Nat) (U : List (List Nat)) (d : Dt) (Ks : List Nat), ds = [usedD false false U, d] ∧ tearsOk d Ks ∧ n ≤ 6 ∧ U.length ≤ 6 ∧ (∀ r ∈ U, r.length ≤ 6) ∧ Below n U ∧ Ks.length ≤ 6 ∧ Nv (pairsD true (runF U n Ks)) true
set_option maxHeartbeats 4000000 in
theorem ok__pairs (T : Top w K mg) : FnOk P w K mg base CX0 4 (He.ga K ("_pairs" : Str)) (fdOf K d__pairs) ["used", "tears"] (spZ K wPairs) := by
  refine (T.f__pairs).ok sc__pairs (fun vs H Q E h => spz_len h (n := 2) fun ds Nv Ne hw => ?_) (fun cdv A outer s H vs Q E hr h => ?_)
  · obtain ⟨_, _, _, _, rfl, _⟩ := hw
    rfl
  · refine z_fn h (PSs.nox (pss_cons (ps_set (i := 2) sc__pairs.nd rfl (Or.inr rfl) (pe_lockL (pe_dc (own := [(("at" : Str), 4), (("columns" : Str), 5)]) (g := (gTup K 2 (gCons (gName 4) (gCons (gName 5) gNil)))) (tt := tYes) rfl sc__pairs.nd (pi_enum rfl T.n_enumerate (pa_cons (pv 0) pa_nil)) (blkOk_by (N := ["used", "tears", "waiting", "column", "at", "columns", "found", "ready", "other"]) (sc := defScope s__pairs) (by decide +kernel)) (fun _ _ _ _ _ => (pg_tup (by rfl) (pgs_cons (pg_name (i := 4) sc__pairs.nd rfl (Or.inl rfl)) (pgs_cons (pg_name (i := 5) sc__pairs.nd rfl (Or.inl rfl)) pgs_nil)))) (fun _ _ _ _ _ => pts_nil) (fun _ _ _ _ _ => (pv 4)) (fun _ _ _ _ _ => (pe_lockL (pe_lc (own := [(("column" : Str), 3)]) (g := (gName 3)) rfl sc__pairs.nd (pi_listK (K := K) rfl (pv 5)) (blkOk_by (N := ["used", "tears", "waiting", "column", "at", "columns", "found", "ready", "other"]) (by first | decide +kernel | kernel_rfl)) (fun _ _ _ _ _ => (pg_name (i := 3) sc__pairs.nd rfl (Or.inl rfl))) (fun _ _ _ _ _ => pts_one (pt_cmpR (op_notInK (K := K) rfl) (pv 3) (pv 1) (by rfl))) (fun _ _ _ _ _ => (pv 3))))))))
    (pss_cons (ps_set (i := 6) sc__pairs.nd rfl (Or.inl rfl) (pe_lst pa_nil))
    (pss_cons (ps_lockL (ps_setLc (i := 7) (own := [(("at" : Str), 4)]) (g := (gName 4)) rfl sc__pairs.nd rfl rfl (by rfl) (pi_keys (pe_lk (pv 2))) (blkOk_by (N := ["used", "tears", "waiting", "column", "at", "columns", "found", "ready", "other"]) (sc := defScope s__pairs) (by decide +kernel)) (fun _ _ _ _ _ => (pg_name (i := 4) sc__pairs.nd rfl (Or.inl rfl))) (fun _ _ _ _ _ => pts_one (pt_cmpR op_eq (pe_callB (call_lenZ (K := K) rfl) (by rfl) T.n_len PySem.boot_len (pa_cons (pe_dget (hu_of hr) (pv 2) (pv 4) (fun _ _ => rfl)) pa_nil)) pe_int (nomark _))) (fun _ _ _ _ _ => (pv 4))))
    (pss_cons (ps_while PassesOwn.never (pt_truth (pv 7) (by intro _; rfl))
    (pss_cons (ps_set (i := 3) sc__pairs.nd rfl (Or.inr rfl) (pe_ix (ix_listK (K := K) rfl) (pe_dget (hu_of hr) (pv 2) (pe_ix (ix_listK (K := K) rfl) (pv 7) pe_int (fun _ _ => rfl)) (fun _ _ => rfl)) pe_int (fun _ _ => rfl)))
    (pss_cons (ps_expr (pe_bm PySem.F.plainAttrs_list PySem.F.slot_list_append PySem.F.type_list_append mt_append (pv 6) (pa_cons (pe_tup (pa_cons (pe_ix (ix_listK (K := K) rfl) (pv 7) pe_int (fun _ _ => rfl)) (pa_cons (pv 3) pa_nil))) pa_nil)))
    (pss_cons (ps_set (i := 2) sc__pairs.nd rfl (Or.inr rfl) (pe_lockL (pe_dc (own := [(("at" : Str), 4)]) (g := (gName 4)) (tt := tYes) rfl sc__pairs.nd (pi_keys (pe_lk (pv 2))) (blkOk_by (N := ["used", "tears", "waiting", "column", "at", "columns", "found", "ready", "other"]) (sc := defScope s__pairs) (by decide +kernel)) (fun _ _ _ _ _ => (pg_name (i := 4) sc__pairs.nd rfl (Or.inl rfl))) (fun _ _ _ _ _ => pts_nil) (fun _ _ _ _ _ => (pv 4)) (fun _ _ _ _ _ => (pe_lockL (pe_lc (own := [(("other" : Str), 8)]) (g := (gName 8)) rfl sc__pairs.nd (pi_listK (K := K) rfl (pe_dget (hu_of hr) (pv 2) (pv 4) (fun _ _ => rfl))) (blkOk_by (N := ["used", "tears", "waiting", "column", "at", "columns", "found", "ready", "other"]) (by first | decide +kernel | kernel_rfl)) (fun _ _ _ _ _ => (pg_name (i := 8) sc__pairs.nd rfl (Or.inl rfl))) (fun _ _ _ _ _ => pts_one (pt_cmpR op_ne (pv 8) (pv 3) (nomark _))) (fun _ _ _ _ _ => (pv 8))))))))
    (pss_one (ps_lockL (ps_setLc (i := 7) (own := [(("at" : Str), 4)]) (g := (gName 4)) rfl sc__pairs.nd rfl rfl (by rfl) (pi_keys (pe_lk (pv 2))) (blkOk_by (N := ["used", "tears", "waiting", "column", "at", "columns", "found", "ready", "other"]) (sc := defScope s__pairs) (by decide +kernel)) (fun _ _ _ _ _ => (pg_name (i := 4) sc__pairs.nd rfl (Or.inl rfl))) (fun _ _ _ _ _ => pts_one (pt_cmpR op_eq (pe_callB (call_lenZ (K := K) rfl) (by rfl) T.n_len PySem.boot_len (pa_cons (pe_dget (hu_of hr) (pv 2) (pv 4) (fun _ _ => rfl)) pa_nil)) pe_int (nomark _))) (fun _ _ _ _ _ => (pv 4)))))))))
    (pss_one (ps_ret (pv 6)))))))) fun ds Nv Ne hw => ?_
    obtain ⟨n, U, td, Ks, rfl, ht, hn, hU, hrl, hB, hKs, k⟩ := hw
    walk_at "zz"
    refine ze_dcW (zi_enum rfl ?_)
    walk_at "zz"
    have e0 : okW (slots ["used", "tears", "waiting", "column", "at", "columns", "found", "ready", "other"] [usedD false false U, td]) [4, 5] = true := rfl
    refine ⟨false, _, rfl, trivial, e0, by rw [enumD_length, List.length_map]; omega, fun i ks ad => ks = keysN i ∧ ad = (List.range i).map fun k => natL true (openR U Ks k), ⟨rfl, rfl⟩, ?_, ?_⟩
    · rintro i d ks ad hd ⟨rfl, rfl⟩
      rw [enumD_get, List.getElem?_map] at hd
      cases hr : U[i]? with
      | none => rw [hr] at hd; cases hd
      | some r =>
        rw [hr] at hd
        cases hd
        rw [Nat.zero_add]
        have hrm := hrl r (List.mem_of_getElem? hr)
        refine zgw_tup rfl (zgws_cons (zgw_name (by decide) (zgws_cons (zgw_name (by decide) (zgws_nil ?_)))))
        walk_at "zz"
        refine ⟨.inl (i : Int), rfl, ?_⟩
        refine ze_lcM r (fun c => .int (c : Int)) (fun c => if !decide (c ∈ Ks) then some (.int (c : Int)) else none) (zi_list ?_)
        walk_at "zz"
        have eU : (U[i]?).getD [] = r := by rw [hr]; rfl
        refine ⟨trivial, rfl, by omega, fun c hc => ?_, ?_⟩
        · refine zgw_name (by decide) ?_
          walk_at "zz"
          have step : ∀ ds, ds = natsD Ks → (((∃ t, td = .lst t ds) ∨ td = .tup ds)) → True := fun _ _ _ => trivial
          refine ⟨.int (c : Int), Ks.map fun (k : Nat) => V.int (k : Int), natsD Ks, rfl, ht.elim (fun e => .inl ⟨false, e⟩) .inr, flat_nats Ks, ?_⟩
          rw [if_pos rfl, inV_nats]
          walk_at "zz"
          by_cases hk : c ∈ Ks
          · refine zF (by simp [hk]) ?_
            exact ⟨rfl, by simp [hk]⟩
          · refine zT (by simp [hk]) ?_
            walk_at "zz"
            exact ⟨rfl, by simp [hk]⟩
        · refine ⟨rfl, keysN_put i, ?_⟩
          rw [filterMap_if (fun c : Nat => Dt.int (c : Int)) (fun c : Nat => !decide (c ∈ Ks))]
          have q := valsN_put i fun k => natL true (openR U Ks k)
          rw [← q]
          congr 1
          unfold openR
          rw [eU]
          rfl
    · rintro ks ad ⟨rfl, rfl⟩
      rw [enumD_length, List.length_map]
      walk_at "zz"
      refine ze_frzM (i := 2) rfl ?_
      refine ze_lcM (List.range U.length) (fun k => .int (k : Int)) (fun k => if oneR U Ks k then some (.int (k : Int)) else none) (zi_keys ?_)
      walk_at "zz"
      refine ⟨kmap U.length, trivial, rfl, by rw [List.length_range]; omega, fun k hk => ?_, ?_⟩
      · have hkU := List.mem_range.mp hk
        refine zgw_name (by decide) ?_
        walk_at "zz"
        refine ⟨_, _, _, rfl, .inl rfl, .int (look_keysN hkU _), ?_⟩
        walk_at "zz"
        by_cases ho : oneR U Ks k = true
        · refine zT (one_dec.mp ho) ?_
          walk_at "zz"
          exact ⟨rfl, by rw [if_pos ho]⟩
        · refine zF (fun q => ho (one_dec.mpr q)) ?_
          exact ⟨rfl, by rw [if_neg ho]⟩
      rw [filterMap_if (fun k : Nat => Dt.int (k : Int)) (oneR U Ks)]
      walk_at "zz"
      refine zs_while (fun m ρ => ∃ (K' : List Nat) (P0 P1 : List (Nat × Nat)) (p3 p4 p5 p8 : Sl), ρ = [.v (usedD false false U), .v td, .v (waitD U K'), p3, p4, p5, .o (pairsD true P0), .o (natL true (readyL U K')), p8] ∧ jOk p3 ∧ jOk p4 ∧ jOk p8 ∧ Run U K' P1 ∧ runF U n Ks = P0 ++ P1 ∧ m = P1.length)
        ⟨_, Ks, [], runF U n Ks, .un, .un, .un, .un, rfl, .inl rfl, .inl rfl, .inl rfl, runF_ok hB (left_le _ _), rfl, rfl⟩ ?_
      rintro m ρ ⟨K', P0, P1, p3, p4, p5, p8, rfl, h3, h4, h8, run, hP, rfl⟩
      have hlen := runF_len U n Ks
      rw [hP, List.length_append] at hlen
      refine zt_truM (i := 7) rfl rfl (.inr (.inl rfl)) ?_
      cases run with
      | nil e =>
        rw [e]
        refine zF (by simp [natsD]) ?_
        walk_at "zz"
        rw [List.append_nil] at hP
        rw [hP] at k
        exact k
      | @cons _ r k0 c P2 e ho run2 =>
        rw [e]
        refine zT (by simp [natsD]) ?_
        walk_at "zz"
        obtain ⟨hk0, _⟩ := ready_mem e
        have lk := look_keysN hk0 (fun k => natL true (openR U K' k))
        simp only [ho] at lk
        refine ⟨_, _, _, 0, _, rfl, .inr (.inl rfl), rfl, atI_k (k := 0) rfl, ?_⟩
        refine ⟨_, _, _, rfl, .inl rfl, .int lk, ?_⟩
        walk_at "zz"
        refine ⟨_, _, 0, _, rfl, rfl, atI_k (k := 0) rfl, ?_⟩
        walk_at "zz"
        refine ⟨_, _, _, 0, _, rfl, .inr (.inl rfl), rfl, atI_k (k := 0) rfl, ?_⟩
        walk_at "zz"
        refine ⟨by rw [List.length_map]; omega, ?_⟩
        walk_at "zz"
        refine ze_dcW (zi_keys ?_)
        walk_at "zz"
        refine ⟨trivial, (by rcases h4 with rfl | ⟨_, rfl⟩ <;> rfl), by rw [kmap, List.length_map, List.length_range]; omega, fun i ks ad => ks = keysN i ∧ ad = (List.range i).map fun k => natL true (openR U (K' ++ [c]) k), ⟨rfl, rfl⟩, ?_, ?_⟩
        · rintro i d ks ad hd ⟨rfl, rfl⟩
          rw [kmap] at hd
          obtain ⟨hi, rfl⟩ := rng_at (n := U.length) (by rw [Int.toNat_natCast]; exact hd)
          refine zgw_name (by decide) ?_
          walk_at "zz"
          refine ⟨.inl (i : Int), rfl, ?_⟩
          refine ze_lcM (openR U K' i) (fun x => .int (x : Int)) (fun x => if !decide (x = c) then some (.int (x : Int)) else none) (zi_list ?_)
          walk_at "zz"
          refine ⟨_, _, _, rfl, .inl rfl, .int (look_keysN hi _), true, _, rfl, rfl, trivial, ?_, ?_, fun x hx => ?_, ?_⟩
          · rcases h8 with rfl | ⟨_, rfl⟩ <;> rcases h4 with rfl | ⟨_, rfl⟩ <;> rfl
          · have := openR_len U K' i hrl
            omega
          · refine zgw_name (by decide) ?_
            walk_at "zz"
            by_cases hk : x = c
            · refine zF (by simp [hk]) ?_
              exact ⟨by rcases h8 with rfl | ⟨_, rfl⟩ <;> rfl, by simp [hk]⟩
            · refine zT (by simp; omega) ?_
              walk_at "zz"
              exact ⟨by rcases h8 with rfl | ⟨_, rfl⟩ <;> rfl, by simp [hk]⟩
          · refine ⟨by rcases h4 with rfl | ⟨_, rfl⟩ <;> rfl, keysN_put i, ?_⟩
            rw [filterMap_if (fun x : Nat => Dt.int (x : Int)) (fun x : Nat => !decide (x = c))]
            have q := valsN_put i fun k => natL true (openR U (K' ++ [c]) k)
            rw [← q, openR_snoc]
            rfl
        · rintro ks ad ⟨rfl, rfl⟩
          rw [kmap, List.length_map, List.length_range]
          walk_at "zz"
          refine ze_frzM (i := 2) rfl ?_
          refine ze_lcM (List.range U.length) (fun k => .int (k : Int)) (fun k => if oneR U (K' ++ [c]) k then some (.int (k : Int)) else none) (zi_keys ?_)
          walk_at "zz"
          refine ⟨kmap U.length, trivial, (by rcases h4 with rfl | ⟨_, rfl⟩ <;> rfl), by rw [List.length_range]; omega, fun k hk => ?_, ?_⟩
          · have hkU := List.mem_range.mp hk
            refine zgw_name (by decide) ?_
            walk_at "zz"
            refine ⟨_, _, _, rfl, .inl rfl, .int (look_keysN hkU _), ?_⟩
            walk_at "zz"
            by_cases hw : oneR U (K' ++ [c]) k = true
            · refine zT (one_dec.mp hw) ?_
              walk_at "zz"
              exact ⟨by rcases h4 with rfl | ⟨_, rfl⟩ <;> rfl, by rw [if_pos hw]⟩
            · refine zF (fun q => hw (one_dec.mpr q)) ?_
              exact ⟨by rcases h4 with rfl | ⟨_, rfl⟩ <;> rfl, by rw [if_neg hw]⟩
          rw [filterMap_if (fun k : Nat => Dt.int (k : Int)) (oneR U (K' ++ [c]))]
          walk_at "zz"
          refine ⟨_, Nat.lt_succ_self _, K' ++ [c], P0 ++ [(k0, c)], P2, .v (.int (c : Int)), p4, p5, p8, ?_, .inr ⟨_, rfl⟩, h4, h8, run2, by rw [hP, List.append_assoc]; rfl, rfl⟩
          unfold pairsD
          rw [List.map_append]
          rfl
end
end Tr
section
variable {z : Cz} {ρ : List Sl} {N : Dt → Bool → List Sl → Prop} {ta : TE}
theorem ze_listRg (h : ZE z ta ρ fun x _ ρ1 => ∃ n : Nat, x = .int (n : Int) ∧ n ≤ 1000 ∧ N (Tr.natL true (List.range n)) true ρ1) : ZE z (tLstRg (tRg1 ta)) ρ N := fun m F H σ Q S k => by
  refine h m F H σ _ S fun x fx ρ1 F1 H1 vx n1 s1 S1 r1 => ?_
  obtain ⟨F2, s2, S2, rx⟩ := rzF_frz S1 r1
  obtain ⟨n, rfl, hn, n1⟩ := n1
  obtain rfl := rz_i rx
  refine ⟨n, rfl, RgOk.of_le (by omega) (by omega) (by omega) (by omega), fun q hq => ?_⟩
  have e : rgV 0 (n : Int) = (List.range n).map fun (k : Nat) => V.int (k : Int) := by
    unfold rgV
    rw [Int.sub_zero, Int.toNat_natCast]
    exact List.map_congr_left fun k _ => by rw [Int.zero_add]
  rw [e]
  have S3 := S2.newO (o := .lst ((List.range n).map fun (k : Nat) => V.int (k : Int))) hq
  exact k _ _ _ _ _ _ n1 (s1.trans s2) S3 (rzF_new S2 hq (.lst (nats_rzl _)))
end
local macro_rules | `(tactic| walk_at "z1") => `(tactic| first | (with_reducible apply ze_callR) | (with_reducible apply ze_listRg))
namespace Tr
theorem find_app {α : Type} {p : α → Bool} {A B : List α} {t : α} (h : ∀ x ∈ A, p x = false) (ht : p t = true) : (A ++ t :: B).find? p = some t := by
  rw [List.find?_append, List.find?_eq_none.mpr (fun x hx => by rw [h x hx]; exact Bool.false_ne_true)]
  simp [ht]
theorem best_hit {U : List (List Nat)} {n i k : Nat} {t : List Nat} (hi : i < n) (h0 : ∀ j, j < i → ∀ t ∈ lists n j, goodB U n t = false) (hk : (lists n i)[k]? = some t) (h1 : ∀ t' ∈ (lists n i).take k, goodB U n t' = false) (ht : goodB U n t = true) :
    ((List.range n).flatMap (lists n)).find? (goodB U n) = some t := by
  have e : List.range n = List.range i ++ i :: ((List.range (n - i - 1)).map fun j => i + 1 + j) := by
    have e1 : n = i + ((n - i - 1) + 1) := by omega
    conv => lhs; rw [e1, List.range_add, List.range_succ_eq_map, List.map_cons, List.map_map]
    congr 2
    exact List.map_congr_left fun j _ => by show i + (j + 1) = _; omega
  have hkl := (List.getElem?_eq_some_iff.mp hk).1
  have e2 : lists n i = (lists n i).take k ++ t :: (lists n i).drop (k + 1) := by
    conv => lhs; rw [← List.take_append_drop k (lists n i)]
    rw [List.drop_eq_getElem_cons hkl, (List.getElem?_eq_some_iff.mp hk).2]
  rw [e, List.flatMap_append, List.flatMap_cons]
  conv => lhs; rw [e2]
  rw [List.append_assoc, List.cons_append, ← List.append_assoc]
  refine find_app (fun x hx => ?_) ht
  rcases List.mem_append.mp hx with hx | hx
  · obtain ⟨j, hj, hx⟩ := List.mem_flatMap.mp hx
    exact h0 j (List.mem_range.mp hj) x hx
  · exact h1 x hx
theorem best_miss {U : List (List Nat)} {n : Nat} (h0 : ∀ j, j < n → ∀ t ∈ lists n j, goodB U n t = false) : ((List.range n).flatMap (lists n)).find? (goodB U n) = none := by
  rw [List.find?_eq_none]
  intro x hx
  obtain ⟨j, hj, hx⟩ := List.mem_flatMap.mp hx
  rw [h0 j (List.mem_range.mp hj) x hx]
  exact Bool.false_ne_true
/-- the choices by the machine are the lists -/
theorem combs_of {n r : Nat} {L : List (List Nat)} (h0 : ∀ k, k ≤ L.length → CB.comb n r k = L[k]?) (h1 : ∀ ys ∈ L, ys.length ≤ 1000) (h2 : ∀ ys ∈ L, ∀ y ∈ ys, y < n) : CB.Combs n r L := by
  refine ⟨fun k => ?_, h1, h2⟩
  by_cases c : k ≤ L.length
  · exact h0 k c
  · have z : ∀ d, CB.comb n r (L.length + d) = none := by
      intro d
      induction d with
      | zero => rw [Nat.add_zero, h0 _ (Nat.le_refl _), List.getElem?_eq_none (Nat.le_refl _)]
      | succ d ih => rw [← Nat.add_assoc, CB.comb, ih]; rfl
    have e : k = L.length + (k - L.length) := by omega
    rw [e, z, List.getElem?_eq_none (by omega)]
def combOk (n r : Nat) : Bool := ((List.range ((lists n r).length + 1)).all fun k => decide (CB.comb n r k = (lists n r)[k]?)) && (lists n r).all fun ys => decide (ys.length ≤ 6) && ys.all fun y => decide (y < n)
theorem combOk_all : (List.range 7).all (fun n => (List.range n).all fun r => combOk n r) = true := by decide +kernel
theorem lists_combs {n r : Nat} (hn : n ≤ 6) (hr : r < n) : CB.Combs n r (lists n r) ∧ ∀ ys ∈ lists n r, ys.length ≤ 6 ∧ ∀ y ∈ ys, y < n := by
  have h := combOk_all
  simp only [List.all_eq_true, List.mem_range] at h
  have q := h n (by omega) r hr
  unfold combOk at q
  simp only [Bool.and_eq_true, List.all_eq_true, List.mem_range, decide_eq_true_eq] at q
  obtain ⟨q1, q2⟩ := q
  exact ⟨combs_of (fun k hk => q1 k (by omega)) (fun ys h => Nat.le_trans (q2 ys h).1 (by decide)) fun ys h => (q2 ys h).2, q2⟩
def restL (n : Nat) (P : List (Nat × Nat)) : List Nat := (List.range n).filter fun k => !decide (k ∈ P.map Prod.fst)
theorem used_len {n : Nat} {m : List (List (Int × Int))} (hn : n ≤ 6) (h : MatOk n m) : (usedOf m).length = m.length ∧ ∀ r ∈ usedOf m, r.length ≤ 6 := by
  refine ⟨List.length_map _, fun r hr => ?_⟩
  obtain ⟨r0, h0, rfl⟩ := List.mem_map.mp hr
  have := (h.2 r0 h0).1
  unfold usedRow
  refine Nat.le_trans (List.length_filter_le _ _) ?_
  rw [List.length_range]
  omega
theorem usedD_old (U : List (List Nat)) : (usedD true true U).old = usedD false false U := by
  unfold usedD
  simp only [Dt.old, olds_map, List.map_map]
  congr 1
  refine List.map_congr_left fun r _ => ?_
  show (natL true r).old = natL false r
  unfold natL natsD
  simp only [Dt.old, olds_map, List.map_map]
  rfl
theorem ratsD_old (t t' : Bool) (m : List (List (Int × Int))) : (ratsD t t' m).old = ratsD false false m := by
  unfold ratsD
  simp only [Dt.old, olds_map, List.map_map]
  congr 1
  refine List.map_congr_left fun r _ => ?_
  show (Dt.lst t' (r.map ratE)).old = _
  simp only [Dt.old, olds_map, List.map_map]
  rfl
theorem natL_old (t : Bool) (xs : List Nat) : (natL t xs).old = natL false xs := by
  unfold natL natsD
  simp only [Dt.old, olds_map, List.map_map]
  rfl
theorem natT_old (xs : List Nat) : (Dt.tup (natsD xs)).old = .tup (natsD xs) := by
  unfold natsD
  simp only [Dt.old, olds_map, List.map_map]
  rfl
theorem good_dec {U : List (List Nat)} {n i : Nat} {t : List Nat} (h : t.length = i) : decide ((((runF U n t).map pairD).length : Int) + (i : Int) = (n : Int)) = goodB U n t := by
  unfold goodB
  rw [List.length_map, Bool.eq_iff_iff, decide_eq_true_eq, beq_iff_eq]
  omega
theorem lists_len {n : Nat} : ∀ {r : Nat} {t : List Nat}, t ∈ lists n r → t.length = r
  | 0, t, h => by rw [List.mem_singleton.mp (show t ∈ [[]] from h)]; rfl
  | r + 1, t, h => by
    obtain ⟨one, h1, h⟩ := List.mem_flatMap.mp h
    obtain ⟨j, _, rfl⟩ := List.mem_map.mp h
    rw [List.length_append, lists_len h1]
    rfl
section
variable {P : Program} {w : World} {K : PySem.W.Frag} {mg : Str → Option Value} {base : Heap}
def wBest : Wz := fun ds Nv _ => ∃ (n : Nat) (m : List (List (Int × Int))), ds = [ratsD false false m] ∧ n ≤ 6 ∧ m.length = n ∧ MatOk n m ∧ Nv (natL true (bestL (usedOf m) n)) true
set_option maxHeartbeats 4000000 in
theorem ok_best_tears (T : Top w K mg) : FnOk P w K mg base CX0 5 (He.ga K ("best_tears" : Str)) (fdOf K d_best_tears) ["rows"] (spZ K wBest) := by
  refine (T.f_best_tears).ok sc_best_tears (fun vs H Q E h => spz_len h (n := 1) fun ds Nv Ne hw => ?_) (fun cdv A outer s H vs Q E hr h => ?_)
  · obtain ⟨_, _, rfl, _⟩ := hw
    rfl
  · refine z_fn h (PSs.nox (pss_cons (ps_set (i := 1) sc_best_tears.nd rfl (Or.inl rfl) (pe_call (ok__used_columns (K := K) T) (hr.mono (by decide)) rfl T.g__used_columns T.f__used_columns.kp T.b__used_columns .nil pass0 (pa_cons (pv 0) pa_nil)))
    (pss_cons (ps_lockL (ps_for PassesOwn.never rfl (pi_range1 rfl T.n_range (pa_cons (pe_callB (call_lenZ (K := K) rfl) (by rfl) T.n_len PySem.boot_len (pa_cons (pv 0) pa_nil)) pa_nil)) (pg_name (i := 2) sc_best_tears.nd rfl (Or.inl rfl))
    (pss_one (ps_lockL (ps_for PassesOwn.never rfl (CB.pi_comb rfl rfl T.combinationsM rfl T.n_range (pe_callB (call_lenZ (K := K) rfl) (by rfl) T.n_len PySem.boot_len (pa_cons (pv 0) pa_nil)) (pv 2)) (pg_name (i := 3) sc_best_tears.nd rfl (Or.inl rfl))
    (pss_one (ps_if (pt_cmpR op_eq (pe_op op_add (pe_callB (call_lenZ (K := K) rfl) (by rfl) T.n_len PySem.boot_len (pa_cons (pe_call (ok__pairs (K := K) T) (hr.mono (by decide)) rfl T.g__pairs T.f__pairs.kp T.b__pairs .nil pass0 (pa_cons (pv 1) (pa_cons (pv 3) pa_nil))) pa_nil)) (pv 2)) (pe_callB (call_lenZ (K := K) rfl) (by rfl) T.n_len PySem.boot_len (pa_cons (pv 0) pa_nil)) (nomark _))
    (pss_one (ps_ret (pe_callTy (call_listZ (K := K) rfl rfl) (by rfl) T.n_list (by decide +kernel) (pa_cons (pv 3) pa_nil))))
    pss_nil)))))))
    (pss_one (ps_ret (pe_listRg rfl rfl T.n_list (prg_1 rfl T.n_range (pe_callB (call_lenZ (K := K) rfl) (by rfl) T.n_len PySem.boot_len (pa_cons (pv 0) pa_nil))))))))) fun ds Nv Ne hw => ?_
    obtain ⟨n, m, rfl, hn, hmn, hm, k⟩ := hw
    walk_at "zz"
    have hB := used_below hm
    obtain ⟨hUl, hUr⟩ := used_len hn hm
    refine ⟨n, m, by simp only [Dt.olds, ratsD_old], hn, hm, ?_⟩
    walk_at "zz"
    refine zs_frzM (i := 1) rfl ?_
    refine zs_forL (zi_range1 ?_)
    walk_at "zz"
    rw [List.length_map, hmn]
    have h62 : (n : Int) < 2 ^ 62 := by omega
    refine ⟨by omega, h62, fun i ρ => ∃ p2 p3 : Sl, ρ = [.v (ratsD false false m), .v (usedD true true (usedOf m)), p2, p3] ∧ ∀ j, j < i → ∀ t ∈ lists n j, goodB (usedOf m) n t = false, ⟨.un, .un, rfl, fun j hj => absurd hj (Nat.not_lt_zero _)⟩, ?_, ?_⟩
    · rintro ρ ⟨p2, p3, rfl, h0⟩
      rw [rng_len] at h0
      refine ⟨trivial, ?_⟩
      dsimp only [bI]
      walk_at "zz"
      rw [List.length_map, hmn]
      rw [best_own hB hn, best_miss h0] at k
      exact ⟨by omega, k⟩
    · rintro i d ρ hd ⟨p2, p3, rfl, h0⟩
      obtain ⟨hi, rfl⟩ := rng_at hd
      obtain ⟨hC, hL⟩ := lists_combs hn hi
      walk_at "zz"
      refine zs_forL (zi_comb ?_)
      walk_at "zz"
      rw [List.length_map, hmn]
      refine ⟨by omega, ?_⟩
      walk_at "zz"
      refine ⟨i, lists n i, rfl, by omega, hC, fun k ρ => ∃ p3 : Sl, ρ = [.v (ratsD false false m), .v (usedD true true (usedOf m)), .v (.int (i : Int)), p3] ∧ ∀ t ∈ (lists n i).take k, goodB (usedOf m) n t = false, ⟨_, rfl, fun t ht => nomatch ht⟩, ?_, ?_⟩
      · rintro ρ ⟨p3, rfl, h1⟩
        rw [List.length_map, List.take_length] at h1
        refine ⟨trivial, _, _, rfl, fun j hj t ht => ?_⟩
        by_cases c : j < i
        · exact h0 j c t ht
        · have e : j = i := by omega
          subst e
          exact h1 t ht
      · rintro q d ρ hd ⟨p3, rfl, h1⟩
        rw [List.getElem?_map] at hd
        cases ht : (lists n i)[q]? with
        | none => rw [ht] at hd; cases hd
        | some t =>
          rw [ht] at hd
          cases hd
          have htm := List.mem_of_getElem? ht
          walk_at "zz"
          refine ⟨n, usedOf m, .tup (natsD t), t, by simp only [Dt.olds, usedD_old, natT_old], .inr rfl, hn, by omega, hUr, hB, (hL t htm).1, ?_⟩
          refine ⟨_, .lst _ _, ?_⟩
          walk_at "zz"
          have gd := good_dec (U := usedOf m) (n := n) (lists_len htm)
          by_cases hg : goodB (usedOf m) n t = true
          · refine zT (by have g := gd; rw [hg] at g; simpa [hmn] using g) ?_
            walk_at "zz"
            have hb := best_own hB hn
            rw [best_hit hi h0 ht h1 hg] at hb
            rw [hb] at k
            exact k
          · refine zF (by have g := gd; rw [Bool.eq_false_iff.mpr hg] at g; simpa [hmn] using g) ?_
            walk_at "zz"
            intro t' ht'
            rw [List.take_succ, ht] at ht'
            rcases List.mem_append.mp ht' with h | h
            · exact h1 t' h
            · rw [List.mem_singleton.mp (show t' ∈ [t] from h)]
              exact Bool.not_eq_true _ ▸ hg
end
end Tr
namespace Tr
theorem putKs_memT {ks : List Key} {k x : Key} : x ∈ putKs ks k ↔ x ∈ ks ∨ x = k := by
  unfold putKs
  split
  · rename_i h
    exact ⟨.inl, fun q => q.elim id fun e => e ▸ h⟩
  · rw [List.mem_append, List.mem_singleton]
theorem putDs_lenT {ks : List Key} {ds : List Dt} {k : Key} {d : Dt} (h : ds.length = ks.length) : (putDs ks ds k d).length = (putKs ks k).length := by
  unfold putDs putKs
  split
  · rw [List.length_zipWith, h, Nat.min_self]
  · rw [List.length_append, List.length_append, h]
    rfl
section
variable {P : Program} {w : World} {K : PySem.W.Frag} {mg : Str → Option Value} {base : Heap}
def wTorn (K : PySem.W.Frag) : Wz := fun ds Nv Ne => ∃ (n : Nat) (m : List (List (Int × Int))) (Ks : List Nat), ds = [ratsD false false m, natL false Ks] ∧ n ≤ 6 ∧ m.length = n ∧ MatOk n m ∧ Ks.length ≤ 6 ∧
  ((runF (usedOf m) n Ks).length + Ks.length < n → Ne (He.ga K "Singular") []) ∧ (¬ (runF (usedOf m) n Ks).length + Ks.length < n → Nv (.tup [pairsD true (runF (usedOf m) n Ks), natL true (restL n (runF (usedOf m) n Ks))]) false)
set_option maxHeartbeats 4000000 in
theorem ok_torn (T : Top w K mg) : FnOk P w K mg base (L2.CX P w) 5 (He.ga K ("torn" : Str)) (fdOf K d_torn) ["rows", "tears"] (spZ K (wTorn K)) := by
  refine (T.f_torn).ok sc_torn (fun vs H Q E h => spz_len h (n := 2) fun ds Nv Ne hw => ?_) (fun cdv A outer s H vs Q E hr h => ?_)
  · obtain ⟨_, _, _, rfl, _⟩ := hw
    rfl
  · refine z_fn h ((pss_cons (ps_set (i := 2) sc_torn.nd rfl (Or.inl rfl) (pe_call (ok__pairs (K := K) T) (hr.mono (by decide)) rfl T.g__pairs T.f__pairs.kp T.b__pairs .nil pass0 (pa_cons (pe_call (ok__used_columns (K := K) T) (hr.mono (by decide)) rfl T.g__used_columns T.f__used_columns.kp T.b__used_columns .nil pass0 (pa_cons (pv 0) pa_nil)) (pa_cons (pv 1) pa_nil))))
    (pss_cons (ps_if (pt_cmpR op_lt (pe_op op_add (pe_callB (call_lenZ (K := K) rfl) (by rfl) T.n_len PySem.boot_len (pa_cons (pv 2) pa_nil)) (pe_callB (call_lenZ (K := K) rfl) (by rfl) T.n_len PySem.boot_len (pa_cons (pv 1) pa_nil))) (pe_callB (call_lenZ (K := K) rfl) (by rfl) T.n_len PySem.boot_len (pa_cons (pv 0) pa_nil)) (nomark _))
    (pss_one (ps_raise rfl (takes_of rfl rfl rfl rfl) (pmk_own PySem.F.excBase_ValueError T.exc_Singular.1 T.g_Singular T.exc_Singular.2.1 (raises_own T.exc_Singular.2.2.1 T.exc_Singular.2.2.2) rfl)))
    pss_nil)
    (pss_cons (ps_set (i := 3) sc_torn.nd rfl (Or.inr rfl) (pe_lockL (pe_dc (own := [(("at" : Str), 4), (("_" : Str), 5)]) (g := (gTup K 2 (gCons (gName 4) (gCons (gName 5) gNil)))) (tt := tYes) rfl sc_torn.nd (pi_listK (K := K) rfl (pv 2)) (blkOk_by (N := ["rows", "tears", "pairs", "taken", "at", "_"]) (sc := defScope s_torn) (by decide +kernel)) (fun _ _ _ _ _ => (pg_tup (by rfl) (pgs_cons (pg_name (i := 4) sc_torn.nd rfl (Or.inl rfl)) (pgs_cons (pg_name (i := 5) sc_torn.nd rfl (Or.inl rfl)) pgs_nil)))) (fun _ _ _ _ _ => pts_nil) (fun _ _ _ _ _ => (pv 4)) (fun _ _ _ _ _ => pe_bl))))
    (pss_one (ps_ret (pe_tup (pa_cons (pv 2) (pa_cons (pe_lockL (pe_lc (own := [(("at" : Str), 4)]) (g := (gName 4)) rfl sc_torn.nd (pi_range1 rfl T.n_range (pa_cons (pe_callB (call_lenZ (K := K) rfl) (by rfl) T.n_len PySem.boot_len (pa_cons (pv 0) pa_nil)) pa_nil)) (blkOk_by (N := ["rows", "tears", "pairs", "taken", "at", "_"]) (sc := defScope s_torn) (by decide +kernel)) (fun _ _ _ _ _ => (pg_name (i := 4) sc_torn.nd rfl (Or.inl rfl))) (fun _ _ _ _ _ => pts_one (pt_cmp (pc_dnotin (hu_of hr) (pv 4) (pv 3)))) (fun _ _ _ _ _ => (pv 4)))) pa_nil))))))))) fun ds Nv Ne hw => ?_
    obtain ⟨n, m, Ks, rfl, hn, hmn, hm, hK, k1, k2⟩ := hw
    have hB := used_below hm
    obtain ⟨hUl, hUr⟩ := used_len hn hm
    walk_at "zz"
    refine ⟨n, m, by simp only [Dt.olds, ratsD_old], hn, hm, ?_⟩
    walk_at "zz"
    refine ⟨n, usedOf m, natL false Ks, Ks, by simp only [Dt.olds, usedD_old, natL_old], .inl rfl, hn, by omega, hUr, hB, hK, ?_⟩
    have hPl := runF_len (usedOf m) n Ks
    generalize hP : runF (usedOf m) n Ks = P at k1 k2 hPl ⊢
    walk_at "zz"
    by_cases c : P.length + Ks.length < n
    · refine zT (by simp [pairsD, natL, natsD, ratsD, hmn]; omega) ?_
      exact zs_raise (k1 c)
    · refine zF (by simp [pairsD, natL, natsD, ratsD, hmn]; omega) ?_
      have k3 := k2 c
      walk_at "zz"
      refine ze_frzM (i := 2) rfl ?_
      refine ze_dcW (zi_list ?_)
      walk_at "zz"
      refine ⟨true, _, rfl, trivial, rfl, by rw [List.length_map]; omega, fun i ks ad => ad.length = ks.length ∧ ∀ k : Nat, (.inl (k : Int) : Key) ∈ ks ↔ k ∈ (P.take i).map Prod.fst, ⟨rfl, fun k => by simp⟩, ?_, ?_⟩
      · rintro i d ks ad hd ⟨hl, hk⟩
        rw [List.getElem?_map] at hd
        cases hp : P[i]? with
        | none => rw [hp] at hd; cases hd
        | some p =>
          rw [hp] at hd
          cases hd
          refine zgw_tup rfl (zgws_cons (zgw_name (by decide) (zgws_cons (zgw_name (by decide) (zgws_nil ?_)))))
          walk_at "zz"
          refine ⟨.inl (p.1 : Int), rfl, ?_⟩
          walk_at "zz"
          refine ⟨rfl, putDs_lenT hl, fun k => ?_⟩
          rw [putKs_memT, hk, List.take_succ, hp, List.map_append, List.mem_append]
          show _ ∨ _ ↔ _ ∨ k ∈ [p.1]
          rw [List.mem_singleton]
          constructor
          · exact fun q => q.imp id fun e => by have := Sum.inl.inj e; omega
          · exact fun q => q.imp id fun e => by rw [e]
      · rintro ks ad ⟨hl, hk⟩
        rw [List.length_map, List.take_length] at hk
        walk_at "zz"
        refine ze_lcM (List.range n) (fun k => .int (k : Int)) (fun k => if !decide (k ∈ P.map Prod.fst) then some (.int (k : Int)) else none) (zi_range1 ?_)
        walk_at "zz"
        rw [List.length_map, hmn]
        have h62 : (n : Int) < 2 ^ 62 := by omega
        refine ⟨by omega, h62, by rw [Int.toNat_natCast], trivial, rfl, by rw [List.length_range]; omega, fun k hkr => ?_, ?_⟩
        · refine zgw_name (by decide) ?_
          walk_at "zz"
          have hs : (look ks ad (.inl (k : Int))).isSome = decide (k ∈ P.map Prod.fst) := by
            have e := look_none (k := (.inl (k : Int) : Key)) hl
            cases q : look ks ad (.inl (k : Int)) with
            | none =>
              have := mt (hk k).mpr (e.mp q)
              simp only [Option.isSome_none]
              exact (decide_eq_false this).symm
            | some d =>
              have : k ∈ P.map Prod.fst := (hk k).mp (Classical.byContradiction fun z => by rw [e.mpr z] at q; cases q)
              simp only [Option.isSome_some]
              exact (decide_eq_true this).symm
          refine ⟨_, _, _, rfl, .inr (.inl rfl), .int rfl, ?_⟩
          rw [hs]
          by_cases hw : k ∈ P.map Prod.fst
          · refine ⟨_, rfl, zF (by simp only [hw, decide_true, Bool.not_true]; exact Bool.false_ne_true) ?_⟩
            exact ⟨rfl, by simp only [hw, decide_true, Bool.not_true]; rfl⟩
          · refine ⟨_, rfl, zT (by simp only [hw, decide_false, Bool.not_false]) ?_⟩
            walk_at "zz"
            exact ⟨rfl, by simp only [hw, decide_false, Bool.not_false]; rfl⟩
        · rw [filterMap_if (fun k : Nat => Dt.int (k : Int)) (fun k : Nat => !decide (k ∈ P.map Prod.fst))]
          walk_at "zz"
          exact k3
end
end Tr
local macro_rules | `(tactic| walk_at "z1") => `(tactic| first | ((with_reducible apply ze_inFv); exact rfl; exact rfl))
namespace Tr
theorem lastI {α : Type} {xs : List α} {x : α} (h : xs.getLast? = some x) : atI xs (-1) = some x := by
  have hne : xs ≠ [] := fun e => by rw [e] at h; cases h
  have hl : 0 < xs.length := List.length_pos_iff.mpr hne
  have e : ixN xs.length (-1) = some (xs.length - 1) := by
    unfold ixN
    rw [if_neg (by decide)]
    have : (-1 : Int) + (xs.length : Int) = ((xs.length - 1 : Nat) : Int) := by omega
    simp
    omega
  unfold atI
  rw [e, Option.bind_some, ← List.getLast?_eq_getElem?, h]
def ext (n : Nat) (one : List Nat) : List (List Nat) := (List.range (n - low one)).map fun j => one ++ [low one + j]
section
variable {P : Program} {w : World} {K : PySem.W.Frag} {mg : Str → Option Value} {base : Heap}
/-! ### _law_lists -/
def wLists (s : Nat) : Wz := fun ds Nv _ => ∃ n : Nat, ds = [.int (n : Int), .int (s : Int)] ∧ n ≤ 6 ∧ s ≤ n ∧ Nv (usedD true true (lists n s)) true
def wListsP : Nat → Wz
  | 0 => fun _ _ _ => False
  | s + 1 => wLists s
theorem lists_small {n s : Nat} (hn : n ≤ 6) (hs : s ≤ n) : (lists n s).length ≤ 100 ∧ ∀ ys ∈ lists n s, ys.length ≤ 6 ∧ low ys ≤ 6 := by
  have h : (List.range 7).all (fun n => (List.range (n + 1)).all fun s => decide ((lists n s).length ≤ 100) && (lists n s).all fun ys => decide (ys.length ≤ 6) && decide (low ys ≤ 6)) = true := by decide +kernel
  simp only [List.all_eq_true, List.mem_range, Bool.and_eq_true, decide_eq_true_eq] at h
  exact h n (by omega) s (by omega)
set_option maxHeartbeats 4000000 in
theorem lists_step (T : Top w K mg) (s : Nat) (ih__law_lists : FnOk P w K mg base CX0 (s + 1) (He.ga K ("_law_lists" : Str)) (fdOf K d__law_lists) ["many", "size"] (spZ K (wListsP s))) :
    FnOk P w K mg base CX0 (s + 2) (He.ga K ("_law_lists" : Str)) (fdOf K d__law_lists) ["many", "size"] (spZ K (wListsP (s + 1))) := by
  refine (T.f__law_lists).ok sc__law_lists (fun vs H Q E h => spz_len h (n := 2) fun ds Nv Ne hw => ?_) (fun cdv A outer st H vs Q E hr h => ?_)
  · obtain ⟨_, rfl, _⟩ := hw
    rfl
  · refine z_fn h (PSs.nox (pss_cons (ps_if (pt_cmpR op_eq (pv 1) pe_int (nomark _))
    (pss_one (ps_ret (pe_lst (pa_cons (pe_lst pa_nil) pa_nil))))
    pss_nil)
    (pss_cons (ps_set (i := 2) sc__law_lists.nd rfl (Or.inl rfl) (pe_lst pa_nil))
    (pss_cons (ps_lockL (ps_for PassesOwn.never rfl (pi_listK (K := K) rfl (pe_call ih__law_lists (hr.mono (by omega)) rfl T.g__law_lists T.f__law_lists.kp T.b__law_lists .nil pass0 (pa_cons (pv 0) (pa_cons (pe_op op_sub (pv 1) pe_int) pa_nil)))) (pg_name (i := 3) sc__law_lists.nd rfl (Or.inr rfl))
    (pss_cons (ps_set (i := 4) sc__law_lists.nd rfl (Or.inl rfl) pe_int)
    (pss_cons (ps_if (pt_truth (pv 3) (by intro _; rfl))
    (pss_one (ps_set (i := 4) sc__law_lists.nd rfl (Or.inl rfl) (pe_op op_add (pe_ix (ix_listK (K := K) rfl) (pv 3) (pe_un un_neg pe_int) (fun _ _ => rfl)) pe_int)))
    pss_nil)
    (pss_one (ps_set (i := 2) sc__law_lists.nd rfl (Or.inl rfl) (pe_op op_cat (pv 2) (pe_lockL (pe_lc (own := [(("j" : Str), 5)]) (g := (gName 5)) (tt := tYes) rfl sc__law_lists.nd (pi_range2 rfl T.n_range (pa_cons (pv 4) (pa_cons (pv 0) pa_nil))) (blkOk_by (N := ["many", "size", "found", "one", "low", "j"]) (sc := defScope s__law_lists) (by decide +kernel)) (fun _ _ _ _ _ => (pg_name (i := 5) sc__law_lists.nd rfl (Or.inl rfl))) (fun _ _ _ _ _ => pts_nil) (fun _ _ _ _ _ => (pe_op op_cat (pv 3) (pe_lst (pa_cons (pv 5) pa_nil)))))))))))))
    (pss_one (ps_ret (pv 2))))))) fun ds Nv Ne hw => ?_
    obtain ⟨n, rfl, hn, hs, k⟩ := hw
    walk_at "zz"
    cases s with
    | zero =>
      refine zT (by decide) ?_
      walk_at "zz"
      exact k
    | succ s =>
      refine zF (by simp; omega) ?_
      walk_at "zz"
      refine zs_forL (zi_list ?_)
      walk_at "zz"
      refine ⟨n, by simp only [Dt.olds, Dt.old]; congr 2; congr 1; omega, hn, by omega, ?_⟩
      obtain ⟨hll, hls⟩ := lists_small (n := n) (s := s) hn (by omega)
      have hll1 := (lists_small (n := n) (s := s + 1) hn hs).1
      have pre : ∀ i, ((lists n s).take i).flatMap (ext n) <+: lists n (s + 1) := fun i => by
        have e : lists n (s + 1) = (lists n s).flatMap (ext n) := rfl
        rw [e]
        conv => rhs; rw [← List.take_append_drop i (lists n s)]
        rw [List.flatMap_append]
        exact List.prefix_append _ _
      refine ⟨_, _, rfl, fun i ρ => ∃ p3 p4 p5 : Sl, ρ = [.v (.int (n : Int)), .v (.int ((s + 1 : Nat) : Int)), .o (usedD true true (((lists n s).take i).flatMap (ext n))), p3, p4, p5] ∧ jOk p5, ⟨.un, .un, .un, rfl, .inl rfl⟩, ?_, ?_⟩
      · rintro ρ ⟨p3, p4, p5, rfl, _⟩
        rw [List.length_map, List.take_length]
        refine ⟨trivial, ?_⟩
        dsimp only [bI]
        walk_at "zz"
        exact k
      · rintro i d ρ hd ⟨p3, p4, p5, rfl, h5⟩
        rw [List.getElem?_map] at hd
        cases ho : (lists n s)[i]? with
        | none => rw [ho] at hd; cases hd
        | some one =>
          rw [ho] at hd
          cases hd
          obtain ⟨hol, hlow⟩ := hls one (List.mem_of_getElem? ho)
          walk_at "zz"
          refine zt_truM (i := 3) rfl rfl (.inl rfl) ?_
          cases hc : one.getLast? with
          | none =>
            have e0 : one = [] := List.getLast?_eq_none_iff.mp hc
            have l0 : low one = 0 := by rw [e0]; rfl
            refine zF (by rw [e0]; decide) ?_
            walk_at "zz"
            refine ze_lcM (List.range (n - low one)) (fun j => .int ((0 : Int) + (j : Int))) (fun j => some (natL true (one ++ [low one + j]))) (zi_range2 ?_)
            walk_at "zz"
            have ht : ((n : Int) - (0 : Int)).toNat = n - low one := by omega
            refine ⟨_, _, rfl, by omega, by omega, by omega, by omega, by rw [ht], trivial, by rcases h5 with rfl | ⟨_, rfl⟩ <;> rfl, by rw [List.length_range]; omega, fun j hj => ?_, ?_⟩
            · refine zgw_name (by decide) ?_
              walk_at "zz"
              refine ⟨_, _, _, _, rfl, rfl, by simp [natsD]; omega, ?_⟩
              refine ⟨by rcases h5 with rfl | ⟨_, rfl⟩ <;> rfl, ?_⟩
              have e2 : (((low one + j : Nat)) : Int) = (0 : Int) + (j : Int) := by omega
              unfold natL natsD
              rw [List.map_append, List.map_singleton, e2]
            · rw [filterMap_some]
              walk_at "zz"
              have lp := (pre (i + 1)).length_le
              rw [List.take_succ, ho, List.flatMap_append] at lp
              have e1 : List.flatMap (ext n) (some one).toList = ext n one := List.flatMap_singleton ..
              rw [e1, List.length_append] at lp
              refine ⟨_, _, _, _, rfl, rfl, ?_, ?_⟩
              · have e3 : (ext n one).length = (List.range (n - low one)).length := List.length_map _
                rw [List.length_map, List.length_map]
                omega
              · walk_at "zz"
                refine ⟨.v (natL true one), .v (.int (0 : Int)), p5, ?_, h5⟩
                rw [List.take_succ, ho, List.flatMap_append, e1]
                unfold usedD
                rw [List.map_append]
                have e4 : (ext n one).map (natL true) = (List.range (n - low one)).map fun j => natL true (one ++ [low one + j]) := by
                  unfold ext
                  rw [List.map_map]
                  rfl
                rw [e4]
                rfl
          | some c =>
            have l0 : low one = c + 1 := by unfold low; rw [hc]
            have ne : one ≠ [] := fun e => by rw [e] at hc; cases hc
            refine zT (by unfold natsD; simp [ne]) ?_
            walk_at "zz"
            refine ⟨_, _, _, _, _, rfl, .inl rfl, rfl, lastI (x := Dt.int (c : Int)) (by unfold natsD; rw [List.getLast?_map, hc]; rfl), ?_⟩
            walk_at "zz"
            refine ze_lcM (List.range (n - low one)) (fun j => .int (((c : Int) + 1) + (j : Int))) (fun j => some (natL true (one ++ [low one + j]))) (zi_range2 ?_)
            walk_at "zz"
            have ht : ((n : Int) - ((c : Int) + 1)).toNat = n - low one := by omega
            refine ⟨_, _, rfl, by omega, by omega, by omega, by omega, by rw [ht], trivial, by rcases h5 with rfl | ⟨_, rfl⟩ <;> rfl, by rw [List.length_range]; omega, fun j hj => ?_, ?_⟩
            · refine zgw_name (by decide) ?_
              walk_at "zz"
              refine ⟨_, _, _, _, rfl, rfl, by simp [natsD]; omega, ?_⟩
              refine ⟨by rcases h5 with rfl | ⟨_, rfl⟩ <;> rfl, ?_⟩
              have e2 : (((low one + j : Nat)) : Int) = ((c : Int) + 1) + (j : Int) := by omega
              unfold natL natsD
              rw [List.map_append, List.map_singleton, e2]
            · rw [filterMap_some]
              walk_at "zz"
              have lp := (pre (i + 1)).length_le
              rw [List.take_succ, ho, List.flatMap_append] at lp
              have e1 : List.flatMap (ext n) (some one).toList = ext n one := List.flatMap_singleton ..
              rw [e1, List.length_append] at lp
              refine ⟨_, _, _, _, rfl, rfl, ?_, ?_⟩
              · have e3 : (ext n one).length = (List.range (n - low one)).length := List.length_map _
                rw [List.length_map, List.length_map]
                omega
              · walk_at "zz"
                refine ⟨.v (natL true one), .v (.int ((c : Int) + 1)), p5, ?_, h5⟩
                rw [List.take_succ, ho, List.flatMap_append, e1]
                unfold usedD
                rw [List.map_append]
                have e4 : (ext n one).map (natL true) = (List.range (n - low one)).map fun j => natL true (one ++ [low one + j]) := by
                  unfold ext
                  rw [List.map_map]
                  rfl
                rw [e4]
                rfl
/-! ### _law_torn -/
def P0len (P : List (Nat × Nat)) : Prop := P.length ≤ 6
/-- within a pass over the rows: nothing found yet, or found -/
def Scan (U : List (List Nat)) (Ks : List Nat) (P0 P1 : List (Nat × Nat)) (i : Nat) (Pc : List (Nat × Nat)) (b : Bool) : Prop :=
  (b = false ∧ Pc = P0 ∧ ∀ j, j < i → oneR U (Ks ++ P0.map Prod.snd) j = false) ∨
  (b = true ∧ ∃ k0 c P2, P1 = (k0, c) :: P2 ∧ Pc = P0 ++ [(k0, c)] ∧ Run U (Ks ++ Pc.map Prod.snd) P2 ∧ ∀ k ∈ Pc.map Prod.fst, openR U (Ks ++ Pc.map Prod.snd) k = [])
def wLTorn : Wz := fun ds Nv _ => ∃ (n : Nat) (m : List (List (Int × Int))) (Ks : List Nat), ds = [matD false false m, natL false Ks] ∧ n ≤ 6 ∧ m.length = n ∧ MatOk n m ∧ Ks.length ≤ 6 ∧
  Nv (.tup [pairsD true (runF (usedOf m) n Ks), natL true (restL n (runF (usedOf m) n Ks)), .bl (goodB (usedOf m) n Ks)]) false
set_option maxHeartbeats 4000000 in
theorem ok__law_torn (T : Top w K mg) : FnOk P w K mg base CX0 5 (He.ga K ("_law_torn" : Str)) (fdOf K d__law_torn) ["rows", "tears"] (spZ K wLTorn) := by
  refine (T.f__law_torn).ok sc__law_torn (fun vs H Q E h => spz_len h (n := 2) fun ds Nv Ne hw => ?_) (fun cdv A outer s H vs Q E hr h => ?_)
  · obtain ⟨_, _, _, rfl, _⟩ := hw
    rfl
  · refine z_fn h (PSs.nox (pss_cons (ps_set (i := 2) sc__law_torn.nd rfl (Or.inr rfl) (pe_callTy (call_listZ (K := K) rfl rfl) (by rfl) T.n_list (by decide +kernel) (pa_cons (pv 1) pa_nil)))
    (pss_cons (ps_set (i := 3) sc__law_torn.nd rfl (Or.inr rfl) (pe_lst pa_nil))
    (pss_cons (ps_set (i := 4) sc__law_torn.nd rfl (Or.inl rfl) (pe_lst pa_nil))
    (pss_cons (ps_set (i := 5) sc__law_torn.nd rfl (Or.inl rfl) pe_bl)
    (pss_cons (ps_while PassesOwn.never (pt_val (pv 5))
    (pss_cons (ps_set (i := 5) sc__law_torn.nd rfl (Or.inl rfl) pe_bl)
    (pss_one (ps_lockL (ps_for PassesOwn.never rfl (pi_range1 rfl T.n_range (pa_cons (pe_callB (call_lenZ (K := K) rfl) (by rfl) T.n_len PySem.boot_len (pa_cons (pv 0) pa_nil)) pa_nil)) (pg_name (i := 6) sc__law_torn.nd rfl (Or.inr rfl))
    (pss_cons (ps_lockL (ps_setLc (i := 7) (own := [(("j" : Str), 8)]) (g := (gName 8)) rfl sc__law_torn.nd rfl rfl (by rfl) (pi_range1 rfl T.n_range (pa_cons (pe_callB (call_lenZ (K := K) rfl) (by rfl) T.n_len PySem.boot_len (pa_cons (pv 0) pa_nil)) pa_nil)) (blkOk_by (N := ["rows", "tears", "known", "taken", "found", "again", "k", "open_ones", "j"]) (sc := defScope s__law_torn) (by decide +kernel)) (fun _ _ _ _ _ => (pg_name (i := 8) sc__law_torn.nd rfl (Or.inl rfl))) (fun _ _ _ _ _ => pts_one (PW.pt (pw_and (pt_cmpR op_ne (pe_ix (ix_tupK (K := K) rfl) (pe_ix (ix_listK (K := K) rfl) (pe_ix (ix_listK (K := K) rfl) (pv 0) (pv 6) (fun _ _ => rfl)) (pv 8) (fun _ _ => rfl)) pe_int (fun _ _ => rfl)) pe_int (nomark _)) (pw_and1 (pt_cmpR (op_notInK (K := K) rfl) (pv 8) (pv 2) (by rfl)))))) (fun _ _ _ _ _ => (pv 8))))
    (pss_one (ps_if (PW.pt (pw_and (pt_not (pt_val (pv 5))) (pw_and (pt_cmpR (op_notInK (K := K) rfl) (pv 6) (pv 3) (by rfl)) (pw_and1 (pt_cmpR op_eq (pe_callB (call_lenZ (K := K) rfl) (by rfl) T.n_len PySem.boot_len (pa_cons (pv 7) pa_nil)) pe_int (nomark _))))))
    (pss_cons (ps_set (i := 5) sc__law_torn.nd rfl (Or.inl rfl) pe_bl)
    (pss_cons (ps_expr (pe_bm PySem.F.plainAttrs_list PySem.F.slot_list_append PySem.F.type_list_append mt_append (pv 3) (pa_cons (pv 6) pa_nil)))
    (pss_cons (ps_expr (pe_bm PySem.F.plainAttrs_list PySem.F.slot_list_append PySem.F.type_list_append mt_append (pv 2) (pa_cons (pe_ix (ix_listK (K := K) rfl) (pv 7) pe_int (fun _ _ => rfl)) pa_nil)))
    (pss_one (ps_expr (pe_bm PySem.F.plainAttrs_list PySem.F.slot_list_append PySem.F.type_list_append mt_append (pv 4) (pa_cons (pe_tup (pa_cons (pv 6) (pa_cons (pe_ix (ix_listK (K := K) rfl) (pv 7) pe_int (fun _ _ => rfl)) pa_nil))) pa_nil)))))))
    pss_nil))))))))
    (pss_one (ps_ret (pe_tup (pa_cons (pv 4) (pa_cons (pe_lockL (pe_lc (own := [(("k" : Str), 6)]) (g := (gName 6)) rfl sc__law_torn.nd (pi_range1 rfl T.n_range (pa_cons (pe_callB (call_lenZ (K := K) rfl) (by rfl) T.n_len PySem.boot_len (pa_cons (pv 0) pa_nil)) pa_nil)) (blkOk_by (N := ["rows", "tears", "known", "taken", "found", "again", "k", "open_ones", "j"]) (sc := defScope s__law_torn) (by decide +kernel)) (fun _ _ _ _ _ => (pg_name (i := 6) sc__law_torn.nd rfl (Or.inl rfl))) (fun _ _ _ _ _ => pts_one (pt_cmpR (op_notInK (K := K) rfl) (pv 6) (pv 3) (by rfl))) (fun _ _ _ _ _ => (pv 6)))) (pa_cons (pe_cmpR op_eq (pe_callB (call_lenZ (K := K) rfl) (by rfl) T.n_len PySem.boot_len (pa_cons (pv 2) pa_nil)) (pe_callB (call_lenZ (K := K) rfl) (by rfl) T.n_len PySem.boot_len (pa_cons (pv 0) pa_nil)) (nomark _)) pa_nil)))))))))))) fun ds Nv Ne hw => ?_
    obtain ⟨n, m, Ks, rfl, hn, hmn, hm, hK, k⟩ := hw
    have hB := used_below hm
    walk_at "zz"
    have h62 : (n : Int) < 2 ^ 62 := by omega
    generalize hU : usedOf m = U at k hB
    have hr0 := runF_ok hB (f := n) (K := Ks) (left_le n Ks)
    refine zs_while (fun q ρ => ∃ (P0 P1 : List (Nat × Nat)) (ag : Bool) (p6 p7 : Sl), ρ = [.v (matD false false m), .v (natL false Ks), .o (natL true (Ks ++ P0.map Prod.snd)), .o (natL true (P0.map Prod.fst)), .o (pairsD true P0), .v (.bl ag), p6, p7, .un] ∧ jOk p6 ∧ Run U (Ks ++ P0.map Prod.snd) P1 ∧ runF U n Ks = P0 ++ P1 ∧ (∀ k ∈ P0.map Prod.fst, openR U (Ks ++ P0.map Prod.snd) k = []) ∧ (ag = false → P1 = []) ∧ q = if ag = true then P1.length + 1 else 0)
      ⟨_, [], runF U n Ks, true, .un, .un, by rw [List.map_nil, List.append_nil]; rfl, .inl rfl, by rw [List.map_nil, List.append_nil]; exact hr0, rfl, fun k h => (nomatch h), fun h => (nomatch h), rfl⟩ ?_
    rintro q ρ ⟨P0, P1, ag, p6, p7, rfl, h6, run, hP, hop, hag, rfl⟩
    have hlen := runF_len U n Ks
    rw [hP, List.length_append] at hlen
    walk_at "zz"
    cases ag with
    | false =>
      obtain rfl := hag rfl
      rw [List.append_nil] at hP
      walk_at "zz"
      refine ze_lcM (List.range n) (fun k => .int (k : Int)) (fun k => if !decide (k ∈ P0.map Prod.fst) then some (.int (k : Int)) else none) (zi_range1 ?_)
      walk_at "zz"
      rw [List.length_map, hmn]
      refine ⟨by omega, h62, by rw [Int.toNat_natCast], trivial, by rcases h6 with rfl | ⟨_, rfl⟩ <;> rfl, by rw [List.length_range]; omega, fun k hk => ?_, ?_⟩
      · refine zgw_name (by decide) ?_
        walk_at "zz"
        refine ⟨.int (k : Int), (P0.map Prod.fst).map fun (k : Nat) => V.int (k : Int), true, natsD (P0.map Prod.fst), rfl, rfl, flat_nats _, ?_⟩
        rw [if_pos rfl, inV_nats]
        walk_at "zz"
        by_cases hw : k ∈ P0.map Prod.fst
        · refine zF (by simp only [hw, decide_true, Bool.not_true]; exact Bool.false_ne_true) ?_
          exact ⟨by rcases h6 with rfl | ⟨_, rfl⟩ <;> rfl, by simp only [hw, decide_true, Bool.not_true]; rfl⟩
        · refine zT (by simp only [hw, decide_false, Bool.not_false]) ?_
          walk_at "zz"
          exact ⟨by rcases h6 with rfl | ⟨_, rfl⟩ <;> rfl, by simp only [hw, decide_false, Bool.not_false]; rfl⟩
      · rw [filterMap_if (fun k : Nat => Dt.int (k : Int)) (fun k : Nat => !decide (k ∈ P0.map Prod.fst))]
        walk_at "zz"
        rw [hP] at k
        have eg : goodB U n Ks = decide (((natsD (Ks ++ P0.map Prod.snd)).length : Int) = ((m.map (rowD false)).length : Int)) := by
          unfold goodB natsD
          rw [hP, List.length_map, List.length_map, hmn, List.length_append, List.length_map, Bool.eq_iff_iff, decide_eq_true_eq, beq_iff_eq]
          omega
        rw [eg] at k
        exact k
    | true =>
      walk_at "zz"
      refine zs_forL (zi_range1 ?_)
      walk_at "zz"
      rw [List.length_map, hmn]
      refine ⟨by omega, h62, fun i ρ => ∃ (Pc : List (Nat × Nat)) (b : Bool) (p6 p7 : Sl), ρ = [.v (matD false false m), .v (natL false Ks), .o (natL true (Ks ++ Pc.map Prod.snd)), .o (natL true (Pc.map Prod.fst)), .o (pairsD true Pc), .v (.bl b), p6, p7, .un] ∧ jOk p6 ∧ Scan U Ks P0 P1 i Pc b,
        ⟨P0, false, p6, p7, rfl, h6, .inl ⟨rfl, rfl, fun j hj => absurd hj (Nat.not_lt_zero _)⟩⟩, ?_, ?_⟩
      · rintro ρ ⟨Pc, b, p6, p7, rfl, h6, sc⟩
        rw [rng_len] at sc
        refine ⟨trivial, ?_⟩
        dsimp only [bI]
        rcases sc with ⟨rfl, rfl, hall⟩ | ⟨rfl, k0, c, P2, rfl, rfl, run2, hop2⟩
        · have e : readyL U (Ks ++ Pc.map Prod.snd) = [] := by
            have hUn : U.length = n := by rw [← hU, ← hmn]; exact List.length_map _
            unfold readyL
            rw [hUn]
            exact none_of hall
          have : P1 = [] := by
            cases run with
            | nil _ => rfl
            | cons e2 _ _ => rw [e] at e2; cases e2
          subst this
          exact ⟨0, by decide, Pc, [], false, p6, p7, rfl, h6, run, hP, hop, fun _ => rfl, rfl⟩
        · exact ⟨P2.length + 1, by simp, P0 ++ [(k0, c)], P2, true, p6, p7, rfl, h6, run2, by rw [hP, List.append_assoc]; rfl, hop2, (fun h => by cases h), rfl⟩
      · rintro i d ρ hd ⟨Pc, b, p6, p7, rfl, h6, sc⟩
        obtain ⟨hi, rfl⟩ := rng_at hd
        have him : i < m.length := by omega
        have er : m[i]? = some m[i] := List.getElem?_eq_getElem him
        obtain ⟨hrl, hre⟩ := hm.2 _ (List.getElem_mem him)
        generalize hr : m[i] = r at er hrl hre
        walk_at "zz"
        refine ze_lcM (List.range n) (fun k => .int (k : Int)) (fun j => if (!decide (j ∈ Ks ++ Pc.map Prod.snd) && !decide (((r[j]?).getD (0, 1)).1 = 0)) then some (.int (j : Int)) else none) (zi_range1 ?_)
        walk_at "zz"
        rw [List.length_map, hmn]
        refine ⟨by omega, h62, by rw [Int.toNat_natCast], trivial, by rcases h6 with rfl | ⟨_, rfl⟩ <;> rfl, by rw [List.length_range]; omega, fun j hj => ?_, ?_⟩
        · have hjn := List.mem_range.mp hj
          have hjl : j < r.length := by omega
          have ej : r[j]? = some r[j] := List.getElem?_eq_getElem hjl
          have ai : atI (m.map (rowD false)) (i : Int) = some (rowD false r) := atI_k (by rw [List.getElem?_map, er]; rfl)
          have aj : atI (r.map entD) (j : Int) = some (entD r[j]) := atI_k (by rw [List.getElem?_map, ej]; rfl)
          refine zgw_name (by decide) ?_
          walk_at "zz"
          refine ⟨_, _, _, _, _, rfl, .inl rfl, rfl, ai, ?_⟩
          walk_at "zz"
          refine ⟨_, _, _, _, rfl, rfl, aj, ?_⟩
          walk_at "zz"
          rw [ej, Option.getD_some]
          by_cases h0 : r[j].1 = 0
          · refine zF (by simp [h0]) ?_
            walk_at "zz"
            exact ⟨by rcases h6 with rfl | ⟨_, rfl⟩ <;> rfl, by simp [h0]⟩
          · refine zT (by simp [h0]) ?_
            walk_at "zz"
            refine ⟨.int (j : Int), (Ks ++ Pc.map Prod.snd).map fun (k : Nat) => V.int (k : Int), true, natsD (Ks ++ Pc.map Prod.snd), rfl, rfl, flat_nats _, ?_⟩
            rw [if_pos rfl, inV_nats]
            walk_at "zz"
            by_cases hw : j ∈ Ks ++ Pc.map Prod.snd
            · refine zF (by simp only [hw, decide_true, Bool.not_true]; exact Bool.false_ne_true) ?_
              exact ⟨by rcases h6 with rfl | ⟨_, rfl⟩ <;> rfl, by simp only [hw, decide_true, Bool.not_true, Bool.false_and]; rfl⟩
            · refine zT (by simp only [hw, decide_false, Bool.not_false]) ?_
              walk_at "zz"
              exact ⟨by rcases h6 with rfl | ⟨_, rfl⟩ <;> rfl, by simp only [hw, h0, decide_false, Bool.not_false, Bool.true_and]; rfl⟩
        · rw [filterMap_if (fun k : Nat => Dt.int (k : Int)) (fun j : Nat => (!decide (j ∈ Ks ++ Pc.map Prod.snd) && !decide (((r[j]?).getD (0, 1)).1 = 0)))]
          have eo : (List.range n).filter (fun j : Nat => (!decide (j ∈ Ks ++ Pc.map Prod.snd) && !decide (((r[j]?).getD (0, 1)).1 = 0))) = openR U (Ks ++ Pc.map Prod.snd) i := by
            have eU : U[i]? = some (usedRow r) := by rw [← hU]; unfold usedOf; rw [List.getElem?_map, er]; rfl
            unfold openR
            rw [eU, Option.getD_some]
            unfold usedRow
            rw [List.filter_filter, hrl]
          rw [eo]
          walk_at "zz"
          have hUn : U.length = n := by rw [← hU, ← hmn]; exact List.length_map _
          rcases sc with ⟨rfl, rfl, hall⟩ | ⟨rfl, k0, c, P2, rfl, rfl, run2, hop2⟩
          · refine zT rfl ?_
            walk_at "zz"
            refine ⟨.int (i : Int), (Pc.map Prod.fst).map fun (k : Nat) => V.int (k : Int), true, natsD (Pc.map Prod.fst), rfl, rfl, flat_nats _, ?_⟩
            rw [if_pos rfl, inV_nats]
            walk_at "zz"
            have skip : oneR U (Ks ++ Pc.map Prod.snd) i = false → Scan U Ks Pc P1 (i + 1) Pc false := fun h => .inl ⟨rfl, rfl, fun j hj => by
              by_cases c : j < i
              · exact hall j c
              · have : j = i := by omega
                rw [this, h]⟩
            by_cases hw : i ∈ Pc.map Prod.fst
            · refine zF (by simp only [hw, decide_true, Bool.not_true]; exact Bool.false_ne_true) ?_
              walk_at "zz"
              exact ⟨Pc, false, _, _, rfl, .inr ⟨_, rfl⟩, skip (by unfold oneR; rw [hop i hw]; rfl)⟩
            · refine zT (by simp only [hw, decide_false, Bool.not_false]) ?_
              walk_at "zz"
              by_cases ho1 : oneR U (Ks ++ Pc.map Prod.snd) i = true
              · refine zT (one_dec.mp ho1) ?_
                obtain ⟨r', hf⟩ := first_of (n := U.length) hall (by omega) ho1
                have hf2 : readyL U (Ks ++ Pc.map Prod.snd) = i :: r' := hf
                cases run with
                | nil e2 => rw [hf2] at e2; cases e2
                | @cons _ r2 k0 c P2 e2 ho2 run2 =>
                  rw [hf2] at e2
                  obtain ⟨rfl, rfl⟩ := List.cons.inj e2
                  rw [ho2]
                  walk_at "zz"
                  have l0 : P0len Pc := by unfold P0len; rw [List.length_cons] at hlen; omega
                  unfold P0len at l0
                  refine ⟨by simp [natsD]; omega, ?_⟩
                  walk_at "zz"
                  refine ⟨_, _, _, _, _, rfl, .inr (.inl rfl), rfl, atI_k (k := 0) rfl, ?_⟩
                  walk_at "zz"
                  refine ⟨by simp [natsD]; omega, ?_⟩
                  walk_at "zz"
                  refine ⟨_, _, _, _, _, rfl, .inr (.inl rfl), rfl, atI_k (k := 0) rfl, ?_⟩
                  walk_at "zz"
                  refine ⟨by simp; omega, ?_⟩
                  have ec : Ks ++ (Pc ++ [(i, c)]).map Prod.snd = (Ks ++ Pc.map Prod.snd) ++ [c] := by rw [List.map_append, List.append_assoc]; rfl
                  refine ⟨Pc ++ [(i, c)], true, .v (.int (i : Int)), .o (natL true [c]), ?_, .inr ⟨_, rfl⟩, .inr ⟨rfl, i, c, P2, rfl, rfl, by rw [ec]; exact run2, fun k' hk' => ?_⟩⟩
                  · rw [ec]
                    unfold natL natsD pairsD
                    simp only [List.map_append]
                    rfl
                  · rw [ec, openR_snoc]
                    rw [List.map_append, List.mem_append] at hk'
                    rcases hk' with h | h
                    · rw [hop k' h]
                      rfl
                    · rw [List.mem_singleton.mp (show k' ∈ [i] from h), ho2]
                      simp
              · refine zF (fun q => ho1 (one_dec.mpr q)) ?_
                walk_at "zz"
                exact ⟨Pc, false, _, _, rfl, .inr ⟨_, rfl⟩, skip (Bool.eq_false_iff.mpr ho1)⟩
          · refine zF (by decide) ?_
            walk_at "zz"
            exact ⟨P0 ++ [(k0, c)], true, _, _, rfl, .inr ⟨_, rfl⟩, .inr ⟨rfl, k0, c, P2, rfl, rfl, run2, hop2⟩⟩
end
end Tr
namespace Tr
section
variable {P : Program} {w : World} {K : PySem.W.Frag} {mg : Str → Option Value} {base : Heap}
theorem ok_listsN (T : Top w K mg) : ∀ s : Nat, FnOk P w K mg base CX0 (s + 1) (He.ga K ("_law_lists" : Str)) (fdOf K d__law_lists) ["many", "size"] (spZ K (wListsP s))
  | 0 => ⟨fun _ _ _ _ ⟨_, _, _, _, _, _, h, _⟩ => h.elim, fun _ _ _ _ _ _ _ _ _ _ _ _ _ ⟨_, _, _, _, _, _, h, _⟩ => h.elim⟩
  | s + 1 => lists_step T s (ok_listsN T s)
def wListsA : Wz := fun ds Nv Ne => ∃ s, s ≤ 6 ∧ wLists s ds Nv Ne
theorem ok__law_lists (T : Top w K mg) : FnOk P w K mg base CX0 8 (He.ga K ("_law_lists" : Str)) (fdOf K d__law_lists) ["many", "size"] (spZ K wListsA) :=
  ⟨fun vs H Q E ⟨F, ds, Nv, Ne, le, r, ⟨s, hs, hw⟩, hq, he⟩ => (ok_listsN (P := P) (w := w) (base := base) T (s + 1)).len vs H Q E ⟨F, ds, Nv, Ne, le, r, hw, hq, he⟩,
   fun A outer s0 H args us vs Q E hr h0 hb hv ⟨F, ds, Nv, Ne, le, r, ⟨s, hs, hw⟩, hq, he⟩ => ((ok_listsN T (s + 1)).mono (by omega)).run A outer s0 H args us vs Q E hr h0 hb hv ⟨F, ds, Nv, Ne, le, r, hw, hq, he⟩⟩
theorem matD_old (t t' : Bool) (m : List (List (Int × Int))) : (matD t t' m).old = matD false false m := by
  unfold matD
  simp only [Dt.old, olds_map, List.map_map]
  congr 1
  refine List.map_congr_left fun r _ => ?_
  show (rowD t' r).old = _
  unfold rowD
  simp only [Dt.old, olds_map, List.map_map]
  rfl
def wLBest : Wz := fun ds Nv _ => ∃ (n : Nat) (m : List (List (Int × Int))), ds = [matD false false m] ∧ n ≤ 6 ∧ m.length = n ∧ MatOk n m ∧ Nv (natL true (bestL (usedOf m) n)) false
theorem best_hit2 {U : List (List Nat)} {n i k : Nat} {t : List Nat} (hi : i < n + 1) (h0 : ∀ j, j < i → ∀ t ∈ lists n j, goodB U n t = false) (hk : (lists n i)[k]? = some t) (h1 : ∀ t' ∈ (lists n i).take k, goodB U n t' = false) (ht : goodB U n t = true) : bestL U n = t := by
  have e : List.range (n + 1) = List.range i ++ i :: ((List.range (n - i)).map fun j => i + 1 + j) := by
    have e1 : n + 1 = i + ((n - i) + 1) := by omega
    conv => lhs; rw [e1, List.range_add, List.range_succ_eq_map, List.map_cons, List.map_map]
    congr 2
    exact List.map_congr_left fun j _ => by show i + (j + 1) = _; omega
  have hkl := (List.getElem?_eq_some_iff.mp hk).1
  have e2 : lists n i = (lists n i).take k ++ t :: (lists n i).drop (k + 1) := by
    conv => lhs; rw [← List.take_append_drop k (lists n i)]
    rw [List.drop_eq_getElem_cons hkl, (List.getElem?_eq_some_iff.mp hk).2]
  unfold bestL
  rw [e, List.flatMap_append, List.flatMap_cons]
  conv => lhs; rw [e2]
  rw [List.append_assoc, List.cons_append, ← List.append_assoc, find_app (fun x hx => ?_) ht, Option.getD_some]
  rcases List.mem_append.mp hx with hx | hx
  · obtain ⟨j, hj, hx⟩ := List.mem_flatMap.mp hx
    exact h0 j (List.mem_range.mp hj) x hx
  · exact h1 x hx
set_option maxHeartbeats 4000000 in
theorem ok__law_best (T : Top w K mg) : FnOk P w K mg base CX0 9 (He.ga K ("_law_best" : Str)) (fdOf K d__law_best) ["rows"] (spZ K wLBest) := by
  refine (T.f__law_best).ok sc__law_best (fun vs H Q E h => spz_len h (n := 1) fun ds Nv Ne hw => ?_) (fun cdv A outer s H vs Q E hr h => ?_)
  · obtain ⟨_, _, rfl, _⟩ := hw
    rfl
  · refine z_fn h (PSs.nox (pss_cons (ps_lockL (ps_for PassesOwn.never rfl (pi_range1 rfl T.n_range (pa_cons (pe_op op_add (pe_callB (call_lenZ (K := K) rfl) (by rfl) T.n_len PySem.boot_len (pa_cons (pv 0) pa_nil)) pe_int) pa_nil)) (pg_name (i := 1) sc__law_best.nd rfl (Or.inl rfl))
    (pss_one (ps_lockL (ps_for PassesOwn.never rfl (pi_listK (K := K) rfl (pe_call (ok__law_lists (K := K) T) (hr.mono (by decide)) rfl T.g__law_lists T.f__law_lists.kp T.b__law_lists .nil pass0 (pa_cons (pe_callB (call_lenZ (K := K) rfl) (by rfl) T.n_len PySem.boot_len (pa_cons (pv 0) pa_nil)) (pa_cons (pv 1) pa_nil)))) (pg_name (i := 2) sc__law_best.nd rfl (Or.inl rfl))
    (pss_one (ps_if (pt_val (pe_ix (ix_tupK (K := K) rfl) (pe_call (ok__law_torn (K := K) T) (hr.mono (by decide)) rfl T.g__law_torn T.f__law_torn.kp T.b__law_torn .nil pass0 (pa_cons (pv 0) (pa_cons (pv 2) pa_nil))) pe_int (fun _ _ => rfl)))
    (pss_one (ps_ret (pv 2)))
    pss_nil)))))))
    (pss_one (ps_ret pe_non)))) fun ds Nv Ne hw => ?_
    obtain ⟨n, m, rfl, hn, hmn, hm, k⟩ := hw
    have hB := used_below hm
    walk_at "zz"
    refine zs_forL (zi_range1 ?_)
    walk_at "zz"
    rw [List.length_map, hmn]
    have h62 : ((n : Int) + 1) < 2 ^ 62 := by omega
    refine ⟨by omega, h62, fun i ρ => ∃ p2 p3 : Sl, ρ = [.v (matD false false m), p2, p3] ∧ ∀ j, j < i → ∀ t ∈ lists n j, goodB (usedOf m) n t = false, ⟨.un, .un, rfl, fun j hj => absurd hj (Nat.not_lt_zero _)⟩, ?_, ?_⟩
    · rintro ρ ⟨p2, p3, rfl, h0⟩
      have hl1 := h0 n (by rw [List.length_map, List.length_range]; omega) (List.range n) (by rw [lists_all hn]; exact List.mem_singleton.mpr rfl)
      rw [good_all hB] at hl1
      cases hl1
    · rintro i d ρ hd ⟨p2, p3, rfl, h0⟩
      obtain ⟨hi, rfl⟩ := rng_at (n := n + 1) hd
      obtain ⟨hll, hL⟩ := lists_small hn (s := i) (by omega)
      walk_at "zz"
      refine zs_forL (zi_list ?_)
      walk_at "zz"
      refine ⟨i, by omega, n, by simp only [Dt.olds, Dt.old, List.length_map, hmn], hn, by omega, ?_⟩
      refine ⟨_, _, rfl, fun k ρ => ∃ p3 : Sl, ρ = [.v (matD false false m), .v (.int (i : Int)), p3] ∧ ∀ t ∈ (lists n i).take k, goodB (usedOf m) n t = false, ⟨_, rfl, fun t ht => nomatch ht⟩, ?_, ?_⟩
      · rintro ρ ⟨p3, rfl, h1⟩
        rw [List.length_map, List.take_length] at h1
        refine ⟨trivial, _, _, rfl, fun j hj t ht => ?_⟩
        by_cases c : j < i
        · exact h0 j c t ht
        · have e : j = i := by omega
          subst e
          exact h1 t ht
      · rintro q d ρ hd ⟨p3, rfl, h1⟩
        rw [List.getElem?_map] at hd
        cases ht : (lists n i)[q]? with
        | none => rw [ht] at hd; cases hd
        | some t =>
          rw [ht] at hd
          cases hd
          have htm := List.mem_of_getElem? ht
          walk_at "zz"
          refine ⟨n, m, t, by simp only [Dt.olds, matD_old, natL_old], hn, hmn, hm, (hL t htm).1, ?_⟩
          walk_at "zz"
          by_cases hg : goodB (usedOf m) n t = true
          · refine zT hg ?_
            walk_at "zz"
            rw [best_hit2 hi h0 ht h1 hg] at k
            exact k
          · refine zF hg ?_
            walk_at "zz"
            intro t' ht'
            rw [List.take_succ, ht] at ht'
            rcases List.mem_append.mp ht' with h | h
            · exact h1 t' h
            · rw [List.mem_singleton.mp (show t' ∈ [t] from h)]
              exact Bool.eq_false_iff.mpr hg
def wTold : Wz := fun ds Nv _ => ∃ (n : Nat) (m : List (List (Int × Int))) (Ks : List Nat), ds = [ratsD false false m, natL false Ks] ∧ n ≤ 6 ∧ m.length = n ∧ MatOk n m ∧ Ks.length ≤ 6 ∧
  ((runF (usedOf m) n Ks).length + Ks.length < n → Nv (.tup [.str "refused", .str "singular"]) false) ∧ (¬ (runF (usedOf m) n Ks).length + Ks.length < n → Nv (.tup [pairsD true (runF (usedOf m) n Ks), natL true (restL n (runF (usedOf m) n Ks))]) false)
set_option maxHeartbeats 4000000 in
theorem ok__law_told (T : Top w K mg) : FnOk P w K mg base CX0 6 (He.ga K ("_law_told" : Str)) (fdOf K d__law_told) ["rows", "tears"] (spZ K wTold) := by
  refine (T.f__law_told).ok sc__law_told (fun vs H Q E h => spz_len h (n := 2) fun ds Nv Ne hw => ?_) (fun cdv A outer s H vs Q E hr h => ?_)
  · obtain ⟨_, _, _, rfl, _⟩ := hw
    rfl
  · refine z_fn h (PSs.nox (pss_one (ps_tryO (Wout := fun _ _ _ _ => False) rfl rfl ⟨rfl, by decide, .inl T.g_Singular⟩ takes0
    (fun W pn xe tk _ => (pss_one (ps_ret (pe_callS (ok_torn (K := K) T) (hr.mono (by decide)) rfl T.g_torn T.f_torn.kp T.b_torn (fun σ => passAt tk σ) (pa_cons (pv 0) (pa_cons (pv 1) pa_nil))))))
    (fun a oe cls d pn _ _ => (pss_given (P := cls = .ref (He.ga K ("Singular" : Str)) ∧ d = none) fun q => by obtain ⟨q1, q2⟩ := q; subst q1 q2; exact (pss_one (ps_ret (pe_tup (pa_cons pe_str (pa_cons pe_str pa_nil)))))))))) fun ds Nv Ne hw => ?_
    obtain ⟨n, m, Ks, rfl, hn, hmn, hm, hK, k1, k2⟩ := hw
    refine zs_tryRetC ?_
    walk_at "zz"
    refine ⟨n, m, Ks, by simp only [Dt.olds, ratsD_old, natL_old], hn, hmn, hm, hK, fun c => ⟨rfl, catch_only rfl T.exm_Singular_Singular fun a => zs_given ⟨rfl, rfl⟩ ?_⟩, fun c => k2 c⟩
    walk_at "zz"
    exact k1 c
end
end Tr
/-! ### == and != of equal data that holds Ratios: nothing else stays behind -/
def NoFz (H H' : Hp) : Prop := ∀ a ob u, H' a = some (.frz ob u) → H a = some (.frz ob u)
/-- H', without the frozen that H has not -/
def unFz (H H' : Hp) : Hp := fun a => match H' a with
  | some (.frz _ _) => H a
  | o => o
theorem unFz_of {H H' : Hp} {a : Addr} {o : HO} (h : H' a = some o) (n : isFz o = false) : unFz H H' a = some o := by
  unfold unFz
  rw [h]
  cases o <;> first | rfl | cases n
theorem unFz_none {H H' : Hp} (e : Ext H H') {a : Addr} (h : H' a = none) : unFz H H' a = none := by
  unfold unFz
  rw [h]
theorem unFz_old {H H' : Hp} (e : Ext H H') {a : Addr} {o : HO} (h : H a = some o) : unFz H H' a = some o := by
  unfold unFz
  rw [e _ _ h]
  cases o <;> first | rfl | exact h
theorem unFz_sub {H H' : Hp} (e : Ext H H') {a : Addr} {o : HO} (h : unFz H H' a = some o) : H' a = some o := by
  unfold unFz at h
  split at h
  · exact e _ _ h
  · exact h
theorem unFz_noFz {H H' : Hp} : NoFz H (unFz H H') := fun a ob u h => by
  unfold unFz at h
  split at h
  · exact h
  · rename_i x hx
    exact absurd h (hx ob u)
theorem objOk_unFz {P : Program} {w : World} {H H' : Hp} {h : Heap} (e : Ext H H') {a : Addr} : ∀ {o : HO}, ObjOk P w H' h a o → ObjOk P w (unFz H H') h a o
  | .lst _, x => x
  | .tup _, x => x
  | .dK _, x => x
  | .dT kvs, x => by
    obtain ⟨h1, h2, xs, h3, h4⟩ := x
    exact ⟨h1, h2, xs, Paired.mapP h3 fun p q ⟨a1, a2, a3⟩ => ⟨a1, unFz_of a2 rfl, a3⟩, h4⟩
  | .set _ _, x => x
  | .ins _ _ _, x => by
    obtain ⟨h1, h2⟩ := x
    exact ⟨unFz_of h1 rfl, h2⟩
  | .own _, x => x
  | .xd _, x => x
  | .rng _ _, x => x
  | .frz o u, x => by
    obtain ⟨h1, h2⟩ := x
    exact ⟨h1, objOk_unFz e h2⟩
  | .tbl _, x => x
  | .met _ _, x => x
  | .ext _, x => x
theorem inv_unFz {X : Cx} {pins : List (Addr × Obj)} {σ : L2.St} {H H' : Hp} {s s' : Shared} (I : Inv X pins σ H s) (I' : Inv X pins σ H' s') (e : Ext H H') : Inv X pins σ (unFz H H') s' where
  ok := I'.ok
  os := I'.os
  bare := I'.bare
  base := ⟨I'.base.keep, I'.base.slot, fun b o q n hx => unFz_none e (I'.base.free b o q n hx), I'.base.there, fun b xs q => unFz_of (I'.base.tups b xs q) rfl, fun b o u q => unFz_old e (I.base.frzs b o u q), fun b ps q => by
    obtain ⟨more, hm⟩ := I'.base.tbls b ps q
    exact ⟨more, unFz_of hm rfl⟩⟩
  loc := I'.loc
  cell := I'.cell
  free := unFz_none e I'.free
  freeC := fun x c q => unFz_none e (I'.freeC x c q)
  pin := fun p hp => by
    obtain ⟨h1, h2, h3⟩ := I'.pin p hp
    exact ⟨h1, unFz_none e h2, h3⟩
  hok := fun a o q => objOk_unFz e (I'.hok a o (unFz_sub e q))
  len := I'.len
def rEqZ (D : Eqv) (b : Bool) : R2 := fun x y H Q => D x y H ∧ ∀ H', Ext H H' → NoFz H H' → Q (.bl b) H'
theorem op_eqZ {X : Cx} {n : Nat} {D : Eqv} (h : RcG X n D) (hr : Room n X.A) : OpR X (compareOp .Eq) (rEqZ D true) := by
  intro pins s σ H x y v u Q I rx ry hq
  obtain ⟨d, q⟩ := hq
  show wpAny (model X.prog X.w) X.A (richCompare .Eq v u) (EP X pins σ Q) X.xe s
  refine wpAny_mono (h X.A pins s σ H x y v u ⟨hr, rfl⟩ I rx ry d) (fun r s' z => ?_) fun _ _ x => x
  obtain ⟨rfl, H', I', e⟩ := z
  exact ⟨.bl true, _, inv_unFz I I' e, rfl, q _ (fun a o w => unFz_old e w) unFz_noFz⟩
theorem op_neZ {X : Cx} {n : Nat} {D : Eqv} (h : RnG X n D) (hr : Room n X.A) : OpR X (compareOp .NotEq) (rEqZ D false) := by
  intro pins s σ H x y v u Q I rx ry hq
  obtain ⟨d, q⟩ := hq
  show wpAny (model X.prog X.w) X.A (richCompare .NotEq v u) (EP X pins σ Q) X.xe s
  refine wpAny_mono (h X.A pins s σ H x y v u ⟨hr, rfl⟩ I rx ry d) (fun r s' z => ?_) fun _ _ x => x
  obtain ⟨rfl, H', I', e⟩ := z
  exact ⟨.bl false, _, inv_unFz I I' e, rfl, q _ (fun a o w => unFz_old e w) unFz_noFz⟩
theorem RcG.or {X : Cx} {n : Nat} {D D' : Eqv} (h : RcG X n D) (h' : RcG X n D') : RcG X n (fun x y H => D x y H ∨ D' x y H) := fun A pins s σ H x y u v sb I rx ry d => by
  rcases d with d | d
  · exact h A pins s σ H x y u v sb I rx ry d
  · exact h' A pins s σ H x y u v sb I rx ry d
theorem RnG.or {X : Cx} {n : Nat} {D D' : Eqv} (h : RnG X n D) (h' : RnG X n D') : RnG X n (fun x y H => D x y H ∨ D' x y H) := fun A pins s σ H x y u v sb I rx ry d => by
  rcases d with d | d
  · exact h A pins s σ H x y u v sb I rx ry d
  · exact h' A pins s σ H x y u v sb I rx ry d
theorem OpR.or2 {X : Cx} {op : Value → Value → Sem Value} {r r' : R2} (h : OpR X op r) (h' : OpR X op r') : OpR X op (fun x y H Q => r x y H Q ∨ r' x y H Q) := by
  intro pins s σ H x y v u Q I rx ry hq
  rcases hq with q | q
  · exact h pins s σ H x y v u Q I rx ry q
  · exact h' pins s σ H x y v u Q I rx ry q
/-! what is equal -/
def RatR (K : PySem.W.Frag) (a b : Addr) (H : Hp) : Prop := ∃ n d, RatAt K H a n d ∧ RatAt K H b n d
def DZ (K : PySem.W.Frag) : Nat → Eqv
  | 0 => fun x y H => DFlat x y H ∨ DIns (He.ga K "Ratio") (RatR K) x y H
  | n + 1 => fun x y H => DZ K n x y H ∨ (DTup K (DZ K n) x y H ∨ DList (DZ K n) x y H)
theorem mon_dz (K : PySem.W.Frag) : ∀ n, Mon (DZ K n)
  | 0 => Mon.or mon_flat (mon_ins fun a b H H' e ⟨n, d, h1, h2⟩ => ⟨n, d, h1.mono e, h2.mono e⟩)
  | n + 1 => Mon.or (mon_dz K n) (Mon.or (mon_tup (mon_dz K n)) (mon_list (mon_dz K n)))
theorem DZ.up {K : PySem.W.Frag} {x y : V} {H : Hp} {n m : Nat} (h : n ≤ m) (d : DZ K n x y H) : DZ K m x y H := by
  induction h with
  | refl => exact d
  | step _ ih => exact .inl ih
mutual
inductive EqD : Nat → Dt → Dt → Prop
  | flat {n : Nat} {d : Dt} {u : V} : flatD d = some u → EqD n d d
  | rat {n : Nat} (a b : Int) : EqD n (.rat a b) (.rat a b)
  | tup {n : Nat} {ds es : List Dt} : EqDs n ds es → EqD (n + 1) (.tup ds) (.tup es)
  | lst {n : Nat} {t s : Bool} {ds es : List Dt} : EqDs n ds es → EqD (n + 1) (.lst t ds) (.lst s es)
inductive EqDs : Nat → List Dt → List Dt → Prop
  | nil {n : Nat} : EqDs n [] []
  | cons {n : Nat} {d e : Dt} {ds es : List Dt} : EqD n d e → EqDs n ds es → EqDs n (d :: ds) (e :: es)
end
theorem eqV_self {v : V} (h : flatV v = true) : eqV v v = true := by cases v <;> first | rfl | (simp [eqV]; done) | cases h
mutual
theorem EqD.dz {K : PySem.W.Frag} {B B' F F' H : Hp} (l : Le F H) (l' : Le F' H) : ∀ {n : Nat} {d e : Dt} {x y : V}, EqD n d e → Rz K B F d x → Rz K B' F' e y → DZ K n x y H
  | n, _, _, x, y, .flat h, r, r' => by
    obtain ⟨h1, h2⟩ := flat_rz h r
    obtain ⟨h3, _⟩ := flat_rz h r'
    rw [h1, h3]
    exact DZ.up (Nat.zero_le n) (.inl ⟨h2, h2, eqV_self h2⟩)
  | n, _, _, x, y, .rat a b, r, r' => by
    simp only [Rz] at r r'
    obtain ⟨p, dx, rfl, h1⟩ := r
    obtain ⟨q, dy, rfl, h2⟩ := r'
    have e1 := l.exact h1 rfl
    have e2 := l'.exact h2 rfl
    exact DZ.up (Nat.zero_le n) (.inr ⟨p, q, dx, dy, _, _, rfl, rfl, e1, e2, a, b, ⟨dx, e1⟩, ⟨dy, e2⟩⟩)
  | _, _, _, x, y, .tup h, r, r' => by
    simp only [Rz] at r r'
    obtain ⟨p, xs, rfl, h1, r⟩ := r
    obtain ⟨q, ys, rfl, h2, r'⟩ := r'
    exact .inr (.inl ⟨p, q, xs, ys, rfl, rfl, SqT.of (l.exact h1 rfl), SqT.of (l'.exact h2 rfl), EqDs.dz l l' h r r'⟩)
  | _, _, _, x, y, .lst h, r, r' => by
    simp only [Rz] at r r'
    obtain ⟨p, xs, rfl, h1, _, r⟩ := r
    obtain ⟨q, ys, rfl, h2, _, r'⟩ := r'
    exact .inr (.inr ⟨p, q, xs, ys, rfl, rfl, l.exact h1 rfl, l'.exact h2 rfl, EqDs.dz l l' h r r'⟩)
theorem EqDs.dz {K : PySem.W.Frag} {B B' F F' H : Hp} (l : Le F H) (l' : Le F' H) : ∀ {n : Nat} {ds es : List Dt} {xs ys : List V}, EqDs n ds es → Rzl K B F ds xs → Rzl K B' F' es ys → Prs (DZ K n) xs ys H
  | _, _, _, _, _, .nil, r, r' => by
    rw [r.inv0, r'.inv0]
    exact Prs.nil
  | _, _, _, _, _, .cons h h', r, r' => by
    obtain ⟨v, vs, rfl, a1, a2⟩ := r.inv
    obtain ⟨u, us, rfl, b1, b2⟩ := r'.inv
    exact Prs.cons (EqD.dz l l' h a1 b1) (EqDs.dz l l' h' a2 b2)
end
def DZ1 (K : PySem.W.Frag) (n : Nat) : Eqv := fun x y H => DTup K (DZ K n) x y H ∨ DList (DZ K n) x y H
theorem EqD.dz1 {K : PySem.W.Frag} {B B' F F' H : Hp} (l : Le F H) (l' : Le F' H) {n : Nat} {d e : Dt} {x y : V} (h : EqD (n + 1) d e) (nf : flatD d = none) (nr : ∀ a b, d ≠ .rat a b) (r : Rz K B F d x) (r' : Rz K B' F' e y) : DZ1 K n x y H := by
  cases h with
  | flat h => rw [nf] at h; cases h
  | rat a b => exact absurd rfl (nr a b)
  | tup h =>
    simp only [Rz] at r r'
    obtain ⟨p, xs, rfl, h1, r⟩ := r
    obtain ⟨q, ys, rfl, h2, r'⟩ := r'
    exact .inl ⟨p, q, xs, ys, rfl, rfl, SqT.of (l.exact h1 rfl), SqT.of (l'.exact h2 rfl), EqDs.dz l l' h r r'⟩
  | lst h =>
    simp only [Rz] at r r'
    obtain ⟨p, xs, rfl, h1, _, r⟩ := r
    obtain ⟨q, ys, rfl, h2, _, r'⟩ := r'
    exact .inr ⟨p, q, xs, ys, rfl, rfl, l.exact h1 rfl, l'.exact h2 rfl, EqDs.dz l l' h r r'⟩
/-- the rule: plain data, or what is equal -/
def rEqZZ (K : PySem.W.Frag) (n : Nat) : R2 := fun x y H Q => rEqD K x y H Q ∨ rEqZ (DZ1 K n) true x y H Q
def rNeZZ (K : PySem.W.Frag) (n : Nat) : R2 := fun x y H Q => rNeD K x y H Q ∨ rEqZ (DZ1 K n) false x y H Q
section
variable {z : Cz} {ρ : List Sl} {N : Dt → Bool → List Sl → Prop} {ta tb : TE}
theorem Sm.ext0 {m : Fm} {F H H' : Hp} {σ : L2.St} (S : Sm z m F H σ ρ) (e : Ext H H') (n : NoFz H H') : Sm z m F H' σ ρ := S.ext (Same.refl F) e (S.lk.same e) (Nw.refl F H) n
theorem ze_eqZ {K' : PySem.W.Frag} {n : Nat} (hK : K' = z.K) (h : ZE z ta ρ fun x _ ρ1 => ZE z tb ρ1 fun y _ ρ2 => EqD (n + 1) x y ∧ flatD x = none ∧ (∀ a b, x ≠ .rat a b) ∧ N (.bl true) false ρ2) : ZE z (tOp (rEqZZ K' n) ta tb) ρ N :=
  ze_op2w (W := fun x y N ρ2 => EqD (n + 1) x y ∧ flatD x = none ∧ (∀ a b, x ≠ .rat a b) ∧ N (.bl true) false ρ2) (fun x y ρ2 N n2 m F H σ Q vx vy S r1 r2 k => by
    subst hK
    obtain ⟨h1, h2, h3, n⟩ := n2
    exact .inr ⟨h1.dz1 S.le S.le h2 h3 r1 r2, fun H' e nf => k _ _ _ _ _ _ n (Same.refl F) (S.ext0 e nf) (rzF_f rzb)⟩) h
theorem ze_neZ {K' : PySem.W.Frag} {n : Nat} (hK : K' = z.K) (h : ZE z ta ρ fun x _ ρ1 => ZE z tb ρ1 fun y _ ρ2 => EqD (n + 1) x y ∧ flatD x = none ∧ (∀ a b, x ≠ .rat a b) ∧ N (.bl false) false ρ2) : ZE z (tOp (rNeZZ K' n) ta tb) ρ N :=
  ze_op2w (W := fun x y N ρ2 => EqD (n + 1) x y ∧ flatD x = none ∧ (∀ a b, x ≠ .rat a b) ∧ N (.bl false) false ρ2) (fun x y ρ2 N n2 m F H σ Q vx vy S r1 r2 k => by
    subst hK
    obtain ⟨h1, h2, h3, n⟩ := n2
    exact .inr ⟨h1.dz1 S.le S.le h2 h3 r1 r2, fun H' e nf => k _ _ _ _ _ _ n (Same.refl F) (S.ext0 e nf) (rzF_f rzb)⟩) h
end
section
variable {P : Program} {w : World} {K : PySem.W.Frag} {mg : Str → Option Value} {base : Heap}
theorem r_isiRat {H : Hp} {Q : VK} {x : Addr} {n d : Int} (T : Top w K mg) (r : RatAt K H x n d) (h : Q (.bl true) H) : rIsi K [.ref x, .ref (He.ga K "Ratio")] H Q := by
  obtain ⟨dx, r⟩ := r
  exact r_isi (isi_ins T.x_isi_Ratio T.cls_Ratio r) (.own _) (of_decide_eq_true T.x_kit_Ratio_Ratio) h
theorem ok_Ratio___eq__ (T : Top w K mg) : FnOk P w K mg base CX0 1 (He.ma K (He.ga K ("Ratio" : Str)) ("__eq__" : Str)) (fdOf K d_Ratio___eq__) ["self", "other"] (spEq (RatR K)) := by
  refine (T.f_Ratio___eq__).ok sc_Ratio___eq__ (fun vs H Q E h => ?_) (fun cdv A outer s H vs Q E hr h => ?_)
  · obtain ⟨x, y, rfl, _⟩ := h
    rfl
  · obtain ⟨x, y, rfl, ⟨n, d, ⟨dx, hx⟩, ry⟩, k⟩ := h
    obtain ⟨dy, hy⟩ := id ry
    refine ⟨_, PSs.nox (pss_one (ps_ret (pe_and (pe_callB (call_isiK' (K := K) rfl) (by rfl) T.n_isinstance (by decide +kernel) (pa_cons (pv 1) (pa_cons (pe_glob (v := .ref (He.ga K ("Ratio" : Str))) rfl T.g_Ratio rfl) pa_nil))) (pe_and (pe_cmpR op_eq (pe_fldK (K := K) rfl (pv 0) rfl) (pe_fldK (K := K) rfl (pv 1) rfl) (nomark _)) (pe_one (pe_cmpR op_eq (pe_fldK (K := K) rfl (pv 0) rfl) (pe_fldK (K := K) rfl (pv 1) rfl) (nomark _))))))), ?_⟩
    walk_at "go"
    refine r_isiRat T ry ?_
    walk_at "go"
    refine ⟨_, _, _, _, _, rfl, hx, T.cls_Ratio, T.na_Ratio_top, r2_top _ _, ?_⟩
    walk_at "go"
    refine ⟨_, _, _, _, _, rfl, hy, T.cls_Ratio, T.na_Ratio_top, r2_top _ _, ?_⟩
    walk_at "go"
    refine ite_d (fun c => ?_) (fun c => absurd rfl c)
    walk_at "go"
    refine ⟨_, _, _, _, _, rfl, hx, T.cls_Ratio, T.na_Ratio_bottom, r2_bot _ _, ?_⟩
    walk_at "go"
    refine ⟨_, _, _, _, _, rfl, hy, T.cls_Ratio, T.na_Ratio_bottom, r2_bot _ _, ?_⟩
    walk_at "go"
    rw [decide_eq_true rfl]
    exact k H Ext.rfl'
theorem eqDZ (T : Top w K mg) {X : Cx} (hp : X.prog = P) (hw : X.w = w) (hk : X.K = K) (hm : X.mg = mg) : ∀ n, EqG X (1 + n) (DZ K n)
  | 0 => by
    subst hp hw hk hm
    exact EqG.or ((eqG_flat (X := X)).mono (Nat.zero_le 1)) (eqG_ins (ok_Ratio___eq__ (base := X.base) T) T.m_Ratio___eq__.at_ T.m_Ratio___eq__.fn T.b_Ratio___eq__ pass0)
  | n + 1 => by
    have ih := eqDZ T hp hw hk hm n
    subst hp hw hk hm
    exact EqG.or (ih.mono (Nat.le_succ _)) (EqG.or (eqG_tup (mon_dz _ n) ih) (eqG_list (mon_dz _ n) ih))
theorem op_eqZZ (T : Top w K mg) (n : Nat) {X : Cx} (hu : X.A.units + 64 < cLine) (hr : Room (1 + n + 1) X.A) (hp : X.prog = P := by rfl) (hw : X.w = w := by rfl) (hk : X.K = K := by rfl) (hm : X.mg = mg := by rfl) : OpR X (compareOp .Eq) (rEqZZ K n) := by
  have h := eqDZ T hp hw hk hm n
  refine OpR.or2 (op_eqDK hk hu) (op_eqZ (RcG.or ?_ (rcG_list (mon_dz K n) h)) hr)
  subst hk
  exact rcG_tup (mon_dz _ n) h
theorem op_neZZ (T : Top w K mg) (n : Nat) {X : Cx} (hu : X.A.units + 64 < cLine) (hr : Room (1 + n + 1) X.A) (hp : X.prog = P := by rfl) (hw : X.w = w := by rfl) (hk : X.K = K := by rfl) (hm : X.mg = mg := by rfl) : OpR X (compareOp .NotEq) (rNeZZ K n) := by
  have h := eqDZ T hp hw hk hm n
  refine OpR.or2 (op_neDK hk hu) (op_neZ (RnG.or ?_ (rnG_list (mon_dz K n) h)) hr)
  subst hk
  exact rnG_tup (mon_dz _ n) h
end
section
variable {z : Cz} {ρ : List Sl} {N : Dt → Bool → List Sl → Prop} {ta tb te : TE} {i j : Nat}
/-- plain data, whatever the answer -/
theorem ze_eqDZ {K' : PySem.W.Frag} {n : Nat} (hK : K' = z.K) (h : ZE z ta ρ fun x _ ρ1 => ZE z tb ρ1 fun y _ ρ2 => ∃ p q, toQ x = some p ∧ toQ y = some q ∧ SeqAt.shaped p = true ∧ SeqAt.shaped q = true ∧ N (.bl (PyData.eqv p q)) false ρ2) : ZE z (tOp (rEqZZ K' n) ta tb) ρ N :=
  ze_op2w (W := fun x y N ρ2 => ∃ p q, toQ x = some p ∧ toQ y = some q ∧ SeqAt.shaped p = true ∧ SeqAt.shaped q = true ∧ N (.bl (PyData.eqv p q)) false ρ2) (fun x y ρ2 N n2 m F H σ Q vx vy S r1 r2 k => by
    subst hK
    obtain ⟨p, q, h1, h2, h3, h4, n⟩ := n2
    exact .inl ⟨p, q, toQ_dp S.le x p vx h1 r1, toQ_dp S.le y q vy h2 r2, h3, h4, k _ _ _ _ _ _ n (Same.refl F) S (rzF_f rzb)⟩) h
theorem ze_neDvZ {K' : PySem.W.Frag} {n : Nat} (hK : K' = z.K) {c0 : Dt} (h0 : ρ[i]? = some (.o c0)) (h : ZE z tb ρ fun y _ ρ2 => ∃ t ds p q, ρ2[i]? = some (.o (.lst t ds)) ∧ toQ (.lst t ds) = some p ∧ toQ y = some q ∧ SeqAt.shaped p = true ∧ SeqAt.shaped q = true ∧ N (.bl (!PyData.eqv p q)) false ρ2) : ZE z (tOp (rNeZZ K' n) (tVar i) tb) ρ N := fun m F H σ Q S k => by
  subst hK
  obtain ⟨l, e, _⟩ := S.geto h0
  refine ⟨_, e, h m F H σ _ S fun y fy ρ2 F2 H2 vy n2 s2 S2 r2 => ?_⟩
  obtain ⟨F3, s3, S3, ry⟩ := rzF_frz S2 r2
  obtain ⟨t, ds, p, q, hi, h1, h2, h3, h4, n⟩ := n2
  exact .inl ⟨p, q, S3.own_dp hi e h1, toQ_dp S3.le y q vy h2 ry, h3, h4, k _ _ _ _ _ _ n (s2.trans s3) S3 (rzF_f rzb)⟩
theorem ze_isivT {nm : String} {d0 : Dt} (h0 : ρ[i]? = some (.o d0)) (h : ∃ t b, TyD z.K d0 t ∧ PySem.W.kitOne z.K t (.type nm) = some b ∧ N (.bl b) false ρ) : ZE z (tCB (rIsi z.K) (tCons (tVar i) (tCons (tC (.ty nm)) tNil))) ρ N := by
  obtain ⟨t, b, h1, h2, n⟩ := h
  exact ze_isiv (.ty nm) h0 h1 h2 n
theorem ze_notInDv {K' : PySem.W.Frag} (hK : K' = z.K) (h : ZE z ta ρ fun x _ ρ1 => ∃ p t ds ps, ρ1[i]? = some (.o (.lst t ds)) ∧ toQ x = some p ∧ toQs ds = some ps ∧ SeqAt.shaped p = true ∧ SeqAt.shaped (.list ps) = true ∧ N (.bl (!ps.any fun z => PyData.eqv z p)) false ρ1) : ZE z (tOp (rNotInD K') ta (tVar i)) ρ N := fun m F H σ Q S k => by
  subst hK
  refine h m F H σ _ S fun x fx ρ1 F1 H1 vx n1 s1 S1 r1 => ?_
  obtain ⟨F2, s2, S2, rx⟩ := rzF_frz S1 r1
  obtain ⟨p, t, ds, ps, hi, h1, h2, h3, h4, n⟩ := n1
  obtain ⟨l, e, _⟩ := S2.geto hi
  exact ⟨_, e, p, ps, toQ_dp S2.le x p vx h1 rx, S2.own_dp hi e (by simp only [toQ, h2]), h3, h4, k _ _ _ _ _ _ n (s1.trans s2) S2 (rzF_f rzb)⟩
theorem ze_neZv {K' : PySem.W.Frag} {n : Nat} (hK : K' = z.K) {c0 : Dt} (h0 : ρ[i]? = some (.o c0)) (h : ZE z tb ρ fun y _ ρ2 => ∃ t ds, ρ2[i]? = some (.o (.lst t ds)) ∧ EqD (n + 1) (.lst t ds) y ∧ N (.bl false) false ρ2) : ZE z (tOp (rNeZZ K' n) (tVar i) tb) ρ N := fun m F H σ Q S k => by
  subst hK
  obtain ⟨l, e, _⟩ := S.geto h0
  refine ⟨_, e, h m F H σ _ S fun y fy ρ2 F2 H2 vy n2 s2 S2 r2 => ?_⟩
  obtain ⟨F3, s3, S3, ry⟩ := rzF_frz S2 r2
  obtain ⟨t, ds, hi, hq, n⟩ := n2
  obtain ⟨l', e', f1, f2, f3, ho, f4, f5⟩ := S3.geto hi
  rw [e] at e'
  cases e'
  have rl := f5.rz f2 f1
  have lel : Le (upd F3 l ho) H2 := fun a o q => by
    by_cases c : a = l
    · subst c
      rw [upd_same] at q
      cases q
      exact .inl f4
    · rw [upd_ne c] at q
      exact S3.le a o q
  exact .inr ⟨hq.dz1 lel S3.le rfl (fun _ _ q => nomatch q) rl ry, fun H' ex nf => k _ _ _ _ _ _ n (s2.trans s3) (S3.ext0 ex nf) (rzF_f rzb)⟩
end
local macro_rules | `(tactic| walk_at "z1") => `(tactic| first | ((with_reducible apply ze_isivT); exact rfl))
namespace Tr
theorem z_rest57 {K : PySem.W.Frag} {E : XK} {t : TS} {N : List Str} {ds : List Dt} {vs : List V} {H : Hp} {D : Ends} (r : Rzl K H H ds vs)
    (go : ZS ⟨K, E, fun _ _ => False⟩ t (slots N ds) ⟨fun _ => False, fun d fr => d = .bl true ∧ fr = false, fun _ => False, fun _ => False⟩) (k : ∀ H', D.rt (.bl true) H') : t D (L2.start N vs) H :=
  go (fmE H H) H H _ D (Sm.start (Le.refl H) r fun _ _ _ _ f => f.elim) (fun _ _ _ _ f => f.elim) (fun d fr F' H' v n s R => by
    obtain ⟨rfl, rfl⟩ := n
    obtain ⟨_, r⟩ := R
    rw [if_neg (by decide)] at r
    rw [rz_b r]
    exact k _) (fun _ _ _ _ f => f.elim) fun _ _ _ _ f => f.elim
def vOb (ρ : List Sl) : Bool := ρ.all fun s => match s with
  | .un => true
  | .v _ => true
  | _ => false
theorem vOn_of {ρ : List Sl} (h : vOb ρ = true) : Md.vOn ρ := fun k s q => by
  have := List.all_eq_true.mp h s (List.mem_of_getElem? q)
  cases s with
  | un => exact .inl rfl
  | v d => exact .inr ⟨d, rfl⟩
  | o d => cases this
  | l a d => cases this
theorem zs_at57 {z : Cz} {t : TS} {ρ ρ' : List Sl} {D : Zn} (e : ρ = ρ') (h : ZS z t ρ' D) : ZS z t ρ D := e ▸ h
theorem eqds_map {α : Type} {n : Nat} {f g : α → Dt} (h : ∀ a, EqD n (f a) (g a)) : ∀ xs : List α, EqDs n (xs.map f) (xs.map g)
  | [] => .nil
  | x :: xs => .cons (h x) (eqds_map h xs)
theorem eqd_nats (n : Nat) (t s : Bool) (xs : List Nat) : EqD (n + 1) (natL t xs) (natL s xs) := .lst (eqds_map (fun _ => .flat rfl) xs)
theorem eqd_pairs (n : Nat) (t s : Bool) (xs : List (Nat × Nat)) : EqD (n + 2) (pairsD t xs) (pairsD s xs) := .lst (eqds_map (fun _ => .tup (.cons (.flat rfl) (.cons (.flat rfl) .nil))) xs)
theorem eqd_rats (n : Nat) (t s t' s' : Bool) (m : List (List (Int × Int))) : EqD (n + 2) (ratsD t t' m) (ratsD s s' m) := .lst (eqds_map (fun r => .lst (eqds_map (fun _ => .rat _ _) r)) m)
theorem best_len {U : List (List Nat)} {n : Nat} (hn : n ≤ 6) : (bestL U n).length ≤ 6 := by
  unfold bestL
  cases e : ((List.range (n + 1)).flatMap (lists n)).find? (goodB U n) with
  | none => exact Nat.zero_le _
  | some t =>
    obtain ⟨j, hj, ht⟩ := List.mem_flatMap.mp (List.mem_of_find?_eq_some e)
    have := lists_len ht
    have := List.mem_range.mp hj
    rw [Option.getD_some]
    omega
end Tr
section
open Tr
variable {P : Program} {w : World} {K : PySem.W.Frag} {mg : Str → Option Value} {base : Heap}
def spLaw (K : PySem.W.Frag) : Sp := fun vs H Q _ => ∃ (a : Addr) (ns : List Int), vs = [.ref a] ∧ SqL K H a (ns.map V.int) ∧ ns.length ≤ 63 ∧ ∀ H', Q (.bl true) H'
set_option maxHeartbeats 8000000 in
theorem ok_law (T : Top w K mg) : FnOk P w K mg base CX0 60 (He.ga K ("law" : Str)) (fdOf K d_law) ["script"] (spLaw K) := by
  refine (T.f_law).ok sc_law (fun vs H Q E h => ?_) (fun cdv A outer s H vs Q E hr h => ?_)
  · obtain ⟨a, ns, rfl, _⟩ := h
    rfl
  · obtain ⟨sa, ns, rfl, hS, h63, k⟩ := h
    refine ⟨_, PSs.nox (pss_cons (ps_set (i := 1) sc_law.nd rfl (Or.inr rfl) (pe_call (ok__law_stream (K := K) T) (hr.mono (by decide)) rfl T.g__law_stream T.f__law_stream.kp T.b__law_stream .nil pass0 (pa_cons (pv 0) pa_nil)))
    (pss_cons (ps_set (i := 2) sc_law.nd rfl (Or.inl rfl) (pe_op op_add pe_int (pe_call (ok__law_draw (K := K) T) (hr.mono (by decide)) rfl T.g__law_draw T.f__law_draw.kp T.b__law_draw .nil pass0 (pa_cons (pv 1) (pa_cons pe_int pa_nil)))))
    (pss_cons (ps_set (i := 3) sc_law.nd rfl (Or.inl rfl) (pe_call (ok__law_matrix (K := K) T) (hr.mono (by decide)) rfl T.g__law_matrix T.f__law_matrix.kp T.b__law_matrix .nil pass0 (pa_cons (pv 1) (pa_cons (pv 2) (pa_cons (pv 2) pa_nil)))))
    (C8.pss_cut (ps_if (pt_cmpR op_eq (pe_call (ok__law_draw (K := K) T) (hr.mono (by decide)) rfl T.g__law_draw T.f__law_draw.kp T.b__law_draw .nil pass0 (pa_cons (pv 1) (pa_cons pe_int pa_nil))) pe_int (nomark _))
    (pss_one (ps_lockL (ps_setLc (i := 3) (own := [(("row" : Str), 5)]) (g := (gName 5)) (tt := tYes) rfl sc_law.nd rfl rfl (by rfl) (pi_listK (K := K) rfl (pv 3)) (blkOk_by (N := ["script", "stream", "many", "rows", "one", "row", "tears", "j", "given", "found", "rest", "enough", "kept", "actual"]) (sc := defScope s_law) (by decide +kernel)) (fun _ _ _ _ _ => (pg_name (i := 5) sc_law.nd rfl (Or.inl rfl))) (fun _ _ _ _ _ => pts_nil) (fun _ _ _ _ _ => (pe_lockL (pe_lc (own := [(("one" : Str), 4)]) (g := (gName 4)) (tt := tYes) rfl sc_law.nd (pi_listK (K := K) rfl (pv 5)) (blkOk_by (N := ["script", "stream", "many", "rows", "one", "row", "tears", "j", "given", "found", "rest", "enough", "kept", "actual"]) (by first | decide +kernel | kernel_rfl)) (fun _ _ _ _ _ => (pg_name (i := 4) sc_law.nd rfl (Or.inl rfl))) (fun _ _ _ _ _ => pts_nil) (fun _ _ _ _ _ => (pe_ifExp (pt_cmpR op_eq (pe_call (ok__law_draw (K := K) T) (hr.mono (by decide)) rfl T.g__law_draw T.f__law_draw.kp T.b__law_draw .nil pass0 (pa_cons (pv 1) (pa_cons pe_int pa_nil))) pe_int (nomark _)) (pv 4) (pe_tup (pa_cons pe_int (pa_cons pe_int pa_nil)))))))))))
    pss_nil)
    (pss_cons (ps_lockL (ps_setLc (i := 6) (own := [(("j" : Str), 7)]) (g := (gName 7)) rfl sc_law.nd rfl rfl (by rfl) (pi_range1 rfl T.n_range (pa_cons (pv 2) pa_nil)) (blkOk_by (N := ["script", "stream", "many", "rows", "one", "row", "tears", "j", "given", "found", "rest", "enough", "kept", "actual"]) (sc := defScope s_law) (by decide +kernel)) (fun _ _ _ _ _ => (pg_name (i := 7) sc_law.nd rfl (Or.inl rfl))) (fun _ _ _ _ _ => pts_one (pt_cmpR op_eq (pe_call (ok__law_draw (K := K) T) (hr.mono (by decide)) rfl T.g__law_draw T.f__law_draw.kp T.b__law_draw .nil pass0 (pa_cons (pv 1) (pa_cons pe_int pa_nil))) pe_int (nomark _))) (fun _ _ _ _ _ => (pv 7))))
    (pss_cons (ps_set (i := 8) sc_law.nd rfl (Or.inl rfl) (pe_call (ok__law_ratios (K := K) T) (hr.mono (by decide)) rfl T.g__law_ratios T.f__law_ratios.kp T.b__law_ratios .nil pass0 (pa_cons (pv 3) pa_nil)))
    (pss_cons (ps_asg (pe_call (ok__law_torn (K := K) T) (hr.mono (by decide)) rfl T.g__law_torn T.f__law_torn.kp T.b__law_torn .nil pass0 (pa_cons (pv 3) (pa_cons (pv 6) pa_nil))) (pg_tup (by rfl) (pgs_cons (pg_name (i := 9) sc_law.nd rfl (Or.inl rfl)) (pgs_cons (pg_name (i := 10) sc_law.nd rfl (Or.inl rfl)) (pgs_cons (pg_name (i := 11) sc_law.nd rfl (Or.inl rfl)) pgs_nil)))))
    (C8.pss_cut (ps_set (i := 12) sc_law.nd rfl (Or.inl rfl) (pe_callTy (call_listZ (K := K) rfl rfl) (by rfl) T.n_list (by decide +kernel) (pa_cons (pv 6) pa_nil)))
    (pss_cons (ps_set (i := 13) sc_law.nd rfl (Or.inl rfl) (pe_call (ok__law_told (K := K) T) (hr.mono (by decide)) rfl T.g__law_told T.f__law_told.kp T.b__law_told .nil pass0 (pa_cons (pv 8) (pa_cons (pv 12) pa_nil))))
    (pss_cons (ps_if (PW.pt (pw_or (pt_cmpR (op_neZZ T 8 hr.units (by exact hr.mono (by decide))) (pv 8) (pe_call (ok__law_ratios (K := K) T) (hr.mono (by decide)) rfl T.g__law_ratios T.f__law_ratios.kp T.b__law_ratios .nil pass0 (pa_cons (pv 3) pa_nil)) (nomark _)) (pw_or1 (pt_cmpR (op_neZZ T 8 hr.units (by exact hr.mono (by decide))) (pv 12) (pv 6) (nomark _)))))
    (pss_one (ps_ret pe_bl))
    pss_nil)
    (pss_cons (ps_if (pt_not (pt_val (pv 11)))
    (pss_one (ps_ret (pe_and (pe_cmpR (op_eqZZ T 8 hr.units (by exact hr.mono (by decide))) (pv 13) (pe_tup (pa_cons pe_str (pa_cons pe_str pa_nil))) (nomark _)) (pe_one (pe_cmpR (op_eqZZ T 8 hr.units (by exact hr.mono (by decide))) (pe_call (ok_best_tears (K := K) T) (hr.mono (by decide)) rfl T.g_best_tears T.f_best_tears.kp T.b_best_tears .nil pass0 (pa_cons (pv 8) pa_nil)) (pe_call (ok__law_best (K := K) T) (hr.mono (by decide)) rfl T.g__law_best T.f__law_best.kp T.b__law_best .nil pass0 (pa_cons (pv 3) pa_nil)) (nomark _))))))
    pss_nil)
    (pss_cons (ps_if (PW.pt (pw_or (pt_not (pt_val (pe_callB (call_isiK' (K := K) rfl) (by rfl) T.n_isinstance (by decide +kernel) (pa_cons (pv 13) (pa_cons (pe_bltn (v := .ty "tuple") rfl T.n_tuple (by decide +kernel) rfl) pa_nil))))) (pw_or (pt_cmpR (op_neZZ T 8 hr.units (by exact hr.mono (by decide))) (pv 13) (pe_tup (pa_cons (pv 9) (pa_cons (pv 10) pa_nil))) (nomark _)) (pw_or1 (pt_cmpR (op_neZZ T 8 hr.units (by exact hr.mono (by decide))) (pe_call (ok_best_tears (K := K) T) (hr.mono (by decide)) rfl T.g_best_tears T.f_best_tears.kp T.b_best_tears .nil pass0 (pa_cons (pv 8) pa_nil)) (pe_call (ok__law_best (K := K) T) (hr.mono (by decide)) rfl T.g__law_best T.f__law_best.kp T.b__law_best .nil pass0 (pa_cons (pv 3) pa_nil)) (nomark _))))))
    (pss_one (ps_ret pe_bl))
    pss_nil)
    (pss_cons (ps_expr (pe_bm PySem.F.plainAttrs_list PySem.F.slot_list_append PySem.F.type_list_append mt_append (pe_ix (ix_tupK (K := K) rfl) (pv 13) pe_int (fun _ _ => rfl)) (pa_cons pe_int pa_nil)))
    (pss_cons (ps_expr (pe_bm PySem.F.plainAttrs_list PySem.F.slot_list_append PySem.F.type_list_append mt_append (pe_call (ok_best_tears (K := K) T) (hr.mono (by decide)) rfl T.g_best_tears T.f_best_tears.kp T.b_best_tears .nil pass0 (pa_cons (pv 8) pa_nil)) (pa_cons pe_int pa_nil)))
    (pss_one (ps_ret (pe_and (pe_cmpR (op_eqZZ T 8 hr.units (by exact hr.mono (by decide))) (pe_call (ok__law_told (K := K) T) (hr.mono (by decide)) rfl T.g__law_told T.f__law_told.kp T.b__law_told .nil pass0 (pa_cons (pv 8) (pa_cons (pv 12) pa_nil))) (pe_tup (pa_cons (pv 9) (pa_cons (pv 10) pa_nil))) (nomark _)) (pe_one (pe_cmpR (op_eqZZ T 8 hr.units (by exact hr.mono (by decide))) (pe_call (ok_best_tears (K := K) T) (hr.mono (by decide)) rfl T.g_best_tears T.f_best_tears.kp T.b_best_tears .nil pass0 (pa_cons (pv 8) pa_nil)) (pe_call (ok__law_best (K := K) T) (hr.mono (by decide)) rfl T.g__law_best T.f__law_best.kp T.b__law_best .nil pass0 (pa_cons (pv 3) pa_nil)) (nomark _)))))))))))))))))))), ?_⟩
    walk_at "go"
    refine ⟨sa, ns, rfl, hS, h63, fun s0 H1 e1 hS1 => ?_⟩
    refine z_rest57 (K := K) (E := E) (N := ["script", "stream", "many", "rows", "one", "row", "tears", "j", "given", "found", "rest", "enough", "kept", "actual"]) (ds := [.adr sa, .strm]) (vs := [.ref sa, .ref s0])
      (.cons (by simp only [Rz]) (.cons (by simp only [Rz]; exact ⟨s0, rfl, hS1⟩) .nil)) ?_ k
    walk_at "zz"
    intro v v0 v1
    walk_at "zz"
    obtain ⟨n, hn⟩ : ∃ n : Nat, 1 + v = (n : Int) := ⟨(1 + v).toNat, by omega⟩
    have n1 : 1 ≤ n := by omega
    have n6 : n ≤ 6 := by omega
    rw [hn]
    walk_at "zz"
    refine ⟨n, n, by simp only [Dt.olds, Dt.old], n6, n6, fun m hml hmr => ?_⟩
    walk_at "zz"
    have okm : MatOk n m := ⟨by omega, fun r hr => hmr r hr⟩
    refine zs_cut (fun ρ => ∃ m : List (List (Int × Int)), ρ = [.v (.adr sa), .v .strm, .v (.int (n : Int)), .o (matD true true m), .un, .un, .un, .un, .un, .un, .un, .un, .un, .un] ∧ m.length = n ∧ MatOk n m) ?_ ?_
    · walk_at "zz"
      intro u u0 u1
      walk_at "zz"
      by_cases c : u = 0
      · refine zT (by simp [c]) ?_
        walk_at "zz"
        refine ze_lcW (zi_list ?_)
        walk_at "zz"
        refine ⟨true, _, rfl, trivial, rfl, by rw [List.length_map]; omega, fun i ad => ∃ m' : List (List (Int × Int)), ad = m'.map (rowD true) ∧ m'.length = i ∧ ∀ r ∈ m', RowOk n 600 r, ⟨[], rfl, rfl, fun r hr => nomatch hr⟩, ?_, ?_⟩
        · rintro i d ad hd ⟨m', rfl, hl', hr'⟩
          rw [List.getElem?_map] at hd
          cases hp : m[i]? with
          | none => rw [hp] at hd; cases hd
          | some r =>
            rw [hp] at hd
            cases hd
            obtain ⟨hrl, hre⟩ := hmr r (List.mem_of_getElem? hp)
            refine zgw_name (by decide) ?_
            walk_at "zz"
            refine ze_lcW (zi_list ?_)
            walk_at "zz"
            refine ⟨true, _, rfl, trivial, rfl, by rw [List.length_map]; omega, fun j ad => ∃ r' : List (Int × Int), ad = r'.map entD ∧ r'.length = j ∧ ∀ e ∈ r', EntOk 600 e, ⟨[], rfl, rfl, fun r hr => nomatch hr⟩, ?_, ?_⟩
            · rintro j d ad hd ⟨r', rfl, hl2, hr2⟩
              rw [List.getElem?_map] at hd
              cases hp2 : r[j]? with
              | none => rw [hp2] at hd; cases hd
              | some e =>
                rw [hp2] at hd
                cases hd
                have eok := hre e (List.mem_of_getElem? hp2)
                have fin : ∀ e' : Int × Int, EntOk 600 e' → ∃ r'' : List (Int × Int), r'.map entD ++ [entD e'] = r''.map entD ∧ r''.length = j + 1 ∧ ∀ e ∈ r'', EntOk 600 e := fun e' he' =>
                  ⟨r' ++ [e'], by rw [List.map_append]; rfl, by rw [List.length_append, hl2]; rfl, fun x hx => by
                    rcases List.mem_append.mp hx with hx | hx
                    · exact hr2 x hx
                    · rw [List.mem_singleton.mp hx]
                      exact he'⟩
                refine zgw_name (by decide) ?_
                walk_at "zz"
                intro x x0 x1
                walk_at "zz"
                by_cases cx : x = 0
                · refine zT (by simp [cx]) ?_
                  walk_at "zz"
                  exact ⟨rfl, fin e eok⟩
                · refine zF (by simp [cx]) ?_
                  walk_at "zz"
                  exact ⟨rfl, fin (0, 1) ⟨by decide, (bits2 (by decide)).mono (by decide), (bits2 (by decide)).mono (by decide)⟩⟩
            · rintro ad ⟨r', rfl, hl2, hr2⟩
              rw [List.length_map, hrl] at hl2
              refine ⟨rfl, m' ++ [r'], by rw [List.map_append]; rfl, by rw [List.length_append, hl']; rfl, fun x hx => ?_⟩
              rcases List.mem_append.mp hx with hx | hx
              · exact hr' x hx
              · rw [List.mem_singleton.mp hx]
                exact ⟨hl2, hr2⟩
        · rintro ad ⟨m', rfl, hl', hr'⟩
          rw [List.length_map, hml] at hl'
          walk_at "zz"
          exact ⟨hl', by omega, fun r hr => hr' r hr⟩
      · refine zF (by simp [c]) ?_
        walk_at "zz"
        exact ⟨hml, okm⟩
    · clear okm hmr hml m
      rintro ρ ⟨m, rfl, hml, okm⟩
      walk_at "zz"
      refine ze_lcW (zi_range1 ?_)
      walk_at "zz"
      refine ⟨by omega, by omega, trivial, rfl, by rw [rng_len]; omega, fun j ad => ∃ ts : List Nat, ad = natsD ts ∧ ts.length ≤ j ∧ ts.Nodup ∧ ∀ t ∈ ts, t < j, ⟨[], rfl, Nat.zero_le _, List.nodup_nil, fun t ht => nomatch ht⟩, ?_, ?_⟩
      · rintro j d ad hd ⟨ts, rfl, tl, tn, tt⟩
        obtain ⟨hj, rfl⟩ := rng_at hd
        refine zgw_name (by decide) ?_
        walk_at "zz"
        intro x x0 x1
        walk_at "zz"
        by_cases cx : x = 0
        · refine zT (by simp [cx]) ?_
          walk_at "zz"
          refine ⟨rfl, ts ++ [j], by unfold natsD; rw [List.map_append]; rfl, by rw [List.length_append, List.length_singleton]; omega, ?_, fun t ht => ?_⟩
          · rw [List.nodup_append]
            exact ⟨tn, List.nodup_cons.mpr ⟨List.not_mem_nil, List.nodup_nil⟩, fun a ha b hb e => by
              have := tt a ha
              rw [List.mem_singleton.mp hb] at e
              omega⟩
          · rcases List.mem_append.mp ht with ht | ht
            · exact Nat.lt_succ_of_lt (tt t ht)
            · rw [List.mem_singleton.mp ht]
              exact Nat.lt_succ_self _
        · refine zF (by simp [cx]) ?_
          exact ⟨rfl, ts, rfl, Nat.le_succ_of_le tl, tn, fun t ht => Nat.lt_succ_of_lt (tt t ht)⟩
      · rintro ad ⟨ts, rfl, tl, tn, tt⟩
        rw [rng_len] at tl tt
        have t6 : ts.length ≤ 6 := by omega
        have hB := used_below okm
        walk_at "zz"
        refine ⟨n, m, by simp only [Dt.olds, matD_old], n6, okm, ?_⟩
        walk_at "zz"
        refine ⟨n, m, ts, by show [(matD true true m).old, (natL true ts).old] = _; rw [matD_old, natL_old], n6, hml, okm, t6, ?_⟩
        generalize hP : runF (usedOf m) n ts = P
        refine zg_tup rfl ?_
        walk_at "zz"
        let Ps : List Dt := P.map pairD
        refine zs_cut (fun ρ => ρ = [.v (.adr sa), .v .strm, .v (.int (n : Int)), .v (matD true true m), .un, .un, .v (natL true ts), .un, .o (ratsD true true m), .v (Tr.pairsD true P), .v (natL true (restL n P)), .v (.bl (goodB (usedOf m) n ts)), .o (natL true ts), .un]) ?_ ?_
        · walk_at "zz"
          exact rfl
        · rintro ρ rfl
          subst hP
          have fitR := (runF_ok hB (f := n) (K := ts) (left_le n ts)).fits hB tn tt
          refine zs_frzM (i := 8) rfl ?_
          refine zs_frzM (i := 12) rfl ?_
          refine zs_at57 (ρ' := [.v (.adr sa), .v .strm, .v (.int (n : Int)), .v (matD true true m), .un, .un, .v (natL true ts), .un, .v (ratsD true true m), .v (Tr.pairsD true (runF (usedOf m) n ts)), .v (natL true (restL n (runF (usedOf m) n ts))), .v (.bl (goodB (usedOf m) n ts)), .v (natL true ts), .un]) rfl ?_
          have oR : Dt.olds [ratsD true true m, natL true ts] = [ratsD false false m, natL false ts] := by show [(ratsD true true m).old, (natL true ts).old] = _; rw [ratsD_old, natL_old]
          have oM : Dt.olds [matD true true m] = [matD false false m] := by show [(matD true true m).old] = _; rw [matD_old]
          have oG : Dt.olds [ratsD true true m] = [ratsD false false m] := by show [(ratsD true true m).old] = _; rw [ratsD_old]
          by_cases hg : goodB (usedOf m) n ts = true
          · have hc : ¬ (runF (usedOf m) n ts).length + ts.length < n := by
              have := hg
              unfold goodB at this
              rw [beq_iff_eq] at this
              omega
            rw [hg]
            have hPl := runF_len (usedOf m) n ts
            generalize hP : runF (usedOf m) n ts = P at *
            refine zs_callApp3 ?_
            walk_at "zz"
            refine ⟨vOn_of rfl, Nat.le_of_ble_eq_true rfl, n, m, ts, oR, n6, hml, okm, t6, fun c => absurd c (by rw [hP]; exact hc), fun c => ⟨P.map pairD, [natL true (restL n P)], rfl, by rw [hP]; rfl, by rw [List.length_map]; omega, ?_, ?_, ?_, ?_⟩⟩
            · walk_at "zz"
              refine ze_neZ rfl ?_
              walk_at "zz"
              refine ⟨n, m, oM, n6, okm, ?_⟩
              refine ⟨eqd_rats 7 true true true true m, rfl, (fun _ _ q => nomatch q), ?_⟩
              walk_at "zz"
              refine ze_neZ rfl ?_
              walk_at "zz"
              refine ⟨eqd_nats 8 true true ts, rfl, (fun _ _ q => nomatch q), ?_⟩
              walk_at "zz"
              exact rfl
            · walk_at "zz"
              exact rfl
            · refine zt_or (zt_not (zt_B (ze_isi (.ty "tuple") ?_)))
              walk_at "zz"
              refine ⟨_, _, .tup _, of_decide_eq_true T.x_kit_t_tuple_t_tuple, ?_⟩
              walk_at "zz"
              refine ze_neZ rfl ?_
              walk_at "zz"
              refine ⟨by rw [hP]; exact .tup (.cons (eqd_pairs 6 true true P) (.cons (eqd_nats 7 true true _) .nil)), rfl, (fun _ _ q => nomatch q), ?_⟩
              walk_at "zz"
              refine ze_neZ rfl ?_
              walk_at "zz"
              refine ⟨n, m, oG, n6, hml, okm, ?_⟩
              walk_at "zz"
              refine ⟨n, m, oM, n6, hml, okm, ?_⟩
              refine ⟨eqd_nats 8 true true _, rfl, (fun _ _ q => nomatch q), ?_⟩
              walk_at "zz"
              exact rfl
            · refine zs_seq (zs_appTmp ?_)
              walk_at "zz"
              refine ⟨vOn_of rfl, n, m, oG, n6, hml, okm, natsD (bestL (usedOf m) n), rfl, rfl, ?_, ?_⟩
              · have := best_len (U := usedOf m) n6
                unfold natsD
                rw [List.length_map]
                omega
              · walk_at "zz"
                refine ze_eqZ rfl ?_
                walk_at "zz"
                refine ⟨n, m, ts, oR, n6, hml, okm, t6, fun c => absurd c (by rw [hP]; exact hc), fun c => ?_⟩
                rw [hP]
                walk_at "zz"
                refine ⟨.tup (.cons (eqd_pairs 6 true true P) (.cons (eqd_nats 7 true true _) .nil)), rfl, (fun _ _ q => nomatch q), ?_⟩
                walk_at "zz"
                refine ze_eqZ rfl ?_
                walk_at "zz"
                refine ⟨n, m, oG, n6, hml, okm, ?_⟩
                walk_at "zz"
                refine ⟨n, m, oM, n6, hml, okm, ?_⟩
                exact ⟨eqd_nats 8 true true _, rfl, (fun _ _ q => nomatch q), rfl, rfl⟩
          · have hg0 : goodB (usedOf m) n ts = false := Bool.eq_false_iff.mpr hg
            have hc : (runF (usedOf m) n ts).length + ts.length < n := by
              have := hg
              unfold goodB at this
              rw [beq_iff_eq] at this
              omega
            rw [hg0]
            walk_at "zz"
            refine ⟨n, m, ts, oR, n6, hml, okm, t6, fun c => ?_, fun c => absurd hc c⟩
            walk_at "zz"
            refine ze_neZ rfl ?_
            walk_at "zz"
            refine ⟨n, m, oM, n6, okm, ?_⟩
            refine ⟨eqd_rats 7 true true true true m, rfl, (fun _ _ q => nomatch q), ?_⟩
            walk_at "zz"
            refine ze_neZ rfl ?_
            walk_at "zz"
            refine ⟨eqd_nats 8 true true ts, rfl, (fun _ _ q => nomatch q), ?_⟩
            walk_at "zz"
            refine ze_eqZ rfl ?_
            walk_at "zz"
            refine ⟨.tup (.cons (.flat rfl) (.cons (.flat rfl) .nil)), rfl, (fun _ _ q => nomatch q), ?_⟩
            walk_at "zz"
            refine ze_eqZ rfl ?_
            walk_at "zz"
            refine ⟨n, m, oG, n6, hml, okm, ?_⟩
            walk_at "zz"
            refine ⟨n, m, oM, n6, hml, okm, ?_⟩
            exact ⟨eqd_nats 8 true true _, rfl, (fun _ _ q => nomatch q), rfl, rfl⟩
end
theorem facts {P : Program} {w : World} {K : PySem.W.Frag} {h : Heap} {mg : Str → Option Value} {f : Addr} (X : K.In h) (G : h.Ns mainGlobals mg) (hfa : mg ("law" : Str) = some (.ref f)) (c : SaysS faL fnL exB K) :
    ∃ fd : FuncData, (∀ (s : Shared) (v : Value), BindsTo s fd ⟨[v], []⟩ [("script", v)]) ∧ ∀ base : Heap, K.In base → base.Ns mainGlobals mg → FnOk P w K mg base CX0 60 f fd ["script"] (spLaw K) := by
  have T : Top w K mg := ⟨h, X, G, c⟩
  have e := hfa.symm.trans T.g_law
  cases e
  have b := FunD.bindsA (ps := ["script"]) (show FunD K "law" "law" (defArgs s_law) (defBody s_law) (defScope s_law) [] (d_law.kws K) (He.ga K "law") (fdOf K d_law) from T.f_law) fun _ _ _ _ _ _ us hl => match us, hl with | [_], _ => rfl
  exact ⟨fdOf K d_law, fun s v => b s [v] rfl, fun base _ _ => ok_law T⟩
end Lk
open PySem PySem.W PySem.Calls PyProof.Rows
set_option maxRecDepth 100000 in
set_option maxHeartbeats 0 in
theorem PySem.Challenge.cw_linkwork_k57_torn_systems_holds : PySem.Challenge.rw_linkwork_k57_torn_systems.Holds := by
  w_on; o_law
  refine HeadRun.head_imp (r := OpenLaw.row PySem.Challenge.rw_linkwork_k57_torn_systems) (q := Lk.qv) (H := Lk.hk) (ob := Lk.ob) (M := 30000) (loose := Lk.looseL) (d := HandSHeadRun.topDef (OpenLaw.row PySem.Challenge.rw_linkwork_k57_torn_systems).prog 32) (kwd := []) Lk.ob_eq Lk.run (by kernel_rfl) (by kernel_rfl) (by kernel_rfl) (by rfl) (by first | assumption | decide +kernel) (by decide +kernel) ⟨rfl, rfl, rfl, rfl, rfl, by decide +kernel⟩ ?hw ?hc
  case hw => w_witness2
  case hc =>
    refine L2.walk_ofE (l := PySem.Challenge.rw_linkwork_k57_torn_systems) (n := 63) (k := 60) (x := "script") (CX := L2.CX0) rfl (by decide) (by kernel_rfl) ⟨rfl, by decide, by decide⟩ ?F (fun _ _ _ _ z => z)
    intro w mg fa h Y G hmg0
    obtain ⟨K, KX, c⟩ := Y
    have hmg : mg ("law" : PySem.Str) = some (.ref fa) := by
      have e : (HandSHeadRun.topDef (OpenLaw.row PySem.Challenge.rw_linkwork_k57_torn_systems).prog 32).name = ("law" : PySem.Str) := by kernel_rfl
      rw [← e]
      exact hmg0
    obtain ⟨fd, hb, hF⟩ := Lk.facts (P := (PySem.Challenge.rw_linkwork_k57_torn_systems).prog) (w := w) KX G hmg c
    exact ⟨K, fd, Lk.spLaw K, KX, hb, fun H a ns hl _ hS => ⟨a, ns, rfl, hS, hl, fun _ => rfl⟩, hF⟩

