import PyProof.Rows.All
import Wide.All
import OpenK.AllK
import Wide.FinOn
import HandS.ForMost
import HandS.ForExc
import HandS.Wide
import HandS.DictTup
import HandS.Conv
import HandS.SortRule
import HandS.TupLe
import HandS.FStr
import HandS.RaiseMore
import HandS.IsInst
import HandS.NoneIn
import HandS.Style
import HandS.Zip
import HandS.Steps
import HandS.Evl
import HandS.TupLen
import HandS.Walk
import HandS.SortKw
import HandS.TryOnly
import HandS.WordsExc
import KE.DatumOrd
import KE.GoesZip
import KE.GoesMore
import KE.KTupSum
import OpenK.KOps
import HandS.TryMany
import HandS.Deep
import HandS.SortInts
import HandS.Codes
import HandS.SetBool
import HandS.Strs
import KE.DatumMore
import KE.DataEq
import KE.GoesEnumKw
import PyProof.Rows.CallKwBuiltin
import PyProof.StrLawsTight
import HandS.TupAny
import HandS.DictComp
import HandS.Defaults
import HandS.Gcd
import HandS.Wide
import HandS.Gcd
import HandS.Wide
import KE.KMathG
import HandS.RevRange
import KE.KExcSuper
import HandS.ExcInit
import HandS.Nested
import HandS.ExcField
import HandS.HotCalls
import HandS.TupSets
import PySem.Challenge.RW_mingle_k54_solved_equations
set_option Elab.async false
set_option linter.all false
set_option maxRecDepth 100000
set_option maxHeartbeats 2000000
namespace Vf
open PySem L2
/-- a def of the text as it stands behind the top -/
def FunAt (K : PySem.W.Frag) (x qual : Str) (st : Stmt) (f : Addr) : Prop :=
  ∃ (oc : Value) (od : Option Addr) (kV doc pm : Value) (an : Option Addr) (cdv ct : Value) (osl : Array (Option Value)),
    K.lookup f = some ⟨oc, od, .func (PySem.W.fnOf x qual (defArgs st) (defBody st) (defScope st) .none kV doc pm an cdv ct), osl⟩ ∧ PySem.W.codeIn K cdv qual = true ∧ PySem.W.keepIn K (.ref f) = true
theorem FunAt.get {K : PySem.W.Frag} {x qual : Str} {st : Stmt} {f : Addr} (h : FunAt K x qual st f) : ∃ fd, Fun K x qual st f fd := by
  obtain ⟨oc, od, kV, doc, pm, an, cdv, ct, osl, q1, q2, q3⟩ := h
  exact ⟨_, fun_mk q1 q2 q3⟩
/-- what a law promises -/
def spLaw (K : PySem.W.Frag) : Sp := fun vs H Q _ => ∃ (a : Addr) (ns : List Int), vs = [.ref a] ∧ SqL K H a (ns.map V.int) ∧ ns.length ≤ 63 ∧ ∀ H', Q (.bl true) H'
end Vf
namespace Vf
open PySem L2
/-- an own exception class is met by its own clause -/
theorem exm_self {K : PySem.W.Frag} {c : Addr} (b : PySem.W.subIn K (.ref c) (.type "BaseException") = some true) (i : PySem.W.isClsIn K c = true) (t : PySem.W.typeIn K (.ref c) = some (.type "type")) (s : PySem.W.subIn K (.ref c) (.ref c) = some true) :
    PySem.W.exmOne K (.ref c) (.ref c) = some true := by
  unfold PySem.W.isClsIn at i
  simp [PySem.W.exmOne, PySem.W.kitCls, b, i, t, s]
end Vf
namespace Vf
open PySem L2
theorem ite_b {b : Bool} {A B : Prop} (h1 : b = true → A) (h2 : b = false → B) : if b = true then A else B := by
  cases b with
  | true => rw [if_pos rfl]; exact h1 rfl
  | false => rw [if_neg Bool.false_ne_true]; exact h2 rfl
/-- one way after a comparison's answer -/
theorem ite_d {c A B : Prop} [Decidable c] (h1 : c → A) (h2 : ¬ c → B) : if decide c = true then A else B :=
  ite_b (fun h => h1 (of_decide_eq_true h)) (fun h => h2 (of_decide_eq_false h))
theorem Same.new {H H' : Hp} {p : Addr} {o : HO} (e : Same H H') (h : H' p = none) : Same H (upd H' p o) := fun a u q => by
  have q' := e a u q
  rw [upd_ne (ne_of_none q' h)]
  exact q'
theorem Same.chg {H H' : Hp} {p : Addr} {o : HO} (e : Same H H') (h : H p = none) : Same H (upd H' p o) := fun a u q => by
  rw [upd_ne (ne_of_none q h)]
  exact e a u q
theorem Same.seqT {K : PySem.W.Frag} {H H' : Hp} {a : Addr} {xs : List V} (e : Same H H') (h : SqT K H a xs) : SqT K H' a xs := by
  rcases h with (h | ⟨o, h⟩) | h
  · exact .inl (.inl (e _ _ h))
  · exact .inl (.inr ⟨o, e _ _ h⟩)
  · exact .inr h
/-- the i-th of a list of ints -/
theorem int_at {ns : List Int} {i : Int} (h0 : 0 ≤ i) (h1 : i < ns.length) : atI (ns.map V.int) i = some (V.int (ns.getD i.toNat 0)) := by
  obtain ⟨j, rfl⟩ : ∃ j : Nat, i = (j : Int) := ⟨i.toNat, by omega⟩
  have hj : j < ns.length := by omega
  refine atI_nat ?_
  rw [List.getElem?_map, List.getElem?_eq_getElem hj]
  simp [List.getD, List.getElem?_eq_getElem hj]
theorem getD_mem {α : Type} {xs : List α} {j : Nat} {d : α} (h : j < xs.length) : xs.getD j d ∈ xs := by
  rw [List.getD_eq_getElem?_getD, List.getElem?_eq_getElem h]
  exact List.getElem_mem h
/-- a new list of ints -/
def NewInts (H : Hp) (Q : VK) (ok : List Int → Prop) : Prop := ∀ (p : Addr) (H' : Hp) (ds : List Int), H p = none → Same H H' → H' p = some (.lst (ds.map V.int)) → ok ds → Q (.ref p) H'
end Vf
namespace Vf
open PySem L2
section
variable {c : TT} {t1 t2 : TS} {D : Ends} {σ : L2.St} {H : Hp}
theorem st_if {b : Bool} (h : Ans c σ H b) (h1 : b = true → t1 D σ H) (h2 : b = false → t2 D σ H) : tIfS c t1 t2 D σ H := h _ (ite_b h1 h2)
end
end Vf
namespace Vf
theorem mod_w {x m : Int} (h : 0 < m) (h2 : m ≤ 2 ^ 64) : -(2 ^ 64) < x % m ∧ x % m < 2 ^ 64 := by
  have a := Int.emod_nonneg x (show m ≠ 0 by omega)
  have b := Int.emod_lt_of_pos x h
  exact ⟨by omega, by omega⟩
end Vf
namespace Vf
open PySem L2
section
variable {J : It} {n : Nat} {G : Hp → Prop} {Y : Nat → Hp → V → Hp → Prop} {g : TG} {te : TE} {vs : List Nat} {σ : L2.St} {H1 : Hp} {D : Addr} {Qd : Hp → Prop}
/-- a comprehension without tests: P of each made item, not of the list itself -/
theorem lc_rel (w : Walk J n G Y) (P : Nat → V → Hp → Prop) (hD : H1 D = none) (hP : ∀ i y H H' acc, H D = some (.lst acc) → (∀ a o, a ≠ D → H a = some o → H' a = some o) → P i y H → P i y H') (hn : n ≤ 1000000)
    (hG : ∀ H, Same H1 H → G H)
    (hs : ∀ i x H H' acc, i < n → Same H1 H → H D = some (.lst acc) → Y i H x H' → ∀ Q' : VK, (∀ y H4, Same H H4 → P i y H4 → Q' y H4) → g x (wipe σ vs) H' fun σ2 H2 => wipe σ2 vs = wipe σ vs ∧ te σ2 H2 Q')
    (hd : ∀ xs H, xs.length = n → Same H1 H → H D = some (.lst xs) → (∀ i y, xs[i]? = some y → P i y H) → Qd H) :
    ∃ W : Nat → Nat → Hp → Prop, (∃ m, W 0 m (upd H1 D (.lst []))) ∧ ∀ i m H, W i m H →
      (J.stop i H ∧ Qd H) ∨ (J.go i H ∧ ∃ Nx : Hp → Prop, (∀ H', Nx H' → ∃ m', m' < m ∧ W (i + 1) m' H') ∧ ∀ x H', J.yld i H x H' → g x (wipe σ vs) H' fun σ2 H2 => wipe σ2 vs = wipe σ vs ∧ tYes σ2 H2 fun b H3 =>
        if b = true then te σ2 H3 fun y H4 => ∃ acc, H4 D = some (.lst acc) ∧ acc.length < sizeLine ∧ Nx (upd H4 D (.lst (acc ++ [y]))) else Nx H3) := by
  refine lc_it w (fun i H => ∃ acc, H D = some (.lst acc) ∧ acc.length = i ∧ Same H1 H ∧ ∀ j y, acc[j]? = some y → P j y H) ⟨[], upd_same, rfl, Vf.Same.new (Same.refl H1) hD, fun j y h => by simp at h⟩ (fun i H _ ⟨_, _, _, s, _⟩ => hG H s) ?_ ?_
  · rintro i x H H' hi ⟨acc, hl, rfl, s, hp⟩ hy
    have key := hs acc.length x H H' acc hi s hl hy (fun y H4 => ∃ acc', H4 D = some (.lst acc') ∧ acc'.length < sizeLine ∧ ∃ a', (upd H4 D (.lst (acc' ++ [y]))) D = some (.lst a') ∧ a'.length = acc.length + 1 ∧ Same H1 (upd H4 D (.lst (acc' ++ [y]))) ∧ ∀ j z, a'[j]? = some z → P j z (upd H4 D (.lst (acc' ++ [y])))) fun y H4 s4 py => ?_
    · exact key
    · have h4 := s4 _ _ hl
      refine ⟨acc, h4, Nat.lt_of_le_of_lt (show acc.length ≤ 1000000 by omega) (by decide), acc ++ [y], upd_same, by simp, Vf.Same.chg (s.trans s4) hD, fun j z hz => ?_⟩
      have up : ∀ a o, a ≠ D → H4 a = some o → (upd H4 D (.lst (acc ++ [y]))) a = some o := fun a o ne e => by rw [upd_ne ne]; exact e
      by_cases hj : j < acc.length
      · rw [List.getElem?_append_left hj] at hz
        exact hP j z _ _ _ h4 up (hP j z _ _ _ hl (fun a o _ e => s4 a o e) (hp j z hz))
      · rw [List.getElem?_append_right (by omega)] at hz
        have e0 : j - acc.length = 0 := by
          cases q : j - acc.length with
          | zero => rfl
          | succ m => rw [q] at hz; simp at hz
        rw [e0] at hz
        have ez : y = z := Option.some.inj hz
        subst ez
        have ej : j = acc.length := by omega
        subst ej
        exact hP _ _ _ _ _ h4 up py
  · rintro H ⟨acc, hl, hn', s, hp⟩
    exact hd acc H hn' s hl hp
/-- .. the items plain values -/
theorem lc_val (w : Walk J n G Y) (f : Nat → V) (hD : H1 D = none) (hn : n ≤ 1000000) (hG : ∀ H, Same H1 H → G H)
    (hs : ∀ i x H H', i < n → Same H1 H → Y i H x H' → ∀ Q' : VK, (∀ H4, Same H H4 → Q' (f i) H4) → g x (wipe σ vs) H' fun σ2 H2 => wipe σ2 vs = wipe σ vs ∧ te σ2 H2 Q')
    (hd : ∀ H, Same H1 H → H D = some (.lst ((List.range n).map f)) → Qd H) :
    ∃ W : Nat → Nat → Hp → Prop, (∃ m, W 0 m (upd H1 D (.lst []))) ∧ ∀ i m H, W i m H →
      (J.stop i H ∧ Qd H) ∨ (J.go i H ∧ ∃ Nx : Hp → Prop, (∀ H', Nx H' → ∃ m', m' < m ∧ W (i + 1) m' H') ∧ ∀ x H', J.yld i H x H' → g x (wipe σ vs) H' fun σ2 H2 => wipe σ2 vs = wipe σ vs ∧ tYes σ2 H2 fun b H3 =>
        if b = true then te σ2 H3 fun y H4 => ∃ acc, H4 D = some (.lst acc) ∧ acc.length < sizeLine ∧ Nx (upd H4 D (.lst (acc ++ [y]))) else Nx H3) := by
  refine lc_rel w (fun i y _ => y = f i) hD (fun i y H H' acc _ _ h => h) hn hG (fun i x H H' acc hi s _ hy Q' q => hs i x H H' hi s hy Q' fun H4 s4 => q _ H4 s4 rfl) fun xs H hl s hx hp => hd H s ?_
  rw [hx]
  congr 2
  apply List.ext_getElem?
  intro i
  cases e : xs[i]? with
  | none =>
    have := List.getElem?_eq_none_iff.mp e
    rw [List.getElem?_eq_none (by simp; omega)]
  | some y =>
    have hi := (List.getElem?_eq_some_iff.mp e).1
    rw [List.getElem?_map, List.getElem?_range (by omega)]
    rw [hp i y e]
    rfl
end
end Vf
namespace Vf
open PySem L2
theorem upd_none {H : Hp} {a b : Addr} {o : HO} (h : upd H a o b = none) : b ≠ a ∧ H b = none := by
  by_cases e : b = a
  · subst e
    rw [upd_same] at h
    cases h
  · rw [upd_ne e] at h
    exact ⟨e, h⟩
end Vf
namespace Vf
open PySem L2
theorem chain_le {tc : TE} {σ : L2.St} {H : Hp} {Q : VK} {lo x hi : Int} (hc : ∀ R : VK, R (.int hi) H → tc σ H R) (h : Q (.bl (decide (lo ≤ x ∧ x ≤ hi))) H) :
    (rI0 fun i j => .bl (decide (i ≤ j))) (.int lo) (.int x) H (fun z H3 => ∃ k, z = .bl k ∧ (if k = true then tc σ H3 fun w' H4 => (rI0 fun i j => .bl (decide (i ≤ j))) (.int x) w' H4 Q else Q (.bl false) H3)) := by
  refine ⟨_, _, rfl, rfl, _, rfl, ?_⟩
  by_cases h1 : lo ≤ x
  · rw [decide_eq_true h1]
    refine iteT (hc _ ⟨_, _, rfl, rfl, ?_⟩)
    have e : decide (lo ≤ x ∧ x ≤ hi) = decide (x ≤ hi) := by simp [h1]
    rw [e] at h
    exact h
  · rw [decide_eq_false h1]
    have e : decide (lo ≤ x ∧ x ≤ hi) = false := by simp [h1]
    rw [e] at h
    exact iteF h
end Vf
namespace Vf
open PySem L2
theorem tyL {K : PySem.W.Frag} {H : Hp} {a : Addr} {xs : List V} (h : H a = some (.lst xs)) : tyV K "list" (.ref a) H := .inl ⟨rfl, _, SqL.of h⟩
end Vf
namespace Vf
open PySem L2
/-! rules whose readings name the written part by a letter (within a comprehension) -/
section
variable {X : Cx} {K : PySem.W.Frag}
theorem ix_listK (h : X.K = K) : IxR X (rIxL K) := by
  subst h
  exact ix_list
theorem ix_tupK (h : X.K = K) : IxR X (rIxT K) := by
  subst h
  exact ix_tup
theorem pe_fldK {e : Expr} {ta : TE} {f : Str} {pos : Pos} (h : X.K = K) (he : PE X e ta) (hb : attributeBase e f X.env (eval e X.env) = eval e X.env) : PE X (.Attribute e f pos) (tFld K ta f) := by
  subst h
  exact pe_fld he hb
theorem call_len_seqK (h : X.K = K) : CallR X (.builtin "len") (fun xs H Q => ∃ p ys, xs = [.ref p] ∧ (SqL K H p ys ∨ SqT K H p ys) ∧ Q (.int ys.length) H) := by
  subst h
  exact call_len_seq
theorem call_tuple_ofK (h : X.K = K) : CallR X (.type "tuple") (fun xs H Q => ∃ p ys, xs = [.ref p] ∧ ((SqL K H p ys ∧ ∀ l, H l = none → Q (.ref l) (upd H l (.tup ys))) ∨ (SqT K H p ys ∧ Q (.ref p) H))) := by
  subst h
  exact call_tuple_of
end
end Vf
namespace Vf
open PySem L2
/-- an f-string's reading, by a name -/
def tJoin (ts : List TE) : TE := fun σ H Q => tJs ts Str.empty σ H fun out H1 => Q (.str out) H1
theorem pe_join {X : Cx} {v1 v2 : Expr} {rest : List Expr} {ts : List TE} {pos : Pos} (h : PJ X (v1 :: v2 :: rest) ts) : PE X (.JoinedStr (v1 :: v2 :: rest) pos) (tJoin ts) := pe_joined h
end Vf

namespace Vf
open PySem L2
/-! ### texts -/
theorem num_len {i : Int} (h : i.natAbs.log2 < 1920) : (Str.ofString (toString i)).length ≤ 2000 := by
  have e := int_text_length_le (k := 1920) (by decide) h
  rw [ofString_length]
  omega
theorem len2 {a b : Str} {m n k : Nat} (ha : a.length ≤ m) (hb : b.length ≤ n) (h : m + n ≤ k) : (a ++ b).length ≤ k := by
  rw [Str.length_append]
  omega
theorem len0 : Str.empty.length ≤ 0 := Nat.le_refl _
theorem line {n : Nat} (h : n ≤ 10000000) : n ≤ sizeLine := Nat.le_trans h (by decide)
theorem fits {s : Str} {n : Nat} (h : s.length ≤ n) (hn : n ≤ 10000000) : s.length ≤ sizeLine := Nat.le_trans h (line hn)
/-- point 3 -/
def lowC (c : Nat) : Bool := decide (97 ≤ c ∧ c ≤ 122)
def digC (c : Nat) : Bool := decide (48 ≤ c ∧ c ≤ 57)
def isNameL (l : List Nat) : Bool := decide (1 ≤ l.length) && decide (l.length ≤ 12) && l.head?.any lowC && l.all fun c => lowC c || digC c
def isName (s : Str) : Bool := isNameL s.cps.toList
theorem isNameL_bad {l : List Nat} (h : (!(decide ((1 : Int) ≤ (l.length : Int)) && decide ((l.length : Int) ≤ 12))) = true) : isNameL l = false := by
  unfold isNameL
  by_cases h1 : 1 ≤ l.length
  · by_cases h2 : l.length ≤ 12
    · exfalso
      rw [decide_eq_true (show (1 : Int) ≤ (l.length : Int) by omega), decide_eq_true (show (l.length : Int) ≤ 12 by omega)] at h
      cases h
    · rw [decide_eq_false h2]
      simp
  · rw [decide_eq_false h1]
    simp
theorem isNameL_ok {l : List Nat} (h : (!(decide ((1 : Int) ≤ (l.length : Int)) && decide ((l.length : Int) ≤ 12))) = false) : ∃ c r, l = c :: r ∧ isNameL l = (lowC c && l.all fun c => lowC c || digC c) := by
  rw [Bool.not_eq_false', Bool.and_eq_true, decide_eq_true_eq, decide_eq_true_eq] at h
  cases l with
  | nil => simp at h
  | cons c r =>
    refine ⟨c, r, rfl, ?_⟩
    unfold isNameL
    rw [decide_eq_true (show 1 ≤ (c :: r).length by simp), decide_eq_true (show (c :: r).length ≤ 12 by omega)]
    simp
theorem name_any (l : List Nat) (n : Nat) (h : n = l.length) : ((List.range n).map fun i => lowC (l.getD i 0) || digC (l.getD i 0)).all id = l.all fun c => lowC c || digC c := by
  subst h
  have e3 : (List.range l.length).map (fun i => l.getD i 0) = l := by
    apply List.ext_getElem?
    intro i
    rw [List.getElem?_map]
    by_cases hi : i < l.length
    · rw [List.getElem?_range hi, List.getElem?_eq_getElem hi]
      simp [List.getD, hi]
    · rw [List.getElem?_eq_none (by simp; omega), List.getElem?_eq_none (by omega)]
      rfl
  rw [show (fun i => lowC (l.getD i 0) || digC (l.getD i 0)) = (fun c => lowC c || digC c) ∘ fun i => l.getD i 0 from rfl, ← List.map_map, e3, List.all_map]
  rfl
def LETTERS : Str := "abcdefghijklmnopqrstuvwxyz"
def DIGITS : Str := "0123456789"
theorem letters_eq : LETTERS.cps.toList = (List.range 26).map (· + 97) := by decide +kernel
theorem digits_eq : DIGITS.cps.toList = (List.range 10).map (· + 48) := by decide +kernel
theorem in_letters (c : Nat) : decide (c ∈ LETTERS.cps.toList) = lowC c := by
  rw [letters_eq, lowC, Bool.eq_iff_iff, decide_eq_true_iff, decide_eq_true_iff, List.mem_map]
  constructor
  · rintro ⟨a, h, rfl⟩
    rw [List.mem_range] at h
    omega
  · intro h
    exact ⟨c - 97, List.mem_range.mpr (by omega), by omega⟩
theorem in_digits (c : Nat) : decide (c ∈ DIGITS.cps.toList) = digC c := by
  rw [digits_eq, digC, Bool.eq_iff_iff, decide_eq_true_iff, decide_eq_true_iff, List.mem_map]
  constructor
  · rintro ⟨a, h, rfl⟩
    rw [List.mem_range] at h
    omega
  · intro h
    exact ⟨c - 48, List.mem_range.mpr (by omega), by omega⟩
theorem name_len {s : Str} (h : isName s = true) : s.length ≤ 12 := by
  unfold isName isNameL at h
  simp only [Bool.and_eq_true, decide_eq_true_eq] at h
  show s.cps.size ≤ 12
  have := h.1.1.2
  simpa using this

/-! ### lists of tuples -/
/-- a list of new tuples of the parts -/
def Tups {α : Type} (enc : α → List V) (H : Hp) (xs : List V) (l : List α) : Prop := xs.length = l.length ∧ ∀ (i : Nat) (a : α), l[i]? = some a → ∃ t, xs[i]? = some (.ref t) ∧ H t = some (.tup (enc a))
section
variable {α : Type} {enc : α → List V} {H H' : Hp} {xs : List V} {l : List α}
theorem Tups.nil : Tups enc H [] [] := ⟨rfl, fun i a h => by simp at h⟩
theorem Tups.mono (h : Tups enc H xs l) (k : ∀ t ys, H t = some (.tup ys) → H' t = some (.tup ys)) : Tups enc H' xs l := ⟨h.1, fun i a e => by
  obtain ⟨t, h1, h2⟩ := h.2 i a e
  exact ⟨t, h1, k _ _ h2⟩⟩
theorem Tups.same (h : Tups enc H xs l) (e : Same H H') : Tups enc H' xs l := h.mono fun t ys => e t _
theorem Tups.snoc (h : Tups enc H xs l) {t : Addr} {a : α} (ht : H t = some (.tup (enc a))) : Tups enc H (xs ++ [.ref t]) (l ++ [a]) := by
  refine ⟨by simp [h.1], fun i b e => ?_⟩
  by_cases hi : i < l.length
  · rw [List.getElem?_append_left hi] at e
    obtain ⟨u, h1, h2⟩ := h.2 i b e
    exact ⟨u, by rw [List.getElem?_append_left (by rw [h.1]; exact hi)]; exact h1, h2⟩
  · rw [List.getElem?_append_right (by omega)] at e
    have z : i - l.length = 0 := by
      cases q : i - l.length with
      | zero => rfl
      | succ n => rw [q] at e; simp at e
    rw [z] at e
    have ea : a = b := Option.some.inj e
    subst ea
    exact ⟨t, by rw [List.getElem?_append_right (by rw [h.1]; omega), h.1, z]; rfl, ht⟩
theorem Tups.get (h : Tups enc H xs l) {i : Nat} {x : V} (e : xs[i]? = some x) : ∃ a t, l[i]? = some a ∧ x = .ref t ∧ H t = some (.tup (enc a)) := by
  have hi := (List.getElem?_eq_some_iff.mp e).1
  have hl : i < l.length := by rw [← h.1]; exact hi
  obtain ⟨t, h1, h2⟩ := h.2 i l[i] (List.getElem?_eq_getElem hl)
  rw [e] at h1
  exact ⟨l[i], t, List.getElem?_eq_getElem hl, Option.some.inj h1, h2⟩
end
abbrev S4 := Str × Str × Str × Str
def enc2 (p : Str × Str) : List V := [.str p.1, .str p.2]
def enc4 (r : S4) : List V := [.str r.1, .str r.2.1, .str r.2.2.1, .str r.2.2.2]

/-! ### names numbered -/
/-- the pairs of the dict of numbers -/
def numK (st : List Str) : List (Key × V) := st.zipIdx.map fun p => (Sum.inr p.1, V.int (p.2 : Int))
theorem numK_snoc (st : List Str) (s : Str) : numK (st ++ [s]) = numK st ++ [(Sum.inr s, V.int (st.length : Int))] := by
  unfold numK
  rw [List.zipIdx_append, List.map_append]
  simp
theorem numK_len (st : List Str) : (numK st).length = st.length := by
  unfold numK
  simp
theorem valV_app {κ : Type} [DecidableEq κ] (k : κ) (b : List (κ × V)) : ∀ a : List (κ × V), valV (a ++ b) k = (valV a k).or (valV b k)
  | [] => by simp [valV]
  | p :: r => by
    by_cases e : p.1 = k
    · rw [List.cons_append, valV_pos e, valV_pos e]
      rfl
    · rw [List.cons_append, valV_neg e, valV_neg e, valV_app k b r]
theorem num_val_from : ∀ (st : List Str) (n : Nat) (s : Str), valV ((st.zipIdx n).map fun p => ((Sum.inr p.1 : Key), V.int (p.2 : Int))) (Sum.inr s) = if s ∈ st then some (V.int ((n + st.idxOf s : Nat) : Int)) else none
  | [], n, s => rfl
  | t :: st, n, s => by
    rw [List.zipIdx_cons, List.map_cons]
    by_cases e : t = s
    · subst e
      rw [valV_pos rfl, if_pos List.mem_cons_self, List.idxOf_cons_self]
      rfl
    · rw [valV_neg (by intro z; exact e (Sum.inr.inj z)), num_val_from st (n + 1) s]
      have e' : (t == s) = false := by simpa using e
      by_cases hm : s ∈ st
      · rw [if_pos hm, if_pos (List.mem_cons_of_mem _ hm), List.idxOf_cons, e']
        simp only [cond_false]
        congr 3
        omega
      · rw [if_neg hm, if_neg (by simp [hm, Ne.symm e])]
theorem num_val (st : List Str) (s : Str) : valV (numK st) (Sum.inr s) = if s ∈ st then some (V.int (st.idxOf s : Int)) else none := by
  have h := num_val_from st 0 s
  simpa [numK] using h
end Vf
namespace Vf
open PySem L2
/-! ### a draft of a protocol -/
structure DA where
  ls : Addr
  li : Addr
  ll : Addr
  lr : Addr
  lo : Addr
  dn : Addr
  dr : Addr
structure DD where
  st : List Str
  ins : List (Str × Str)
  ld : List Str
  ru : List S4
  ou : List Int
def DD.nil : DD := ⟨[], [], [], [], []⟩
def DA.foot (a : DA) : List Addr := [a.ls, a.li, a.ll, a.lr, a.lo, a.dn, a.dr]
def dFs (a : DA) : List (Str × V) := [("states", .ref a.ls), ("inputs", .ref a.li), ("leaders", .ref a.ll), ("rules", .ref a.lr), ("outputs", .ref a.lo), ("numbers", .ref a.dn), ("results", .ref a.dr)]
theorem dFs_new (a : DA) : putF "results" (.ref a.dr) (putF "numbers" (.ref a.dn) (putF "outputs" (.ref a.lo) (putF "rules" (.ref a.lr) (putF "leaders" (.ref a.ll) (putF "inputs" (.ref a.li) (putF "states" (.ref a.ls) [])))))) = dFs a := by rfl
def ix (st : List Str) (s : Str) : Int := (st.idxOf s : Int)
def ruKey (st : List Str) (r : S4) : List Key := [Sum.inl (ix st r.1), Sum.inl (ix st r.2.1)]
def encR (st : List Str) (r : S4) : List V := [.int (ix st r.2.2.1), .int (ix st r.2.2.2)]
/-- the dict of the results of rules -/
structure Res (H : Hp) (st : List Str) (ru : List S4) (kvs : List (List Key × V)) : Prop where
  keys : kvs.map (·.1) = ru.map (ruKey st)
  vals : Tups (encR st) H (kvs.map (·.2)) ru
structure DraftAt (C : Addr) (H : Hp) (p : Addr) (a : DA) (D : DD) : Prop where
  ob : ∃ dx, H p = some (.ins C dx (dFs a))
  ls : H a.ls = some (.lst (D.st.map V.str))
  li : ∃ xs, H a.li = some (.lst xs) ∧ Tups enc2 H xs D.ins
  ll : H a.ll = some (.lst (D.ld.map V.str))
  lr : ∃ xs, H a.lr = some (.lst xs) ∧ Tups enc4 H xs D.ru
  lo : H a.lo = some (.lst (D.ou.map V.int))
  dn : H a.dn = some (.dK (numK D.st))
  dr : ∃ kvs, H a.dr = some (.dT kvs) ∧ Res H D.st D.ru kvs
  nd : [a.ls, a.li, a.ll, a.lr, a.lo].Nodup
/-- all but these objects are as they were -/
def Keep (S : List Addr) (H H' : Hp) : Prop := ∀ b o, b ∉ S → H b = some o → H' b = some o
theorem Keep.refl {S : List Addr} (H : Hp) : Keep S H H := fun _ _ _ h => h
theorem Keep.trans {S : List Addr} {H H1 H2 : Hp} (a : Keep S H H1) (b : Keep S H1 H2) : Keep S H H2 := fun c o n h => b c o n (a c o n h)
theorem Keep.of {S : List Addr} {H H' : Hp} (e : Same H H') : Keep S H H' := fun b o _ h => e b o h
theorem Keep.put {S : List Addr} {H H' : Hp} {p : Addr} {o : HO} (e : Keep S H H') (h : p ∈ S) : Keep S H (upd H' p o) := fun b u n q => by
  have ne : b ≠ p := fun z => n (by rw [z]; exact h)
  rw [upd_ne ne]
  exact e b u n q
theorem Tups.keep {α : Type} {enc : α → List V} {S : List Addr} {H H' : Hp} {xs : List V} {l : List α} (h : Tups enc H xs l) (k : Keep S H H') (n : ∀ t ys, H t = some (.tup ys) → t ∉ S) : Tups enc H' xs l := h.mono fun t ys e => k t _ (n t ys e) e
section
variable {C : Addr} {H H' : Hp} {p : Addr} {a : DA} {D : DD}
theorem DraftAt.notup (S : DraftAt C H p a D) (t : Addr) (ys : List V) (h : H t = some (.tup ys)) : t ∉ a.foot := by
  obtain ⟨_, h1, _⟩ := S.li
  obtain ⟨_, h2, _⟩ := S.lr
  obtain ⟨_, h3, _⟩ := S.dr
  intro m
  simp only [DA.foot, List.mem_cons, List.not_mem_nil, or_false] at m
  rcases m with rfl | rfl | rfl | rfl | rfl | rfl | rfl
  · rw [S.ls] at h; cases h
  · rw [h1] at h; cases h
  · rw [S.ll] at h; cases h
  · rw [h2] at h; cases h
  · rw [S.lo] at h; cases h
  · rw [S.dn] at h; cases h
  · rw [h3] at h; cases h
theorem Res.same {st : List Str} {ru : List S4} {kvs : List (List Key × V)} (h : Res H st ru kvs) (k : ∀ t ys, H t = some (.tup ys) → H' t = some (.tup ys)) : Res H' st ru kvs := ⟨h.keys, h.vals.mono k⟩
theorem DraftAt.same (S : DraftAt C H p a D) (e : Same H H') : DraftAt C H' p a D := by
  obtain ⟨dx, h0⟩ := S.ob
  obtain ⟨_, h1, t1⟩ := S.li
  obtain ⟨_, h2, t2⟩ := S.lr
  obtain ⟨_, h3, t3⟩ := S.dr
  exact ⟨⟨dx, e _ _ h0⟩, e _ _ S.ls, ⟨_, e _ _ h1, t1.same e⟩, e _ _ S.ll, ⟨_, e _ _ h2, t2.same e⟩, e _ _ S.lo, e _ _ S.dn, ⟨_, e _ _ h3, t3.same fun t ys => e t _⟩, S.nd⟩
end
end Vf
namespace Vf
open PySem L2
section
variable {C : Addr} {H H' : Hp} {p : Addr} {a : DA} {D D' : DD}
/-- all of its objects are different ones -/
structure Dist (p : Addr) (a : DA) : Prop where
  pa : p ≠ a.ls
  pb : p ≠ a.li
  pc : p ≠ a.ll
  pd : p ≠ a.lr
  pe : p ≠ a.lo
  pf : p ≠ a.dn
  pg : p ≠ a.dr
  ab : a.ls ≠ a.li
  ac : a.ls ≠ a.ll
  ad : a.ls ≠ a.lr
  ae : a.ls ≠ a.lo
  af : a.ls ≠ a.dn
  ag : a.ls ≠ a.dr
  bc : a.li ≠ a.ll
  bd : a.li ≠ a.lr
  be : a.li ≠ a.lo
  bf : a.li ≠ a.dn
  bg : a.li ≠ a.dr
  cd : a.ll ≠ a.lr
  ce : a.ll ≠ a.lo
  cf : a.ll ≠ a.dn
  cg : a.ll ≠ a.dr
  de : a.lr ≠ a.lo
  df : a.lr ≠ a.dn
  dg : a.lr ≠ a.dr
  ef : a.lo ≠ a.dn
  eg : a.lo ≠ a.dr
  fg : a.dn ≠ a.dr
theorem DraftAt.dist (S : DraftAt C H p a D) : Dist p a := by
  obtain ⟨_, h0⟩ := S.ob
  obtain ⟨_, h1, _⟩ := S.li
  obtain ⟨_, h2, _⟩ := S.lr
  obtain ⟨_, h3, _⟩ := S.dr
  have n := S.nd
  simp only [List.nodup_cons, List.mem_cons, List.not_mem_nil, or_false, not_or, not_false_eq_true, List.nodup_nil, and_true] at n
  obtain ⟨⟨n1, n2, n3, n4⟩, ⟨n5, n6, n7⟩, ⟨n8, n9⟩, n10⟩ := n
  refine ⟨ne_of h0 S.ls ?_, ne_of h0 h1 ?_, ne_of h0 S.ll ?_, ne_of h0 h2 ?_, ne_of h0 S.lo ?_, ne_of h0 S.dn ?_, ne_of h0 h3 ?_, n1, n2, n3, n4, ne_of S.ls S.dn ?_, ne_of S.ls h3 ?_, n5, n6, n7, ne_of h1 S.dn ?_, ne_of h1 h3 ?_, n8, n9, ne_of S.ll S.dn ?_, ne_of S.ll h3 ?_, n10, ne_of h2 S.dn ?_, ne_of h2 h3 ?_, ne_of S.lo S.dn ?_, ne_of S.lo h3 ?_, ne_of S.dn h3 ?_⟩ <;> (intro z; cases z)
theorem Dist.pn (d : Dist p a) : p ∉ a.foot := by
  intro m
  simp only [DA.foot, List.mem_cons, List.not_mem_nil, or_false] at m
  rcases m with m | m | m | m | m | m | m
  · exact d.pa m
  · exact d.pb m
  · exact d.pc m
  · exact d.pd m
  · exact d.pe m
  · exact d.pf m
  · exact d.pg m
theorem DraftAt.next (S : DraftAt C H p a D) (k : Keep a.foot H H') (ls : H' a.ls = some (.lst (D'.st.map V.str))) (li : ∃ xs, H' a.li = some (.lst xs) ∧ Tups enc2 H' xs D'.ins) (ll : H' a.ll = some (.lst (D'.ld.map V.str)))
    (lr : ∃ xs, H' a.lr = some (.lst xs) ∧ Tups enc4 H' xs D'.ru) (lo : H' a.lo = some (.lst (D'.ou.map V.int))) (dn : H' a.dn = some (.dK (numK D'.st))) (dr : ∃ kvs, H' a.dr = some (.dT kvs) ∧ Res H' D'.st D'.ru kvs) : DraftAt C H' p a D' := by
  obtain ⟨dx, h0⟩ := S.ob
  exact ⟨⟨dx, k p _ S.dist.pn h0⟩, ls, li, ll, lr, lo, dn, dr, S.nd⟩
theorem DraftAt.li' (S : DraftAt C H p a D) (k : Keep a.foot H H') (e : H' a.li = H a.li) : ∃ xs, H' a.li = some (.lst xs) ∧ Tups enc2 H' xs D.ins := by
  obtain ⟨xs, h, t⟩ := S.li
  exact ⟨xs, e.trans h, t.keep k S.notup⟩
theorem DraftAt.lr' (S : DraftAt C H p a D) (k : Keep a.foot H H') (e : H' a.lr = H a.lr) : ∃ xs, H' a.lr = some (.lst xs) ∧ Tups enc4 H' xs D.ru := by
  obtain ⟨xs, h, t⟩ := S.lr
  exact ⟨xs, e.trans h, t.keep k S.notup⟩
theorem DraftAt.dr' (S : DraftAt C H p a D) (k : Keep a.foot H H') (e : H' a.dr = H a.dr) : ∃ kvs, H' a.dr = some (.dT kvs) ∧ Res H' D.st D.ru kvs := by
  obtain ⟨xs, h, t⟩ := S.dr
  exact ⟨xs, e.trans h, t.same fun u ys z => k u _ (S.notup u ys z) z⟩
end
theorem cat {a b : Str} {m n : Nat} (ha : a.length ≤ m) (hb : b.length ≤ n) : (a ++ b).length ≤ m + n := len2 ha hb (Nat.le_refl _)
theorem lit {a : Str} (h : decide (a.length ≤ 200) = true) : a.length ≤ 200 := of_decide_eq_true h
/-! ### what may be added (point 4) -/
def DD.okState (D : DD) (name : Str) (output : Int) : Bool := decide (D.st.length < 400) && isName name && decide (name ∉ D.st) && decide (0 ≤ output ∧ output ≤ 9)
def DD.addState (D : DD) (name : Str) (output : Int) : DD := { D with st := D.st ++ [name], ou := D.ou ++ [output] }
def DD.okInput (D : DD) (p : Str × Str) : Bool := decide (D.ins.length < 8) && isName p.1 && decide (p.1 ∉ D.ins.map (·.1)) && decide (p.2 ∈ D.st)
def DD.addInput (D : DD) (p : Str × Str) : DD := { D with ins := D.ins ++ [p] }
def DD.okLeader (D : DD) (s : Str) : Bool := decide (D.ld.length < 10) && decide (s ∈ D.st)
def DD.addLeader (D : DD) (s : Str) : DD := { D with ld := D.ld ++ [s] }
def DD.okRule (D : DD) (r : S4) : Bool := decide (r.1 ∈ D.st) && decide (r.2.1 ∈ D.st) && decide (r.2.2.1 ∈ D.st) && decide (r.2.2.2 ∈ D.st) && decide ((r.1, r.2.1) ∉ D.ru.map fun x => (x.1, x.2.1))
def DD.addRule (D : DD) (r : S4) : DD := { D with ru := D.ru ++ [r] }
end Vf
namespace Vf
open PySem L2
abbrev Sm (s : Str) : Prop := s.length ≤ 1000000
theorem sm_lit {a : Str} (h : decide (a.length ≤ 200) = true) : Sm a := Nat.le_trans (of_decide_eq_true h) (by decide)
theorem sm_num {i : Int} (h : i.natAbs.log2 < 1920) : Sm (Str.ofString (toString i)) := Nat.le_trans (num_len h) (by decide)
theorem fit0 {k : Nat} {s : Str} (h : s.length ≤ k * 1000000) (hk : k ≤ 16) : s.length ≤ sizeLine := Nat.le_trans h (by rw [sizeLine_eq]; omega)
theorem fit1 {a : Str} (ha : Sm a) : (Str.empty ++ a).length ≤ sizeLine := by
  refine fit0 (k := 1) ?_ (by decide)
  simp only [Str.length_append, Sm] at *
  have h0 : Str.empty.length = 0 := rfl
  omega
theorem fit2 {a b : Str} (ha : Sm a) (hb : Sm b) : ((Str.empty ++ a) ++ b).length ≤ sizeLine := by
  refine fit0 (k := 2) ?_ (by decide)
  simp only [Str.length_append, Sm] at *
  have h0 : Str.empty.length = 0 := rfl
  omega
theorem fit3 {a b c : Str} (ha : Sm a) (hb : Sm b) (hc : Sm c) : (((Str.empty ++ a) ++ b) ++ c).length ≤ sizeLine := by
  refine fit0 (k := 3) ?_ (by decide)
  simp only [Str.length_append, Sm] at *
  have h0 : Str.empty.length = 0 := rfl
  omega
theorem fit4 {a b c d : Str} (ha : Sm a) (hb : Sm b) (hc : Sm c) (hd : Sm d) : ((((Str.empty ++ a) ++ b) ++ c) ++ d).length ≤ sizeLine := by
  refine fit0 (k := 4) ?_ (by decide)
  simp only [Str.length_append, Sm] at *
  have h0 : Str.empty.length = 0 := rfl
  omega
theorem fit5 {a b c d e : Str} (ha : Sm a) (hb : Sm b) (hc : Sm c) (hd : Sm d) (he : Sm e) : (((((Str.empty ++ a) ++ b) ++ c) ++ d) ++ e).length ≤ sizeLine := by
  refine fit0 (k := 5) ?_ (by decide)
  simp only [Str.length_append, Sm] at *
  have h0 : Str.empty.length = 0 := rfl
  omega
theorem fit6 {a b c d e f : Str} (ha : Sm a) (hb : Sm b) (hc : Sm c) (hd : Sm d) (he : Sm e) (hf : Sm f) : ((((((Str.empty ++ a) ++ b) ++ c) ++ d) ++ e) ++ f).length ≤ sizeLine := by
  refine fit0 (k := 6) ?_ (by decide)
  simp only [Str.length_append, Sm] at *
  have h0 : Str.empty.length = 0 := rfl
  omega
theorem fit7 {a b c d e f g : Str} (ha : Sm a) (hb : Sm b) (hc : Sm c) (hd : Sm d) (he : Sm e) (hf : Sm f) (hg : Sm g) : (((((((Str.empty ++ a) ++ b) ++ c) ++ d) ++ e) ++ f) ++ g).length ≤ sizeLine := by
  refine fit0 (k := 7) ?_ (by decide)
  simp only [Str.length_append, Sm] at *
  have h0 : Str.empty.length = 0 := rfl
  omega
theorem fit8 {a b c d e f g h : Str} (ha : Sm a) (hb : Sm b) (hc : Sm c) (hd : Sm d) (he : Sm e) (hf : Sm f) (hg : Sm g) (hh : Sm h) : ((((((((Str.empty ++ a) ++ b) ++ c) ++ d) ++ e) ++ f) ++ g) ++ h).length ≤ sizeLine := by
  refine fit0 (k := 8) ?_ (by decide)
  simp only [Str.length_append, Sm] at *
  have h0 : Str.empty.length = 0 := rfl
  omega
theorem fit9 {a b c d e f g h i : Str} (ha : Sm a) (hb : Sm b) (hc : Sm c) (hd : Sm d) (he : Sm e) (hf : Sm f) (hg : Sm g) (hh : Sm h) (hi : Sm i) : (((((((((Str.empty ++ a) ++ b) ++ c) ++ d) ++ e) ++ f) ++ g) ++ h) ++ i).length ≤ sizeLine := by
  refine fit0 (k := 9) ?_ (by decide)
  simp only [Str.length_append, Sm] at *
  have h0 : Str.empty.length = 0 := rfl
  omega
theorem fit10 {a b c d e f g h i j : Str} (ha : Sm a) (hb : Sm b) (hc : Sm c) (hd : Sm d) (he : Sm e) (hf : Sm f) (hg : Sm g) (hh : Sm h) (hi : Sm i) (hj : Sm j) : ((((((((((Str.empty ++ a) ++ b) ++ c) ++ d) ++ e) ++ f) ++ g) ++ h) ++ i) ++ j).length ≤ sizeLine := by
  refine fit0 (k := 10) ?_ (by decide)
  simp only [Str.length_append, Sm] at *
  have h0 : Str.empty.length = 0 := rfl
  omega
end Vf
namespace Vf
open PySem L2
theorem inV_str (s : Str) (l : List Str) : inV (.str s) (l.map V.str) = decide (s ∈ l) := by
  unfold inV
  rw [Bool.eq_iff_iff, List.any_eq_true, decide_eq_true_iff]
  constructor
  · rintro ⟨y, hy, h⟩
    obtain ⟨t, ht, rfl⟩ := List.mem_map.mp hy
    have e : (t == s) = true := h
    rw [beq_iff_eq] at e
    rw [← e]
    exact ht
  · intro h
    exact ⟨.str s, List.mem_map.mpr ⟨s, h, rfl⟩, (beq_self_eq_true s : (s == s) = true)⟩
theorem flat_str (l : List Str) : (l.map V.str).all flatV = true := by
  rw [List.all_eq_true]
  intro x hx
  obtain ⟨t, _, rfl⟩ := List.mem_map.mp hx
  rfl
theorem range_map {α : Type} (l : List α) (f : α → V) (d : α) (n : Nat) (h : n = l.length) : ((List.range n).map fun i => f (l.getD i d)) = l.map f := by
  subst h
  apply List.ext_getElem?
  intro i
  rw [List.getElem?_map, List.getElem?_map]
  by_cases hi : i < l.length
  · rw [List.getElem?_range hi, List.getElem?_eq_getElem hi]
    simp [List.getD, hi]
  · rw [List.getElem?_eq_none (by simp; omega), List.getElem?_eq_none (by omega)]
    rfl
theorem ix_inj {st : List Str} {s t : Str} (hs : s ∈ st) (ht : t ∈ st) (h : ix st s = ix st t) : s = t := by
  have e : st.idxOf s = st.idxOf t := by
    unfold ix at h
    omega
  have a := List.getElem_idxOf (List.idxOf_lt_length_of_mem hs)
  have b := List.getElem_idxOf (List.idxOf_lt_length_of_mem ht)
  rw [← a, ← b]
  congr 1
/-- the four names of a rule -/
def r4 (r : S4) : List Str := [r.1, r.2.1, r.2.2.1, r.2.2.2]
theorem enc4_eq (r : S4) : enc4 r = (r4 r).map V.str := rfl
theorem num_in {st : List Str} {s : Str} (h : s ∈ st) : valV (numK st) (Sum.inr s) = some (V.int (ix st s)) := by
  rw [num_val, if_pos h]
  rfl
theorem key_none {H : Hp} {D : DD} {kvs : List (List Key × V)} (R : Res H D.st D.ru kvs) {r : S4} (h1 : r.1 ∈ D.st) (h2 : r.2.1 ∈ D.st) (hw : ∀ x ∈ D.ru, x.1 ∈ D.st ∧ x.2.1 ∈ D.st) :
    (!(valV kvs (ruKey D.st r)).isSome) = decide ((r.1, r.2.1) ∉ D.ru.map fun x => (x.1, x.2.1)) := by
  have e : (valV kvs (ruKey D.st r)).isSome = true ↔ ruKey D.st r ∈ D.ru.map (ruKey D.st) := by
    rw [← R.keys, ← valV_any, List.any_eq_true, List.mem_map]
    constructor
    · rintro ⟨x, hx, h⟩
      exact ⟨x, hx, of_decide_eq_true h⟩
    · rintro ⟨x, hx, h⟩
      exact ⟨x, hx, decide_eq_true h⟩
  by_cases hm : (r.1, r.2.1) ∈ D.ru.map fun x => (x.1, x.2.1)
  · have hm2 : ruKey D.st r ∈ D.ru.map (ruKey D.st) := by
      obtain ⟨x, hx, ex⟩ := List.mem_map.mp hm
      have e1 : x.1 = r.1 := (Prod.mk.inj ex).1
      have e2 : x.2.1 = r.2.1 := (Prod.mk.inj ex).2
      refine List.mem_map.mpr ⟨x, hx, ?_⟩
      unfold ruKey
      rw [e1, e2]
    rw [e.mpr hm2, decide_eq_false (fun z => z hm)]
    rfl
  · have hm2 : ruKey D.st r ∉ D.ru.map (ruKey D.st) := by
      intro h
      obtain ⟨x, hx, ex⟩ := List.mem_map.mp h
      unfold ruKey at ex
      simp only [List.cons.injEq, Sum.inl.injEq, and_true] at ex
      obtain ⟨w1, w2⟩ := hw x hx
      exact hm (List.mem_map.mpr ⟨x, hx, by rw [ix_inj w1 h1 ex.1, ix_inj w2 h2 ex.2]⟩)
    have e3 : (valV kvs (ruKey D.st r)).isSome = false := by
      cases q : (valV kvs (ruKey D.st r)).isSome with
      | false => rfl
      | true => exact absurd (e.mp q) hm2
    rw [e3, decide_eq_true hm]
    rfl
theorem key_new {H : Hp} {D : DD} {kvs : List (List Key × V)} (R : Res H D.st D.ru kvs) {r : S4} (h1 : r.1 ∈ D.st) (h2 : r.2.1 ∈ D.st) (hw : ∀ x ∈ D.ru, x.1 ∈ D.st ∧ x.2.1 ∈ D.st) (hn : (r.1, r.2.1) ∉ D.ru.map fun x => (x.1, x.2.1)) : valV kvs (ruKey D.st r) = none := by
  have h := key_none R h1 h2 hw
  rw [decide_eq_true hn] at h
  cases e : valV kvs (ruKey D.st r) with
  | none => rfl
  | some v => rw [e] at h; cases h
theorem Res.snoc {H H' : Hp} {st : List Str} {ru : List S4} {kvs : List (List Key × V)} (R : Res H st ru kvs) (k : ∀ t ys, H t = some (.tup ys) → H' t = some (.tup ys)) {r : S4} {t : Addr} (ht : H' t = some (.tup (encR st r))) : Res H' st (ru ++ [r]) (kvs ++ [(ruKey st r, .ref t)]) := by
  have R' := R.same k
  refine ⟨by rw [List.map_append, List.map_append, R'.keys]; rfl, ?_⟩
  rw [List.map_append]
  exact R'.vals.snoc ht
theorem Res.len {H : Hp} {st : List Str} {ru : List S4} {kvs : List (List Key × V)} (R : Res H st ru kvs) : kvs.length = ru.length := by
  have := congrArg List.length R.keys
  simpa using this
end Vf
namespace Vf
open PySem L2
/-- point 4 -/
structure Valid (D : DD) : Prop where
  len : D.ou.length = D.st.length
  st : ∀ i s o, D.st[i]? = some s → D.ou[i]? = some o → DD.okState ⟨D.st.take i, [], [], [], D.ou.take i⟩ s o = true
  ins : ∀ i x, D.ins[i]? = some x → DD.okInput ⟨D.st, D.ins.take i, [], [], D.ou⟩ x = true
  ld : ∀ i x, D.ld[i]? = some x → DD.okLeader ⟨D.st, D.ins, D.ld.take i, [], D.ou⟩ x = true
  ru : ∀ i x, D.ru[i]? = some x → DD.okRule ⟨D.st, D.ins, D.ld, D.ru.take i, D.ou⟩ x = true
/-- texts of a draft are not too long for messages -/
structure Short (D : DD) : Prop where
  st : ∀ s ∈ D.st, s.length ≤ 1000000
  ou : ∀ o ∈ D.ou, o.natAbs.log2 < 1920
  ins : ∀ p ∈ D.ins, p.1.length ≤ 1000000 ∧ p.2.length ≤ 1000000
  ld : ∀ s ∈ D.ld, s.length ≤ 1000000
  ru : ∀ r ∈ D.ru, ∀ x ∈ r4 r, x.length ≤ 1000000
  nru : D.ru.length ≤ 1000000
theorem Same.but {S : List Addr} {H H1 H2 : Hp} (e : Same H H1) (k : Keep S H1 H2) (f : ∀ b ∈ S, H b = none) : Same H H2 := fun b o h => k b o (fun m => by rw [f b m] at h; cases h) (e b o h)
theorem take_snoc {α : Type} : ∀ {l : List α} {i : Nat} {x : α}, l[i]? = some x → l.take (i + 1) = l.take i ++ [x]
  | [], i, x, h => by simp at h
  | a :: l, 0, x, h => by
    have e : a = x := Option.some.inj h
    subst e
    rfl
  | a :: l, i + 1, x, h => by
    have e : l[i]? = some x := h
    rw [List.take_succ_cons, take_snoc e]
    rfl
theorem okRule_in {D : DD} {r : S4} (h : D.okRule r = true) : r.1 ∈ D.st ∧ r.2.1 ∈ D.st := by
  unfold DD.okRule at h
  simp only [Bool.and_eq_true, decide_eq_true_eq] at h
  exact ⟨h.1.1.1.1, h.1.1.1.2⟩
end Vf
namespace Vf
theorem map_get {α β : Type} {f : α → β} {l : List α} {i : Nat} {x : β} (h : (l.map f)[i]? = some x) : ∃ a, l[i]? = some a ∧ x = f a := by
  rw [List.getElem?_map] at h
  cases e : l[i]? with
  | none => rw [e] at h; cases h
  | some a => rw [e] at h; exact ⟨a, rfl, (Option.some.inj h).symm⟩
end Vf
namespace Vf
theorem nodup_ix {α : Type} : ∀ {l : List α} {i j : Nat} {a : α}, l.Nodup → l[i]? = some a → l[j]? = some a → i = j
  | [], i, j, a, _, h, _ => by simp at h
  | x :: l, 0, 0, a, _, _, _ => rfl
  | x :: l, 0, j + 1, a, n, h, h' => by
    have e : x = a := Option.some.inj h
    subst e
    have h2 : l[j]? = some x := h'
    exact absurd (List.mem_of_getElem? h2) (List.nodup_cons.mp n).1
  | x :: l, i + 1, 0, a, n, h, h' => by
    have e : x = a := Option.some.inj h'
    subst e
    have h2 : l[i]? = some x := h
    exact absurd (List.mem_of_getElem? h2) (List.nodup_cons.mp n).1
  | x :: l, i + 1, j + 1, a, n, h, h' => by
    have h1 : l[i]? = some a := h
    have h2 : l[j]? = some a := h'
    rw [nodup_ix (List.nodup_cons.mp n).2 h1 h2]
end Vf
namespace Vf
open PySem L2
theorem tyes {σ : L2.St} {H : Hp} {A B : Hp → Prop} (h : A H) : tYes σ H (fun b H3 => if b = true then A H3 else B H3) := by
  show (if true = true then A H else B H)
  rw [if_pos rfl]
  exact h
end Vf
namespace Vf
theorem Keep.self {S : List PySem.Addr} {H H' : L2.Hp} (_ : Keep S H H') : Keep S H' H' := Keep.refl H'
end Vf
namespace Vf
open PySem L2
theorem list_choose {α β : Type} : ∀ {xs : List α} {R : Nat → α → β → Prop}, (∀ i y, xs[i]? = some y → ∃ a, R i y a) → ∃ l : List β, l.length = xs.length ∧ ∀ i y a, xs[i]? = some y → l[i]? = some a → R i y a
  | [], R, _ => ⟨[], rfl, fun i y a h => by simp at h⟩
  | x :: xs, R, h => by
    obtain ⟨a, ha⟩ := h 0 x rfl
    obtain ⟨l, hl, hr⟩ := list_choose (xs := xs) (R := fun i => R (i + 1)) fun i y e => h (i + 1) y e
    refine ⟨a :: l, by simp [hl], fun i y b e1 e2 => ?_⟩
    cases i with
    | zero =>
      have z1 : x = y := Option.some.inj e1
      have z2 : a = b := Option.some.inj e2
      subst z1
      subst z2
      exact ha
    | succ i => exact hr i y b e1 e2
section
variable {J : It} {n : Nat} {G : Hp → Prop} {Y : Nat → Hp → V → Hp → Prop} {g : TG} {te : TE} {vs : List Nat} {σ : L2.St} {H1 : Hp} {D : Addr} {Qd : Hp → Prop} {α : Type}
/-- a comprehension whose items are values of a kind, each with a property -/
theorem lc_enc (w : Walk J n G Y) (e : α → V) (good : Nat → α → Prop) (hD : H1 D = none) (hn : n ≤ 1000000) (hG : ∀ H, Same H1 H → G H)
    (hs : ∀ i x H H', i < n → Same H1 H → Y i H x H' → ∀ Q' : VK, (∀ a H4, Same H H4 → good i a → Q' (e a) H4) → g x (wipe σ vs) H' fun σ2 H2 => wipe σ2 vs = wipe σ vs ∧ te σ2 H2 Q')
    (hd : ∀ (l : List α) H, l.length = n → Same H1 H → H D = some (.lst (l.map e)) → (∀ i a, l[i]? = some a → good i a) → Qd H) :
    ∃ W : Nat → Nat → Hp → Prop, (∃ m, W 0 m (upd H1 D (.lst []))) ∧ ∀ i m H, W i m H →
      (J.stop i H ∧ Qd H) ∨ (J.go i H ∧ ∃ Nx : Hp → Prop, (∀ H', Nx H' → ∃ m', m' < m ∧ W (i + 1) m' H') ∧ ∀ x H', J.yld i H x H' → g x (wipe σ vs) H' fun σ2 H2 => wipe σ2 vs = wipe σ vs ∧ tYes σ2 H2 fun b H3 =>
        if b = true then te σ2 H3 fun y H4 => ∃ acc, H4 D = some (.lst acc) ∧ acc.length < sizeLine ∧ Nx (upd H4 D (.lst (acc ++ [y]))) else Nx H3) := by
  refine lc_rel w (fun i y _ => ∃ a, y = e a ∧ good i a) hD (fun i y H H' acc _ _ h => h) hn hG (fun i x H H' acc hi s _ hy Q' q => hs i x H H' hi s hy Q' fun a H4 s4 ga => q _ H4 s4 ⟨a, rfl, ga⟩) fun xs H hl s hx hp => ?_
  obtain ⟨l, h1, h2⟩ := list_choose (R := fun i y a => y = e a ∧ good i a) hp
  have ex : xs = l.map e := by
    apply List.ext_getElem?
    intro i
    rw [List.getElem?_map]
    cases h : xs[i]? with
    | none =>
      have := List.getElem?_eq_none_iff.mp h
      rw [List.getElem?_eq_none (by omega)]
      rfl
    | some y =>
      have hi := (List.getElem?_eq_some_iff.mp h).1
      have e1 : l[i]? = some l[i] := List.getElem?_eq_getElem (by omega)
      rw [e1]
      exact congrArg some (h2 i y _ h e1).1
  subst ex
  refine hd l H (by rw [h1]; exact hl) s hx fun i a ha => ?_
  have e2 : (l.map e)[i]? = some (e a) := by rw [List.getElem?_map, ha]; rfl
  exact (h2 i _ a e2 ha).2
/-- .. whose items are new tuples -/
theorem lc_tups (w : Walk J n G Y) (enc : α → List V) (good : Nat → α → Prop) (hD : H1 D = none) (hn : n ≤ 1000000) (hG : ∀ H, Same H1 H → G H)
    (hs : ∀ i x H H', i < n → Same H1 H → Y i H x H' → ∀ Q' : VK, (∀ a t H4, Same H H4 → H4 t = some (.tup (enc a)) → good i a → Q' (.ref t) H4) → g x (wipe σ vs) H' fun σ2 H2 => wipe σ2 vs = wipe σ vs ∧ te σ2 H2 Q')
    (hd : ∀ (l : List α) xs H, l.length = n → Same H1 H → H D = some (.lst xs) → Tups enc H xs l → (∀ i a, l[i]? = some a → good i a) → Qd H) :
    ∃ W : Nat → Nat → Hp → Prop, (∃ m, W 0 m (upd H1 D (.lst []))) ∧ ∀ i m H, W i m H →
      (J.stop i H ∧ Qd H) ∨ (J.go i H ∧ ∃ Nx : Hp → Prop, (∀ H', Nx H' → ∃ m', m' < m ∧ W (i + 1) m' H') ∧ ∀ x H', J.yld i H x H' → g x (wipe σ vs) H' fun σ2 H2 => wipe σ2 vs = wipe σ vs ∧ tYes σ2 H2 fun b H3 =>
        if b = true then te σ2 H3 fun y H4 => ∃ acc, H4 D = some (.lst acc) ∧ acc.length < sizeLine ∧ Nx (upd H4 D (.lst (acc ++ [y]))) else Nx H3) := by
  refine lc_rel w (fun i y H => ∃ a t, y = .ref t ∧ H t = some (.tup (enc a)) ∧ good i a) hD (fun i y H H' acc hacc k ⟨a, t, e1, e2, e3⟩ => ⟨a, t, e1, k t _ (fun z => by rw [z, hacc] at e2; cases e2) e2, e3⟩) hn hG
    (fun i x H H' acc hi s _ hy Q' q => hs i x H H' hi s hy Q' fun a t H4 s4 ht ga => q _ H4 s4 ⟨a, t, rfl, ht, ga⟩) fun xs H hl s hx hp => ?_
  obtain ⟨l, h1, h2⟩ := list_choose (R := fun i y a => ∃ t, y = V.ref t ∧ H t = some (.tup (enc a)) ∧ good i a) hp
  refine hd l xs H (by rw [h1]; exact hl) s hx ⟨h1.symm, fun i a ha => ?_⟩ fun i a ha => ?_
  · have hi := (List.getElem?_eq_some_iff.mp ha).1
    have e1 : xs[i]? = some xs[i] := List.getElem?_eq_getElem (by omega)
    obtain ⟨t, e2, e3, _⟩ := h2 i _ a e1 ha
    exact ⟨t, by rw [e1, e2], e3⟩
  · have hi := (List.getElem?_eq_some_iff.mp ha).1
    have e1 : xs[i]? = some xs[i] := List.getElem?_eq_getElem (by omega)
    obtain ⟨t, _, _, e4⟩ := h2 i _ a e1 ha
    exact e4
end
theorem map_at {α : Type} {f : α → V} {l : List α} {i : Int} {d : α} (h0 : 0 ≤ i) (h1 : i < l.length) : atI (l.map f) i = some (f (l.getD i.toNat d)) := by
  obtain ⟨j, rfl⟩ : ∃ j : Nat, i = (j : Int) := ⟨i.toNat, by omega⟩
  have hj : j < l.length := by omega
  refine atI_nat ?_
  rw [List.getElem?_map, List.getElem?_eq_getElem hj]
  simp [List.getD, List.getElem?_eq_getElem hj]
/-! ### point 4 without an order -/
structure ValidN (D : DD) : Prop where
  len : D.ou.length = D.st.length
  n400 : D.st.length ≤ 400
  nm : ∀ s ∈ D.st, isName s = true
  nd : D.st.Nodup
  ou : ∀ o ∈ D.ou, 0 ≤ o ∧ o ≤ 9
  n8 : D.ins.length ≤ 8
  inm : ∀ p ∈ D.ins, isName p.1 = true ∧ p.2 ∈ D.st
  ind : (D.ins.map (·.1)).Nodup
  n10 : D.ld.length ≤ 10
  ldm : ∀ s ∈ D.ld, s ∈ D.st
  rum : ∀ r ∈ D.ru, r.1 ∈ D.st ∧ r.2.1 ∈ D.st ∧ r.2.2.1 ∈ D.st ∧ r.2.2.2 ∈ D.st
  rnd : (D.ru.map fun x => (x.1, x.2.1)).Nodup
theorem nodup_take {α : Type} {l : List α} (h : l.Nodup) {i : Nat} {x : α} (e : l[i]? = some x) : x ∉ l.take i := by
  intro m
  obtain ⟨j, hj⟩ := List.mem_iff_getElem?.mp m
  have jl : j < i := by
    have := (List.getElem?_eq_some_iff.mp hj).1
    rw [List.length_take] at this
    omega
  rw [List.getElem?_take_of_lt jl] at hj
  have := nodup_ix h hj e
  omega
theorem take_len {α : Type} {l : List α} {i : Nat} {x : α} (e : l[i]? = some x) : (l.take i).length = i := by
  have := (List.getElem?_eq_some_iff.mp e).1
  rw [List.length_take]
  omega
theorem ValidN.valid {D : DD} (v : ValidN D) : Valid D := by
  refine ⟨v.len, fun i s o hs ho => ?_, fun i x hx => ?_, fun i x hx => ?_, fun i x hx => ?_⟩
  · have hi := (List.getElem?_eq_some_iff.mp hs).1
    have n4 := v.n400
    have om := v.ou o (List.mem_of_getElem? ho)
    unfold DD.okState
    simp only [take_len hs, v.nm s (List.mem_of_getElem? hs), Bool.and_true, Bool.and_eq_true, decide_eq_true_eq]
    exact ⟨⟨by omega, nodup_take v.nd hs⟩, om⟩
  · have hi := (List.getElem?_eq_some_iff.mp hx).1
    have n8 := v.n8
    obtain ⟨m1, m2⟩ := v.inm x (List.mem_of_getElem? hx)
    unfold DD.okInput
    simp only [take_len hx, m1, Bool.and_true, Bool.and_eq_true, decide_eq_true_eq]
    refine ⟨⟨by omega, ?_⟩, m2⟩
    rw [List.map_take]
    exact nodup_take v.ind (by rw [List.getElem?_map, hx]; rfl)
  · have hi := (List.getElem?_eq_some_iff.mp hx).1
    have n10 := v.n10
    unfold DD.okLeader
    simp only [take_len hx, Bool.and_eq_true, decide_eq_true_eq]
    exact ⟨by omega, v.ldm x (List.mem_of_getElem? hx)⟩
  · obtain ⟨m1, m2, m3, m4⟩ := v.rum x (List.mem_of_getElem? hx)
    unfold DD.okRule
    simp only [Bool.and_eq_true, decide_eq_true_eq]
    refine ⟨⟨⟨⟨m1, m2⟩, m3⟩, m4⟩, ?_⟩
    rw [List.map_take]
    exact nodup_take v.rnd (by rw [List.getElem?_map, hx]; rfl)
end Vf
namespace Vf
open PySem L2
section
variable {α : Type} {enc : α → List V} {H : Hp} {xs ys : List V} {l m : List α}
theorem Tups.append (h : Tups enc H xs l) (k : Tups enc H ys m) : Tups enc H (xs ++ ys) (l ++ m) := by
  refine ⟨by simp [h.1, k.1], fun i a e => ?_⟩
  by_cases hi : i < l.length
  · rw [List.getElem?_append_left hi] at e
    rw [List.getElem?_append_left (by rw [h.1]; exact hi)]
    exact h.2 i a e
  · rw [List.getElem?_append_right (by omega)] at e
    rw [List.getElem?_append_right (by rw [h.1]; omega), h.1]
    exact k.2 _ a e
theorem Tups.drop (h : Tups enc H xs l) (n : Nat) : Tups enc H (xs.drop n) (l.drop n) := by
  refine ⟨by simp [h.1], fun i a e => ?_⟩
  rw [List.getElem?_drop] at e ⊢
  exact h.2 _ a e
theorem Tups.take (h : Tups enc H xs l) (n : Nat) : Tups enc H (xs.take n) (l.take n) := by
  refine ⟨by simp [h.1], fun i a e => ?_⟩
  by_cases hi : i < n
  · rw [List.getElem?_take_of_lt hi] at e ⊢
    exact h.2 _ a e
  · have := (List.getElem?_eq_some_iff.mp e).1
    rw [List.length_take] at this
    omega
theorem Tups.reverse (h : Tups enc H xs l) : Tups enc H xs.reverse l.reverse := by
  refine ⟨by simp [h.1], fun i a e => ?_⟩
  have hi := (List.getElem?_eq_some_iff.mp e).1
  rw [List.length_reverse] at hi
  rw [List.getElem?_reverse (by omega)] at e
  rw [List.getElem?_reverse (by rw [h.1]; exact hi), h.1]
  exact h.2 _ a e
end
theorem cut_from (xs : List V) (t : Nat) (h : t ≤ xs.length) : cutV xs (some (t : Int)) none = xs.drop t := by
  have e1 : HT.sIx xs.length 0 (some (t : Int)) = t := by rw [HT.sIx_nat, Nat.min_eq_left h]
  have e2 : HT.sIx xs.length xs.length none = xs.length := rfl
  unfold cutV
  rw [e1, e2, List.take_of_length_le (by rw [List.length_drop]; exact Nat.le_refl _)]
theorem cut_to (xs : List V) (t : Nat) (h : t ≤ xs.length) : cutV xs none (some (t : Int)) = xs.take t := by
  have e1 : HT.sIx xs.length xs.length (some (t : Int)) = t := by rw [HT.sIx_nat, Nat.min_eq_left h]
  have e2 : HT.sIx xs.length 0 none = 0 := rfl
  unfold cutV
  rw [e1, e2]
  rfl
end Vf
namespace Vf
open PySem L2
/-! ### drawn parts -/
/-- the tuple of five lists -/
def PartsAt (H : Hp) (p : Addr) (D : DD) : Prop := ∃ (ls li ll lr lo : Addr) (xi xr : List V), H p = some (.tup [.ref ls, .ref li, .ref ll, .ref lr, .ref lo]) ∧ H ls = some (.lst (D.st.map V.str)) ∧ H li = some (.lst xi) ∧ Tups enc2 H xi D.ins ∧
  H ll = some (.lst (D.ld.map V.str)) ∧ H lr = some (.lst xr) ∧ Tups enc4 H xr D.ru ∧ H lo = some (.lst (D.ou.map V.int))
theorem PartsAt.same {H H' : Hp} {p : Addr} {D : DD} (h : PartsAt H p D) (e : Same H H') : PartsAt H' p D := by
  obtain ⟨ls, li, ll, lr, lo, xi, xr, h0, h1, h2, t2, h3, h4, t4, h5⟩ := h
  exact ⟨ls, li, ll, lr, lo, xi, xr, e _ _ h0, e _ _ h1, e _ _ h2, t2.same e, e _ _ h3, e _ _ h4, t4.same e, e _ _ h5⟩
def nmB : List Str := ["a", "b", "c", "d1", "e", "f"]
def nmS : List Str := ["", "x", "q7"]
def goodName (i : Nat) (s : Str) : Prop := ∃ j, j < 3 ∧ s = nmB.getD i Str.empty ++ nmS.getD j Str.empty
structure Small (D : DD) : Prop where
  st0 : 1 ≤ D.st.length
  st6 : D.st.length ≤ 6
  in3 : D.ins.length ≤ 3
  ld2 : D.ld.length ≤ 2
  ru36 : D.ru.length ≤ 36
  gn : ∀ (i : Nat) (s : Str), D.st[i]? = some s → goodName i s
theorem ValidN.short {D : DD} (v : ValidN D) (h : D.ru.length ≤ 1000000) : Short D := by
  have nl : ∀ s, isName s = true → s.length ≤ 1000000 := fun s hs => Nat.le_trans (name_len hs) (by decide)
  refine ⟨fun s hs => nl s (v.nm s hs), fun o ho => ?_, fun p hp => ?_, fun s hs => nl s (v.nm s (v.ldm s hs)), fun r hr x hx => ?_, h⟩
  · obtain ⟨h0, h9⟩ := v.ou o ho
    have hb : o.natAbs < 2 ^ 1920 := Nat.lt_of_le_of_lt (show o.natAbs ≤ 9 by omega) (by decide)
    by_cases hz : o.natAbs = 0
    · rw [hz]
      decide
    · exact (Nat.log2_lt hz).mpr hb
  · obtain ⟨m1, m2⟩ := v.inm p hp
    exact ⟨nl _ m1, nl _ (v.nm _ m2)⟩
  · obtain ⟨m1, m2, m3, m4⟩ := v.rum r hr
    simp only [r4, List.mem_cons, List.not_mem_nil, or_false] at hx
    rcases hx with rfl | rfl | rfl | rfl
    · exact nl _ (v.nm _ m1)
    · exact nl _ (v.nm _ m2)
    · exact nl _ (v.nm _ m3)
    · exact nl _ (v.nm _ m4)
theorem names_all : ((List.range 6).all fun i => (List.range 3).all fun j => isName (nmB.getD i Str.empty ++ nmS.getD j Str.empty) && ((nmB.getD i Str.empty ++ nmS.getD j Str.empty).cps.toList.head? == some (97 + i))) = true := by decide +kernel
theorem goodName_of {i : Nat} {s : Str} (hi : i < 6) (h : goodName i s) : isName s = true ∧ s.cps.toList.head? = some (97 + i) := by
  obtain ⟨j, hj, rfl⟩ := h
  have a := List.all_eq_true.mp names_all i (List.mem_range.mpr hi)
  have b := List.all_eq_true.mp a j (List.mem_range.mpr hj)
  rw [Bool.and_eq_true, beq_iff_eq] at b
  exact b
theorem nodup_by {α β : Type} {l : List α} (f : α → β) (g : Nat → β) (h : ∀ i a, l[i]? = some a → f a = g i) (inj : ∀ i j, i < l.length → j < l.length → g i = g j → i = j) : l.Nodup := by
  rw [List.Nodup, List.pairwise_iff_getElem]
  intro i j hi hj hij e
  have e1 := h i _ (List.getElem?_eq_getElem hi)
  have e2 := h j _ (List.getElem?_eq_getElem hj)
  rw [e, e2] at e1
  have := inj j i hj hi e1
  omega
theorem goodNames_nodup {l : List Str} (h6 : l.length ≤ 6) (h : ∀ i a, l[i]? = some a → goodName i a) : l.Nodup :=
  nodup_by (fun s : Str => s.cps.toList.head?) (fun i => some (97 + i)) (fun i a e => (goodName_of (by have := (List.getElem?_eq_some_iff.mp e).1; omega) (h i a e)).2) fun i j _ _ e => by
    have := Option.some.inj e
    omega
def inB : List Str := ["u", "v", "w"]
theorem inB_all : ((List.range 3).all fun i => isName (inB.getD i Str.empty) && ((inB.getD i Str.empty).cps.toList.head? == some (117 + i))) = true := by decide +kernel
theorem inB_of {i : Nat} (hi : i < 3) : isName (inB.getD i Str.empty) = true ∧ (inB.getD i Str.empty).cps.toList.head? = some (117 + i) := by
  have a := List.all_eq_true.mp inB_all i (List.mem_range.mpr hi)
  rw [Bool.and_eq_true, beq_iff_eq] at a
  exact a
end Vf
namespace Vf
open PySem L2
theorem gN {i : Nat} {v : V} {σ : L2.St} {H : Hp} {nx : L2.St → Hp → Prop} (h : nx (σ.set i (some v)) H) : gName i v σ H nx := h
end Vf
namespace Vf
open PySem L2
theorem names_end : ((List.range 6).all fun i => (List.range 3).all fun j => (nmB.getD i Str.empty ++ nmS.getD j Str.empty).cps.toList.getLast? != some 122) = true := by decide +kernel
/-- no drawn name ends so -/
theorem Small.noName {D : DD} (sm : Small D) {s : Str} (h : s.cps.toList.getLast? = some 122) : s ∉ D.st := fun m => by
  obtain ⟨i, hi⟩ := List.mem_iff_getElem?.mp m
  have il := (List.getElem?_eq_some_iff.mp hi).1
  have := sm.st6
  obtain ⟨j, hj, rfl⟩ := sm.gn i s hi
  have a := List.all_eq_true.mp names_end i (List.mem_range.mpr (by omega))
  have b := List.all_eq_true.mp a j (List.mem_range.mpr hj)
  rw [h] at b
  cases b
theorem end_zz (w : Str) : (w ++ ("9zz" : Str)).cps.toList.getLast? = some 122 := by
  have e : (w ++ ("9zz" : Str)).cps.toList = w.cps.toList ++ [57, 122, 122] := by
    show (w.cps ++ ("9zz" : Str).cps).toList = _
    rw [Array.toList_append]
    rfl
  rw [e, List.getLast?_append]
  rfl
end Vf

namespace Vf
open PySem PySem.Spec PyProof.Rows L2
/-- the pair of ints at an address -/
def prAt (H : Hp) (a : Addr) : Int × Int := match H a with
  | some (.tup [.int i, .int j]) => (i, j)
  | _ => (0, 0)
def prV (H : Hp) : Value → Int × Int
  | .ref a => prAt H a
  | _ => (0, 0)
theorem prAt_of {H : Hp} {a : Addr} {i j : Int} (h : H a = some (.tup [.int i, .int j])) : prAt H a = (i, j) := by
  unfold prAt
  rw [h]
def keyP (k : Int × Int) : List Key := [Sum.inl k.1, Sum.inl k.2]
/-- sorted(d), d a dict whose keys are pairs of ints -/
def rSortedDT : List V → Hp → VK → Prop := fun xs H Q => ∃ (d : Addr) (kvs : List (List Key × V)) (ks : List (Int × Int)), xs = [.ref d] ∧ Rd H d (.dT kvs) ∧ kvs.map (·.1) = ks.map keyP ∧
  ∀ (p : Addr) (bs : List Addr), H p = none → (bs.map (prAt H)).Perm ks → bs.Pairwise (fun x y => SrtO.lexB (prAt H y) (prAt H x) = false) → (∀ b ∈ bs, ∃ i j, H b = some (.tup [.int i, .int j])) → Q (.ref p) (upd H p (.lst (bs.map V.ref)))
theorem refs_out : ∀ (l : List Value), (∀ u ∈ l, ∃ a, u = Value.ref a) → ∃ bs : List Addr, l = bs.map Value.ref
  | [], _ => ⟨[], rfl⟩
  | u :: l, h => by
    obtain ⟨a, rfl⟩ := h u List.mem_cons_self
    obtain ⟨bs, e⟩ := refs_out l fun v hv => h v (List.mem_cons_of_mem _ hv)
    exact ⟨a :: bs, by rw [e]; rfl⟩
theorem pair_get {α β : Type} {R : α → β → Prop} : ∀ {l₁ : List α} {l₂ : List β}, Paired R l₁ l₂ → ∀ {n : Nat} {b : β}, l₂[n]? = some b → ∃ a, l₁[n]? = some a ∧ R a b
  | _, _, .nil, n, b, h => by simp at h
  | _, _, .cons h t, 0, b, e => by
    have e' := Option.some.inj e
    subst e'
    exact ⟨_, rfl, h⟩
  | _, _, .cons h t, n + 1, b, e => pair_get t (n := n) (b := b) e
theorem cr_sortedDT {X : Cx} (hcalm : X.calm = true) : CallR X (.builtin "sorted") rSortedDT := by
  intro pins s σ H xs us Q I r h
  obtain ⟨d, kvs, ks, rfl, hd, hks, q⟩ := h
  obtain ⟨u, rfl, rx⟩ := vals1 r
  cases rx
  obtain ⟨z, hs, xs, pr, o, es, ep, ho, hx, hdt, he, hn⟩ := (show ObjOk X.prog X.w H s.heap d (.dT kvs) from hd.ok I.hok)
  have l1 : es.size = xs.length := size_of_entries he
  have l2 : kvs.length = xs.length := Paired.length pr
  have h16 : es.size ≤ sizeLine := by omega
  refine Calls.call_function_entry PyProof.Rows.kind_sorted PyProof.Rows.plain_sorted PyProof.Rows.entry_sorted (PyProof.Rows.args_sorted1 _) ?_
  unfold Builtin.«sorted»
  refine wpAny_bind (m := checkCount "sorted" 1 1 _) (wpAny_pure ?_)
  refine wpAny_bind (PySem.W.kdu_collect (A := X.A.in1) (kdl_raw hs hx hdt) (I.ok.hd hcalm) ho h16 fun h' tk acc hk hacc => ?_)
  -- what was collected: the tuples of the keys
  have ea : acc.toList = (xs.map fun x => x.2.1).map Value.ref := by
    have hl : acc.toList.length = xs.length := by rw [Array.length_toList, hacc.1, l1]
    apply List.ext_getElem?
    intro j
    rw [List.map_map, List.getElem?_map]
    cases hj : acc.toList[j]? with
    | none =>
      have h1 := List.getElem?_eq_none_iff.mp hj
      rw [List.getElem?_eq_none (by omega)]
      rfl
    | some v =>
      obtain ⟨en, hen, hv⟩ := hacc.2 j v (by rw [← Array.getElem?_toList]; exact hj)
      have qe := entry_at he j
      rw [hen] at qe
      cases hb : xs[j]? with
      | none =>
        rw [hb] at qe
        exact nomatch (show some en = none from qe)
      | some b =>
        rw [hb] at qe
        have e2 : en = entryOfKey (tupleKind (mixKind X.prog X.w)) b := Option.some.inj qe
        rw [hv, e2]
        rfl
  have I1 : Inv X pins σ H { s with heap := h', toks := tk } := I.kept hk
  -- each of them is a pair
  have hat : ∀ a ∈ xs.map (fun x => x.2.1), ∃ i j, H a = some (.tup [.int i, .int j]) := by
    intro a ha
    obtain ⟨x, hxm, rfl⟩ := List.mem_map.mp ha
    obtain ⟨n, hn'⟩ := List.mem_iff_getElem?.mp hxm
    have hnl : n < kvs.length := by rw [l2]; exact (List.getElem?_eq_some_iff.mp hn').1
    obtain ⟨y, hy, p1, p2, _⟩ := pair_get pr hn'
    have hk1 : (kvs.map (·.1))[n]? = some y.1 := by rw [List.getElem?_map, hy]; rfl
    rw [hks] at hk1
    obtain ⟨k, _, ek⟩ : ∃ k, ks[n]? = some k ∧ y.1 = keyP k := by
      rw [List.getElem?_map] at hk1
      cases e : ks[n]? with
      | none => rw [e] at hk1; cases hk1
      | some k => rw [e] at hk1; exact ⟨k, rfl, (Option.some.inj hk1).symm⟩
    rw [ek] at p2
    exact ⟨k.1, k.2, p2⟩
  have hpr : (xs.map fun x => x.2.1).map (prAt H) = ks := by
    apply List.ext_getElem?
    intro n
    rw [List.getElem?_map, List.getElem?_map]
    cases hn' : xs[n]? with
    | none =>
      have h1 := List.getElem?_eq_none_iff.mp hn'
      have h2 := congrArg List.length hks
      rw [List.length_map, List.length_map] at h2
      rw [List.getElem?_eq_none (show ks.length ≤ n by omega)]
      rfl
    | some x =>
      obtain ⟨y, hy, p1, p2, _⟩ := pair_get pr hn'
      have hk1 : (kvs.map (·.1))[n]? = some y.1 := by rw [List.getElem?_map, hy]; rfl
      rw [hks] at hk1
      rw [List.getElem?_map] at hk1
      cases e : ks[n]? with
      | none => rw [e] at hk1; cases hk1
      | some k =>
        rw [e] at hk1
        have ek : y.1 = keyP k := (Option.some.inj hk1).symm
        rw [ek] at p2
        show some (prAt H x.2.1) = some k
        rw [prAt_of p2]
  have hal : acc.toList.length ≤ sizeLine := by
    rw [ea, List.length_map, List.length_map]
    omega
  refine wpAny_bind (wpAny_newList ?_ hal)
  have hoL : (h'.push (seqObj "list" acc.toList.toArray 0)).get? h'.objs.size = some (seqObj "list" acc.toList.toArray 0) := Heap.get?_push_size _ rfl
  show wpAny _ _ _ _ _ { s with heap := h'.push (seqObj "list" acc.toList.toArray 0), toks := tk }
  have hip : ∀ v ∈ acc.toList, Srt.IsPair h' v (prV H v).1 (prV H v).2 := by
    intro v hv
    rw [ea] at hv
    obtain ⟨a, ha, rfl⟩ := List.mem_map.mp hv
    obtain ⟨i, j, hij⟩ := hat a ha
    obtain ⟨_, its2, r2, ob, hob, hc, n, hd2⟩ := I1.hok _ _ hij
    obtain ⟨u1, u2, rfl, ri, rj⟩ := vals2 r2
    obtain ⟨t1, rfl⟩ := ri
    obtain ⟨t2, rfl⟩ := rj
    have e : prV H (.ref a) = (i, j) := prAt_of hij
    rw [e]
    exact ⟨a, ob, t1, t2, n, rfl, hob, hc, hd2⟩
  refine wpAny_bind (wpAny_holding (wpAny_call_entry PyProof.Rows.slot_list_sort ⟨_, hoL, rfl⟩ PyProof.Rows.entry_list_sort
    (SrtO.list_sort_ord (s := { s with heap := h'.push (seqObj "list" acc.toList.toArray 0), toks := tk }) (SrtO.swo_lex (prV H)) hoL hal (fun h2 => SrtO.pairs_sortableO (by omega) (fun v hv => (hip v hv).keeps fun b o e _ => Heap.get?_push_of_some _ e) fun o e c => ?_) fun out hs' hb' => ⟨_, rfl, ?_⟩) (PyProof.Rows.args_list_sort _)))
  · have e' : some o = some (seqObj "list" acc.toList.toArray 0) := e.symm.trans hoL
    cases e'
    exact absurd (Value.type.inj c) (by decide)
  · obtain ⟨e', he'⟩ := PyProof.Rows.sortedHeap_at (vs := acc.toList) (out := out.toArray) hoL
    have hperm : out.Perm acc.toList := hb'.perm
    obtain ⟨bs, rfl⟩ := refs_out out fun u hu => by
      have hm := hperm.mem_iff.mp hu
      rw [ea] at hm
      obtain ⟨a, _, rfl⟩ := List.mem_map.mp hm
      exact ⟨a, rfl⟩
    rw [ea] at hperm
    have hbp : bs.Perm (xs.map fun x => x.2.1) := by
      have hh := hperm.map (fun v : Value => match v with | .ref a => a | _ => 0)
      rw [List.map_map, List.map_map] at hh
      have e1 : bs.map ((fun v : Value => match v with | .ref a => a | _ => 0) ∘ Value.ref) = bs := List.map_id' bs
      have e2 : (xs.map fun x => x.2.1).map ((fun v : Value => match v with | .ref a => a | _ => 0) ∘ Value.ref) = (xs.map fun x => x.2.1) := List.map_id' _
      rw [e1, e2] at hh
      exact hh
    have hlen : (bs.map V.ref).length ≤ sizeLine := by
      rw [List.length_map, hbp.length_eq, List.length_map]
      omega
    refine wpAny_pure ⟨_, rfl, .ref h'.objs.size, upd H h'.objs.size (.lst (bs.map V.ref)), I1.laid (t' := tk) (fun b u e => ?_) (Nat.le_refl _)
      (show ObjOk X.prog X.w _ _ _ (.lst (bs.map V.ref)) from ⟨hlen, bs.map Value.ref, e', vals_refs bs, by rw [he']⟩), rfl, q _ bs (I1.hok.fresh (Nat.le_refl _)) ?_ ?_ ?_⟩
    · have hb : b < h'.objs.size := Heap.lt_size e
      rw [PyProof.Rows.sortedHeap_old (Nat.ne_of_lt hb) (by rw [size_push']; exact Nat.lt_succ_of_lt hb)]
      exact Heap.get?_push_of_some _ e
    · rw [← hpr]
      exact hbp.map _
    · have h1 : List.Pairwise (fun x y => SrtO.lexB (prV H y) (prV H x) = false) (bs.map Value.ref) := hs'
      rw [List.pairwise_map] at h1
      exact h1
    · intro b hb
      exact hat b (hbp.mem_iff.mp hb)
end Vf
namespace Vf
open PySem L2
/-! ### rows of pairs -/
def rowOf (l : List (Int × Int)) (c : Int × Int → Bool) (i : Int) : List Int := (l.filter fun k => decide (k.1 = i) && c k).map Prod.snd
theorem rowOf_snoc (l : List (Int × Int)) (c : Int × Int → Bool) (i : Int) (k : Int × Int) : rowOf (l ++ [k]) c i = rowOf l c i ++ if (decide (k.1 = i) && c k) = true then [k.2] else [] := by
  unfold rowOf
  rw [List.filter_append, List.map_append]
  congr 1
  by_cases h : (decide (k.1 = i) && c k) = true
  · rw [if_pos h, List.filter_cons, if_pos h]
    rfl
  · rw [if_neg h, List.filter_cons, if_neg h]
    rfl
theorem rowOf_mem {l : List (Int × Int)} {c : Int × Int → Bool} {i j : Int} : j ∈ rowOf l c i ↔ (i, j) ∈ l ∧ c (i, j) = true := by
  unfold rowOf
  rw [List.mem_map]
  constructor
  · rintro ⟨⟨a, b⟩, h, rfl⟩
    rw [List.mem_filter, Bool.and_eq_true, decide_eq_true_eq] at h
    obtain ⟨h1, h2, h3⟩ := h
    have e : a = i := h2
    subst e
    exact ⟨h1, h3⟩
  · rintro ⟨h1, h2⟩
    exact ⟨(i, j), List.mem_filter.mpr ⟨h1, by simp [h2]⟩, rfl⟩
theorem rowOf_asc {l : List (Int × Int)} {c : Int × Int → Bool} {i : Int} (h : l.Pairwise fun x y => SrtO.lexB y x = false) (n : l.Nodup) : (rowOf l c i).Pairwise (· < ·) := by
  have hb : l.Pairwise fun x y => SrtO.lexB y x = false ∧ x ≠ y := h.and n
  unfold rowOf
  rw [List.pairwise_map]
  refine List.Pairwise.imp_of_mem (fun {x y} hx hy hh => ?_) (hb.filter _)
  rw [List.mem_filter, Bool.and_eq_true, decide_eq_true_eq] at hx hy
  obtain ⟨h1, h2⟩ := hh
  have h3 := SrtO.lexB_no.mp h1
  obtain ⟨a, b⟩ := x
  obtain ⟨a', b'⟩ := y
  have e1 : a = i := hx.2.1
  have e2 : a' = i := hy.2.1
  subst e1
  subst e2
  have h4 : b ≠ b' := fun z => h2 (by rw [z])
  have h5 : ¬ b' < b := fun z => h3 (Or.inr ⟨rfl, z⟩)
  show b < b'
  omega
theorem valV_at {κ : Type} [DecidableEq κ] : ∀ {kvs : List (κ × V)} {n : Nat} {k : κ} {v : V}, (kvs.map Prod.fst).Nodup → kvs[n]? = some (k, v) → valV kvs k = some v
  | [], n, k, v, _, h => by simp at h
  | p :: r, 0, k, v, _, h => by
    have e : p = (k, v) := Option.some.inj h
    subst e
    exact valV_pos rfl
  | p :: r, n + 1, k, v, hn, h => by
    rw [List.map_cons, List.nodup_cons] at hn
    have h' : r[n]? = some (k, v) := h
    have ne : ¬ p.1 = k := fun z => hn.1 (List.mem_map.mpr ⟨(k, v), List.mem_of_getElem? h', z.symm⟩)
    rw [valV_neg ne]
    exact valV_at hn.2 h'
def encP (v : Int × Int) : List V := [.int v.1, .int v.2]
theorem keyP_inj {a b : Int × Int} (h : keyP a = keyP b) : a = b := by
  unfold keyP at h
  simp only [List.cons.injEq, Sum.inl.injEq, and_true] at h
  exact Prod.ext h.1 h.2
/-- a dict of pairs of ints by pairs of ints -/
structure PP (H : Hp) (kvs : List (List Key × V)) (ks vl : List (Int × Int)) : Prop where
  keys : kvs.map (·.1) = ks.map keyP
  vals : Tups encP H (kvs.map (·.2)) vl
  nd : ks.Nodup
section
variable {H : Hp} {kvs : List (List Key × V)} {ks vl : List (Int × Int)}
theorem PP.len (p : PP H kvs ks vl) : kvs.length = ks.length ∧ vl.length = ks.length := by
  have h1 := congrArg List.length p.keys
  have h2 := p.vals.1
  rw [List.length_map, List.length_map] at h1
  rw [List.length_map] at h2
  omega
theorem PP.at_ (p : PP H kvs ks vl) {n : Nat} {k : Int × Int} (h : ks[n]? = some k) : ∃ v t, vl[n]? = some v ∧ valV kvs (keyP k) = some (.ref t) ∧ H t = some (.tup (encP v)) := by
  obtain ⟨l1, l2⟩ := p.len
  have hn := (List.getElem?_eq_some_iff.mp h).1
  obtain ⟨v, hv⟩ : ∃ v, vl[n]? = some v := ⟨vl[n], List.getElem?_eq_getElem (by omega)⟩
  obtain ⟨t, ht, hT⟩ := p.vals.2 n v hv
  rw [List.getElem?_map] at ht
  obtain ⟨kv, hkv⟩ : ∃ kv, kvs[n]? = some kv := ⟨kvs[n], List.getElem?_eq_getElem (by omega)⟩
  rw [hkv] at ht
  have e2 : kv.2 = .ref t := Option.some.inj ht
  have h1 : (kvs.map (·.1))[n]? = some kv.1 := by rw [List.getElem?_map, hkv]; rfl
  rw [p.keys, List.getElem?_map, h] at h1
  have e1 : keyP k = kv.1 := Option.some.inj h1
  refine ⟨v, t, hv, ?_, hT⟩
  have hnd : (kvs.map Prod.fst).Nodup := by
    have e : kvs.map Prod.fst = ks.map keyP := p.keys
    rw [e]
    exact List.pairwise_map.mpr (p.nd.imp fun h z => h (keyP_inj z))
  refine valV_at (n := n) hnd ?_
  rw [hkv, ← e2, e1]
end
/-- the value of a key, or the key -/
def toP (kvs : List (List Key × V)) (H : Hp) (k : Int × Int) : Int × Int := match valV kvs (keyP k) with
  | some (.ref t) => prAt H t
  | _ => k
theorem toP_at {H : Hp} {kvs : List (List Key × V)} {ks vl : List (Int × Int)} (p : PP H kvs ks vl) {n : Nat} {k v : Int × Int} (h : ks[n]? = some k) (hv : vl[n]? = some v) : toP kvs H k = v := by
  obtain ⟨v', t, h1, h2, h3⟩ := p.at_ h
  rw [hv] at h1
  cases h1
  unfold toP
  rw [h2]
  exact prAt_of h3
end Vf
namespace Vf
theorem rowOf_len (l : List (Int × Int)) (c : Int × Int → Bool) (i : Int) : (rowOf l c i).length ≤ l.length := by
  unfold rowOf
  rw [List.length_map]
  exact List.length_filter_le _ _
end Vf
namespace Vf
open PySem L2
/-! ### a protocol -/
structure RA where
  t1 : Addr
  t2 : Addr
  t3 : Addr
  t4 : Addr
  t5 : Addr
  dn : Addr
  dr : Addr
  rw : Addr
def bFs (a : RA) : List (Str × V) := [("states", .ref a.t1), ("inputs", .ref a.t2), ("leaders", .ref a.t3), ("rules", .ref a.t4), ("outputs", .ref a.t5), ("_numbers", .ref a.dn), ("_results", .ref a.dr), ("_rows", .ref a.rw)]
theorem bFs_new (a : RA) : putF "_rows" (.ref a.rw) (putF "_results" (.ref a.dr) (putF "_numbers" (.ref a.dn) (putF "outputs" (.ref a.t5) (putF "rules" (.ref a.t4) (putF "leaders" (.ref a.t3) (putF "inputs" (.ref a.t2) (putF "states" (.ref a.t1) []))))))) = bFs a := by rfl
/-- the results of rules, as pairs of numbers -/
def rks (D : DD) : List (Int × Int) := D.ru.map fun r => (ix D.st r.1, ix D.st r.2.1)
def rvs (D : DD) : List (Int × Int) := D.ru.map fun r => (ix D.st r.2.2.1, ix D.st r.2.2.2)
structure BookAt (C : Addr) (H : Hp) (p : Addr) (a : RA) (D : DD) : Prop where
  ob : ∃ dx, H p = some (.ins C dx (bFs a))
  st : H a.t1 = some (.tup (D.st.map V.str))
  ins : ∃ xs, H a.t2 = some (.tup xs) ∧ Tups enc2 H xs D.ins
  ld : H a.t3 = some (.tup (D.ld.map V.str))
  ru : ∃ xs, H a.t4 = some (.tup xs) ∧ Tups enc4 H xs D.ru
  ou : H a.t5 = some (.tup (D.ou.map V.int))
  dn : H a.dn = some (.dK (numK D.st))
  dr : ∃ kvs, H a.dr = some (.dT kvs) ∧ Res H D.st D.ru kvs
  rw : ∃ (xs : List V) (rows : Nat → List Int), H a.rw = some (.tup xs) ∧ xs.length = D.st.length ∧ (∀ i x, xs[i]? = some x → ∃ t, x = .ref t ∧ H t = some (.tup ((rows i).map V.int))) ∧ (∀ i, (rows i).Pairwise (· < ·)) ∧
    ∀ (i : Nat) (j : Int), j ∈ rows i ↔ ∃ (n : Nat) (v : Int × Int), (rks D)[n]? = some ((i : Int), j) ∧ (rvs D)[n]? = some v ∧ v ≠ ((i : Int), j)
theorem BookAt.same {C : Addr} {H H' : Hp} {p : Addr} {a : RA} {D : DD} (S : BookAt C H p a D) (e : Same H H') : BookAt C H' p a D := by
  obtain ⟨dx, h0⟩ := S.ob
  obtain ⟨x2, h2, T2⟩ := S.ins
  obtain ⟨x4, h4, T4⟩ := S.ru
  obtain ⟨kvs, hk, R⟩ := S.dr
  obtain ⟨xs, rows, h8, l8, r8, a8, m8⟩ := S.rw
  exact ⟨⟨dx, e _ _ h0⟩, e _ _ S.st, ⟨x2, e _ _ h2, T2.same e⟩, e _ _ S.ld, ⟨x4, e _ _ h4, T4.same e⟩, e _ _ S.ou, e _ _ S.dn, ⟨kvs, e _ _ hk, R.same fun t ys => e t _⟩,
    ⟨xs, rows, e _ _ h8, l8, fun i x hx => by
      obtain ⟨t, e1, e2⟩ := r8 i x hx
      exact ⟨t, e1, e _ _ e2⟩, a8, m8⟩⟩
theorem Keep.new {S : List Addr} {H H' : Hp} {p : Addr} {o : HO} (e : Keep S H H') (h : H' p = none) : Keep S H (upd H' p o) := fun b u n q => by
  have q' := e b u n q
  rw [upd_ne (ne_of_none q' h)]
  exact q'
theorem Keep.same {S : List Addr} {H H1 H2 : Hp} (e : Keep S H H1) (s : Same H1 H2) : Keep S H H2 := fun b u n q => s b u (e b u n q)
theorem Res.pp {H : Hp} {D : DD} {kvs : List (List Key × V)} (R : Res H D.st D.ru kvs) (nd : (rks D).Nodup) : PP H kvs (rks D) (rvs D) := by
  refine ⟨?_, ?_, nd⟩
  · rw [R.keys]
    unfold rks
    rw [List.map_map]
    rfl
  · refine ⟨by rw [R.vals.1]; simp [rvs], fun i v hv => ?_⟩
    unfold rvs at hv
    obtain ⟨r, hr, rfl⟩ := map_get hv
    exact R.vals.2 i r hr
theorem take_all {α : Type} {l : List α} {P : List α → α → Prop} (h : ∀ i x, l[i]? = some x → P (l.take i) x) (x : α) (hx : x ∈ l) : ∃ i, P (l.take i) x := by
  obtain ⟨i, hi⟩ := List.mem_iff_getElem?.mp hx
  exact ⟨i, h i x hi⟩
theorem Valid.rule {D : DD} (v : Valid D) {r : S4} (hr : r ∈ D.ru) : r.1 ∈ D.st ∧ r.2.1 ∈ D.st ∧ r.2.2.1 ∈ D.st ∧ r.2.2.2 ∈ D.st := by
  obtain ⟨i, hi⟩ := List.mem_iff_getElem?.mp hr
  have h := v.ru i r hi
  unfold DD.okRule at h
  simp only [Bool.and_eq_true, decide_eq_true_eq] at h
  exact ⟨h.1.1.1.1, h.1.1.1.2, h.1.1.2, h.1.2⟩
theorem ix_bd {st : List Str} {s : Str} (h : s ∈ st) : 0 ≤ ix st s ∧ ix st s < (st.length : Int) := by
  have := List.idxOf_lt_length_of_mem h
  unfold ix
  omega
theorem Valid.nd {D : DD} (v : Valid D) : (rks D).Nodup := by
  unfold rks List.Nodup
  rw [List.pairwise_map, List.pairwise_iff_getElem]
  intro i j hi hj hij e
  have e1 : D.ru[i]? = some D.ru[i] := List.getElem?_eq_getElem hi
  have e2 : D.ru[j]? = some D.ru[j] := List.getElem?_eq_getElem hj
  have m1 := v.rule (List.getElem_mem hi)
  have m2 := v.rule (List.getElem_mem hj)
  have x := Prod.mk.inj e
  have y1 := ix_inj m1.1 m2.1 x.1
  have y2 := ix_inj m1.2.1 m2.2.1 x.2
  have h := v.ru j _ e2
  unfold DD.okRule at h
  simp only [Bool.and_eq_true, decide_eq_true_eq] at h
  refine h.2 (List.mem_map.mpr ⟨D.ru[i], ?_, by rw [y1, y2]⟩)
  refine List.mem_iff_getElem?.mpr ⟨i, ?_⟩
  rw [List.getElem?_take_of_lt hij]
  exact e1
end Vf
namespace Vf
open PySem L2
theorem walk_zipT {K : PySem.W.Frag} {a b : Addr} {xs ys : List V} {n : Nat} (hx : xs.length = n) (hy : ys.length = n) : Walk (RZ.ItzT K a b) n (fun H => SqT K H a xs ∧ SqT K H b ys) (YPair (fun i => xs[i]?) (fun i => ys[i]?)) where
  goes := fun i H hi q => ⟨xs, ys, xs[i], ys[i], q.1, q.2, List.getElem?_eq_getElem (by omega), List.getElem?_eq_getElem (by omega)⟩
  stops := fun H q => ⟨xs, ys, q.1, q.2, Or.inl (by omega)⟩
  yields := fun i H v H' _ q y => by
    obtain ⟨u, x, z, h1, h2, h3, h4, h5⟩ := y
    exact ⟨u, x, z, h1, h2, h3, h4 xs q.1, h5 ys q.2⟩
/-! ### written protocols -/
def lnSt (p : Str × Int) : Str := Str.ofString "state " ++ p.1 ++ Str.ofString " " ++ Str.ofString (toString p.2)
def lnIn (p : Str × Str) : Str := Str.ofString "input " ++ p.1 ++ Str.ofString " " ++ p.2
def lnLd (s : Str) : Str := Str.ofString "leader " ++ s
def lnRu (r : S4) : Str := Str.ofString "rule " ++ r.1 ++ Str.ofString " " ++ r.2.1 ++ Str.ofString " to " ++ r.2.2.1 ++ Str.ofString " " ++ r.2.2.2
def linesOf (D : DD) : List Str := (D.st.zip D.ou).map lnSt ++ D.ins.map lnIn ++ D.ld.map lnLd ++ D.ru.map lnRu
def textOf (D : DD) : Str := Txt.join (Str.ofString "\n") (linesOf D)
theorem zip_get {α β : Type} {l : List α} {m : List β} {i : Nat} {a : α} {b : β} (h1 : l[i]? = some a) (h2 : m[i]? = some b) : (l.zip m)[i]? = some (a, b) := by
  rw [List.getElem?_zip_eq_some]
  exact ⟨h1, h2⟩
theorem log_of {o : Int} (h : 0 ≤ o ∧ o ≤ 9) : o.natAbs.log2 < 1920 := by
  by_cases hz : o.natAbs = 0
  · rw [hz]
    decide
  · exact (Nat.log2_lt hz).mpr (Nat.lt_of_le_of_lt (show o.natAbs ≤ 9 by omega) (Nat.lt_of_lt_of_le (show 9 < 2 ^ 4 by decide) (Nat.pow_le_pow_right (by decide) (by decide))))
theorem num_len1 {o : Int} (h : 0 ≤ o ∧ o ≤ 9) : (Str.ofString (toString o)).length ≤ 2 := by
  have e := int_text_length_le10 (a := o) (k := 1) (by decide) (by omega)
  rw [ofString_length]
  omega
theorem lits : (Str.ofString "state ").length = 6 ∧ (Str.ofString " ").length = 1 ∧ (Str.ofString "input ").length = 6 ∧ (Str.ofString "leader ").length = 7 ∧ (Str.ofString "rule ").length = 5 ∧ (Str.ofString " to ").length = 4 ∧ (Str.ofString "\n").length = 1 := by decide +kernel
section
variable {D : DD}
theorem ValidN.nl (v : ValidN D) {s : Str} (h : s ∈ D.st) : s.length ≤ 12 := name_len (v.nm s h)
theorem lnSt_len (v : ValidN D) {p : Str × Int} (h1 : p.1 ∈ D.st) (h2 : p.2 ∈ D.ou) : (lnSt p).length ≤ 64 := by
  have a := v.nl h1
  have b := num_len1 (v.ou _ h2)
  obtain ⟨l1, l2, _⟩ := lits
  unfold lnSt
  simp only [Str.length_append]
  omega
theorem lnIn_len (v : ValidN D) {p : Str × Str} (h : p ∈ D.ins) : (lnIn p).length ≤ 64 := by
  obtain ⟨a, b⟩ := v.inm p h
  have a' := name_len a
  have b' := v.nl b
  obtain ⟨_, l2, l3, _⟩ := lits
  unfold lnIn
  simp only [Str.length_append]
  omega
theorem lnLd_len (v : ValidN D) {s : Str} (h : s ∈ D.ld) : (lnLd s).length ≤ 64 := by
  have b' := v.nl (v.ldm s h)
  obtain ⟨_, _, _, l4, _⟩ := lits
  unfold lnLd
  simp only [Str.length_append]
  omega
theorem lnRu_len (v : ValidN D) {r : S4} (h : r ∈ D.ru) : (lnRu r).length ≤ 64 := by
  obtain ⟨m1, m2, m3, m4⟩ := v.rum r h
  have a1 := v.nl m1
  have a2 := v.nl m2
  have a3 := v.nl m3
  have a4 := v.nl m4
  obtain ⟨_, l2, _, _, l5, l6, _⟩ := lits
  unfold lnRu
  simp only [Str.length_append]
  omega
theorem zip_mem {α β : Type} {l : List α} {m : List β} {p : α × β} (h : p ∈ l.zip m) : p.1 ∈ l ∧ p.2 ∈ m := ⟨(List.of_mem_zip (a := p.1) (b := p.2) h).1, (List.of_mem_zip (a := p.1) (b := p.2) h).2⟩
theorem lines_len (v : ValidN D) {y : Str} (h : y ∈ linesOf D) : y.length ≤ 64 := by
  unfold linesOf at h
  simp only [List.mem_append, List.mem_map] at h
  rcases h with ((⟨p, hp, rfl⟩ | ⟨p, hp, rfl⟩) | ⟨s, hs, rfl⟩) | ⟨r, hr, rfl⟩
  · exact lnSt_len v (zip_mem hp).1 (zip_mem hp).2
  · exact lnIn_len v hp
  · exact lnLd_len v hs
  · exact lnRu_len v hr
theorem lines_n (v : ValidN D) : (linesOf D).length ≤ 418 + D.ru.length := by
  unfold linesOf
  simp only [List.length_append, List.length_map, List.length_zip]
  have a := v.n400
  have b := v.n8
  have c := v.n10
  omega
theorem sum_le (l : List Str) (k : Nat) (h : ∀ y ∈ l, y.length ≤ k) : (l.map (·.length)).sum ≤ k * l.length := by
  induction l with
  | nil => simp
  | cons y l ih =>
    have h1 := h y List.mem_cons_self
    have h2 := ih fun z hz => h z (List.mem_cons_of_mem _ hz)
    rw [List.map_cons, List.sum_cons, List.length_cons, Nat.mul_succ]
    omega
theorem join_fits (v : ValidN D) (hr : D.ru.length ≤ 200000) : ((linesOf D).map (·.length)).sum + (linesOf D).length * (Str.ofString "\n").length ≤ 16777216 := by
  have a := sum_le (linesOf D) 64 fun y hy => lines_len v hy
  have b := lines_n v
  obtain ⟨_, _, _, _, _, _, l7⟩ := lits
  rw [l7]
  omega
end
end Vf
namespace Vf
open PySem L2
def DD.rev (D : DD) : DD := ⟨D.st, D.ins.reverse, D.ld.reverse, D.ru.reverse, D.ou⟩
theorem ValidN.rev {D : DD} (v : ValidN D) : ValidN D.rev where
  len := v.len
  n400 := v.n400
  nm := v.nm
  nd := v.nd
  ou := v.ou
  n8 := by
    show D.ins.reverse.length ≤ 8
    rw [List.length_reverse]
    exact v.n8
  inm := fun p hp => v.inm p (List.mem_reverse.mp hp)
  ind := by
    have pm := ((List.reverse_perm D.ins).map (·.1)).nodup_iff
    exact pm.mpr v.ind
  n10 := by
    show D.ld.reverse.length ≤ 10
    rw [List.length_reverse]
    exact v.n10
  ldm := fun s hs => v.ldm s (List.mem_reverse.mp hs)
  rum := fun r hr => v.rum r (List.mem_reverse.mp hr)
  rnd := by
    have pm := ((List.reverse_perm D.ru).map fun x : S4 => (x.1, x.2.1)).nodup_iff
    exact pm.mpr v.rnd
theorem ValidN.nil : ValidN DD.nil where
  len := rfl
  n400 := Nat.zero_le _
  nm := fun s hs => absurd hs List.not_mem_nil
  nd := List.nodup_nil
  ou := fun s hs => absurd hs List.not_mem_nil
  n8 := Nat.zero_le _
  inm := fun s hs => absurd hs List.not_mem_nil
  ind := List.nodup_nil
  n10 := Nat.zero_le _
  ldm := fun s hs => absurd hs List.not_mem_nil
  rum := fun s hs => absurd hs List.not_mem_nil
  rnd := List.nodup_nil
theorem text_nil : textOf DD.nil = Str.ofString "" := by decide +kernel
end Vf
namespace Vf
open PySem L2
theorem none_put {H : Hp} {a x : Addr} {o : HO} (h : H x = none) (ne : x ≠ a) : upd H a o x = none := by
  rw [upd_ne ne]
  exact h
end Vf

namespace Vf
open PySem PySem.W PySem.Spec PyProof.Rows L2
/-! ### min(xs, default=d) of whole numbers -/
theorem least_ok : ∀ (zs : List Int) (z : Int), PySem.W.minOf z zs ∈ z :: zs ∧ ∀ q ∈ z :: zs, PySem.W.minOf z zs ≤ q
  | [], z => ⟨List.mem_singleton.mpr rfl, fun q hq => by
      have e : q = z := by simpa using hq
      rw [e]
      exact Int.le_refl _⟩
  | y :: r, z => by
    have step : PySem.W.minOf z (y :: r) = PySem.W.minOf (if y < z then y else z) r := by
      unfold PySem.W.minOf
      rw [List.foldl_cons]
      congr 1
      by_cases c : y < z
      · simp [DatumOrd.lt, c]
      · simp [DatumOrd.lt, c]
    obtain ⟨m1, m2⟩ := least_ok r (if y < z then y else z)
    rw [step]
    have low := m2 _ (List.mem_cons_self ..)
    refine ⟨?_, fun q hq => ?_⟩
    · rcases List.mem_cons.mp m1 with e | e
      · rw [e]
        by_cases c : y < z
        · rw [if_pos c]; simp
        · rw [if_neg c]; simp
      · exact List.mem_cons_of_mem _ (List.mem_cons_of_mem _ e)
    · rcases List.mem_cons.mp hq with e | e
      · rw [e]
        by_cases c : y < z
        · rw [if_pos c] at low ⊢; omega
        · rw [if_neg c] at low ⊢; omega
      · rcases List.mem_cons.mp e with e | e
        · rw [e]
          by_cases c : y < z
          · rw [if_pos c] at low ⊢; omega
          · rw [if_neg c] at low ⊢; omega
        · exact m2 q (List.mem_cons_of_mem _ e)
def rLeastD (K : PySem.W.Frag) : List V → List V → Hp → VK → Prop := fun vs zs H Q => ∃ (a : Addr) (ns : List Int) (d : Int), vs = [V.ref a] ∧ zs = [V.int d] ∧ (SqL K H a (ns.map V.int) ∨ SqT K H a (ns.map V.int)) ∧
  ∀ m : Int, (ns = [] ∧ m = d ∨ m ∈ ns ∧ ∀ y ∈ ns, m ≤ y) → Q (.int m) H
theorem ints_at : ∀ {its : List Value} {ns : List Int} {i : Nat} {v : Value}, IntsAre its ns → its[i]? = some v → ∃ (n : Int) (t : Tok), v = .int n t
  | _, _, i, v, .nil, e => by simp at e
  | _, _, 0, v, .cons n t _, e => by
    have e' : Value.int n t = v := by simpa using e
    exact ⟨n, t, e'.symm⟩
  | _, _, i + 1, v, .cons n t r, e => ints_at (i := i) r (by simpa using e)
theorem holds_only {h : Heap} {n m : Int} {t : Tok} (q : PySem.W.Holds h (Value.int n t) m) : n = m := by
  obtain ⟨as, r⟩ := q
  cases r
  rfl
theorem cr_leastD {X : Cx} (hu : X.A.units + 64 < cLine) (hc : X.calm = true := by rfl) : CallRK X (.builtin "min") [Str.ofString "default"] (rLeastD X.K) := by
  intro pins s σ H vs zs us ws Q I r rz h
  obtain ⟨a, ns, d, rfl, rfl, both, q⟩ := h
  obtain rfl := Vals.ref1 r
  obtain ⟨w1, rfl, e1⟩ := vals1 rz
  obtain ⟨tk0, rfl⟩ : ∃ tk, w1 = Value.int d tk := e1
  have room : X.A.units + 1 + Datum.depth Int < cLine := by
    show X.A.units + 1 + 0 < cLine
    omega
  have non : ∀ h' tk, ns = [] → (∀ b o, s.heap.get? b = some o → h'.get? b = some o) → EP X pins σ Q (Value.int d tk0) { s with heap := h', toks := tk } := fun h' tk e k =>
    ⟨.int d, H, I.kept (t' := tk) k, ⟨tk0, rfl⟩, q d (.inl ⟨e, rfl⟩)⟩
  have one : ∀ (its : List Value) (y : Int) (ys : List Int) (i : Nat) v h' tk, IntsAre its ns → ns = y :: ys → its.toArray[i]? = some v → PySem.W.Holds h' v (PySem.W.minOf y ys) → (∀ b o, s.heap.get? b = some o → h'.get? b = some o) →
      EP X pins σ Q v { s with heap := h', toks := tk } := fun its y ys i v h' tk ia e hv hh k => by
    obtain ⟨n, t, rfl⟩ := ints_at (i := i) ia (by simpa using hv)
    have en := holds_only hh
    obtain ⟨f1, f2⟩ := least_ok ys y
    refine ⟨.int n, H, I.kept (t' := tk) k, ⟨t, rfl⟩, q n (.inr ?_)⟩
    rw [en, e]
    exact ⟨f1, f2⟩
  rcases both with hs | hs
  · obtain ⟨its, rv, hl, _⟩ := I.list hs
    exact PySem.W.min_list_datum_default (I.ok.hd hc) hl.isList (.of_ints rv.ints) room (fun e h' tk k => non h' tk e k) fun y ys i v h' tk e hv hh k => one its y ys i v h' tk rv.ints e hv hh k
  · obtain ⟨its, rv, hl, _⟩ := I.tuple hs
    exact PySem.W.min_tuple_datum_default (I.ok.hd hc) hl (.of_ints rv.ints) room (fun e h' tk k => non h' tk e k) fun y ys i v h' tk e hv hh k => one its y ys i v h' tk rv.ints e hv hh k
/-! ### the item of a list, for xs[i] += e -/
def rItemL (K : PySem.W.Frag) : V → V → Hp → VK → Prop := fun x y H Q => ∃ (p : Addr) (xs : List V) (i : Int) (z : V), x = V.ref p ∧ y = V.int i ∧ SqL K H p xs ∧ 0 ≤ i ∧ xs[i.toNat]? = some z ∧ Q z H
theorem get_listM {X : Cx} : PGet X (rItemL X.K) := by
  intro pins s σ H o i ov iv Q I ro ri h
  obtain ⟨p, xs, k, z, rfl, rfl, hs, h0, hz, q⟩ := h
  cases ro
  obtain ⟨t, rfl⟩ := ri
  obtain ⟨its, rv, hl, hb⟩ := I.list hs
  obtain ⟨u, hu, ru⟩ := rv.get hz
  have hlt := (List.getElem?_eq_some_iff.mp hz).1
  have big := line63
  exact wpAny_getItem_list hl.isList h0 (by omega) (by simpa using hu) ⟨z, H, I, ru, q⟩
end Vf

/-! ### zip of a tuple and a list -/
namespace Vf
open PySem PySem.Spec PyProof.Rows L2
def ItzM (K : PySem.W.Frag) (a b : Addr) : It where
  go := fun i H => ∃ (xs ys : List V) (x y : V), (SqT K H a xs ∧ SqL K H b ys) ∧ xs[i]? = some x ∧ ys[i]? = some y
  yld := fun i H v H' => ∃ (T : Addr) (x y : V), (v = .ref T ∧ H T = none ∧ H' = upd H T (.tup [x, y])) ∧ (∀ l, SqT K H a l → l[i]? = some x) ∧ (∀ l, SqL K H b l → l[i]? = some y)
  stop := fun i H => ∃ xs ys : List V, (SqT K H a xs ∧ SqL K H b ys) ∧ i ≤ xs.length ∧ i ≤ ys.length ∧ (i = xs.length ∨ i = ys.length)
/-- the iterator's own state -/
def StM (z TI TO i1 i2 a b : Addr) (i : Nat) (h : Heap) : Prop := IsZip h z TI TO .none ∧ IsPair h TI (.ref i1) (.ref i2) ∧ (∃ u v, IsPair h TO u v) ∧ h.IsTupleIter i1 a i ∧ h.IsListIter i2 b i
theorem five {c z TI TO i1 i2 : Addr} (h : c ∈ [z, TI, TO, i1, i2]) : c = z ∨ c = TI ∨ c = TO ∨ c = i1 ∨ c = i2 := by simpa using h
theorem StM.lt {z TI TO i1 i2 a b c : Addr} {i : Nat} {h : Heap} (S : StM z TI TO i1 i2 a b i h) (hc : c ∈ [z, TI, TO, i1, i2]) : c < h.objs.size := by
  obtain ⟨s1, s2, ⟨u, v, s3⟩, ⟨o1, s4, _⟩, ⟨o2, s5, _⟩⟩ := S
  rcases five hc with e | e | e | e | e <;> subst e
  · exact Heap.lt_size s1
  · exact Heap.lt_size s2
  · exact Heap.lt_size s3
  · exact Heap.lt_size s4
  · exact Heap.lt_size s5
section
variable {P : Program} {w : World} {K : PySem.W.Frag} {a b z TI TO i1 i2 : Addr}
theorem sepM (D : ZipApart z TI TO i1 i2 a b) : ZipSep2 z TI TO i1 i2 [i1, a] [i2, b] where
  TIz := D.TIz
  TOz := D.TOz
  TITO := D.TITO
  TIi1 := D.TIi1
  TIi2 := D.TIi2
  mem1 := List.mem_cons_self ..
  mem2 := List.mem_cons_self ..
  zf1 := by simp [Ne.symm D.i1z, Ne.symm D.l1z]
  zf2 := by simp [Ne.symm D.i2z, Ne.symm D.l2z]
  Tf1 := by simp [D.TOi1, Ne.symm D.l1TO]
  Tf2 := by simp [D.TOi2, Ne.symm D.l2TO]
  sep1_2 := by simp [D.i12, Ne.symm D.l2i1]
  sep2_1 := by simp [Ne.symm D.i12, Ne.symm D.l1i2]
theorem turn_zipM {elts : List Expr} {kk : Nat} {tpos : Pos} (D : ZipApart z TI TO i1 i2 a b) : Turn P w K (.Tuple elts kk tpos) (ItzM K a b) [z, TI, TO, i1, i2] z (StM z TI TO i1 i2 a b) where
  mem := List.mem_cons_self ..
  self := fun A i s Q E S q => wpAny_pyIter_zip S.1 q
  keep := by
    rintro i h h' ⟨s1, s2, ⟨u, v, s3⟩, s4, s5⟩ k
    exact ⟨k _ (by simp) _ s1, k _ (by simp) _ s2, ⟨u, v, k _ (by simp) _ s3⟩, s4.at fun o => k _ (by simp) o, s5.at fun o => k _ (by simp) o⟩
  obj := by
    rintro i h ⟨s1, s2, ⟨u, v, s3⟩, ⟨o1, s4, _, t4⟩, ⟨o2, s5, _, t5⟩⟩ c hc
    rcases five hc with e | e | e | e | e <;> subst e
    · exact ⟨_, s1, nofun⟩
    · exact ⟨_, s2, nofun⟩
    · exact ⟨_, s3, nofun⟩
    · refine ⟨o1, s4, fun v' e => ?_⟩
      rw [t4] at e
      cases e
    · refine ⟨o2, s5, fun v' e => ?_⟩
      rw [t5] at e
      cases e
  item := by
    rintro X rfl rfl rfl hc i pins s σ H E I hf S ⟨xs, ys, x, y, ⟨hqx, hqy⟩, hx, hy⟩
    have hlt := fun c hc => StM.lt (c := c) S hc
    obtain ⟨s1, s2, ⟨u0, v0, s3⟩, s4, s5⟩ := S
    obtain ⟨us, rx, px, _⟩ := I.tuple hqx
    obtain ⟨vs, ry, py, _⟩ := I.list hqy
    obtain ⟨u, hu, ru⟩ := rx.get hx
    obtain ⟨v, hv, rv⟩ := ry.get hy
    have nh : X.A.in1.handled = none := I.ok.hd hc
    have lx := (List.getElem?_eq_some_iff.mp hu).1
    have ly := (List.getElem?_eq_some_iff.mp hv).1
    refine wpAny_pyNext_zipD2_item (sepM D) (Draws.tuple nh i1 a D.l1i1 us.toArray) (Draws.list nh i2 b D.l2i2 vs.toArray) s1 s2 s3 ⟨s4, px⟩ ⟨s5, py.isList⟩ (by simpa using lx) (by simpa using ly)
      fun x1 x2 g tk e1 e2 g1 g2 g3 g4 g5 _ gk => ?_
    obtain rfl : u = x1 := by
      have e := e1
      simp only [List.getElem?_toArray] at e
      rw [hu] at e
      exact Option.some.inj e
    obtain rfl : v = x2 := by
      have e := e2
      simp only [List.getElem?_toArray] at e
      rw [hv] at e
      exact Option.some.inj e
    refine ⟨_, rfl, ?_⟩
    refine wpAny_letOwnedTupleGo_zip (s := { s with heap := g, toks := tk }) g1 fun g' z' sb => ?_
    have zlt := hlt z (by simp)
    have got : g'.get? s.heap.objs.size = some { cls := .type "tuple", data := .seq #[u, v] } := (sb.2 _ (Nat.ne_of_gt zlt)).trans g5
    have fresh : H s.heap.objs.size = none := I.hok.fresh (Nat.le_refl _)
    have made : ObjOk X.prog X.w (upd H s.heap.objs.size (.tup [x, y])) g' s.heap.objs.size (.tup [x, y]) := by
      refine ⟨?_, [u, v], .cons ru (.cons rv .nil), ⟨_, got, rfl, _, rfl⟩⟩
      show 2 ≤ sizeLine
      decide
    have stay : ∀ c o, c ∉ [z, TI, TO, i1, i2] → s.heap.get? c = some o → g'.get? c = some o := fun c o n q => by
      have n1 : c ≠ z := fun e => n (by simp [e])
      have n2 : c ≠ TO := fun e => n (by simp [e])
      have n3 : c ≠ i1 := fun e => n (by simp [e])
      have n4 : c ≠ i2 := fun e => n (by simp [e])
      exact (sb.2 c n1).trans (gk c o n1 n2 n3 n4 q)
    refine ⟨.ref s.heap.objs.size, upd H s.heap.objs.size (.tup [x, y]), I.turnedNew (t' := tk) (ch := [z, TI, TO, i1, i2]) stay hf (Nat.le_refl _) made, rfl, ?_, ?_, ?_⟩
    · refine ⟨_, x, y, ⟨rfl, fresh, rfl⟩, fun l hl => ?_, fun l hl => ?_⟩
      · rw [I.tuple_inj hl hqx]; exact hx
      · rw [I.list_inj hl hqy]; exact hy
    · refine ⟨z', ?_, ⟨u, v, (sb.2 _ D.TOz).trans g2⟩, g3.1.at fun o q => (sb.2 _ D.i1z).trans q, g4.1.at fun o q => (sb.2 _ D.i2z).trans q⟩
      exact (sb.2 _ D.TIz).trans (gk _ _ D.TIz D.TITO D.TIi1 D.TIi2 s2)
    · intro c hcm
      rw [upd_ne (Nat.ne_of_lt (hlt c hcm))]
      exact (hf c hcm).1
  done := by
    rintro X rfl rfl rfl hc i pins s σ H E I hf ⟨s1, s2, ⟨u0, v0, s3⟩, s4, s5⟩ ⟨xs, ys, ⟨hqx, hqy⟩, l1, l2, l3⟩
    obtain ⟨us, rx, px, _⟩ := I.tuple hqx
    obtain ⟨vs, ry, py, _⟩ := I.list hqy
    have nh : X.A.in1.handled = none := I.ok.hd hc
    rw [rx.length] at l1 l3
    rw [ry.length] at l2 l3
    refine wpAny_pyNext_zipD2_end (sepM D) (Draws.tuple nh i1 a D.l1i1 us.toArray) (Draws.list nh i2 b D.l2i2 vs.toArray) s1 s2 s3 ⟨s4, px⟩ ⟨s5, py.isList⟩ (by simpa using l1) (by simpa using l2) (by simpa using l3) fun g tk gk => ⟨rfl, ?_⟩
    refine I.turnedL (t' := tk) (ch := [z, TI, TO, i1, i2]) (fun c o n q => ?_) hf
    exact gk c o (fun e => n (by simp [e])) (fun e => n (by simp [e])) (fun e => n (by simp [e])) (fun e => n (by simp [e])) q
end
/-! the making of it -/
def zm1 (h : Heap) (a : Addr) : Heap := h.push { cls := .type "tuple_iterator", data := .fields #[.ref a, .int 0 0] }
def zm2 (h : Heap) (a b : Addr) : Heap := (zm1 h a).push { cls := .type "list_iterator", data := .fields #[.ref b, .int 0 0] }
def zm3 (h : Heap) (a b : Addr) : Heap := (zm2 h a b).push { cls := .type "tuple", data := .seq #[.ref h.objs.size, .ref (zm1 h a).objs.size] }
def zm4 (h : Heap) (a b : Addr) : Heap := (zm3 h a b).push { cls := .type "tuple", data := .seq #[.none, .none] }
def zm5 (h : Heap) (a b : Addr) : Heap := (zm4 h a b).push { cls := .type "zip", data := .fields #[.none, .bool false, .bool false, .ref (zm2 h a b).objs.size, .ref (zm3 h a b).objs.size] }
theorem meets_zipM (a b : Addr) (xs ys : Array Value) : Meets (Builtin.«zip.__new__» ⟨[.type "zip", .ref a, .ref b], []⟩)
    fun _ R s => s.heap.IsTuple a xs ∧ s.heap.IsList b ys ∧ R (.ok (.ret (.ref (zm4 s.heap a b).objs.size))) { s with heap := zm5 s.heap a b } := by
  refine .of_wp fun prog w A R s h => ?_
  obtain ⟨hp, gs, dr, tk, os⟩ := s
  obtain ⟨ha, hb, h⟩ := h
  have sub := sub_zip
  have ita : Heap.IsTuple (Shared.heap ⟨hp, gs, dr, tk, os⟩) a xs := ha
  have itb : Heap.IsList (Shared.heap ⟨hp.push { cls := .type "tuple_iterator", data := .fields #[.ref a, .int 0 0] }, gs, dr, tk, os⟩) b ys := Heap.IsList.push hb _
  wp_walk using wpAny_pyIter_tuple ita, wpAny_pyIter_list itb
  exact ⟨_, rfl, h⟩
theorem call_zipM {prog : Program} {w : World} {A : Around} {E : Value → Shared → Prop} {s : Shared} {a b : Addr} {xs ys : Array Value} {Q : Value → Shared → Prop} (ha : s.heap.IsTuple a xs) (hb : s.heap.IsList b ys)
    (q : ∀ g, StM (s.heap.objs.size + 4) (s.heap.objs.size + 2) (s.heap.objs.size + 3) s.heap.objs.size (s.heap.objs.size + 1) a b 0 g → (∀ c o, s.heap.get? c = some o → g.get? c = some o) → Q (.ref (s.heap.objs.size + 4)) { s with heap := g }) :
    wpAny (model prog w) A (call (.type "zip") [.ref a, .ref b]) Q E s := by
  have n1 : (zm1 s.heap a).objs.size = s.heap.objs.size + 1 := Heap.size_push ..
  have n2 : (zm2 s.heap a b).objs.size = s.heap.objs.size + 2 := (Heap.size_push ..).trans (by rw [n1])
  have n3 : (zm3 s.heap a b).objs.size = s.heap.objs.size + 3 := (Heap.size_push ..).trans (by rw [n2])
  have n4 : (zm4 s.heap a b).objs.size = s.heap.objs.size + 4 := (Heap.size_push ..).trans (by rw [n3])
  have u1 : ∀ {c o}, s.heap.get? c = some o → (zm1 s.heap a).get? c = some o := fun e => Heap.get?_push_of_some _ e
  have u2 : ∀ {c o}, (zm1 s.heap a).get? c = some o → (zm2 s.heap a b).get? c = some o := fun e => Heap.get?_push_of_some _ e
  have u3 : ∀ {c o}, (zm2 s.heap a b).get? c = some o → (zm3 s.heap a b).get? c = some o := fun e => Heap.get?_push_of_some _ e
  have u4 : ∀ {c o}, (zm3 s.heap a b).get? c = some o → (zm4 s.heap a b).get? c = some o := fun e => Heap.get?_push_of_some _ e
  have u5 : ∀ {c o}, (zm4 s.heap a b).get? c = some o → (zm5 s.heap a b).get? c = some o := fun e => Heap.get?_push_of_some _ e
  have k1 : (zm1 s.heap a).get? s.heap.objs.size = some { cls := .type "tuple_iterator", data := .fields #[.ref a, .int 0 0] } := Heap.get?_push_size _ rfl
  have k2 : (zm2 s.heap a b).get? (s.heap.objs.size + 1) = some { cls := .type "list_iterator", data := .fields #[.ref b, .int 0 0] } := by
    rw [← n1]; exact Heap.get?_push_size _ rfl
  have k3 : (zm3 s.heap a b).get? (s.heap.objs.size + 2) = some { cls := .type "tuple", data := .seq #[.ref s.heap.objs.size, .ref (zm1 s.heap a).objs.size] } := by
    rw [← n2]; exact Heap.get?_push_size _ rfl
  have k4 : (zm4 s.heap a b).get? (s.heap.objs.size + 3) = some { cls := .type "tuple", data := .seq #[.none, .none] } := by
    rw [← n3]; exact Heap.get?_push_size _ rfl
  have k5 : (zm5 s.heap a b).get? (s.heap.objs.size + 4) = some { cls := .type "zip", data := .fields #[.none, .bool false, .bool false, .ref (zm2 s.heap a b).objs.size, .ref (zm3 s.heap a b).objs.size] } := by
    rw [← n4]; exact Heap.get?_push_size _ rfl
  rw [n1] at k3
  rw [n2, n3] at k5
  refine callType_new F.called_zip (by decide) (F.typeCall_zip_2 _ _) (F.newCall_zip_2 _ _) (fun obj => F.args_object_init_3 obj _ _) F.entry_zip_new (meets_zipM a b xs ys) ⟨ha, hb, ?_⟩
  show _ ∧ _
  rw [n4]
  exact ⟨⟨_, k5, rfl⟩, q _ ⟨k5, u5 (u4 k3), ⟨_, _, u5 k4⟩, ⟨_, u5 (u4 (u3 (u2 k1))), rfl, rfl⟩, ⟨_, u5 (u4 (u3 k2)), rfl, rfl⟩⟩ fun c o e => u5 (u4 (u3 (u2 (u1 e))))⟩
def iZipM (K : PySem.W.Frag) (ta : TA) : TI := fun σ H R => ta σ H fun vs H1 => ∃ (a b : Addr) (xs ys : List V), vs = [.ref a, .ref b] ∧ (SqT K H1 a xs ∧ SqL K H1 b ys) ∧ R (ItzM K a b) H1
theorem pi_zipM {X : Cx} {e e2 : Expr} {ta : TA} {p pos tpos : Pos} {elts : List Expr} {kk : Nat} (hg : Gl X "zip") (hm : X.mg "zip" = none) (ha : PA X [e, e2] ta)
    (hs : starEach [e, e2] X.env = (false, eval e X.env) :: starEach [e2] X.env := by rfl) (hpl : (backTo pos (starEach [e2] X.env)).any (·.1) = false := by rfl) :
    PI X (.Tuple elts kk tpos) (.Call (.Name "zip" p) [e, e2] [] pos) (iZipM X.K ta) := by
  constructor
  intro pins s σ H R I h
  refine Call_ (ld_blt I hg hm PyProof.Rows.boot_zip (PyProof.Rows.callWith_type1 (thn (ha.run pos pins s σ H _ I h) fun us s1 got => ?_) hs hpl))
  obtain ⟨vs, H1, I1, r1, a, b, xs, ys, rfl, ⟨hqx, hqy⟩, q⟩ := got
  obtain ⟨u1, r2, rfl, e1, r3⟩ : ∃ u r2, us = u :: r2 ∧ RelV (.ref a) u ∧ Vals [.ref b] r2 := by
    cases r1 with
    | cons x y => exact ⟨_, _, rfl, x, y⟩
  obtain rfl := Vals.ref1 r3
  obtain rfl : u1 = Value.ref a := e1
  obtain ⟨its, _, px, _⟩ := I1.tuple hqx
  obtain ⟨its2, _, py, _⟩ := I1.list hqy
  obtain ⟨o1, w1, _⟩ := id px
  refine call_zipM (xs := its.toArray) (ys := its2.toArray) px py.isList fun g S gk => wpAny_pyIter_zip S.1 ?_
  refine ⟨_, [s1.heap.objs.size + 4, s1.heap.objs.size + 2, s1.heap.objs.size + 3, s1.heap.objs.size, s1.heap.objs.size + 1], StM _ _ _ _ _ a b, ItzM X.K a b, H1, rfl, I1.kept (t' := s1.toks) gk,
    turn_zipM (PySem.W.ktu_apart s1.heap.objs.size a b (Heap.lt_size w1) py.lt), S, fun c hc => ?_, q⟩
  have le : s1.heap.objs.size ≤ c := by
    rcases five hc with e | e | e | e | e <;> rw [e]
    · exact Nat.le_add_right _ 4
    · exact Nat.le_add_right _ 2
    · exact Nat.le_add_right _ 3
    · exact Nat.le_refl _
    · exact Nat.le_add_right _ 1
  exact I1.fpOk le (I1.hok.fresh le)
theorem for_zipM {K : PySem.W.Frag} {a b : Addr} {xs ys : List V} {g : TG} {tb : TS} {D : Ends} {σ : L2.St} {H : Hp} (hl : xs.length = ys.length) (Pv : Nat → L2.St → Hp → Prop) (h0 : Pv 0 σ H) (hq : ∀ i σ H, Pv i σ H → SqT K H a xs ∧ SqL K H b ys)
    (hs : ∀ (i : Nat) (x y : V) (T : Addr) (σ : L2.St) (H : Hp), xs[i]? = some x → ys[i]? = some y → Pv i σ H → H T = none → g (.ref T) σ (upd H T (.tup [x, y])) fun σ2 H2 => tb { D with nx := Pv (i + 1), ct := Pv (i + 1), bk := D.nx } σ2 H2)
    (hd : ∀ σ H, Pv xs.length σ H → D.nx σ H) :
    ∃ W : Nat → Nat → L2.St → Hp → Prop, (∃ m, W 0 m σ H) ∧ ∀ i m σ H, W i m σ H →
      ((ItzM K a b).stop i H ∧ D.nx σ H) ∨ ((ItzM K a b).go i H ∧ ∃ N : L2.St → Hp → Prop, (∀ σ' H', N σ' H' → ∃ m', m' < m ∧ W (i + 1) m' σ' H') ∧ ∀ v H', (ItzM K a b).yld i H v H' → g v σ H' fun σ2 H2 => tb { D with nx := N, ct := N, bk := D.nx } σ2 H2) := by
  refine ⟨fun i m σ H => i + m = xs.length ∧ Pv i σ H, ⟨_, Nat.zero_add _, h0⟩, ?_⟩
  rintro i m σ H ⟨e, p⟩
  have both := hq i σ H p
  cases m with
  | zero =>
    have e' : i = xs.length := e
    subst e'
    exact .inl ⟨⟨xs, ys, both, Nat.le_refl _, Nat.le_of_eq hl, .inl rfl⟩, hd σ H p⟩
  | succ m =>
    have l1 : i < xs.length := by omega
    have l2 : i < ys.length := by omega
    refine .inr ⟨⟨xs, ys, _, _, both, List.getElem?_eq_getElem l1, List.getElem?_eq_getElem l2⟩, Pv (i + 1), fun σ' H' p' => ⟨m, Nat.lt_succ_self m, by omega, p'⟩, ?_⟩
    rintro v H' ⟨T, x, y, ⟨rfl, hT, rfl⟩, f1, f2⟩
    exact hs i x y T σ H (f1 xs both.1) (f2 ys both.2) p hT
end Vf

namespace Vf
open PySem PySem.W PySem.Spec PyProof.Rows L2
/-! ### == of lists of ints, and of tuples of ints -/
theorem dpAll_ints {K : PySem.W.Frag} {H : Hp} : ∀ ns : List Int, DpAll K H (ns.map V.int) (ns.map PyData.int)
  | [] => .nil
  | n :: r => .cons (.int n) (dpAll_ints r)
theorem shapedT_ints (ns : List Int) : SeqAt.shaped (.tuple (ns.map PyData.int)) = true := by
  have e : SeqAt.shaped (.tuple (ns.map PyData.int)) = SeqAt.shaped (.list (ns.map PyData.int)) := by
    unfold SeqAt.shaped
    simp only [PyData.canLay0, PyData.depth]
    rfl
  rw [e]
  exact PySem.W.shaped_ints ns
/-- two lists of ints, or two tuples of ints -/
def TwoInts (K : PySem.W.Frag) (H : Hp) (x y : V) (ns ms : List Int) : Prop := ∃ a b : Addr, x = .ref a ∧ y = .ref b ∧ ((SqL K H a (ns.map V.int) ∧ SqL K H b (ms.map V.int)) ∨ (SqT K H a (ns.map V.int) ∧ SqT K H b (ms.map V.int)))
theorem TwoInts.dp {K : PySem.W.Frag} {H : Hp} {x y : V} {ns ms : List Int} (t : TwoInts K H x y ns ms) : ∃ d e, Dp K H x d ∧ Dp K H y e ∧ SeqAt.shaped d = true ∧ SeqAt.shaped e = true ∧ PyData.eqv d e = decide (ns = ms) := by
  obtain ⟨a, b, rfl, rfl, ⟨h1, h2⟩ | ⟨h1, h2⟩⟩ := t
  · exact ⟨_, _, .lst h1 (dpAll_ints ns), .lst h2 (dpAll_ints ms), PySem.W.shaped_ints ns, PySem.W.shaped_ints ms, PySem.W.Datum.eqv (α := List Int) ns ms⟩
  · refine ⟨_, _, .tup h1 (dpAll_ints ns), .tup h2 (dpAll_ints ms), shapedT_ints ns, shapedT_ints ms, ?_⟩
    refine (PySem.W.Datum.eqv (α := PySem.W.Tup Int) ⟨ns⟩ ⟨ms⟩).trans (decide_eq_decide.mpr ⟨fun e => congrArg PySem.W.Tup.items e, fun e => by rw [e]⟩)
def rEqIs (K : PySem.W.Frag) : R2 := fun x y H Q => ∃ ns ms : List Int, TwoInts K H x y ns ms ∧ Q (.bl (decide (ns = ms))) H
def rNeIs (K : PySem.W.Frag) : R2 := fun x y H Q => ∃ ns ms : List Int, TwoInts K H x y ns ms ∧ Q (.bl (!decide (ns = ms))) H
theorem op_eqIs {X : Cx} (hu : X.A.units + 64 < cLine) : OpR X (compareOp .Eq) (rEqIs X.K) := by
  rintro pins s σ H x y v u Q I rx ry ⟨ns, ms, t, q⟩
  obtain ⟨d, e, h1, h2, h3, h4, h5⟩ := t.dp
  exact op_eqD hu pins s σ H x y v u Q I rx ry ⟨d, e, h1, h2, h3, h4, by rw [h5]; exact q⟩
theorem op_neIs {X : Cx} (hu : X.A.units + 64 < cLine) : OpR X (compareOp .NotEq) (rNeIs X.K) := by
  rintro pins s σ H x y v u Q I rx ry ⟨ns, ms, t, q⟩
  obtain ⟨d, e, h1, h2, h3, h4, h5⟩ := t.dp
  exact op_neD hu pins s σ H x y v u Q I rx ry ⟨d, e, h1, h2, h3, h4, by rw [h5]; exact q⟩
/-! ### an item of a list or of a tuple -/
def rIxS (K : PySem.W.Frag) : R2 := fun x y H Q => ∃ (p : Addr) (xs : List V) (i : Int) (z : V), x = .ref p ∧ y = .int i ∧ (SqL K H p xs ∨ SqT K H p xs) ∧ atI xs i = some z ∧ Q z H
theorem ix_seq {X : Cx} : IxR X (rIxS X.K) := by
  rintro value slice pins s σ H x y v u Q I rx ry ⟨p, xs, i, z, e1, e2, hl | ht, hz, q⟩ hs
  · exact ix_list value slice pins s σ H x y v u Q I rx ry ⟨p, xs, i, z, e1, e2, hl, hz, q⟩ hs
  · exact ix_tup value slice pins s σ H x y v u Q I rx ry ⟨p, xs, i, z, e1, e2, ht, hz, q⟩ hs
/-! ### catching -/
theorem takesN {X : Cx} : Takes X (fun _ _ _ _ => False) := takes0
theorem neq_none {H : Hp} {a b : Addr} {o : HO} (h : H a = some o) (n : H b = none) : a ≠ b := fun e => by
  rw [e, n] at h
  cases h
/-! ### a heap without one object -/
def Er (p : Addr) (H : Hp) : Hp := fun a => if a = p then none else H a
theorem er_self {p : Addr} {H : Hp} : Er p H p = none := if_pos rfl
theorem er_ne {p a : Addr} {H : Hp} {o o' : HO} (h : H a = some o) (hp : H p = some o') (n : o ≠ o') : Er p H a = some o := by
  unfold Er
  rw [if_neg fun e => ?_]
  · exact h
  · subst e
    rw [h] at hp
    exact n (Option.some.inj hp)
theorem er_some {p a : Addr} {H : Hp} {o : HO} (h : Er p H a = some o) : a ≠ p ∧ H a = some o := by
  unfold Er at h
  by_cases e : a = p
  · rw [if_pos e] at h; cases h
  · rw [if_neg e] at h; exact ⟨e, h⟩
theorem er_keep {p : Addr} {H H' : Hp} (k : Keep [p] H H') : Same (Er p H) H' := fun a o h => by
  obtain ⟨n, e⟩ := er_some h
  exact k a o (by simpa using n) e
theorem same_keep {p : Addr} {G H H' : Hp} (s : Same G H) (n : G p = none) (k : Keep [p] H H') : Same G H' := fun a o h => k a o (fun m => by
  rw [List.mem_singleton] at m
  rw [m, n] at h
  cases h) (s a o h)
/-! ### the pool of draws: a list of a list of ints and a place in it -/
def PoolX (H : Hp) (p d : Addr) (ds : List Int) (n : Int) : Prop := H p = some (.lst [.ref d, .int n]) ∧ H d = some (.lst (ds.map V.int)) ∧ d ≠ p ∧ ds.length = 160 ∧ ∀ x ∈ ds, 0 ≤ x ∧ x < 4096
def PoolAt (H : Hp) (p : Addr) (n : Int) : Prop := ∃ (d : Addr) (ds : List Int), PoolX H p d ds n
theorem PoolX.same {H H' : Hp} {p d : Addr} {ds : List Int} {n : Int} (P : PoolX H p d ds n) (e : Same H H') : PoolX H' p d ds n := ⟨e _ _ P.1, e _ _ P.2.1, P.2.2⟩
/-- the pool over what stays -/
theorem PoolX.over {G H H' : Hp} {p d : Addr} {ds : List Int} {n m : Int} (P : PoolX H p d ds n) (e : Same (Er p H) H') (h : H' p = some (.lst [.ref d, .int m])) : PoolX H' p d ds m :=
  ⟨h, e _ _ (show Er p H d = _ from (if_neg P.2.2.1).trans P.2.1), P.2.2⟩
section
variable {H : Hp} {p : Addr} {n : Int}
theorem PoolAt.tups {α : Type} {enc : α → List V} {xs : List V} {l : List α} (P : PoolAt H p n) (t : Tups enc H xs l) : Tups enc (Er p H) xs l := by
  obtain ⟨d, ds, h1, _⟩ := P
  exact t.mono fun a ys e => er_ne e h1 (by intro q; cases q)
theorem PoolAt.parts {q : Addr} {D : DD} (P : PoolAt H p n) (S : PartsAt H q D) : PartsAt (Er p H) q D := by
  obtain ⟨ls, li, ll, lr, lo, xi, xr, s0, s1, s2, t2, s3, s4, t4, s5⟩ := S
  have P' := P
  obtain ⟨d, ds, h1, _⟩ := P
  have nS : ∀ l : List Str, HO.lst (l.map V.str) ≠ .lst [.ref d, .int n] := fun l e => by
    cases l with
    | nil => cases e
    | cons a b => injection e with e; injection e with e _; cases e
  have nI : ∀ l : List Int, HO.lst (l.map V.int) ≠ .lst [.ref d, .int n] := fun l e => by
    cases l with
    | nil => cases e
    | cons a b => injection e with e; injection e with e _; cases e
  have nT : ∀ {α : Type} {enc : α → List V} {xs : List V} {l : List α}, Tups enc H xs l → HO.lst xs ≠ .lst [.ref d, .int n] := fun t e => by
    injection e with e
    subst e
    obtain ⟨_, t', _, q, _⟩ := t.get (i := 1) (x := .int n) rfl
    cases q
  exact ⟨ls, li, ll, lr, lo, xi, xr, er_ne s0 h1 (by intro q; cases q), er_ne s1 h1 (nS _), er_ne s2 h1 (nT t2), P'.tups t2, er_ne s3 h1 (nS _), er_ne s4 h1 (nT t4), P'.tups t4, er_ne s5 h1 (nI _)⟩
theorem PoolAt.book {C q : Addr} {a : RA} {D : DD} (P : PoolAt H p n) (S : BookAt C H q a D) : BookAt C (Er p H) q a D := by
  have P' := P
  obtain ⟨d, ds, h1, _⟩ := P
  have tup : ∀ t ys, H t = some (.tup ys) → Er p H t = some (.tup ys) := fun t ys e => er_ne e h1 (by intro q; cases q)
  obtain ⟨dx, h0⟩ := S.ob
  obtain ⟨x2, h2, T2⟩ := S.ins
  obtain ⟨x4, h4, T4⟩ := S.ru
  obtain ⟨kv, hd, R⟩ := S.dr
  obtain ⟨xs, rows, r1, r2, r3, r4, r5⟩ := S.rw
  refine ⟨⟨dx, er_ne h0 h1 (by intro q; cases q)⟩, tup _ _ S.st, ⟨x2, tup _ _ h2, P'.tups T2⟩, tup _ _ S.ld, ⟨x4, tup _ _ h4, P'.tups T4⟩, tup _ _ S.ou, er_ne S.dn h1 (by intro q; cases q), ⟨kv, er_ne hd h1 (by intro q; cases q), R.same tup⟩, ⟨xs, rows, tup _ _ r1, r2, fun i x e => ?_, r4, r5⟩⟩
  obtain ⟨t, e1, e2⟩ := r3 i x e
  exact ⟨t, e1, tup _ _ e2⟩
end
end Vf
namespace Vf
open PySem L2
/-! ### first places -/
def putAt (pl : List Int) (i : Nat) (c : Int) : List Int := pl.set i (pl.getD i 0 + c)
def inPl (D : DD) (n : Nat) (ps : List (Str × Str)) (cs : List Int) : List Int := (ps.zip cs).foldl (fun pl pc => putAt pl (D.st.idxOf pc.1.2) pc.2) (List.replicate n 0)
def ldPl (D : DD) (ls : List Str) (pl : List Int) : List Int := ls.foldl (fun pl s => putAt pl (D.st.idxOf s) 1) pl
def firstPl (D : DD) (cs : List Int) : List Int := ldPl D D.ld (inPl D D.st.length D.ins cs)
theorem putAt_len (pl : List Int) (i : Nat) (c : Int) : (putAt pl i c).length = pl.length := List.length_set ..
theorem fold_len {α : Type} (f : List Int → α → List Int) (h : ∀ pl a, (f pl a).length = pl.length) : ∀ (l : List α) (pl : List Int), (l.foldl f pl).length = pl.length
  | [], _ => rfl
  | a :: r, pl => (fold_len f h r (f pl a)).trans (h pl a)
theorem inPl_len (D : DD) (n : Nat) (ps : List (Str × Str)) (cs : List Int) : (inPl D n ps cs).length = n := (fold_len _ (fun pl a => putAt_len ..) _ _).trans (List.length_replicate ..)
theorem ldPl_len (D : DD) (ls : List Str) (pl : List Int) : (ldPl D ls pl).length = pl.length := fold_len _ (fun pl a => putAt_len ..) _ _
theorem inPl_snoc (D : DD) (n i : Nat) {ps : List (Str × Str)} {cs : List Int} {p : Str × Str} {c : Int} (h1 : ps[i]? = some p) (h2 : cs[i]? = some c) :
    inPl D n (ps.take (i + 1)) (cs.take (i + 1)) = putAt (inPl D n (ps.take i) (cs.take i)) (D.st.idxOf p.2) c := by
  unfold inPl
  rw [take_snoc h1, take_snoc h2, List.zip_append (by rw [take_len h1, take_len h2]), List.foldl_append]
  rfl
theorem ldPl_snoc (D : DD) (i : Nat) {ls : List Str} {s : Str} {pl : List Int} (h : ls[i]? = some s) : ldPl D (ls.take (i + 1)) pl = putAt (ldPl D (ls.take i) pl) (D.st.idxOf s) 1 := by
  unfold ldPl
  rw [take_snoc h, List.foldl_append]
  rfl
theorem zeros (k : Nat) : (List.replicate k [V.int 0]).flatten = (List.replicate k (0 : Int)).map V.int := by
  induction k with
  | zero => rfl
  | succ k ih =>
    rw [List.replicate_succ, List.flatten_cons, ih]
    rfl
theorem putAt_map (pl : List Int) (i : Nat) (c : Int) : (pl.map V.int).set i (V.int (pl.getD i 0 + c)) = (putAt pl i c).map V.int := by
  unfold putAt
  rw [List.map_set]
theorem idx_lt {st : List Str} {s : Str} (h : s ∈ st) : st.idxOf s < st.length := List.idxOf_lt_length_of_mem h
end Vf
namespace Vf
open PySem L2
section
variable {pl : List Int} {st : List Str} {s : Str}
theorem getPl (h : s ∈ st) (hl : pl.length = st.length) : (pl.map V.int)[(ix st s).toNat]? = some (V.int (pl.getD (st.idxOf s) 0)) := by
  have lt : st.idxOf s < pl.length := by rw [hl]; exact idx_lt h
  unfold ix
  rw [Int.toNat_natCast, List.getElem?_map, List.getElem?_eq_getElem lt, List.getD_eq_getElem?_getD, List.getElem?_eq_getElem lt]
  rfl
theorem ixPl (h : s ∈ st) (hl : pl.length = st.length) : ixN (pl.map V.int).length (ix st s) = some (st.idxOf s) := by
  have lt : st.idxOf s < pl.length := by rw [hl]; exact idx_lt h
  unfold ixN ix
  rw [List.length_map, if_pos (Int.natCast_nonneg _), if_pos (by omega), Int.toNat_natCast]
theorem atPl (h : s ∈ st) (hl : pl.length = st.length) : atI (pl.map V.int) (ix st s) = some (V.int (pl.getD (st.idxOf s) 0)) := by
  unfold atI
  rw [ixPl h hl]
  have g := getPl h hl
  unfold ix at g
  rw [Int.toNat_natCast] at g
  exact g
theorem ix_nn : 0 ≤ ix st s := Int.natCast_nonneg _
end
end Vf
namespace Vf
open PySem L2
theorem at0 {xs : List V} {i : Nat} {x : V} (h : xs[i]? = some x) : atI xs (0 + (i : Int)) = some x := by
  rw [Int.zero_add]
  exact atI_nat h
theorem idx_get : ∀ {st : List Str} {s : Str}, s ∈ st → (st.map V.str)[st.idxOf s]? = some (V.str s) ∧ ∀ (m : Nat) (z : V), m < st.idxOf s → (st.map V.str)[m]? = some z → eqV z (.str s) = false
  | [], s, h => nomatch h
  | a :: r, s, h => by
    by_cases e : a = s
    · subst e
      rw [List.idxOf_cons_self]
      exact ⟨rfl, fun m z hm => absurd hm (Nat.not_lt_zero m)⟩
    · have hr : s ∈ r := by
        rcases List.mem_cons.mp h with h | h
        · exact absurd h.symm e
        · exact h
      obtain ⟨g1, g2⟩ := idx_get hr
      have ei : (a :: r).idxOf s = r.idxOf s + 1 := by
        rw [List.idxOf_cons, beq_false_of_ne e]
        rfl
      rw [ei]
      refine ⟨g1, fun m z hm hz => ?_⟩
      cases m with
      | zero =>
        have hz' : V.str a = z := Option.some.inj hz
        subst hz'
        exact beq_false_of_ne e
      | succ m => exact g2 m z (Nat.lt_of_succ_lt_succ hm) hz
end Vf

/-! ### min, max, sum of tuples of whole numbers; len of an own instance -/
namespace Vf
open PySem PySem.W PySem.Spec PyProof.Rows L2
theorem most_ok : ∀ (zs : List Int) (z : Int), PySem.W.maxOf z zs ∈ z :: zs ∧ ∀ q ∈ z :: zs, q ≤ PySem.W.maxOf z zs
  | [], z => ⟨List.mem_singleton.mpr rfl, fun q hq => by
      have e : q = z := by simpa using hq
      rw [e]
      exact Int.le_refl _⟩
  | y :: r, z => by
    have step : PySem.W.maxOf z (y :: r) = PySem.W.maxOf (if z < y then y else z) r := by
      unfold PySem.W.maxOf
      rw [List.foldl_cons]
      congr 1
      by_cases c : z < y
      · simp [DatumOrd.lt, c]
      · simp [DatumOrd.lt, c]
    obtain ⟨m1, m2⟩ := most_ok r (if z < y then y else z)
    rw [step]
    have low := m2 _ (List.mem_cons_self ..)
    refine ⟨?_, fun q hq => ?_⟩
    · rcases List.mem_cons.mp m1 with e | e
      · rw [e]
        by_cases c : z < y
        · rw [if_pos c]; simp
        · rw [if_neg c]; simp
      · exact List.mem_cons_of_mem _ (List.mem_cons_of_mem _ e)
    · rcases List.mem_cons.mp hq with e | e
      · rw [e]
        by_cases c : z < y
        · rw [if_pos c] at low ⊢; omega
        · rw [if_neg c] at low ⊢; omega
      · rcases List.mem_cons.mp e with e | e
        · rw [e]
          by_cases c : z < y
          · rw [if_pos c] at low ⊢; omega
          · rw [if_neg c] at low ⊢; omega
        · exact m2 q (List.mem_cons_of_mem _ e)
def rMinT (K : PySem.W.Frag) : List V → Hp → VK → Prop := fun vs H Q => ∃ (a : Addr) (ns : List Int), vs = [V.ref a] ∧ SqT K H a (ns.map V.int) ∧ 0 < ns.length ∧ ∀ m : Int, m ∈ ns → (∀ y ∈ ns, m ≤ y) → Q (.int m) H
def rMaxT (K : PySem.W.Frag) : List V → Hp → VK → Prop := fun vs H Q => ∃ (a : Addr) (ns : List Int), vs = [V.ref a] ∧ SqT K H a (ns.map V.int) ∧ 0 < ns.length ∧ ∀ m : Int, m ∈ ns → (∀ y ∈ ns, y ≤ m) → Q (.int m) H
def rSumT (K : PySem.W.Frag) : List V → Hp → VK → Prop := fun vs H Q => ∃ (a : Addr) (ns : List Int), vs = [V.ref a] ∧ SqT K H a (ns.map V.int) ∧ Q (.int ns.sum) H
theorem cr_minT {X : Cx} (hu : X.A.units + 64 < cLine) (hc : X.calm = true := by rfl) : CallR X (.builtin "min") (rMinT X.K) := by
  intro pins s σ H vs us Q I r h
  obtain ⟨a, ns, rfl, hs, hne, q⟩ := h
  obtain rfl := Vals.ref1 r
  obtain ⟨its, rv, hl, _⟩ := I.tuple hs
  have room : X.A.units + 1 + Datum.depth Int < cLine := by
    show X.A.units + 1 + 0 < cLine
    omega
  have ia := rv.ints
  cases ns with
  | nil => simp at hne
  | cons y ys =>
    refine PySem.W.min_tuple_datum (I.ok.hd hc) hl (.of_ints ia) room fun i v h' tk hv hh k => ?_
    obtain ⟨n, t, rfl⟩ := ints_at (i := i) ia (by simpa using hv)
    have en := holds_only hh
    obtain ⟨f1, f2⟩ := least_ok ys y
    rw [← en] at f1 f2
    exact ⟨.int n, H, I.kept (t' := tk) k, ⟨t, rfl⟩, q n f1 f2⟩
theorem cr_maxT {X : Cx} (hu : X.A.units + 64 < cLine) (hc : X.calm = true := by rfl) : CallR X (.builtin "max") (rMaxT X.K) := by
  intro pins s σ H vs us Q I r h
  obtain ⟨a, ns, rfl, hs, hne, q⟩ := h
  obtain rfl := Vals.ref1 r
  obtain ⟨its, rv, hl, _⟩ := I.tuple hs
  have room : X.A.units + 1 + Datum.depth Int < cLine := by
    show X.A.units + 1 + 0 < cLine
    omega
  have ia := rv.ints
  cases ns with
  | nil => simp at hne
  | cons y ys =>
    refine PySem.W.max_tuple_datum (I.ok.hd hc) hl (.of_ints ia) room fun i v h' tk hv hh k => ?_
    obtain ⟨n, t, rfl⟩ := ints_at (i := i) ia (by simpa using hv)
    have en := holds_only hh
    obtain ⟨f1, f2⟩ := most_ok ys y
    rw [← en] at f1 f2
    exact ⟨.int n, H, I.kept (t' := tk) k, ⟨t, rfl⟩, q n f1 f2⟩
theorem sumT_raw {prog : Program} {w : World} {A : Around} {E : Value → Shared → Prop} {s : Shared} {l : Addr} {its : List Value} {ns : List Int} {Q : Value → Shared → Prop} (hh : A.handled = none) (hl : s.heap.IsTuple l its.toArray) (hi : IntsAre its ns)
    (h : ∀ h' tk t', (∀ b o, s.heap.get? b = some o → h'.get? b = some o) → Q (.int ns.sum t') { s with heap := h', toks := tk }) : wpAny (model prog w) A (call (.builtin "sum") [.ref l]) Q E s := by
  obtain ⟨xs, e⟩ := hi.allInts.items
  have hn : numsOf (intItems xs).toList = ns := by rw [← e]; exact hi.numsOf
  rw [nums_intItems] at hn
  rw [e] at hl
  refine PySem.W.ktm_sumG hh hl fun h' tk t' hk => ?_
  have := h h' tk t' hk
  rw [preSum_eq, List.take_of_length_le (by simp), hn]; exact this
theorem cr_sumT {X : Cx} (_ : X.A.units + 64 < cLine) (hc : X.calm = true := by rfl) : CallR X (.builtin "sum") (rSumT X.K) := by
  intro pins s σ H vs us Q I r h
  obtain ⟨a, ns, rfl, hs, q⟩ := h
  obtain ⟨its, rv, hl, _⟩ := I.tuple hs
  rw [Vals.ref1 r]
  exact sumT_raw (I.ok.hd hc) hl rv.ints fun h' tk t' hk => ⟨.int _, H, I.kept hk, ⟨_, rfl⟩, q⟩
/-- len(o) of an instance of an own class with an own __len__ -/
def rLenOwn (C : Addr) (sp : Sp) (E : XK) : List V → Hp → VK → Prop := fun xs H Q => ∃ (a dx : Addr) (fs : List (Str × V)), xs = [.ref a] ∧ H a = some (.ins C dx fs) ∧ sp [.ref a] H (fun v H' => ∃ n : Int, v = .int n ∧ 0 ≤ n ∧ n < 2 ^ 63 ∧ Q (.int n) H') E
theorem call_lenOwn {X : Cx} {CX : CXT} {k : Nat} {C f : Addr} {fd : FuncData} {ps : List Str} {sp : Sp} {E : XK} (F : FnOk X.prog X.w X.K X.mg X.base CX k f fd ps sp) (hr : Room (k + 1) X.A)
    (hs : PySem.W.findIn X.K (.ref C) "__len__" = some (some (.ref f))) (hf : PySem.W.isFn X.K (.ref f) = true) (hb : Binds X.K fd ps []) (hx : Passes CX X E) : CallR X (.builtin "len") (rLenOwn C sp E) := by
  intro pins s σ H xs us Q I r h
  obtain ⟨a, dx, fs, rfl, ha, q⟩ := h
  obtain rfl := Vals.ref1 r
  obtain ⟨mA, J, _⟩ := ins_get I.hok ha
  obtain ⟨od, J, _⟩ := J.look
  obtain ⟨m, hF⟩ := I.fr
  refine PySem.W.len_K hF I.ok.mod.kin J hs hf ?_
  have hl := F.len _ _ _ _ q
  have r2 : Vals [V.ref a] [Value.ref a] := .cons rfl .nil
  refine wpAny_call (codeAny_mono (F.run X.A.in1 X.stack s H ⟨[.ref a], []⟩ [.ref a] [.ref a] _ E hr.in1 I.env0.in1 (by
    have := hb s [.ref a] I.kIn (by simpa using hl)
    simpa using this) r2 q) fun r s' hq => ?_)
  cases r with
  | error e => exact hx pins σ H s e s' I hq
  | ok fl =>
    cases fl with
    | ret w =>
      obtain ⟨z, H', I', rz, n, rfl, n0, n1, q'⟩ := I.after hq
      obtain ⟨t, rfl⟩ := rz
      exact ⟨⟨n0, n1⟩, .int n, H', I'.tok _, ⟨_, rfl⟩, q'⟩
    | next => exact False.elim hq
    | brk => exact False.elim hq
    | cont => exact False.elim hq
end Vf

namespace Vf
open PySem PySem.W PySem.Spec PyProof.Rows L2 PySem.Calls
/-! ### super().__init__(..) in an own error's __init__, over ValueError, classes between allowed -/
/-- what the frame of such an __init__ knows -/
structure SupAt (X : Cx) (C : Addr) (nm : Str) : Prop where
  kind : X.env.scope.kind = .function
  ks : X.env.kindOf "super" = some .globalImplicit
  kc : X.env.kindOf "__class__" = some .free
  ka : X.env.kindOf nm = some .local
  fn : ∃ (f : Addr) (oc : Value) (od : Option Addr) (fd : FuncData) (sl : Array (Option Value)) (ar : Arg), X.env.func = some f ∧ X.K.lookup f = some ⟨oc, od, .func fd, sl⟩ ∧ (fd.params.posonlyargs ++ fd.params.args).head? = some ar ∧ ar.arg = nm
  code : ∃ (cda : Addr) (oc : Value) (od : Option Addr) (vs : Array Value) (sl : Array (Option Value)) (file : Str) (tf : Tok), X.env.code = .ref cda ∧ X.K.lookup cda = some ⟨oc, od, .fields vs, sl⟩ ∧ vs[2]? = some (.str file tf) ∧ ((X.prog.main.file : Str) == file) = true
  top : (X.prog.main.scope.names.lookup ("super" : Str)).isSome = false
  cell : ∃ (cc : Addr) (oc : Value) (od : Option Addr) (sl : Array (Option Value)), X.env.cells.lookup ("__class__" : Str) = some cc ∧ X.K.lookup cc = some ⟨oc, od, .cell (some (.ref C)), sl⟩
  mg : X.mg "super" = none
/-- what the written part says of the class -/
structure SupCls (K : PySem.W.Frag) (C : Addr) : Prop where
  sub : mroIn K C (.ref C) = some true
  al : ks_superIn K C C "__init__" = some (some (.builtin "ValueError.__init__"))
  ve : subIn K (.ref C) (.type "ValueError") = some true
  op : nsIn K cStatics "thirdparty.any" = some none
theorem at_sub {α : Type} {M : Model} {A : Around} {c : Code} {t : Sem α} {Q Q' : α → Shared → Prop} {E : Value → Shared → Prop} {s : Shared} (h : PySem.wpAt M A c t Q E s) (f : ∀ v s', Q v s' → Q' v s') : PySem.wpAt M A c t Q' E s :=
  PySem.wpAt_mono h f fun _ _ x => x
section
variable {X : Cx} {pins : List (Addr × Obj)} {σ : L2.St} {H : Hp} {s : Shared} {a C : Addr}
/-- the bound __init__ is called -/
theorem call_bound {u : Addr} {us : List Value} {Q : Value → Shared → Prop} (T : OexC X.K C) (I : Inv X pins σ H s) (e : H a = some (exo a C none)) (hu : s.heap.get? u = some (kxs_mw "ValueError.__init__" a)) (hl : us.length ≤ sizeLine)
    (h : ∀ s', Inv X pins σ H s' → Q .none s') : wpAny (model X.prog X.w) X.A (call (.ref u) us) Q X.xe s := by
  obtain ⟨nm, q, N, bs, bm, sn, sub, ab, col, dd, k0, k1, k2, k3, k5, hC, hbm⟩ := T.cls
  obtain ⟨t1, ho⟩ := exo_at I.hok e
  obtain ⟨hp, g, d, t, os⟩ := s
  refine wpAny_call (codeAny_of_tree ?_)
  show wpAny _ _ (callAny (.ref u) ⟨us, []⟩) _ _ _
  unfold callAny
  refine wpAny_bind (wpAny_load hu ?_)
  have w1 : (Value.type "method-wrapper" == Value.type "method" || Value.type "method-wrapper" == Value.type "builtin_function_or_method" ||
      Value.type "method-wrapper" == Value.type "method-wrapper") = true := by decide +kernel
  have w2 : (Value.type "method-wrapper" != Value.type "method") = true := by decide +kernel
  refine KFB.if_so w1 (KFB.if_so w2 ?_)
  have FB := PySem.F.excBase_ValueError
  refine wpAny_bind (check_bound_init FB.toExcCallFacts (I.kIn _ _ hC) ho rfl (wpAny_pure ⟨plainId_quiet FB.init.plain _, codeAny_builtin FB.initEntry ?_⟩))
  refine exc_init_tree (cls := .ref C) (t0 := t1) (dv := none) (c2 := .none) (c3 := .none) (b4 := .bool false) ho hl fun h' k e' _ => ?_
  have J := I.write (t' := t) (x := a) (e := a) (o := exo a C none) (by rw [e]; exact True.intro) (.inl rfl) k ⟨_, e'⟩ (exo_ok e')
  have same : upd H a (exo a C none) = H := by
    funext b
    by_cases hb : b = a
    · subst hb
      rw [upd_same, e]
    · rw [upd_ne hb]
  rw [same] at J
  exact h _ J
/-- the whole call -/
theorem super_init {body : List Stmt} {nm : Str} {e : Expr} {es : List Expr} {p0 p1 apos pos : Pos} {ta : TA} {i : Nat} {Q : VK} (T : OexC X.K C) (F : SupAt X C nm) (G : SupCls X.K C) (I : Inv X pins σ H s) (hi : X.N[i]? = some nm) (hσ : σ[i]? = some (some (.ref a)))
    (ha : H a = some (exo a C none)) (hargs : PA X (e :: es) ta) (hq : ta σ H fun vs H1 => vs.length ≤ 1000 ∧ H1 a = some (exo a C none) ∧ Q .non H1) {pl : Sem Bool}
    (hev : eval (.Call (.Attribute (.Call (.Name "super" p0) [] [] p1) "__init__" apos) (e :: es) [] pos) X.env = (do
      let ov ← attributeBase (.Call (.Name "super" p0) [] [] p1) "__init__" X.env (eval (.Call (.Name "super" p0) [] [] p1) X.env)
      standAt apos.atName
      let (f, first) ← holding [ov] (getMethod ov "__init__" pl)
      callWith pos f first (backTo pos (starEach (e :: es) X.env)) []) := by rfl)
    (hst : starEach (e :: es) X.env = (false, eval e X.env) :: starEach es X.env := by rfl) (hpl : (backTo pos (starEach es X.env)).any (·.1) = false := by rfl) :
    PySem.wpAt (model X.prog X.w) X.A (.func body X.env) (eval (.Call (.Attribute (.Call (.Name "super" p0) [] [] p1) "__init__" apos) (e :: es) [] pos) X.env) (EP X pins σ Q) X.xe s := by
  obtain ⟨f, oc1, od1, fd, sl1, ar, f1, f2, f3, f4⟩ := F.fn
  obtain ⟨cda, oc2, od2, vs2, sl2, file, tf, c1, c2, c3, c4⟩ := F.code
  obtain ⟨cc, oc3, od3, sl3, d1, d2⟩ := F.cell
  have kin := I.kIn
  subst f4
  refine ks_wpAt_MethodCall ?_ hev
  refine ks_wpAt_super_base F.ks F.kc (by decide +kernel) f1 (kin _ _ f2) rfl f3 c1 (kin _ _ c2) rfl c3 c4 F.top ?_
  obtain ⟨mb, h1, h2⟩ := I.mod.blt
  refine ks_loadName_global F.kind F.ks (loadGlobal_builtin (by rw [I.ok.glob]; exact I.mod.glob.keeps I.bk) F.mg (by rw [I.ok.blt]; exact h1.keeps I.bk) ((h2 _ (by decide)).trans (show bootBuiltins "super" = some (.type "super") by decide +kernel)) ⟨rfl, ?_⟩)
  refine wpAny_loadName_free F.kind F.kc d1 ⟨_, kin _ _ d2, rfl⟩ ?_
  obtain ⟨m, hns, hloc⟩ := I.loc
  obtain ⟨u, ru, hl⟩ := hloc i ar.arg _ hi hσ (.inl F.ka)
  cases ru
  have hm : m ar.arg = some (.ref a) := by
    rcases hl with ⟨_, hm⟩ | ⟨hk, _⟩
    · exact hm
    · rw [F.ka] at hk
      rcases hk with hk | hk <;> cases hk
  refine wpAny_loadName_local F.kind F.ka hns hm ?_
  obtain ⟨nmC, qC, NC, bs, bm, sn, sub, ab, col, dd, k0, k1, k2, k3, k5, hC, hbm⟩ := T.cls
  have hcl : clsIn X.K C = some { name := nmC, bases := bs, mro := .ref C :: bm, ns := NC, qualname := qC, hasDict := true, slotNames := sn, subclasses := sub, abstract := ab, collection := col, hasDel := false } := by
    unfold clsIn
    rw [hC] <;> rfl
  refine ks_wpAny_isType_cls (kin _ _ hC) rfl ⟨rfl, ?_⟩
  obtain ⟨t1, ho⟩ := exo_at I.hok ha
  obtain ⟨hp, g, d, t, os⟩ := s
  refine ks_wpAny_call_super (kin _ _ hC) rfl ho rfl (fun c => nofun) (looks_mroIn kin G.sub) fun h2 hso k2' => ?_
  have I2 : L2.Inv X pins σ H ⟨h2, g, d, t, os⟩ := I.kept (t' := t) k2'
  have ho2 := k2' _ _ ho
  have at2 : InstAt h2 a { cls := .ref C, dict := none, data := .fields #[.ref t1, .none, .none, .none, .bool false, .none] } C none := ⟨ho2, rfl, rfl, trivial⟩
  have al := G.al
  unfold ks_superIn at al
  rw [hcl] at al
  refine kxs_getMethod kxs_ValueError hso (looks_opaque I2.kIn G.op) (l₀ := .ref C :: bm) (fun A Q E s k q => wpAny_bind ((looks_clsIn I2.kIn hcl) A _ E s k (wpAny_pure q))) rfl I2.kIn al (at2.type.andThen (looks_subIn I2.kIn G.ve)) (ks_ne I2.kIn at2 hcl) (by decide +kernel) ?_
  have sz : h2.objs.size ≤ h2.objs.size := Nat.le_refl _
  have gu : (h2.push (kxs_mw "ValueError.__init__" a)).get? h2.objs.size = some (kxs_mw "ValueError.__init__" a) := Heap.get?_push_at rfl rfl
  have I3 : L2.Inv X pins σ H ⟨h2.push (kxs_mw "ValueError.__init__" a), g, d, t + 1, os⟩ := I2.kept (t' := t + 1) fun b o z => Heap.get?_push_of_some _ z
  have hun : H h2.objs.size = none := I2.hok.fresh sz
  have I4 : L2.Inv X ((h2.objs.size, kxs_mw "ValueError.__init__" a) :: pins) σ H ⟨h2.push (kxs_mw "ValueError.__init__" a), g, d, t + 1, os⟩ := I3.pins_of fun p hp => by
    rcases List.mem_cons.mp hp with e1 | hp
    · subst e1
      exact ⟨gu, hun, fun z => Nat.lt_irrefl _ (by have := I2.lt; rw [← z] at this; exact this), I2.nofs sz, nofun⟩
    · exact I3.pin p (List.mem_append_right _ hp)
  rw [hst]
  refine kxs_callWith (i := "ValueError.__init__") (x := a) (hpl : _) ?_
  have run := hargs.run pos _ _ σ H _ I4 hq
  rw [hst] at run
  refine evalArgs_plain (thn run fun us s4 got => ?_)
  obtain ⟨vs, H1, I5, r1, hlen, ha1, q⟩ := got
  have pin := (I5.pin (h2.objs.size, kxs_mw "ValueError.__init__" a) (List.mem_append_right _ (List.mem_cons_self ..))).1
  refine ⟨pin, ?_⟩
  refine call_bound T I5 ha1 pin (by show us.length ≤ sizeLine; rw [← Paired.length r1, sizeLine_eq]; omega) fun s' J => ⟨.non, H1, ?_, rfl, q⟩
  exact J.pins_of fun p hp => J.pin p (List.mem_append_right _ (List.mem_cons_of_mem _ hp))
end
/-! ### such an __init__ as a def -/
/-- how the call reads, and that nothing is swapped -/
def SupEv (env : Env) (e : Expr) (es : List Expr) (p0 p1 apos pos p2 : Pos) : Prop :=
  (∃ pl : Sem Bool, eval (.Call (.Attribute (.Call (.Name "super" p0) [] [] p1) "__init__" apos) (e :: es) [] pos) env = (do
    let ov ← attributeBase (.Call (.Name "super" p0) [] [] p1) "__init__" env (eval (.Call (.Name "super" p0) [] [] p1) env)
    standAt apos.atName
    let (f, first) ← holding [ov] (getMethod ov "__init__" pl)
    callWith pos f first (backTo pos (starEach (e :: es) env)) [])) ∧ starEach (e :: es) env = (false, eval e env) :: starEach es env ∧ (backTo pos (starEach es env)).any (·.1) = false ∧
    swapsWith (.Call (.Attribute (.Call (.Name "super" p0) [] [] p1) "__init__" apos) (e :: es) [] pos) none p2.line env = pure false ∧ interactive env = false
open NdefX in
/-- the object of an __init__ that says super, its cell, its code object -/
def InitAt (P : Program) (K : PySem.W.Frag) (qual : Str) (st : Stmt) (C f : Addr) (cc cda : Addr) (fd : FuncData) : Prop :=
  ∃ (oc oc2 oc3 : Value) (od od2 od3 : Option Addr) (kV doc pm ct : Value) (an : Option Addr) (osl sl2 sl3 : Array (Option Value)) (vs : Array Value) (file : Str) (tf : Tok),
    fd = fnX "__init__" qual (defArgs st) (defBody st) (defScope st) [("__class__", cc)] .none kV doc pm an (.ref cda) ct ∧ K.lookup f = some ⟨oc, od, .func fd, osl⟩ ∧ codeIn K (.ref cda) qual = true ∧
    K.lookup cc = some ⟨oc3, od3, .cell (some (.ref C)), sl3⟩ ∧ K.lookup cda = some ⟨oc2, od2, .fields vs, sl2⟩ ∧ vs[2]? = some (.str file tf) ∧ ((P.main.file : Str) == file) = true ∧ (P.main.scope.names.lookup ("super" : Str)).isSome = false
def initF (qual : Str) (st : Stmt) (cc cda : Addr) : NdefX.NF := ⟨"__init__", qual, defArgs st, defBody st, defScope st, [("__class__", cc)], cda⟩
section
variable {CX : CXT} {P : Program} {w : World} {K : PySem.W.Frag} {mg : Str → Option Value} {base : Heap} {k : Nat} {f C cc cda : Addr} {fd : FuncData} {qual : Str} {st : Stmt} {N ps : List Str} {sp : Sp}
theorem init_of {e : Expr} {es : List Expr} {p0 p1 apos pos p2 : Pos} {rest : List Stmt} {ar : Arg} (D : InitAt P K qual st C f cc cda fd) (S : NdefX.NScope N ps ["__class__"] (defScope st)) (hbd : defBody st = .Expr (.Call (.Attribute (.Call (.Name "super" p0) [] [] p1) "__init__" apos) (e :: es) [] pos) p2 :: rest)
    (hps : ps.head? = some (Str.ofString "self")) (har : ((defArgs st).posonlyargs ++ (defArgs st).args).head? = some ar) (hargn : ar.arg = Str.ofString "self") (hks : (defScope st).names.lookup ("super" : Str) = some .globalImplicit) (hmg : mg "super" = none) (T : OexC K C) (G : SupCls K C)
    (len : ∀ vs H Q E, sp vs H Q E → vs.length = ps.length)
    (hbody : ∀ (A : Around) (outer : List Env) (s : Shared) (H : Hp) (vs : List V) (Q : VK) (E : XK), Room k (A.deeper (NdefX.envF (initF qual st cc cda) f s.heap.objs.size)) → sp vs H Q E →
      ∃ (a : Addr) (ta : TA) (t : TS), SupEv (NdefX.envF (initF qual st cc cda) f s.heap.objs.size) e es p0 p1 apos pos p2 ∧ vs[0]? = some (.ref a) ∧ H a = some (exo a C none) ∧ PA (NdefX.ncx CX P w K mg base N (initF qual st cc cda) f A outer s H E) (e :: es) ta ∧ PSs (NdefX.ncx CX P w K mg base N (initF qual st cc cda) f A outer s H E) rest t ∧
        ta (NdefX.startF N vs [none]) H fun ws H1 => ws.length ≤ 1000 ∧ H1 a = some (exo a C none) ∧ t { nx := fun _ H' => Q .non H', rt := Q } (NdefX.startF N vs [none]) H1) :
    FnOk P w K mg base CX (k + 1) f fd ps sp := by
  obtain ⟨oc, oc2, oc3, od, od2, od3, kV, doc, pm, ct, an, osl, sl2, sl3, vsc, file, tf, rfl, lk, hcd, lc, lcode, hv2, hfile, htop⟩ := D
  refine ⟨len, fun A outer s H args us vs Q E hr e0 hb r hsp => ?_⟩
  have hl := len _ _ _ _ hsp
  have KX : K.In s.heap := e0.mod.kin.keeps fun b o e => (e0.bs b o e).1
  have lim : s.heap.NoLimit := e0.mod.nolimit.keeps fun b o e => (e0.bs b o e).1
  have cells : NdefX.CellsAt [("__class__", cc)] ["__class__"] [none] s.heap H := by
    refine ⟨rfl, fun y c e => ?_, fun x y c e1 e2 => ?_, fun i y e => ?_⟩
    · have ec : c = cc := by
        have := PySem.mem_of_lookup e
        simp at this
        exact this.2
      subst ec
      exact ⟨(e0.bs _ _ (e0.mod.kin _ _ lc)).2, _, ⟨_, KX _ _ lc, rfl⟩⟩
    · have h1 := PySem.mem_of_lookup e1
      have h2 := PySem.mem_of_lookup e2
      simp at h1 h2
      rw [h1.1, h2.1]
    · cases i with
      | zero =>
        have e' : ("__class__" : Str) = y := by simpa using e
        subst e'
        exact ⟨cc, rfl, fun v hv => by simp at hv⟩
      | succ i => simp at e
  refine ks_codeAny_call_defAt hr.depth (KX _ _ lk) rfl lim (codeRec_of KX hcd) rfl hb S.nocell (fun ⟨n, _⟩ hy => S.par n (List.of_mem_zip hy).1) (fun h1 hns kp => ?_) S.co S.gen S.kind
  obtain ⟨a, ta, t, ⟨⟨pl, g1⟩, g2, g3, g4, g5⟩, hv0, ha, PAx, PSx, hq⟩ := hbody A outer s H vs Q E (hr.deeper _) hsp
  have I := NdefX.inv_startN (F := initF qual st cc cda) (f := f) (CX := CX) (E := E) (tk := s.toks + (ps.zip us).length) S hr.hd e0 hl r cells hns kp
  have n0 : N[0]? = some (Str.ofString "self") := by
    have q := congrArg (fun l : List Str => l[0]?) S.pre
    have q2 : (N.take (ps.length + 1))[0]? = (ps ++ [Str.ofString "__class__"])[0]? := q
    rw [List.getElem?_take_of_lt (Nat.succ_pos _)] at q2
    rw [q2]
    cases ps with
    | nil => cases hps
    | cons x y => exact hps
  have s0 : (NdefX.startF N vs [none])[0]? = some (some (.ref a)) := by
    unfold NdefX.startF
    cases vs with
    | nil => cases hv0
    | cons x y =>
      have e' : x = .ref a := Option.some.inj hv0
      subst e'
      rfl
  have self : Str.ofString "self" ∈ ps := by
    cases ps with
    | nil => cases hps
    | cons x y =>
      have e' : x = Str.ofString "self" := Option.some.inj hps
      subst e'
      exact List.mem_cons_self ..
  have sup : SupAt (NdefX.ncx CX P w K mg base N (initF qual st cc cda) f A outer s H E) C "self" := {
    kind := S.kind
    ks := hks
    kc := S.frk _ (List.mem_cons_self ..)
    ka := S.par _ self
    fn := ⟨f, _, _, _, _, ar, rfl, lk, har, hargn⟩
    code := ⟨cda, _, _, _, _, file, tf, rfl, lcode, hv2, hfile⟩
    top := htop
    cell := ⟨cc, _, _, _, rfl, lc⟩
    mg := hmg }
  show PySem.wpAt (model P w) (NdefX.ncx CX P w K mg base N (initF qual st cc cda) f A outer s H E).A (.func (defBody st) (NdefX.ncx CX P w K mg base N (initF qual st cc cda) f A outer s H E).env) (execs (defBody st) (NdefX.ncx CX P w K mg base N (initF qual st cc cda) f A outer s H E).env) _ _ _
  rw [hbd]
  refine ks_wpAt_execs_cons (ks_wpAt_Expr_any (at_sub (super_init (X := NdefX.ncx CX P w K mg base N (initF qual st cc cda) f A outer s H E) (Q := fun _ H1 => t { nx := fun _ H' => Q .non H', rt := Q } (NdefX.startF N vs [none]) H1) T sup G I n0 s0 ha PAx hq (pl := pl) g1 g2 g3) ?_) g5 g4)
  rintro v s' ⟨x, H1, I1, _, q⟩
  show PySem.wpAt _ _ _ (execs rest _) _ _ s'
  refine PySem.wpAt_of_wpAny (wpAny_mono (PSx.run [] s' (NdefX.startF N vs [none]) H1 _ I1 q) (fun fl s2 hs => ?_) fun e s2 hs => hs)
  have fin : ∀ {σ' : L2.St} {H' : Hp} {v : V} {u : Value}, L2.Inv (NdefX.ncx CX P w K mg base N (initF qual st cc cda) f A outer s H E) [] σ' H' s2 → L2.RelV v u → Q v H' → CE outer P w H s Q u s2 :=
    fun {σ' H' v u} J rv q => ⟨v, H', J.os, J.bare, J.base, J.hok, rv, q⟩
  cases fl with
  | brk =>
    obtain ⟨_, _, _, z⟩ := hs
    cases z
  | cont =>
    obtain ⟨_, _, _, z⟩ := hs
    cases z
  | next =>
    obtain ⟨σ', H', J, z⟩ := hs
    exact fin (v := V.non) (u := Value.none) J rfl z
  | ret u =>
    obtain ⟨v, σ', H', J, rv, z⟩ := hs
    exact fin J rv z
end
theorem InitAt.binds {P : Program} {K : PySem.W.Frag} {qual : Str} {st : Stmt} {C f cc cda : Addr} {fd : FuncData} {ps : List Str} (D : InitAt P K qual st C f cc cda fd)
    (h : ∀ (kV doc pm : Value) (an : Option Addr) (ct : Value) (us : List Value), us.length = ps.length → bindArgs (fnX "__init__" qual (defArgs st) (defBody st) (defScope st) [("__class__", cc)] .none kV doc pm an (.ref cda) ct) ⟨us, []⟩ = pure (ps.zip us)) : Binds K fd ps [] := by
  obtain ⟨_, _, _, _, _, _, kV, doc, pm, ct, an, _, _, _, _, _, _, rfl, _⟩ := D
  exact .all (h kV doc pm an ct)
/-! ### a method called in a try, what its errors meet by the slots -/
def tMethW (C : Addr) (m : Str) (sp : Sp) (E : L2.St → XK) (ta : TE) (t : TA) : TE := fun σ H Q => ta σ H fun x H1 => ∃ (a dx : Addr) (fs : List (Str × V)), x = .ref a ∧ H1 a = some (.ins C dx fs) ∧ fs.lookup m = none ∧
  t σ H1 fun vs H2 => sp (x :: vs) H2 Q (E σ)
section
variable {X : Cx} {CX : CXT} {k : Nat} {f C : Addr} {fd : FuncData} {ps : List Str} {sp : Sp} {E : L2.St → XK} {m : Str} {apos pos : Pos} {e o : Expr} {es : List Expr} {ta : TE} {t : TA}
theorem pe_methW {pl : Sem Bool} (he : PE X o ta) (c : Cls X.K C) (hm : Meth X.K C m f) (F : FnOk X.prog X.w X.K X.mg X.base CX k f fd ps sp) (hr : Room k X.A) (hb : Binds X.K fd ps []) (hx : ∀ σ, PassesAt CX X σ (E σ)) (ha : PA X (e :: es) t)
    (hst : starEach (e :: es) X.env = (false, eval e X.env) :: starEach es X.env := by rfl) (hpl : (backTo pos (starEach es X.env)).any (·.1) = false := by rfl)
    (ht : eval (.Call (.Attribute o m apos) (e :: es) [] pos) X.env = (do
      let ov ← eval o X.env
      standAt apos.atName
      let (f, first) ← holding [ov] (getMethod ov m pl)
      callWith pos f first (backTo pos (starEach (e :: es) X.env)) (backToKw pos (keywordEach [] X.env))) := by rfl) :
    PE X (.Call (.Attribute o m apos) (e :: es) [] pos) (tMethW C m sp E ta t) := by
  constructor
  intro pins s σ H Q I h
  refine PySem.W.methodCall_KW (pl := pl) (thn (he.run pins s σ H _ I h) fun u s1 got => ?_) ht
  obtain ⟨x, H1, I1, rx, a, dx, fs, rfl, ea, l, q⟩ := got
  cases rx
  refine getmeth_ok I1 ea c hm l (PySem.W.callWith_K (first := [.ref a]) (h₀ := X.base) I.ok.mod.kin hm.kp (thn (ha.run pos pins s1 σ H1 _ I1 q) fun us s2 got2 => ?_) hst hpl)
  obtain ⟨vs, H2, I2, r, q2⟩ := got2
  exact ⟨I2.kIn, run_fnS (us := .ref a :: us) (vs := .ref a :: vs) F hr hb (hx σ) I2 (.cons rfl r) q2⟩
end
/-! ### a look into a dict of pairs -/
def meetOf (ks vl : List (Int × Int)) (k : Int × Int) : Int × Int := if k ∈ ks then vl.getD (ks.idxOf k) k else k
theorem valV_none {κ : Type} [DecidableEq κ] {k : κ} : ∀ {kvs : List (κ × V)}, k ∉ kvs.map Prod.fst → valV kvs k = none
  | [], _ => rfl
  | p :: r, h => by
    rw [List.map_cons, List.mem_cons, not_or] at h
    rw [valV_neg (fun e => h.1 e.symm)]
    exact valV_none h.2
theorem PP.get {H : Hp} {kvs : List (List Key × V)} {ks vl : List (Int × Int)} (p : PP H kvs ks vl) (k : Int × Int) : (valV kvs (keyP k) = none ∧ meetOf ks vl k = k) ∨ ∃ t, valV kvs (keyP k) = some (.ref t) ∧ H t = some (.tup (encP (meetOf ks vl k))) := by
  unfold meetOf
  by_cases h : k ∈ ks
  · rw [if_pos h]
    have lt := List.idxOf_lt_length_of_mem h
    have hk : ks[ks.idxOf k]? = some k := by
      rw [List.getElem?_eq_getElem lt, List.getElem_idxOf lt]
    obtain ⟨v, t, h1, h2, h3⟩ := p.at_ hk
    refine .inr ⟨t, h2, ?_⟩
    rw [List.getD_eq_getElem?_getD, h1]
    exact h3
  · rw [if_neg h]
    refine .inl ⟨valV_none fun m => ?_, rfl⟩
    have e : kvs.map Prod.fst = ks.map keyP := p.keys
    rw [e] at m
    obtain ⟨k', m1, m2⟩ := List.mem_map.mp m
    exact h (keyP_inj m2 ▸ m1)
theorem PP.snoc {H H' : Hp} {kvs : List (List Key × V)} {ks vl : List (Int × Int)} {k v : Int × Int} {t : Addr} (p : PP H kvs ks vl) (n : k ∉ ks) (e : ∀ t ys, H t = some (.tup ys) → H' t = some (.tup ys)) (h : H' t = some (.tup (encP v))) :
    PP H' (kvs ++ [(keyP k, .ref t)]) (ks ++ [k]) (vl ++ [v]) := by
  refine ⟨by rw [List.map_append, List.map_append, p.keys]; rfl, ?_, ?_⟩
  · rw [List.map_append]
    exact (p.vals.mono e).snoc h
  · refine List.nodup_append.mpr ⟨p.nd, by simp, fun a ha b hb e => ?_⟩
    rw [List.mem_singleton] at hb
    subst hb
    subst e
    exact n ha
theorem PP.same {H H' : Hp} {kvs : List (List Key × V)} {ks vl : List (Int × Int)} (p : PP H kvs ks vl) (e : Same H H') : PP H' kvs ks vl := ⟨p.keys, p.vals.same e, p.nd⟩
end Vf
namespace Vf
open PySem L2
theorem idx_do {K : PySem.W.Frag} {H : Hp} {ls : Addr} {st : List Str} {nm : Str} {Q : VK} (h : H ls = some (.lst (st.map V.str))) (m : nm ∈ st) (q : Q (.int (ix st nm)) H) : rIndex K (.ref ls) [.str nm] H Q := by
  obtain ⟨g1, g2⟩ := idx_get m
  exact ⟨ls, _, .str nm, st.idxOf nm, .str nm, rfl, rfl, SqL.of h, rfl, flat_str _, g1, beq_self_eq_true _, g2, q⟩
theorem rks_take {D : DD} {i : Nat} {r : S4} (h : D.ru[i]? = some r) : (rks D).take (i + 1) = (rks D).take i ++ [(ix D.st r.1, ix D.st r.2.1)] ∧ (rvs D).take (i + 1) = (rvs D).take i ++ [(ix D.st r.2.2.1, ix D.st r.2.2.2)] ∧ (rks D)[i]? = some (ix D.st r.1, ix D.st r.2.1) := by
  have h1 : (rks D)[i]? = some (ix D.st r.1, ix D.st r.2.1) := by
    unfold rks
    rw [List.getElem?_map, h]
    rfl
  have h2 : (rvs D)[i]? = some (ix D.st r.2.2.1, ix D.st r.2.2.2) := by
    unfold rvs
    rw [List.getElem?_map, h]
    rfl
  exact ⟨take_snoc h1, take_snoc h2, h1⟩
theorem rks_all {D : DD} : (rks D).take D.ru.length = rks D ∧ (rvs D).take D.ru.length = rvs D := by
  constructor
  · rw [show D.ru.length = (rks D).length by simp [rks]]
    exact List.take_length
  · rw [show D.ru.length = (rvs D).length by simp [rvs]]
    exact List.take_length
end Vf
namespace Vf
open PySem L2
theorem atI_in {α : Type} {xs : List α} {i : Int} (h0 : 0 ≤ i) (h1 : i < xs.length) : ∃ c, atI xs i = some c := by
  obtain ⟨j, rfl⟩ : ∃ j : Nat, i = (j : Int) := ⟨i.toNat, by omega⟩
  have hj : j < xs.length := by omega
  exact ⟨xs[j], atI_nat (List.getElem?_eq_getElem hj)⟩
theorem one_len (w : Str) (c : Nat) : (w ++ (⟨#[c]⟩ : Str)).length = w.length + 1 := by
  show (w.cps ++ #[c]).size = w.cps.size + 1
  rw [Array.size_append]
  rfl
end Vf
namespace Vf
open PySem PySem.Spec PyProof.Rows L2
/-! ### a def that may run while an error is handled: it neither raises nor loops -/
structure FnW (P : Program) (w : World) (K : PySem.W.Frag) (mg : Str → Option Value) (base : Heap) (k : Nat) (f : Addr) (fd : FuncData) (ps : List Str) (sp : Sp) : Prop where
  len : ∀ vs H Q E, sp vs H Q E → vs.length = ps.length
  run : ∀ (A : Around) (outer : List Env) (s : Shared) (H : Hp) (args : Args) (us : List Value) (vs : List V) (Q : VK) (E : XK), L2H.RoomH k A → Env0 P w K mg base A outer s H → BindsTo s fd args (ps.zip us) → Vals vs us → sp vs H Q E →
    codeAny (model P w) A (.call (.ref f) args) (CR CX0 outer P w H s Q E) s
def cxW (P : Program) (w : World) (K : PySem.W.Frag) (mg : Str → Option Value) (base : Heap) (N : List Str) (qual : Str) (scope : Scope) (f : Addr) (cd : Value) (A : Around) (outer : List Env) (s : Shared) (H : Hp) (E : XK) : Cx :=
  { cxOf CX0 P w K mg base N qual scope f cd A outer s H E with calm := false }
theorem fn_ofW {P : Program} {w : World} {K : PySem.W.Frag} {mg : Str → Option Value} {base : Heap} {x qual : Str} {st : Stmt} {f : Addr} {fd : FuncData} {N ps : List Str} {k : Nat} {sp : Sp} (F : Fun K x qual st f fd) (S : FnScope N ps (defScope st)) (len : ∀ vs H Q E, sp vs H Q E → vs.length = ps.length)
    (hbody : ∀ (cdv : Value) (A : Around) (outer : List Env) (s : Shared) (H : Hp) (vs : List V) (Q : VK) (E : XK), L2H.RoomH k (A.deeper (envOfC qual (defScope st) s.heap.objs.size f cdv)) → sp vs H Q E →
      ∃ t, PSs (cxW P w K mg base N qual (defScope st) f cdv A outer s H E) (defBody st) t ∧ t { nx := fun _ H' => Q .non H', rt := Q } (L2.start N vs) H) : FnW P w K mg base (k + 1) f fd ps sp := by
  obtain ⟨oc, od, kV, doc, pm, an, cdv, ct, osl, rfl, lk, hcd⟩ := F.ex
  constructor
  · exact len
  intro A outer s H args us vs Q E hr e0 hb r hsp
  have lv := len _ _ _ _ hsp
  have kin : K.In s.heap := e0.mod.kin.keeps fun b o e => (e0.bs b o e).1
  have lim : s.heap.NoLimit := e0.mod.nolimit.keeps fun b o e => (e0.bs b o e).1
  refine codeAny_call_function hr.depth (kin _ _ lk) rfl S.co S.gen rfl (PySem.W.codeRec_of kin hcd) (hb _ _ _ _ (wpAny_newFunctionEnv_cells S.kind (fun y hy => ?_) fun env he s1 x => ?_))
  · rcases S.par y.1 (List.of_mem_zip hy).1 with q | q
    · exact .inl q
    · exact .inr ⟨q, PySem.W.cellsFrom_some _ _ _ (.inl q)⟩
  subst he
  refine ⟨lim.keeps x.toInCall.keep, codeAny_func ?_⟩
  obtain ⟨t, ht, hq⟩ := hbody cdv A outer s H vs Q E (hr.deeper _) hsp
  have I0 := inv_start (A := { A with handled := none }) (CX := CX0) (E := E) S rfl ⟨e0.frames, e0.mod, e0.bs, e0.bsz, e0.funs, e0.frf, e0.hok, e0.bare⟩ lv r x
  have ok := I0.ok
  have I : L2.Inv (cxW P w K mg base N qual (defScope st) f cdv A outer s H E) [] (L2.start N vs) H s1 :=
    ⟨⟨ok.mod, ok.kind, ok.glob, ok.blt, ok.above, ok.inj, ok.has, ok.cab, fun z => Bool.noConfusion (show false = true from z), Around.frames_deeper e0.frames, ok.stk, ok.exf, ok.bs, ok.bsz, ok.noex, ok.exfs, ok.funs, ok.frf⟩,
      I0.os, I0.bare, I0.base, I0.loc, I0.cell, I0.free, I0.freeC, I0.pin, I0.hok, I0.len⟩
  refine wpAny_mono (ht.run [] s1 (L2.start N vs) H _ I hq) (fun fl s2 hs => ?_) fun e s2 hs => hs
  cases fl with
  | brk =>
    obtain ⟨_, _, _, z⟩ := hs
    cases z
  | cont =>
    obtain ⟨_, _, _, z⟩ := hs
    cases z
  | next =>
    obtain ⟨σ', H', J, z⟩ := hs
    exact ⟨V.non, H', J.os, J.bare, J.base, J.hok, rfl, z⟩
  | ret u =>
    obtain ⟨v, σ', H', J, rv, z⟩ := hs
    exact ⟨v, H', J.os, J.bare, J.base, J.hok, rv, z⟩
theorem pe_callW {X : Cx} {k : Nat} {f : Addr} {fd : FuncData} {ps : List Str} {sp : Sp} {x : Str} {q pos : Pos} {e : Expr} {es : List Expr} {t : TA} (F : FnW X.prog X.w X.K X.mg X.base k f fd ps sp) (hr : L2H.RoomH k X.A) (hg : Gl X x) (hm : X.mg x = some (.ref f)) (hk : PySem.W.keepIn X.K (.ref f) = true) (hb : Binds X.K fd ps [])
    (ha : PA X (e :: es) t) (hdb : (x == ("__debug__" : Str)) = false := by decide) (he : starEach (e :: es) X.env = (false, eval e X.env) :: starEach es X.env := by rfl) (hpl : (backTo pos (starEach es X.env)).any (·.1) = false := by rfl) :
    PE X (.Call (.Name x q) (e :: es) [] pos) (tCall sp [] (fun _ _ _ => False) t) := by
  constructor
  intro pins s σ H Q I h
  refine wpAny_Call_Name_kw (ld_glob I hg hm ?_ hdb)
  refine PySem.W.callWith_K (h₀ := X.base) I.ok.mod.kin hk (thn (ha.run pos pins s σ H _ I h) fun us s1 got => ?_) he hpl
  obtain ⟨vs, H1, I1, r, q1⟩ := got
  rw [List.append_nil] at q1
  refine ⟨I1.kIn, ?_⟩
  have lu : us.length = ps.length := by rw [← r.length]; exact F.len _ _ _ _ q1
  have b := hb s1 us I1.kIn (by rw [List.append_nil]; exact lu)
  rw [List.append_nil] at b
  show wpAny _ _ (call (.ref f) us) _ _ _
  refine wpAny_call (codeAny_mono (F.run X.A X.stack s1 H1 ⟨us, []⟩ us vs Q (fun _ _ _ => False) hr I1.env0 b r q1) fun r s' hq => ?_)
  cases r with
  | error e => exact False.elim hq
  | ok fl =>
    cases fl with
    | ret u => exact I1.after hq
    | next => exact False.elim hq
    | brk => exact False.elim hq
    | cont => exact False.elim hq
end Vf
namespace Vf
open PySem L2
theorem ix_nth {st : List Str} {k : Nat} {s : Str} (nd : st.Nodup) (h : st[k]? = some s) : ix st s = (k : Int) := by
  have m := List.mem_of_getElem? h
  have lt := List.idxOf_lt_length_of_mem m
  have e : st[st.idxOf s]? = some s := by rw [List.getElem?_eq_getElem lt, List.getElem_idxOf lt]
  unfold ix
  rw [nodup_ix nd e h]
theorem unknown_in {D : DD} (vN : ValidN D) (sm : Small D) {w s : Str} (h : s ∈ [("zz9" : Str), ("" : Str), ("A" : Str), w ++ ("9zz" : Str)]) : s ∉ D.st := by
  simp only [List.mem_cons, List.not_mem_nil, or_false] at h
  rcases h with rfl | rfl | rfl | rfl
  · intro m
    obtain ⟨i, hi⟩ := List.mem_iff_getElem?.mp m
    have il := (List.getElem?_eq_some_iff.mp hi).1
    have l6 := sm.st6
    have hd := (goodName_of (by omega) (sm.gn i _ hi)).2
    have e : (Str.ofString "zz9").cps.toList.head? = some 122 := by decide +kernel
    rw [e] at hd
    have := Option.some.inj hd
    omega
  · intro m
    have q := vN.nm _ m
    have e : isName (Str.ofString "") = false := by decide +kernel
    rw [e] at q
    cases q
  · intro m
    have q := vN.nm _ m
    have e : isName (Str.ofString "A") = false := by decide +kernel
    rw [e] at q
    cases q
  · exact sm.noName (end_zz w)
end Vf

/-! ### places and meetings -/
namespace Vf
open PySem L2
def canMeet (ns : List Int) (m : Int × Int) : Bool :=
  if m.1 < 0 ∨ m.2 < 0 ∨ (ns.length : Int) ≤ m.1 ∨ (ns.length : Int) ≤ m.2 then false
  else if m.1 = m.2 then decide (2 ≤ ns.getD m.1.toNat 0) else decide (1 ≤ ns.getD m.1.toNat 0) && decide (1 ≤ ns.getD m.2.toNat 0)
def movePl (ns : List Int) (m r : Int × Int) : List Int := putAt (putAt (putAt (putAt ns m.1.toNat (-1)) m.2.toNat (-1)) r.1.toNat 1) r.2.toNat 1
def Fits (n : Nat) (ns : List Int) : Prop := ns.length = n ∧ ∀ y ∈ ns, 0 ≤ y
def InR (n : Nat) (m : Int × Int) : Prop := 0 ≤ m.1 ∧ m.1 < n ∧ 0 ≤ m.2 ∧ m.2 < n
theorem canMeet_in {ns : List Int} {m : Int × Int} (h : canMeet ns m = true) : InR ns.length m := by
  unfold canMeet at h
  by_cases c : m.1 < 0 ∨ m.2 < 0 ∨ (ns.length : Int) ≤ m.1 ∨ (ns.length : Int) ≤ m.2
  · rw [if_pos c] at h
    cases h
  · simp only [not_or, Int.not_lt, Int.not_le] at c
    exact ⟨c.1, c.2.2.1, c.2.1, c.2.2.2⟩
theorem putAt_get (pl : List Int) (i j : Nat) (c : Int) : (putAt pl i c).getD j 0 = if i = j ∧ j < pl.length then pl.getD j 0 + c else pl.getD j 0 := by
  unfold putAt
  rw [List.getD_eq_getElem?_getD, List.getElem?_set]
  by_cases e : i = j
  · subst e
    by_cases l : i < pl.length
    · simp [l]
    · simp [l]
  · simp [e]
theorem nonneg_of {ns : List Int} (h : ∀ j, j < ns.length → 0 ≤ ns.getD j 0) : ∀ y ∈ ns, 0 ≤ y := fun y hy => by
  obtain ⟨j, hj, rfl⟩ := List.mem_iff_getElem.mp hy
  have := h j hj
  rw [List.getD_eq_getElem?_getD, List.getElem?_eq_getElem hj] at this
  exact this
theorem nonneg_at {ns : List Int} (h : ∀ y ∈ ns, 0 ≤ y) (j : Nat) : 0 ≤ ns.getD j 0 := by
  rw [List.getD_eq_getElem?_getD]
  cases e : ns[j]? with
  | none => exact Int.le_refl _
  | some y => exact h y (List.mem_of_getElem? e)
theorem movePl_len (ns : List Int) (m r : Int × Int) : (movePl ns m r).length = ns.length := by
  unfold movePl
  rw [putAt_len, putAt_len, putAt_len, putAt_len]
theorem move_fits {n : Nat} {ns : List Int} {m r : Int × Int} (h : Fits n ns) (c : canMeet ns m = true) : Fits n (movePl ns m r) := by
  obtain ⟨hl, hn⟩ := h
  refine ⟨(movePl_len ..).trans hl, nonneg_of fun j hj => ?_⟩
  obtain ⟨i0, i1, j0, j1⟩ := canMeet_in c
  have hj0 := nonneg_at hn j
  unfold canMeet at c
  rw [if_neg (by simp only [not_or, Int.not_lt, Int.not_le]; exact ⟨i0, j0, i1, j1⟩)] at c
  unfold movePl
  simp only [putAt_get, putAt_len]
  by_cases e : m.1 = m.2
  · rw [if_pos e, decide_eq_true_eq] at c
    rw [e] at c ⊢
    by_cases e1 : m.2.toNat = j
    · subst e1
      split <;> split <;> split <;> omega
    · simp only [e1, false_and, if_false]
      split <;> split <;> omega
  · rw [if_neg e, Bool.and_eq_true, decide_eq_true_eq, decide_eq_true_eq] at c
    obtain ⟨c1, c2⟩ := c
    by_cases e1 : m.1.toNat = j
    · have e2 : ¬ m.2.toNat = j := fun z => e (by omega)
      subst e1
      simp only [e2, false_and, if_false]
      split <;> split <;> split <;> omega
    · simp only [e1, false_and, if_false]
      by_cases e2 : m.2.toNat = j
      · subst e2
        split <;> split <;> split <;> omega
      · simp only [e2, false_and, if_false]
        split <;> split <;> omega
theorem meetOf_in {D : DD} (v : ValidN D) {m : Int × Int} (h : InR D.st.length m) : InR D.st.length (meetOf (rks D) (rvs D) m) := by
  unfold meetOf
  by_cases c : m ∈ rks D
  · rw [if_pos c]
    have lt := List.idxOf_lt_length_of_mem c
    have l2 : (rvs D).length = (rks D).length := by simp [rvs, rks]
    have mem : (rvs D).getD ((rks D).idxOf m) m ∈ rvs D := getD_mem (by omega)
    obtain ⟨r, hr, er⟩ := List.mem_map.mp mem
    rw [← er]
    obtain ⟨_, _, m3, m4⟩ := v.rum r hr
    have b3 := List.idxOf_lt_length_of_mem m3
    have b4 := List.idxOf_lt_length_of_mem m4
    unfold ix
    refine ⟨?_, ?_, ?_, ?_⟩ <;> dsimp only <;> omega
  · rw [if_neg c]
    exact h
def goPl (f : Int × Int → Int × Int) : Nat → List (Int × Int) → List Int → Nat ⊕ List Int
  | _, [], pl => .inr pl
  | k, m :: r, pl => if canMeet pl m = true then goPl f (k + 1) r (movePl pl m (f m)) else .inl k
theorem goPl_step {f : Int × Int → Int × Int} {ms : List (Int × Int)} {i : Nat} {m : Int × Int} {pl : List Int} (h : ms[i]? = some m) : goPl f i (ms.drop i) pl = if canMeet pl m = true then goPl f (i + 1) (ms.drop (i + 1)) (movePl pl m (f m)) else .inl i := by
  have hi := (List.getElem?_eq_some_iff.mp h).1
  rw [List.drop_eq_getElem_cons hi, (List.getElem?_eq_some_iff.mp h).2]
  rfl
theorem goPl_end {f : Int × Int → Int × Int} {ms : List (Int × Int)} {i : Nat} {pl : List Int} (h : ms.length ≤ i) : goPl f i (ms.drop i) pl = .inr pl := by
  rw [List.drop_eq_nil_iff.mpr h]
  rfl
abbrev fD (D : DD) : Int × Int → Int × Int := meetOf (rks D) (rvs D)
def encI (ns : List Int) : List V := ns.map V.int
theorem refOk : PyData.strOk (Str.ofString "refused") = true := by decide +kernel
/-- what a run tells: the place, or the index of the meeting that is not possible -/
def Told (K : PySem.W.Frag) (H : Hp) (v : V) : Nat ⊕ List Int → Prop
  | .inl k => ∃ q, v = .ref q ∧ SqT K H q [.str "refused", .int (k : Int)]
  | .inr pl => ∃ q, v = .ref q ∧ SqT K H q (pl.map V.int)
theorem Told.same {K : PySem.W.Frag} {H H' : Hp} {v : V} {r : Nat ⊕ List Int} (h : Told K H v r) (e : Same H H') : Told K H' v r := by
  cases r with
  | inl k => exact ⟨h.choose, h.choose_spec.1, Same.seqT e h.choose_spec.2⟩
  | inr pl => exact ⟨h.choose, h.choose_spec.1, Same.seqT e h.choose_spec.2⟩
theorem Told.dp {K : PySem.W.Frag} {H : Hp} {x y : V} {r : Nat ⊕ List Int} (h1 : Told K H x r) (h2 : Told K H y r) : ∃ d e, Dp K H x d ∧ Dp K H y e ∧ SeqAt.shaped d = true ∧ SeqAt.shaped e = true ∧ PyData.eqv d e = true := by
  cases r with
  | inl k =>
    obtain ⟨a, rfl, ha⟩ := h1
    obtain ⟨b, rfl, hb⟩ := h2
    have al : ∀ H, DpAll K H [V.str "refused", V.int (k : Int)] [PyData.str "refused", PyData.int (k : Int)] := fun H => .cons (.str _) (.cons (.int _) .nil)
    have sh : SeqAt.shaped (.tuple [PyData.str "refused", PyData.int (k : Int)]) = true := by
      unfold SeqAt.shaped
      simp [PyData.canLay0, PyData.canLayAll0, PyData.depth, PyData.depthAll, refOk]
    exact ⟨_, _, .tup ha (al H), .tup hb (al H), sh, sh, PySem.SeqAt.eqv_refl _ (by simp [PyData.canLay0, PyData.canLayAll0, refOk])⟩
  | inr pl =>
    obtain ⟨a, rfl, ha⟩ := h1
    obtain ⟨b, rfl, hb⟩ := h2
    obtain ⟨d, e, x1, x2, x3, x4, x5⟩ := TwoInts.dp (K := K) (H := H) (ns := pl) (ms := pl) ⟨a, b, rfl, rfl, .inr ⟨ha, hb⟩⟩
    exact ⟨d, e, x1, x2, x3, x4, by rw [x5]; exact decide_eq_true rfl⟩
/-- a list of pairs as data -/
theorem dpAll_pairs {K : PySem.W.Frag} {H : Hp} : ∀ {xs : List V} {ms : List (Int × Int)}, Tups encP H xs ms → DpAll K H xs (ms.map fun m => PyData.tuple [.int m.1, .int m.2])
  | [], [], _ => .nil
  | [], m :: r, t => by have := t.1; simp at this
  | x :: xs, [], t => by have := t.1; simp at this
  | x :: xs, m :: r, t => by
    obtain ⟨u, e1, e2⟩ := t.2 0 m rfl
    obtain rfl : x = .ref u := Option.some.inj e1
    refine .cons (.tup (SqT.of e2) (.cons (.int _) (.cons (.int _) .nil))) (dpAll_pairs ⟨Nat.succ.inj t.1, fun i a e => ?_⟩)
    exact t.2 (i + 1) a e
end Vf
namespace Vf
open PySem L2
theorem canMeet_bad {ns : List Int} {m : Int × Int} (h : m.1 < 0 ∨ m.2 < 0 ∨ (ns.length : Int) ≤ m.1 ∨ (ns.length : Int) ≤ m.2) : canMeet ns m = false := if_pos h
theorem canMeet_same {ns : List Int} {i j : Int} (h : ¬ (i < 0 ∨ j < 0 ∨ (ns.length : Int) ≤ i ∨ (ns.length : Int) ≤ j)) (e : i = j) : canMeet ns (i, j) = decide (2 ≤ ns.getD i.toNat 0) := by
  unfold canMeet
  rw [if_neg h, if_pos e]
theorem canMeet_diff {ns : List Int} {i j : Int} (h : ¬ (i < 0 ∨ j < 0 ∨ (ns.length : Int) ≤ i ∨ (ns.length : Int) ≤ j)) (e : ¬ i = j) : canMeet ns (i, j) = (decide (1 ≤ ns.getD i.toNat 0) && decide (1 ≤ ns.getD j.toNat 0)) := by
  unfold canMeet
  rw [if_neg h, if_neg e]
end Vf
namespace Vf
open PySem L2
section
variable {pl : List Int} {x : Int}
theorem getI (h0 : 0 ≤ x) (h : x < pl.length) : (pl.map V.int)[x.toNat]? = some (V.int (pl.getD x.toNat 0)) := by
  have lt : x.toNat < pl.length := by omega
  rw [List.getElem?_map, List.getD_eq_getElem?_getD, List.getElem?_eq_getElem lt]
  rfl
theorem ixI (h0 : 0 ≤ x) (h : x < pl.length) : ixN (pl.map V.int).length x = some x.toNat := by
  unfold ixN
  rw [List.length_map, if_pos h0, if_pos (by omega)]
theorem setAdd {H : Hp} {c : Addr} {d : Int} : (upd H c (.lst ((pl.map V.int).set x.toNat (V.int (pl.getD x.toNat 0 + d))))) c = some (.lst ((putAt pl x.toNat d).map V.int)) := by rw [upd_same, ← putAt_map]
theorem setSub {H : Hp} {c : Addr} {d : Int} : (upd H c (.lst ((pl.map V.int).set x.toNat (V.int (pl.getD x.toNat 0 - d))))) c = some (.lst ((putAt pl x.toNat (-d)).map V.int)) := by rw [upd_same, ← putAt_map]; rfl
end
end Vf
namespace Vf
theorem dec2 {x : Int} : decide (2 ≤ x) = decide (1 < x) := decide_eq_decide.mpr (by omega)
theorem dec1 {x : Int} : decide (1 ≤ x) = decide (0 < x) := decide_eq_decide.mpr (by omega)
end Vf
namespace Vf
open PySem L2
theorem PP.got {H : Hp} {kvs : List (List Key × V)} {ks vl : List (Int × Int)} (p : PP H kvs ks vl) {k : Int × Int} {t : Addr} (ht : H t = some (.tup (encP k))) : ∃ t2, (valV kvs (keyP k)).getD (V.ref t) = .ref t2 ∧ H t2 = some (.tup (encP (meetOf ks vl k))) := by
  rcases p.get k with ⟨y1, y2⟩ | ⟨t2, y1, y2⟩
  · rw [y1, y2]
    exact ⟨t, rfl, ht⟩
  · rw [y1]
    exact ⟨t2, rfl, y2⟩
end Vf
namespace Vf
theorem putAt_mem {pl : List Int} {i : Nat} {c y : Int} (h : y ∈ putAt pl i c) : y ∈ pl ∨ (i < pl.length ∧ y = pl.getD i 0 + c) := by
  unfold putAt at h
  have h0 := h
  rcases List.mem_or_eq_of_mem_set h with h | h
  · exact .inl h
  · by_cases l : i < pl.length
    · exact .inr ⟨l, h⟩
    · rw [List.set_eq_of_length_le (by omega)] at h0
      exact .inl h0
theorem putAt_bound {pl : List Int} {i : Nat} {b : Int} (h : ∀ y ∈ pl, 0 ≤ y ∧ y ≤ b) (hi : i < pl.length) : ∀ y ∈ putAt pl i 1, 0 ≤ y ∧ y ≤ b + 1 := fun y hy => by
  rcases putAt_mem hy with m | ⟨_, rfl⟩
  · have := h y m
    omega
  · have := h _ (getD_mem hi (d := 0))
    omega
end Vf
namespace Vf
theorem bits_small {i : Nat} (h : i ≤ 1000000) : (i : Int).natAbs.log2 < 1920 := by
  rw [Int.natAbs_natCast]
  by_cases hz : i = 0
  · subst hz
    decide
  · exact (Nat.log2_lt hz).mpr (Nat.lt_of_le_of_lt h (by decide))
theorem refused_eq {i : Nat} : [L2.V.str "refused", L2.V.int (0 + (i : Int))] = [L2.V.str "refused", L2.V.int (i : Int)] := by rw [Int.zero_add]
end Vf
namespace Vf
open PySem L2
theorem catT {K : PySem.W.Frag} {H : Hp} {a b : Addr} {xs ys : List V} {Q : VK} (hx : H a = some (.tup xs)) (hy : SqT K H b ys) (ne : xs ≠ []) (hs : xs.length + ys.length ≤ sizeLine)
    (k : ∀ (p : Addr) (H' : Hp), Same H H' → H' p = some (.tup (xs ++ ys)) → Q (.ref p) H') : rCatT K (.ref a) (.ref b) H Q := by
  refine ⟨a, b, xs, ys, rfl, rfl, SqT.of hx, hy, ne, hs, fun e => ?_, fun _ p np => k p _ (Vf.Same.new (Same.refl H) np) upd_same⟩
  refine k a H (Same.refl H) ?_
  rw [e, List.append_nil]
  exact hx
theorem slT1 {K : PySem.W.Frag} {H : Hp} {a : Addr} {xs : List V} {Q : VK} (hx : SqT K H a xs) (h0 : 0 < xs.length) (k : ∀ (p : Addr) (H' : Hp), Same H H' → H' p = some (.tup (xs.drop 1)) → Q (.ref p) H') : rSlT K (.ref a) (some 1) none H Q := by
  refine ⟨a, xs, rfl, hx, ?_, fun p np => k p _ (Vf.Same.new (Same.refl H) np) ?_⟩
  · intro e
    have e1 : HT.sIx xs.length 0 (some ((1 : Nat) : Int)) = min 1 xs.length := HT.sIx_nat _ _ _
    have e2 : HT.sIx xs.length 0 (some (1 : Int)) = 0 := e.1
    rw [show ((1 : Nat) : Int) = (1 : Int) from rfl, e2] at e1
    omega
  · rw [upd_same]
    exact congrArg (fun z => some (HO.tup z)) (Vf.cut_from xs 1 h0)
theorem Tups.one {α : Type} {enc : α → List V} {H : Hp} {t : Addr} {a : α} (h : H t = some (.tup (enc a))) : Tups enc H [.ref t] [a] := Tups.snoc (xs := []) (l := []) Tups.nil h
end Vf
namespace Vf
open PySem L2
theorem PoolAt.pp {H : Hp} {p : Addr} {n : Int} {kvs : List (List Key × V)} {ks vl : List (Int × Int)} (P : PoolAt H p n) (q : PP H kvs ks vl) : PP (Er p H) kvs ks vl := ⟨q.keys, P.tups q.vals, q.nd⟩
theorem sum_pos : ∀ {ns : List Int}, 1 < ns.sum → ∃ k, k < ns.length ∧ 0 < ns.getD k 0
  | [], h => by simp at h
  | n :: r, h => by
    by_cases c : 0 < n
    · exact ⟨0, by simp, by simpa using c⟩
    · rw [List.sum_cons] at h
      obtain ⟨k, h1, h2⟩ := sum_pos (ns := r) (by omega)
      exact ⟨k + 1, by simp; omega, by simpa using h2⟩
theorem Keep.tup {p : Addr} {H H' : Hp} {o : HO} (k : Keep [p] H H') (hp : H p = some o) {t : Addr} {ys : List V} (ne : ∀ zs, o ≠ .tup zs) (h : H t = some (.tup ys)) : H' t = some (.tup ys) := k t _ (fun m => by
  rw [List.mem_singleton.mp m, hp] at h
  exact ne ys (Option.some.inj h)) h
end Vf
namespace Vf
open PySem L2
/-- while a run is drawn: the steps' list, the place, the pool -/
structure Stp (G : Hp) (pl dr st at_ : Addr) (xs : List V) (ms : List (Int × Int)) (cur : List Int) (H : Hp) (m : Int) : Prop where
  g : Same G H
  s : H st = some (.lst xs)
  t : Tups encP H xs ms
  a : H at_ = some (.tup (cur.map V.int))
  p : H pl = some (.lst [.ref dr, .int m])
section
variable {G H H' : Hp} {pl dr st at_ : Addr} {xs : List V} {ms : List (Int × Int)} {cur : List Int} {m m' : Int}
theorem Stp.same (S : Stp G pl dr st at_ xs ms cur H m) (e : Same H H') : Stp G pl dr st at_ xs ms cur H' m := ⟨S.g.trans e, e _ _ S.s, S.t.same e, e _ _ S.a, e _ _ S.p⟩
theorem nolst {x y : V} : ∀ zs, HO.lst [x, y] ≠ .tup zs := fun zs e => by cases e
theorem Stp.pick (S : Stp G pl dr st at_ xs ms cur H m) (gn : G pl = none) (ne : st ≠ pl) (h : H' pl = some (.lst [.ref dr, .int m'])) (k : Keep [pl] H H') : Stp G pl dr st at_ xs ms cur H' m' :=
  ⟨same_keep S.g gn k, k st _ (by simpa using ne) S.s, S.t.mono fun t ys e => k.tup S.p nolst e, k.tup S.p nolst S.a, h⟩
theorem Stp.at_ne (S : Stp G pl dr st at_ xs ms cur H m) {t : Addr} {ys : List V} (h : H t = some (.tup ys)) : t ≠ st ∧ t ≠ pl := ⟨fun e => (by rw [e, S.s] at h; cases h), fun e => (by rw [e, S.p] at h; cases h)⟩
/-- a step is put behind -/
theorem Stp.put (S : Stp G pl dr st at_ xs ms cur H m) (gn : G st = none) (ne : st ≠ pl) {t : Addr} {a : Int × Int} (h : H t = some (.tup (encP a))) : Stp G pl dr st at_ (xs ++ [.ref t]) (ms ++ [a]) cur (upd H st (.lst (xs ++ [.ref t]))) m := by
  have up : ∀ {x : Addr} {ys : List V}, H x = some (.tup ys) → (upd H st (.lst (xs ++ [.ref t]))) x = some (.tup ys) := fun {x ys} e => by rw [upd_ne (S.at_ne e).1]; exact e
  exact ⟨Vf.Same.chg S.g gn, upd_same, (S.t.mono fun x ys e => up e).snoc (up h), up S.a, by rw [upd_ne (Ne.symm ne)]; exact S.p⟩
end
theorem canLay_pairs : ∀ ms : List (Int × Int), PyData.canLayAll0 (ms.map fun m => PyData.tuple [.int m.1, .int m.2]) = true
  | [] => by simp [PyData.canLayAll0]
  | m :: r => by simp [PyData.canLayAll0, PyData.canLay0, canLay_pairs r]
theorem depth_pairs : ∀ ms : List (Int × Int), PyData.depthAll (ms.map fun m => PyData.tuple [.int m.1, .int m.2]) ≤ 2
  | [] => by simp [PyData.depthAll]
  | m :: r => by
    have := depth_pairs r
    simp only [List.map_cons, PyData.depthAll, PyData.depth]
    omega
theorem shaped_pairs (ms : List (Int × Int)) : SeqAt.shaped (.list (ms.map fun m => PyData.tuple [.int m.1, .int m.2])) = true := by
  have h1 := depth_pairs ms
  have h2 : PyData.depth (.list (ms.map fun m => PyData.tuple [.int m.1, .int m.2])) ≤ 64 := by
    simp only [PyData.depth]
    omega
  show (PyData.canLay0 (.list (ms.map fun m => PyData.tuple [.int m.1, .int m.2])) && decide (PyData.depth (.list (ms.map fun m => PyData.tuple [.int m.1, .int m.2])) ≤ 64)) = true
  rw [Bool.and_eq_true]
  exact ⟨by simp only [PyData.canLay0]; exact canLay_pairs ms, decide_eq_true h2⟩
theorem eqv_pairs (ms : List (Int × Int)) : PyData.eqv (.list (ms.map fun m => PyData.tuple [.int m.1, .int m.2])) (.list (ms.map fun m => PyData.tuple [.int m.1, .int m.2])) = true :=
  PySem.SeqAt.eqv_refl _ (by simp only [PyData.canLay0]; exact canLay_pairs ms)
theorem cut_to' (xs : List V) (t : Nat) : cutV xs none (some (t : Int)) = xs.take t := by
  have e1 : HT.sIx xs.length xs.length (some (t : Int)) = min t xs.length := HT.sIx_nat _ _ _
  have e2 : HT.sIx xs.length 0 none = 0 := rfl
  unfold cutV
  rw [e1, e2]
  show List.take (min t xs.length - 0) (xs.drop 0) = xs.take t
  rw [List.drop_zero, Nat.sub_zero]
  by_cases h : t ≤ xs.length
  · rw [Nat.min_eq_left h]
  · rw [Nat.min_eq_right (by omega), List.take_length, List.take_of_length_le (by omega)]
/-- places that do not fit -/
theorem bad_fit {n : Nat} {ns x : List Int} (h : ns.length = n) (h0 : 0 < n) (m : x ∈ [ns ++ [0], ns ++ [1], -1 :: ns.drop 1, ns.drop 1]) : ¬ Fits n x := by
  rintro ⟨l, p⟩
  simp only [List.mem_cons, List.not_mem_nil, or_false] at m
  rcases m with rfl | rfl | rfl | rfl
  · simp at l; omega
  · simp at l; omega
  · have := p (-1) (by simp)
    omega
  · simp at l; omega
theorem er_same {pl : Addr} {G H : Hp} (g : G pl = none) (s : Same G H) : Same G (Er pl H) := fun x o h => (if_neg (neq_none h g)).trans (s x o h)
end Vf

/-! ### enumerate(tuple); a list or a tuple walked; sorted of tuples of whole numbers -/
namespace Vf
open PySem PySem.Spec PyProof.Rows L2
def IteT (K : PySem.W.Frag) (a : Addr) : It :=
  ⟨fun i H => ∃ (xs : List V) (x : V), SqT K H a xs ∧ xs[i]? = some x, fun i H v H' => ∃ T x, v = .ref T ∧ H T = none ∧ H' = upd H T (.tup [.int (i : Nat), x]) ∧ ∀ xs, SqT K H a xs → xs[i]? = some x, fun i H => ∃ xs : List V, SqT K H a xs ∧ xs.length = i⟩
theorem turn_enumT {P : Program} {w : World} {K : PySem.W.Frag} {elts : List Expr} {kk : Nat} {tpos : Pos} (a e it : Addr) (hai : a ≠ it) (hae : a ≠ e) :
    Turn P w K (.Tuple elts kk tpos) (IteT K a) [e, it] e (fun i h => (∃ old, IsEnum h e it ((i : Nat) : Int) old) ∧ h.IsTupleIter it a i ∧ e ≠ it) where
  mem := by simp
  obj := fun i h st b hb => by
    obtain ⟨⟨old, he⟩, ⟨o, ho, hc, hd⟩, _⟩ := st
    have e' : b = e ∨ b = it := by simpa using hb
    rcases e' with z | z
    · rw [z]; exact ⟨_, he, fun v q => nomatch q⟩
    · rw [z]; exact ⟨o, ho, fun v q => by rw [hd] at q; cases q⟩
  keep := fun i h h' st k => let ⟨⟨old, he⟩, hi, hne⟩ := st; ⟨⟨old, k e (by simp) _ he⟩, hi.at fun o q => k it (by simp) o q, hne⟩
  item := by
    intro X hP hw hK hc i pins s σ H E I hf st hg
    subst hP hw hK
    obtain ⟨⟨old, he⟩, hit, hne⟩ := st
    obtain ⟨xs, x, hq, hx⟩ := hg
    obtain ⟨its, rv, p, hz⟩ := I.tuple hq
    obtain ⟨u, hu, ru⟩ := rv.get hx
    have hel : e < s.heap.objs.size := Heap.lt_size he
    have hil : it < s.heap.objs.size := by obtain ⟨_, q, _⟩ := hit; exact Heap.lt_size q
    have nh : X.A.in1.handled = none := I.ok.hd hc
    have lx := (List.getElem?_eq_some_iff.mp hu).1
    refine wpAny_pyNext_enum_itemD (Draws.tuple nh it a hai its.toArray) he ⟨hit, p⟩ (by simpa using lx) hne (by simp [hne, Ne.symm hae]) fun x1 h' tk e1 ho hst' hT hsz hk => ?_
    obtain rfl : u = x1 := by
      have e := e1
      simp only [List.getElem?_toArray] at e
      rw [hu] at e
      exact Option.some.inj e
    obtain ⟨hit', _⟩ := hst'
    refine ⟨_, rfl, wpAny_letOwnedTupleGo_enum (s := { s with heap := h', toks := tk + 1 }) ho fun h'' he' sb => ?_⟩
    have hT2 : h''.get? s.heap.objs.size = some { cls := .type "tuple", data := .seq #[.int i tk, u] } := (sb.2 _ (Nat.ne_of_gt hel)).trans hT
    have new : ObjOk X.prog X.w (upd H s.heap.objs.size (.tup [.int (i : Nat), x])) h'' s.heap.objs.size (.tup [.int (i : Nat), x]) :=
      ⟨by show 2 ≤ sizeLine; decide, [.int i tk, u], .cons ⟨_, rfl⟩ (.cons ru .nil), ⟨_, hT2, rfl, _, rfl⟩⟩
    have I1 : Inv X pins σ (upd H s.heap.objs.size (.tup [.int (i : Nat), x])) { s with heap := h'', toks := tk + 1 } :=
      I.turnedNew (ch := [e, it]) (fun b ob hb q => (sb.2 b (fun z => hb (by simp [z]))).trans (hk b ob (fun z => hb (by simp [z])) (fun z => hb (by simp [z])) q)) hf (Nat.le_refl _) new
    refine ⟨.ref s.heap.objs.size, _, I1, rfl, ⟨_, x, rfl, I.hok.fresh (Nat.le_refl _), rfl, fun ys hy => by rw [I.tuple_inj hy hq]; exact hx⟩, ⟨⟨u, ?_⟩, hit'.at fun o q => (sb.2 it (Ne.symm hne)).trans q, hne⟩, fun b hb => ?_⟩
    · have e1 : ((i + 1 : Nat) : Int) = (i : Int) + 1 := by omega
      rw [e1]; exact he'
    · have hb' : b < s.heap.objs.size := by
        have e' : b = e ∨ b = it := by simpa using hb
        rcases e' with z | z
        · rw [z]; exact hel
        · rw [z]; exact hil
      rw [upd_ne (Nat.ne_of_lt hb')]
      exact (hf b hb).1
  done := by
    intro X hP hw hK hc i pins s σ H E I hf st hg
    subst hP hw hK
    obtain ⟨⟨old, he⟩, hit, hne⟩ := st
    obtain ⟨xs, hq, hx⟩ := hg
    obtain ⟨its, rv, p, hz⟩ := I.tuple hq
    obtain ⟨f0, f1, f2, f3, f4, f5⟩ := hf it (by simp)
    have hl := rv.length
    have nh : X.A.in1.handled = none := I.ok.hd hc
    refine wpAny_pyNext_enum_endD (Draws.tuple nh it a hai its.toArray) he ⟨by rw [List.size_toArray, ← hl, hx]; exact hit, p⟩ fun h' eb => ⟨rfl, I.turned (t' := s.toks) (fun b o hb q => eb b o hb q) f0 f1 f3 f4 f5⟩
  self := fun A i s Q E st h => let ⟨⟨_, he⟩, _⟩ := st; wpAny_pyIter_enum he h
theorem meets_enumerate_newT (l : Addr) (items : Array Value) : Meets (Builtin.«enumerate.__new__» ⟨[.type "enumerate", .ref l], []⟩) (fun _ R s => s.heap.IsTuple l items ∧
      R (.ok (.ret (.ref (s.heap.push { cls := .type "tuple_iterator", data := .fields #[.ref l, .int 0 0] }).objs.size)))
        { s with heap := (s.heap.push { cls := .type "tuple_iterator", data := .fields #[.ref l, .int 0 0] }).push { cls := .type "enumerate", data := .fields #[.none, .bool false, .ref s.heap.objs.size, rawInt 0, .none, .none] } }) :=
  .of_wp fun prog w A R s h => by
    obtain ⟨hp, g, d, tk, os⟩ := s
    obtain ⟨hL, h⟩ := h
    have hsub := sub_enumerate
    have hL' : Heap.IsTuple (Shared.heap ⟨hp, g, d, tk, os⟩) l items := hL
    wp_walk
    refine wpAny_stack_any fun st => wpAny_pure ?_
    split
    · rename_i c _ _ _ _ _
      cases (c == Value.type "enumerate")
      · wp_walk using wpAny_pyIter_tuple hL'
        exact ⟨_, rfl, h⟩
      · wp_walk using wpAny_pyIter_tuple hL'
        exact ⟨_, rfl, h⟩
    · wp_walk using wpAny_pyIter_tuple hL'
      exact ⟨_, rfl, h⟩
theorem call_enumerate_tup {prog : Program} {w : World} {A : Around} {E : Value → Shared → Prop} {s : Shared} {l : Addr} {items : Array Value} {Q : Value → Shared → Prop} (hL : s.heap.IsTuple l items)
    (h : ∀ h', IsEnum h' (s.heap.objs.size + 1) s.heap.objs.size 0 .none → h'.IsTupleIter s.heap.objs.size l 0 → h'.objs.size = s.heap.objs.size + 2 →
      (∀ b o, s.heap.get? b = some o → h'.get? b = some o) → Q (.ref (s.heap.objs.size + 1)) { s with heap := h' }) :
    wpAny (model prog w) A (call (.type "enumerate") [.ref l]) Q E s := by
  refine callType_new F.called_enumerate (by decide) (F.typeCall_enumerate_1 _) (F.newCall_enumerate_1 _) (fun obj => F.args_object_init_2 obj _) F.entry_enumerate_new
    (meets_enumerate_newT l items) ⟨hL, ?_⟩
  have hz : (s.heap.push { cls := .type "tuple_iterator", data := .fields #[.ref l, .int 0 0] }).objs.size = s.heap.objs.size + 1 := Heap.size_push ..
  show _ ∧ _
  rw [hz]
  have he : IsEnum ((s.heap.push { cls := .type "tuple_iterator", data := .fields #[.ref l, .int 0 0] }).push
      { cls := .type "enumerate", data := .fields #[.none, .bool false, .ref s.heap.objs.size, rawInt 0, .none, .none] }) (s.heap.objs.size + 1) s.heap.objs.size 0 .none := by
    have := Heap.get?_push_size (s.heap.push { cls := .type "tuple_iterator", data := .fields #[.ref l, .int 0 0] })
      (o := { cls := .type "enumerate", data := .fields #[.none, .bool false, .ref s.heap.objs.size, rawInt 0, .none, .none] }) rfl
    rw [hz] at this; exact this
  refine ⟨⟨_, he, rfl⟩, h _ he ⟨_, Heap.get?_push_of_some _ (Heap.get?_push_size _ rfl), rfl, rfl⟩ (by rw [Heap.size_push, hz]) fun b o x => Heap.get?_push_of_some _ (Heap.get?_push_of_some _ x)⟩
def iEnumT (K : PySem.W.Frag) (ta : TA) : TI := fun σ H R => ta σ H fun vs H1 => ∃ a xs, vs = [.ref a] ∧ SqT K H1 a xs ∧ R (IteT K a) H1
theorem pi_enumT {X : Cx} {e : Expr} {ta : TA} {p pos tpos : Pos} {elts : List Expr} {kk : Nat} (hg : Gl X "enumerate") (hm : X.mg "enumerate" = none) (ha : PA X [e] ta) (hs : starEach [e] X.env = [(false, eval e X.env)] := by rfl) :
    PI X (.Tuple elts kk tpos) (.Call (.Name "enumerate" p) [e] [] pos) (iEnumT X.K ta) := by
  refine ⟨fun pins s σ H R I h => ?_⟩
  refine Call_ (ld_blt I hg hm boot_enumerate (PyProof.Rows.callWith_type1 (thn (ha.run pos pins s σ H _ I h) fun us s1 ⟨vs, H1, I1, r1, q1⟩ => ?_) hs rfl))
  obtain ⟨a, xs, ex, hq, q⟩ := q1
  subst ex
  cases r1 with
  | cons r rr =>
    cases rr
    cases r
    obtain ⟨its, rv, p', hz⟩ := I1.tuple hq
    obtain ⟨o1, w1, _⟩ := id p'
    have al : a < s1.heap.objs.size := Heap.lt_size w1
    refine call_enumerate_tup p' fun h' he hit hsz hk => wpAny_pyIter_enum he ?_
    have I2 : Inv X pins σ H1 { s1 with heap := h' } := I1.kept (t' := s1.toks) hk
    refine ⟨s1.heap.objs.size + 1, [s1.heap.objs.size + 1, s1.heap.objs.size], _, _, H1, rfl, I2, turn_enumT a (s1.heap.objs.size + 1) s1.heap.objs.size (Nat.ne_of_lt al) (Nat.ne_of_lt (Nat.lt_succ_of_lt al)), ⟨⟨.none, he⟩, hit, Nat.succ_ne_self _⟩, fun b hb => ?_, q⟩
    have e' : b = s1.heap.objs.size + 1 ∨ b = s1.heap.objs.size := by simpa using hb
    have hle : s1.heap.objs.size ≤ b := by
      rcases e' with z | z
      · rw [z]; exact Nat.le_add_right _ _
      · rw [z]; exact Nat.le_refl _
    exact I1.fpOk hle (I1.hok.fresh hle)
section
variable {K : PySem.W.Frag} {a : Addr} {xs : List V}
theorem walk_enumT : Walk (IteT K a) xs.length (fun H => SqT K H a xs) (YPair (fun i => some (.int (i : Nat))) (fun i => xs[i]?)) := by
  refine ⟨fun i _ hi q => ⟨xs, xs[i], q, by simp [hi]⟩, fun _ q => ⟨xs, q, rfl⟩, fun i H v H' _ q y => ?_⟩
  obtain ⟨T, x, h1, h2, h3, h4⟩ := y
  exact ⟨T, .int (i : Nat), x, h1, h2, h3, rfl, h4 xs q⟩
end
/-- a list or a tuple walked -/
def iSeq (K : PySem.W.Frag) (tl : TE) : TI := fun σ H R => tl σ H fun x H1 => (∃ a, x = .ref a ∧ (∃ xs, SqL K H1 a xs) ∧ R (Itl K a) H1) ∨ ∃ a, x = .ref a ∧ (∃ xs, SqT K H1 a xs) ∧ R (Itt K a) H1
theorem pi_seq {X : Cx} {tg l : Expr} {tl : TE} (hl : PE X l tl) : PI X tg l (iSeq X.K tl) := by
  refine ⟨fun pins s σ H R I h => ?_⟩
  refine thn (hl.run pins s σ H _ I h) fun v s1 ⟨x, H1, I1, r1, q1⟩ => ?_
  rcases q1 with ⟨a, e, ⟨xs, hq⟩, q⟩ | ⟨a, e, ⟨xs, hq⟩, q⟩
  · subst e
    cases r1
    obtain ⟨its, rv, p, hz⟩ := I1.list hq
    refine wpAny_pyIter_list p.isList ?_
    refine ⟨s1.heap.objs.size, [s1.heap.objs.size], _, _, H1, rfl, I1.kept (t' := s1.toks) fun b o e => Heap.get?_push_of_some _ e, turn_list a _, ⟨_, Heap.get?_push_size _ rfl, rfl, rfl⟩, fun b hb => ?_, q⟩
    have e : b = s1.heap.objs.size := by simpa using hb
    subst e
    exact I1.fpOk (Nat.le_refl _) (I1.hok.fresh (Nat.le_refl _))
  · subst e
    cases r1
    obtain ⟨its, rv, p, hz⟩ := I1.tuple hq
    refine wpAny_pyIter_tuple (show s1.heap.IsTuple a its.toArray from p) ?_
    refine ⟨s1.heap.objs.size, [s1.heap.objs.size], _, _, H1, rfl, I1.kept (t' := s1.toks) fun b o e => Heap.get?_push_of_some _ e, turn_tuple a _, ⟨_, Heap.get?_push_size _ rfl, rfl, rfl⟩, fun b hb => ?_, q⟩
    have e : b = s1.heap.objs.size := by simpa using hb
    subst e
    exact I1.fpOk (Nat.le_refl _) (I1.hok.fresh (Nat.le_refl _))
theorem pi_seqK {X : Cx} {K : PySem.W.Frag} {tg l : Expr} {tl : TE} (h : X.K = K) (hl : PE X l tl) : PI X tg l (iSeq K tl) := by
  subst h
  exact pi_seq hl
end Vf
namespace Vf
open PySem PySem.Spec PyProof.Rows L2
def encIs (ns : List Int) : List V := ns.map V.int
def iV : V → Int
  | .int i => i
  | _ => 0
/-- the ints of the tuple that a value is -/
def nsAt (H : Hp) : V → List Int
  | .ref a => match H a with
    | some (.tup xs) => xs.map iV
    | _ => []
  | _ => []
theorem nsAt_of {H : Hp} {a : Addr} {ns : List Int} (h : H a = some (.tup (encIs ns))) : nsAt H (.ref a) = ns := by
  show (match H a with | some (.tup xs) => xs.map iV | _ => []) = ns
  rw [h]
  show (ns.map V.int).map iV = ns
  rw [List.map_map]
  exact List.map_id' ns
theorem tups_nsAt {H : Hp} {xs : List V} {zs : List (List Int)} (t : Tups encIs H xs zs) : xs.map (nsAt H) = zs := by
  apply List.ext_getElem?
  intro i
  rw [List.getElem?_map]
  cases e : xs[i]? with
  | none =>
    have := List.getElem?_eq_none_iff.mp e
    rw [List.getElem?_eq_none (show zs.length ≤ i by rw [← t.1]; exact this)]
    rfl
  | some x =>
    obtain ⟨a, u, e1, rfl, e2⟩ := t.get e
    rw [e1]
    exact congrArg some (nsAt_of e2)
theorem tups_perm {H : Hp} {xs ys : List V} {zs : List (List Int)} (t : Tups encIs H xs zs) (p : ys.Perm xs) : Tups encIs H ys (ys.map (nsAt H)) := by
  refine ⟨(List.length_map ..).symm, fun i a e => ?_⟩
  rw [List.getElem?_map] at e
  cases e1 : ys[i]? with
  | none => rw [e1] at e; cases e
  | some y =>
    rw [e1] at e
    obtain rfl : nsAt H y = a := Option.some.inj e
    obtain ⟨j, hj⟩ := List.mem_iff_getElem?.mp (p.mem_iff.mp (List.mem_of_getElem? e1))
    obtain ⟨b, u, f1, rfl, f2⟩ := t.get hj
    exact ⟨u, rfl, by rw [nsAt_of f2]; exact f2⟩
def rSortTs (K : PySem.W.Frag) : List V → Hp → VK → Prop := fun vs H Q => ∃ (a : Addr) (xs : List V) (zs : List (List Int)) (d : Nat) (B : Int), vs = [V.ref a] ∧ H a = some (.lst xs) ∧ Tups encIs H xs zs ∧ zs.length < 64 ∧ 1 ≤ d ∧ (∀ z ∈ zs, z.length = d ∧ TS.Bd B z) ∧
  ∀ (p : Addr) (ys : List V) (ws : List (List Int)), H p = none → Tups encIs H ys ws → ws.Perm zs → ws.Pairwise (fun x y => TS.code B x ≤ TS.code B y) → Q (.ref p) (upd H p (.lst ys))
theorem cr_sortTs {X : Cx} : CallR X (.builtin "sorted") (rSortTs X.K) := by
  intro pins s σ H vs us Q I r h
  obtain ⟨a, xs, zs, d, B, rfl, ha, t, h64, hd, hz, q⟩ := h
  refine cr_sortT (d := d) (B := B) hd pins s σ H [V.ref a] us Q I r ⟨a, xs, rfl, SqL.of ha, by rw [t.1]; exact h64, fun x hx => ?_, fun ys p pm pw np => ?_⟩
  · obtain ⟨i, hi⟩ := List.mem_iff_getElem?.mp hx
    obtain ⟨z, u, e1, rfl, e2⟩ := t.get hi
    exact ⟨z, ⟨u, rfl, SqT.of e2⟩, hz z (List.mem_of_getElem? e1)⟩
  · have t2 := tups_perm t pm
    refine q p ys _ np t2 ?_ ?_
    · rw [← tups_nsAt t]
      exact pm.map _
    · rw [List.pairwise_map]
      refine pw.imp_of_mem fun {x y} hx hy hxy => ?_
      obtain ⟨i, hi⟩ := List.mem_iff_getElem?.mp hx
      obtain ⟨j, hj⟩ := List.mem_iff_getElem?.mp hy
      obtain ⟨z, u, e1, rfl, e2⟩ := t2.get hi
      obtain ⟨z', u', e1', rfl, e2'⟩ := t2.get hj
      exact hxy _ _ ⟨u, rfl, SqT.of (by rw [nsAt_of e2]; exact e2)⟩ ⟨u', rfl, SqT.of (by rw [nsAt_of e2']; exact e2')⟩
theorem code_inj {B : Int} : ∀ {x y : List Int}, x.length = y.length → TS.Bd B x → TS.Bd B y → TS.code B x = TS.code B y → x = y
  | [], [], _, _, _, _ => rfl
  | [], _ :: _, h, _, _, _ => by simp at h
  | _ :: _, [], h, _, _, _ => by simp at h
  | a :: r, b :: q, h, h1, h2, e => by
    have hl : r.length = q.length := by simpa using h
    have ab : a = b := by
      rcases Int.lt_trichotomy a b with c | c | c
      · have := TS.code_lt hl h1.tail h2.tail c
        omega
      · exact c
      · have := TS.code_lt hl.symm h2.tail h1.tail c
        omega
    subst ab
    have e2 : a * B ^ r.length + TS.code B r = a * B ^ q.length + TS.code B q := e
    rw [hl] at e2
    rw [code_inj hl h1.tail h2.tail (by omega)]
/-- sorted is one list only -/
theorem sort_one {B : Int} {d : Nat} {ws zs : List (List Int)} (p : ws.Perm zs) (hz : ∀ z ∈ zs, z.length = d ∧ TS.Bd B z) (h1 : ws.Pairwise (fun x y => TS.code B x ≤ TS.code B y)) (h2 : zs.Pairwise (fun x y => TS.code B x ≤ TS.code B y)) : ws = zs := by
  refine p.eq_of_pairwise (fun x y hx hy a b => ?_) h1 h2
  have zx := hz x (p.mem_iff.mp hx)
  have zy := hz y hy
  exact code_inj (zx.1.trans zy.1.symm) zx.2 zy.2 (Int.le_antisymm a b)
/-- sorted(d), d a dict whose keys are tuples of ints -/
def keyI (k : List Int) : List Key := k.map Sum.inl
theorem keyI_inj {a b : List Int} (h : keyI a = keyI b) : a = b := by
  have h2 := congrArg (List.map (fun k : Key => match k with | .inl i => i | .inr _ => 0)) h
  unfold keyI at h2
  rw [List.map_map, List.map_map] at h2
  exact (List.map_id' a).symm.trans (h2.trans (List.map_id' b))
theorem keyI_kV (k : List Int) : (keyI k).map kV = encIs k := by
  unfold keyI encIs
  rw [List.map_map]
  rfl
def rSortDTs : List V → Hp → VK → Prop := fun vs H Q => ∃ (a : Addr) (kvs : List (List Key × V)) (ks : List (List Int)) (d : Nat) (B : Int), vs = [V.ref a] ∧ Rd H a (.dT kvs) ∧ kvs.map (·.1) = ks.map keyI ∧ ks.length < 64 ∧ 1 ≤ d ∧ (∀ z ∈ ks, z.length = d ∧ TS.Bd B z) ∧
  ∀ (p : Addr) (ys : List V) (ws : List (List Int)), H p = none → Tups encIs H ys ws → ws.Perm ks → ws.Pairwise (fun x y => TS.code B x ≤ TS.code B y) → Q (.ref p) (upd H p (.lst ys))
theorem tupInts_of {X : Cx} {pins : List (Addr × Obj)} {σ : L2.St} {H : Hp} {s : Shared} (I : Inv X pins σ H s) {t : Addr} {ns : List Int} (h : H t = some (.tup (encIs ns))) : TS.TupInts s.heap (.ref t) ns := tupI_raw I (SqT.of h)
theorem cr_sortDTs {X : Cx} (hcalm : X.calm = true) : CallR X (.builtin "sorted") rSortDTs := by
  intro pins s σ H xs us Q I r h
  obtain ⟨d, kvs, ks, dd, B, rfl, hd, hks, h64, hd1, hz, q⟩ := h
  obtain ⟨u, rfl, rx⟩ := vals1 r
  cases rx
  obtain ⟨z, hs, xs, pr, o, es, ep, ho, hx, hdt, he, hn⟩ := (show ObjOk X.prog X.w H s.heap d (.dT kvs) from hd.ok I.hok)
  have l1 : es.size = xs.length := size_of_entries he
  have l2 : kvs.length = xs.length := Paired.length pr
  have l3 : kvs.length = ks.length := by
    have := congrArg List.length hks
    simpa using this
  have h16 : es.size ≤ sizeLine := by rw [sizeLine_eq]; omega
  refine Calls.call_function_entry PyProof.Rows.kind_sorted PyProof.Rows.plain_sorted PyProof.Rows.entry_sorted (PyProof.Rows.args_sorted1 _) ?_
  unfold Builtin.«sorted»
  refine wpAny_bind (m := checkCount "sorted" 1 1 _) (wpAny_pure ?_)
  refine wpAny_bind (PySem.W.kdu_collect (A := X.A.in1) (kdl_raw hs hx hdt) (I.ok.hd hcalm) ho h16 fun h' tk acc hk hacc => ?_)
  have ea : acc.toList = (xs.map fun x => x.2.1).map Value.ref := by
    have hl : acc.toList.length = xs.length := by rw [Array.length_toList, hacc.1, l1]
    apply List.ext_getElem?
    intro j
    rw [List.map_map, List.getElem?_map]
    cases hj : acc.toList[j]? with
    | none =>
      have h1 := List.getElem?_eq_none_iff.mp hj
      rw [List.getElem?_eq_none (by omega)]
      rfl
    | some v =>
      obtain ⟨en, hen, hv⟩ := hacc.2 j v (by rw [← Array.getElem?_toList]; exact hj)
      have qe := entry_at he j
      rw [hen] at qe
      cases hb : xs[j]? with
      | none =>
        rw [hb] at qe
        exact nomatch (show some en = none from qe)
      | some b =>
        rw [hb] at qe
        have e2 : en = entryOfKey (tupleKind (mixKind X.prog X.w)) b := Option.some.inj qe
        rw [hv, e2]
        rfl
  have I1 : Inv X pins σ H { s with heap := h', toks := tk } := I.kept hk
  -- the keys' tuples
  have T0 : Tups encIs H ((xs.map fun x => x.2.1).map V.ref) ks := by
    refine ⟨by rw [List.length_map, List.length_map]; omega, fun n k e => ?_⟩
    have hn' : n < xs.length := by
      have := (List.getElem?_eq_some_iff.mp e).1
      omega
    have ex : xs[n]? = some xs[n] := List.getElem?_eq_getElem hn'
    obtain ⟨y, hy, p1, p2, _⟩ := pair_get pr ex
    have hk1 : (kvs.map (·.1))[n]? = some y.1 := by rw [List.getElem?_map, hy]; rfl
    rw [hks, List.getElem?_map, e] at hk1
    have ek : y.1 = keyI k := (Option.some.inj hk1).symm
    rw [ek] at p2
    refine ⟨xs[n].2.1, by rw [List.getElem?_map, List.getElem?_map, ex]; rfl, ?_⟩
    rw [← keyI_kV]
    exact p2
  have hal : acc.toList.length < 64 := by
    rw [ea, List.length_map, List.length_map]
    omega
  refine wpAny_bind (wpAny_newList ?_ (by rw [sizeLine_eq]; omega))
  have hoL : (h'.push (seqObj "list" acc.toList.toArray 0)).get? h'.objs.size = some (seqObj "list" acc.toList.toArray 0) := Heap.get?_push_size _ rfl
  show wpAny _ _ _ _ _ { s with heap := h'.push (seqObj "list" acc.toList.toArray 0), toks := tk }
  have ok : TS.TupsOk (h'.push (seqObj "list" acc.toList.toArray 0)) dd B acc.toList := by
    intro v hv
    rw [ea] at hv
    obtain ⟨a, ha, rfl⟩ := List.mem_map.mp hv
    obtain ⟨n, hn'⟩ := List.mem_iff_getElem?.mp ha
    obtain ⟨k, t, e1, e2, e3⟩ := T0.get (i := n) (x := V.ref a) (by rw [List.getElem?_map, hn']; rfl)
    cases e2
    obtain ⟨z1, z2⟩ := hz k (List.mem_of_getElem? e1)
    exact ⟨k, (tupInts_of I1 e3).keeps fun b o e _ => Heap.get?_push_of_some _ e, z1, z2⟩
  refine wpAny_bind (wpAny_holding (wpAny_call_entry PyProof.Rows.slot_list_sort ⟨_, hoL, rfl⟩ PyProof.Rows.entry_list_sort
    (TS.sort_tups (s := { s with heap := h'.push (seqObj "list" acc.toList.toArray 0), toks := tk }) hoL hal hd1 ok (fun v => TS.code B (TS.intsOf (h'.push (seqObj "list" acc.toList.toArray 0)) v)) (fun v _ ns t => by
      show TS.code B (TS.intsOf _ v) = TS.code B ns
      rw [t.ints]) fun out hperm hs' => ⟨_, rfl, ?_⟩) (args_list_sort _)))
  obtain ⟨e', he'⟩ := PyProof.Rows.sortedHeap_at (vs := acc.toList) (out := out) hoL
  obtain ⟨bs, eb⟩ := refs_out out.toList fun u hu => by
    have hm := hperm.mem_iff.mp hu
    rw [ea] at hm
    obtain ⟨a, _, rfl⟩ := List.mem_map.mp hm
    exact ⟨a, rfl⟩
  rw [ea, eb] at hperm
  have hbp : bs.Perm (xs.map fun x => x.2.1) := by
    have hh := hperm.map (fun v : Value => match v with | .ref a => a | _ => 0)
    rw [List.map_map, List.map_map] at hh
    have e1 : bs.map ((fun v : Value => match v with | .ref a => a | _ => 0) ∘ Value.ref) = bs := List.map_id' bs
    have e2 : (xs.map fun x => x.2.1).map ((fun v : Value => match v with | .ref a => a | _ => 0) ∘ Value.ref) = (xs.map fun x => x.2.1) := List.map_id' _
    rw [e1, e2] at hh
    exact hh
  have vp : (bs.map V.ref).Perm ((xs.map fun x => x.2.1).map V.ref) := hbp.map _
  have t2 := tups_perm T0 vp
  have hlen : (bs.map V.ref).length ≤ sizeLine := by
    rw [List.length_map, hbp.length_eq, List.length_map, sizeLine_eq]
    omega
  refine wpAny_pure ⟨_, rfl, .ref h'.objs.size, upd H h'.objs.size (.lst (bs.map V.ref)), I1.laid (t' := tk) (fun b u e => ?_) (Nat.le_refl _)
    (show ObjOk X.prog X.w _ _ _ (.lst (bs.map V.ref)) from ⟨hlen, bs.map Value.ref, e', vals_refs bs, by rw [he', ← eb]⟩), rfl, q _ _ ((bs.map V.ref).map (nsAt H)) (I1.hok.fresh (Nat.le_refl _)) t2 ?_ ?_⟩
  · have hb : b < h'.objs.size := Heap.lt_size e
    rw [PyProof.Rows.sortedHeap_old (Nat.ne_of_lt hb) (by rw [size_push']; exact Nat.lt_succ_of_lt hb)]
    exact Heap.get?_push_of_some _ e
  · rw [← tups_nsAt T0]
    exact vp.map _
  · rw [eb] at hs'
    rw [List.pairwise_map] at hs'
    rw [List.pairwise_map, List.pairwise_map]
    refine hs'.imp_of_mem fun {x y} hx hy hxy => ?_
    have key : ∀ b ∈ bs, TS.intsOf (h'.push (seqObj "list" acc.toList.toArray 0)) (.ref b) = nsAt H (.ref b) := fun b hb => by
      obtain ⟨i, hi⟩ := List.mem_iff_getElem?.mp hb
      obtain ⟨zz, t, e1, e2, e3⟩ := t2.get (i := i) (x := V.ref b) (by rw [List.getElem?_map, hi]; rfl)
      cases e2
      have e4 := (tupInts_of I1 e3).keeps (h' := h'.push (seqObj "list" acc.toList.toArray 0)) fun b o e _ => Heap.get?_push_of_some _ e
      rw [e4.ints]
      exact (nsAt_of e3).symm
    rw [← key x hx, ← key y hy]
    exact hxy
end Vf
namespace Vf
open PySem PySem.Spec PyProof.Rows L2
theorem op_neIsK {X : Cx} {K : PySem.W.Frag} (h : X.K = K) (hu : X.A.units + 64 < cLine) : OpR X (compareOp .NotEq) (rNeIs K) := by
  subst h
  exact op_neIs hu
theorem op_eqIsK {X : Cx} {K : PySem.W.Frag} (h : X.K = K) (hu : X.A.units + 64 < cLine) : OpR X (compareOp .Eq) (rEqIs K) := by
  subst h
  exact op_eqIs hu
theorem _root_.L2.Room.units65 {k : Nat} {A : Around} (r : Room k A) : A.units + 65 < cLine := by
  have := r.un
  omega
end Vf

/-! ### the meetings of a place, and where they lead -/
namespace Vf
open PySem L2
theorem asc_eq : ∀ {l m : List Int}, l.Pairwise (· < ·) → m.Pairwise (· < ·) → (∀ x, x ∈ l ↔ x ∈ m) → l = m
  | [], [], _, _, _ => rfl
  | [], b :: m, _, _, h => by
    have := (h b).mpr (List.mem_cons_self ..)
    simp at this
  | a :: l, [], _, _, h => by
    have := (h a).mp (List.mem_cons_self ..)
    simp at this
  | a :: l, b :: m, h1, h2, h => by
    obtain ⟨a1, a2⟩ := List.pairwise_cons.mp h1
    obtain ⟨b1, b2⟩ := List.pairwise_cons.mp h2
    have e : a = b := by
      have ha := (h a).mp (List.mem_cons_self ..)
      have hb := (h b).mpr (List.mem_cons_self ..)
      rcases List.mem_cons.mp ha with e | e
      · exact e
      · rcases List.mem_cons.mp hb with e' | e'
        · exact e'.symm
        · have x1 := b1 a e
          have x2 := a1 b e'
          omega
    subst e
    rw [asc_eq a2 b2 fun x => ⟨fun hx => ?_, fun hx => ?_⟩]
    · have q := (h x).mp (List.mem_cons_of_mem _ hx)
      rcases List.mem_cons.mp q with e | e
      · have := a1 x hx
        omega
      · exact e
    · have q := (h x).mpr (List.mem_cons_of_mem _ hx)
      rcases List.mem_cons.mp q with e | e
      · have := b1 x hx
        omega
      · exact e
def nz (i : Nat) : Int := (i : Int)
theorem nz_asc (n : Nat) (p : Nat → Bool) : (((List.range n).filter p).map nz).Pairwise (· < ·) := by
  rw [List.pairwise_map]
  refine (List.pairwise_lt_range.filter p).imp fun {a b} h => ?_
  show (a : Int) < b
  omega
theorem nz_mem {n : Nat} {p : Nat → Bool} {x : Int} : x ∈ ((List.range n).filter p).map nz ↔ 0 ≤ x ∧ x < n ∧ p x.toNat = true := by
  rw [List.mem_map]
  constructor
  · rintro ⟨i, h, rfl⟩
    rw [List.mem_filter, List.mem_range] at h
    exact ⟨Int.natCast_nonneg _, Int.ofNat_lt.mpr h.1, by rw [show (nz i).toNat = i from Int.toNat_natCast i]; exact h.2⟩
  · rintro ⟨h0, h1, h2⟩
    exact ⟨x.toNat, List.mem_filter.mpr ⟨List.mem_range.mpr (by omega), h2⟩, Int.toNat_of_nonneg h0⟩
/-- a meeting that is possible and changes a state -/
def cM (f : Int × Int → Int × Int) (ns : List Int) (m : Int × Int) : Bool := !decide (f m = m) && canMeet ns m
/-- the seconds for a first one -/
def secs (n : Nat) (c : Int × Int → Bool) (a : Int) : List Int := ((List.range n).filter fun j => c (a, nz j)).map nz
/-- all of them, ascending -/
def prs (n : Nat) (c : Int × Int → Bool) : List (Int × Int) := (List.range n).flatMap fun i => (secs n c (nz i)).map fun j => (nz i, j)
theorem secs_len (n : Nat) (c : Int × Int → Bool) (a : Int) : (secs n c a).length ≤ n := by
  unfold secs
  rw [List.length_map]
  exact Nat.le_trans (List.length_filter_le ..) (Nat.le_of_eq List.length_range)
theorem prs_len (n : Nat) (c : Int × Int → Bool) : (prs n c).length ≤ n * n := by
  unfold prs
  have : ∀ k, ((List.range k).flatMap fun i => (secs n c (nz i)).map fun j => (nz i, j)).length ≤ k * n := by
    intro k
    induction k with
    | zero => simp
    | succ k ih =>
      rw [List.range_succ, List.flatMap_append, List.length_append, Nat.succ_mul]
      have h1 : ([k].flatMap fun i => (secs n c (nz i)).map fun j => (nz i, j)).length ≤ n := by
        rw [List.flatMap_singleton, List.length_map]
        exact secs_len n c _
      omega
  exact this n
theorem prs_mem {n : Nat} {c : Int × Int → Bool} {m : Int × Int} (h : m ∈ prs n c) : InR n m ∧ c m = true := by
  unfold prs at h
  rw [List.mem_flatMap] at h
  obtain ⟨i, hi, h⟩ := h
  rw [List.mem_range] at hi
  obtain ⟨j, hj, rfl⟩ := List.mem_map.mp h
  unfold secs at hj
  obtain ⟨h0, h1, h2⟩ := nz_mem.mp hj
  rw [show nz j.toNat = j from Int.toNat_of_nonneg h0] at h2
  refine ⟨⟨Int.natCast_nonneg _, Int.ofNat_lt.mpr hi, h0, h1⟩, h2⟩
/-- what is left of any ascending list that leaves none out -/
theorem secs_of {n : Nat} {f : Int × Int → Int × Int} {ns l : List Int} {a : Int} (hn : ns.length = n) (h1 : l.Pairwise (· < ·)) (h2 : ∀ j ∈ l, f (a, j) ≠ (a, j)) (h3 : ∀ j : Int, 0 ≤ j → j < n → f (a, j) ≠ (a, j) → 0 < ns.getD j.toNat 0 → j ∈ l) :
    l.filter (fun j => canMeet ns (a, j)) = secs n (cM f ns) a := by
  refine asc_eq (h1.filter _) (nz_asc ..) fun x => ?_
  unfold secs
  rw [nz_mem, List.mem_filter]
  constructor
  · rintro ⟨hx, hc⟩
    have r := canMeet_in hc
    rw [hn] at r
    refine ⟨r.2.2.1, r.2.2.2, ?_⟩
    rw [show nz x.toNat = x from Int.toNat_of_nonneg r.2.2.1]
    unfold cM
    rw [decide_eq_false (h2 x hx), hc]
    rfl
  · rintro ⟨h0, hx, hc⟩
    rw [show nz x.toNat = x from Int.toNat_of_nonneg h0] at hc
    unfold cM at hc
    rw [Bool.and_eq_true, Bool.not_eq_true', decide_eq_false_iff_not] at hc
    refine ⟨h3 x h0 hx hc.1 ?_, hc.2⟩
    have cm := hc.2
    unfold canMeet at cm
    split at cm
    · cases cm
    · split at cm
      · rename_i e
        rw [decide_eq_true_eq] at cm
        have : a = x := e
        subst this
        dsimp only at cm
        omega
      · rw [Bool.and_eq_true, decide_eq_true_eq, decide_eq_true_eq] at cm
        dsimp only at cm
        omega
/-- the states in which there are agents -/
def pres (n : Nat) (ns : List Int) : List Int := ((List.range n).filter fun i => decide (0 < ns.getD i 0)).map nz
theorem flat_filter {α β : Type} (p : α → Bool) (g : α → List β) (h : ∀ a, p a = false → g a = []) : ∀ l : List α, (l.filter p).flatMap g = l.flatMap g
  | [] => rfl
  | a :: l => by
    rw [List.flatMap_cons, List.filter_cons]
    by_cases c : p a = true
    · rw [if_pos c, List.flatMap_cons, flat_filter p g h l]
    · rw [if_neg c, flat_filter p g h l, h a (by simpa using c)]
      rfl
theorem secs_none {n : Nat} {f : Int × Int → Int × Int} {ns : List Int} {i : Nat} (h : decide (0 < ns.getD i 0) = false) : secs n (cM f ns) (nz i) = [] := by
  unfold secs
  rw [List.map_eq_nil_iff, List.filter_eq_nil_iff]
  intro j _ c
  unfold cM at c
  rw [Bool.and_eq_true] at c
  have cm := c.2
  have h' := of_decide_eq_false h
  unfold canMeet at cm
  split at cm
  · cases cm
  · have ei : (nz i).toNat = i := Int.toNat_natCast i
    dsimp only at cm
    rw [ei] at cm
    split at cm
    · rw [decide_eq_true_eq] at cm
      omega
    · rw [Bool.and_eq_true, decide_eq_true_eq, decide_eq_true_eq] at cm
      omega
theorem pres_flat (n : Nat) (f : Int × Int → Int × Int) (ns : List Int) : ((pres n ns).flatMap fun a => (secs n (cM f ns) a).map fun j => (a, j)) = prs n (cM f ns) := by
  unfold pres prs
  rw [List.flatMap_map]
  exact flat_filter _ _ (fun i h => by
    show (secs n (cM f ns) (nz i)).map _ = []
    rw [secs_none h]
    rfl) _
/-- the next places, in the order in which they are found -/
def nextS (f : Int × Int → Int × Int) (ns : List Int) (acc : List (List Int × (Int × Int))) (m : Int × Int) : List (List Int × (Int × Int)) :=
  if movePl ns m (f m) = ns ∨ movePl ns m (f m) ∈ acc.map Prod.fst then acc else acc ++ [(movePl ns m (f m), m)]
def nextL (f : Int × Int → Int × Int) (ns : List Int) (ms : List (Int × Int)) : List (List Int × (Int × Int)) := ms.foldl (nextS f ns) []
theorem nextL_snoc (f : Int × Int → Int × Int) (ns : List Int) {ms : List (Int × Int)} {i : Nat} {m : Int × Int} (h : ms[i]? = some m) : nextL f ns (ms.take (i + 1)) = nextS f ns (nextL f ns (ms.take i)) m := by
  unfold nextL
  rw [List.take_add_one, h]
  exact List.foldl_append ..
theorem nextL_len (f : Int × Int → Int × Int) (ns : List Int) (ms : List (Int × Int)) : (nextL f ns ms).length ≤ ms.length := by
  unfold nextL
  have : ∀ (ms : List (Int × Int)) (acc : List (List Int × (Int × Int))), (ms.foldl (nextS f ns) acc).length ≤ acc.length + ms.length := by
    intro ms
    induction ms with
    | nil => intro acc; exact Nat.le_refl _
    | cons m r ih =>
      intro acc
      rw [List.foldl_cons, List.length_cons]
      have h1 := ih (nextS f ns acc m)
      have h2 : (nextS f ns acc m).length ≤ acc.length + 1 := by
        unfold nextS
        split
        · omega
        · rw [List.length_append]; exact Nat.le_refl _
      omega
  simpa using this ms []
theorem nextL_mem {f : Int × Int → Int × Int} {ns : List Int} : ∀ {ms : List (Int × Int)} {z : List Int}, z ∈ (nextL f ns ms).map Prod.fst → ∃ m ∈ ms, z = movePl ns m (f m) := by
  have : ∀ (ms : List (Int × Int)) (acc : List (List Int × (Int × Int))) (z : List Int), z ∈ (ms.foldl (nextS f ns) acc).map Prod.fst → z ∈ acc.map Prod.fst ∨ ∃ m ∈ ms, z = movePl ns m (f m) := by
    intro ms
    induction ms with
    | nil => intro acc z h; exact .inl h
    | cons m r ih =>
      intro acc z h
      rw [List.foldl_cons] at h
      rcases ih _ _ h with h | ⟨m', h1, h2⟩
      · unfold nextS at h
        split at h
        · exact .inl h
        · rw [List.map_append] at h
          rcases List.mem_append.mp h with h | h
          · exact .inl h
          · exact .inr ⟨m, List.mem_cons_self .., by simpa using h⟩
      · exact .inr ⟨m', List.mem_cons_of_mem _ h1, h2⟩
  intro ms z h
  rcases this ms [] z h with h | h
  · simp at h
  · exact h
theorem putAt_le {pl : List Int} {i : Nat} {c b : Int} (h : ∀ y ∈ pl, y ≤ b) (hc : 0 ≤ b) : ∀ y ∈ putAt pl i c, y ≤ b + (if 0 ≤ c then c else 0) := fun y hy => by
  rcases putAt_mem hy with m | ⟨l, rfl⟩
  · have := h y m
    split <;> omega
  · have := h _ (getD_mem l (d := 0))
    split <;> omega
theorem move_le {ns : List Int} {m r : Int × Int} {b : Int} (h : ∀ y ∈ ns, y ≤ b) (hb : 0 ≤ b) : ∀ y ∈ movePl ns m r, y ≤ b + 2 := by
  unfold movePl
  have h1 := putAt_le (i := m.1.toNat) (c := -1) h hb
  have h2 := putAt_le (i := m.2.toNat) (c := -1) h1 (by omega)
  have h3 := putAt_le (i := r.1.toNat) (c := 1) h2 (by omega)
  have h4 := putAt_le (i := r.2.toNat) (c := 1) h3 (by omega)
  intro y hy
  have := h4 y hy
  simp at this
  omega
/-- the next places have the same length, and are bounded -/
theorem next_ok {n : Nat} {f : Int × Int → Int × Int} {ns : List Int} {b : Int} (h : Fits n ns) (hb : ∀ y ∈ ns, y ≤ b) (b0 : 0 ≤ b) : ∀ z ∈ (nextL f ns (prs n (cM f ns))).map Prod.fst, z.length = n ∧ TS.Bd (b + 3) z := by
  intro z hz
  obtain ⟨m, hm, rfl⟩ := nextL_mem hz
  obtain ⟨_, hc⟩ := prs_mem hm
  unfold cM at hc
  rw [Bool.and_eq_true] at hc
  have fm := move_fits (r := f m) h hc.2
  refine ⟨fm.1, fun y hy => ⟨fm.2 y hy, ?_⟩⟩
  have := move_le (m := m) (r := f m) hb b0 y hy
  omega
theorem fD_ch {D : DD} (v : ValidN D) {i : Nat} {j : Int} : (∃ (n : Nat) (w : Int × Int), (rks D)[n]? = some ((i : Int), j) ∧ (rvs D)[n]? = some w ∧ w ≠ ((i : Int), j)) ↔ fD D ((i : Int), j) ≠ ((i : Int), j) := by
  have nd : (rks D).Nodup := by
    have := (v.valid).nd
    exact this
  unfold fD meetOf
  constructor
  · rintro ⟨n, w, h1, h2, h3⟩
    have mem := List.mem_of_getElem? h1
    rw [if_pos mem]
    have e : (rks D).idxOf ((i : Int), j) = n := by
      have lt := List.idxOf_lt_length_of_mem mem
      have g : (rks D)[(rks D).idxOf ((i : Int), j)]? = some ((i : Int), j) := by
        rw [List.getElem?_eq_getElem lt]
        exact congrArg some (List.getElem_idxOf lt)
      exact nodup_ix nd g h1
    rw [e, List.getD_eq_getElem?_getD, h2]
    exact h3
  · intro h
    by_cases mem : ((i : Int), j) ∈ rks D
    · rw [if_pos mem] at h
      have lt := List.idxOf_lt_length_of_mem mem
      have l2 : (rvs D).length = (rks D).length := by simp [rvs, rks]
      refine ⟨(rks D).idxOf ((i : Int), j), (rvs D)[(rks D).idxOf ((i : Int), j)]'(by omega), ?_, List.getElem?_eq_getElem _, ?_⟩
      · rw [List.getElem?_eq_getElem lt]
        exact congrArg some (List.getElem_idxOf lt)
      · rw [List.getD_eq_getElem?_getD, List.getElem?_eq_getElem (by omega)] at h
        exact h
    · rw [if_neg mem] at h
      exact absurd rfl h
end Vf
namespace Vf
open PySem L2
theorem pair_ne {a b : Int × Int} : (!decide ([a.1, a.2] = [b.1, b.2])) = decide (a ≠ b) := by
  have : ([a.1, a.2] = [b.1, b.2]) ↔ a = b := by
    constructor
    · intro h
      simp only [List.cons.injEq, and_true] at h
      exact Prod.ext h.1 h.2
    · intro h
      rw [h]
  by_cases c : a = b
  · rw [decide_eq_true (this.mpr c), decide_eq_false (fun z => z c)]
    rfl
  · rw [decide_eq_false (fun z => c (this.mp z)), decide_eq_true c]
    rfl
theorem filter_take {α : Type} {p : α → Bool} {l : List α} {i : Nat} {x : α} (h : l[i]? = some x) : (l.take (i + 1)).filter p = (l.take i).filter p ++ if p x = true then [x] else [] := by
  rw [List.take_add_one, h, List.filter_append]
  congr 1
  by_cases c : p x = true
  · rw [if_pos c]
    simp [c]
  · rw [if_neg c]
    simp [c]
theorem range_filter {p : Nat → Bool} {i : Nat} : (List.range (i + 1)).filter p = (List.range i).filter p ++ if p i = true then [i] else [] := by
  rw [List.range_succ, List.filter_append]
  congr 1
  by_cases c : p i = true
  · rw [if_pos c]
    simp [c]
  · rw [if_neg c]
    simp [c]
end Vf
namespace Vf
open PySem L2
section
variable {J : It} {n : Nat} {G : Hp → Prop} {Y : Nat → Hp → V → Hp → Prop} {g g1 : TG} {tt tt1 : TT} {te : TE} {wi1 : TI} {vs vs1 : List Nat} {σ : L2.St} {H1 : Hp} {D : Addr} {Qd : Hp → Prop}
/-- the inner walk of a comprehension of two clauses -/
def LcIn (g1 : TG) (tt1 : TT) (te : TE) (vs1 : List Nat) (D : Addr) (σ2 : L2.St) (Nx : Hp → Prop) (J1 : It) (H4 : Hp) : Prop := ∃ W1 : Nat → Nat → Hp → Prop, (∃ m, W1 0 m H4) ∧ ∀ j k H, W1 j k H →
      (J1.stop j H ∧ Nx H) ∨ (J1.go j H ∧ ∃ Nx1 : Hp → Prop, (∀ H', Nx1 H' → ∃ k', k' < k ∧ W1 (j + 1) k' H') ∧ ∀ x H', J1.yld j H x H' → g1 x (wipe σ2 vs1) H' fun σ3 H5 => wipe σ3 vs1 = wipe σ2 vs1 ∧ tt1 σ3 H5 fun b H6 =>
        if b = true then te σ3 H6 fun y H7 => ∃ acc, H7 D = some (.lst acc) ∧ acc.length < sizeLine ∧ Nx1 (upd H7 D (.lst (acc ++ [y]))) else Nx1 H6)
theorem lc_in (w : Walk J n G Y) (Pv : Nat → Hp → Prop) (h0 : Pv 0 H1) (hG : ∀ i H, i ≤ n → Pv i H → G H)
    (hs : ∀ i x H H', i < n → Pv i H → Y i H x H' → g1 x (wipe σ vs1) H' fun σ2 H2 => wipe σ2 vs1 = wipe σ vs1 ∧ tt1 σ2 H2 fun b H3 =>
      if b = true then te σ2 H3 fun y H4 => ∃ acc, H4 D = some (.lst acc) ∧ acc.length < sizeLine ∧ Pv (i + 1) (upd H4 D (.lst (acc ++ [y]))) else Pv (i + 1) H3) (hd : ∀ H, Pv n H → Qd H) : LcIn g1 tt1 te vs1 D σ Qd J H1 := by
  refine ⟨fun i m H => m = n - i ∧ i ≤ n ∧ Pv i H, ⟨n, by simp, Nat.zero_le _, h0⟩, ?_⟩
  rintro i m H ⟨rfl, hi, p⟩
  have q := hG i H hi p
  by_cases hlt : i < n
  · exact .inr ⟨w.goes i H hlt q, Pv (i + 1), fun H' p' => ⟨n - (i + 1), by omega, rfl, hlt, p'⟩, fun x H' y => hs i x H H' hlt p (w.yields i H x H' hlt q y)⟩
  · have e : i = n := by omega
    subst e
    exact .inl ⟨w.stops H q, hd H p⟩
theorem lc2_it (w : Walk J n G Y) (Pv : Nat → Hp → Prop) (h0 : Pv 0 (upd H1 D (.lst []))) (hG : ∀ i H, i ≤ n → Pv i H → G H)
    (hs : ∀ i x H H', i < n → Pv i H → Y i H x H' → g x (wipe σ vs) H' fun σ2 H2 => wipe σ2 vs = wipe σ vs ∧ tt σ2 H2 fun b H3 =>
      if b = true then wi1 σ2 H3 (LcIn g1 tt1 te vs1 D σ2 (Pv (i + 1))) else Pv (i + 1) H3) (hd : ∀ H, Pv n H → Qd H) :
    ∃ W : Nat → Nat → Hp → Prop, (∃ m, W 0 m (upd H1 D (.lst []))) ∧ ∀ i m H, W i m H →
      (J.stop i H ∧ Qd H) ∨ (J.go i H ∧ ∃ Nx : Hp → Prop, (∀ H', Nx H' → ∃ m', m' < m ∧ W (i + 1) m' H') ∧ ∀ x H', J.yld i H x H' → g x (wipe σ vs) H' fun σ2 H2 => wipe σ2 vs = wipe σ vs ∧ tt σ2 H2 fun b H3 =>
        if b = true then wi1 σ2 H3 (LcIn g1 tt1 te vs1 D σ2 Nx) else Nx H3) := by
  refine ⟨fun i m H => m = n - i ∧ i ≤ n ∧ Pv i H, ⟨n, by simp, Nat.zero_le _, h0⟩, ?_⟩
  rintro i m H ⟨rfl, hi, p⟩
  have q := hG i H hi p
  by_cases hlt : i < n
  · exact .inr ⟨w.goes i H hlt q, Pv (i + 1), fun H' p' => ⟨n - (i + 1), by omega, rfl, hlt, p'⟩, fun x H' y => hs i x H H' hlt p (w.yields i H x H' hlt q y)⟩
  · have e : i = n := by omega
    subst e
    exact .inl ⟨w.stops H q, hd H p⟩
end
theorem pres_ok {n : Nat} {ns : List Int} : (pres n ns).Pairwise (· < ·) ∧ (∀ j ∈ pres n ns, 0 ≤ j ∧ j < n ∧ 0 < ns.getD j.toNat 0) ∧ (∀ j : Int, 0 ≤ j → j < n → 0 < ns.getD j.toNat 0 → j ∈ pres n ns) ∧ (pres n ns).length ≤ n := by
  refine ⟨nz_asc .., fun j h => ?_, fun j h0 h1 h2 => nz_mem.mpr ⟨h0, h1, decide_eq_true h2⟩, ?_⟩
  · obtain ⟨h0, h1, h2⟩ := nz_mem.mp h
    exact ⟨h0, h1, of_decide_eq_true h2⟩
  · unfold pres
    rw [List.length_map]
    exact Nat.le_trans (List.length_filter_le ..) (Nat.le_of_eq List.length_range)
theorem secs_le (n : Nat) (c : Int × Int → Bool) (l : List Int) : (l.flatMap fun a => (secs n c a).map fun j => (a, j)).length ≤ l.length * n := by
  induction l with
  | nil => simp
  | cons a r ih =>
    rw [List.flatMap_cons, List.length_append, List.length_map, List.length_cons, Nat.succ_mul]
    have := secs_len n c a
    omega
end Vf
namespace Vf
open PySem L2
theorem valV_in {κ : Type} [DecidableEq κ] {k : κ} : ∀ {kvs : List (κ × V)}, (valV kvs k).isSome = decide (k ∈ kvs.map Prod.fst)
  | [] => by simp [valV]
  | p :: r => by
    by_cases e : p.1 = k
    · rw [valV_pos e, List.map_cons, e]
      simp
    · rw [valV_neg e, valV_in (kvs := r), List.map_cons]
      refine decide_eq_decide.mpr ⟨fun h => List.mem_cons_of_mem _ h, fun h => ?_⟩
      rcases List.mem_cons.mp h with h | h
      · exact absurd h.symm e
      · exact h
/-- a dict from places to meetings -/
structure PPI (H : Hp) (kvs : List (List Key × V)) (nl : List (List Int × (Int × Int))) : Prop where
  keys : kvs.map (·.1) = (nl.map Prod.fst).map keyI
  vals : Tups encP H (kvs.map (·.2)) (nl.map Prod.snd)
section
variable {H H' : Hp} {kvs : List (List Key × V)} {nl : List (List Int × (Int × Int))}
theorem PPI.mono (p : PPI H kvs nl) (e : ∀ t ys, H t = some (.tup ys) → H' t = some (.tup ys)) : PPI H' kvs nl := ⟨p.keys, p.vals.mono e⟩
theorem PPI.same (p : PPI H kvs nl) (e : Same H H') : PPI H' kvs nl := ⟨p.keys, p.vals.same e⟩
theorem PPI.len (p : PPI H kvs nl) : kvs.length = nl.length := by
  have := congrArg List.length p.keys
  simpa using this
theorem PPI.mem (p : PPI H kvs nl) {z : List Int} : keyI z ∈ kvs.map Prod.fst ↔ z ∈ nl.map Prod.fst := by
  have e : kvs.map Prod.fst = (nl.map Prod.fst).map keyI := p.keys
  rw [e, List.mem_map]
  exact ⟨fun ⟨a, h1, h2⟩ => keyI_inj h2 ▸ h1, fun h => ⟨z, h, rfl⟩⟩
theorem PPI.snoc (p : PPI H kvs nl) {z : List Int} {m : Int × Int} {t : Addr} (e : ∀ t ys, H t = some (.tup ys) → H' t = some (.tup ys)) (h : H' t = some (.tup (encP m))) : PPI H' (kvs ++ [(keyI z, .ref t)]) (nl ++ [(z, m)]) := by
  refine ⟨by rw [List.map_append, List.map_append, List.map_append, p.keys]; rfl, ?_⟩
  rw [List.map_append, List.map_append]
  exact (p.vals.mono e).snoc h
end
end Vf
theorem Vf.dec_of {p : Prop} {i : Decidable p} (h : @decide p i = true) : p := by
  cases i with
  | isTrue h' => exact h'
  | isFalse h' => exact absurd h (by simp [decide])
namespace Vf
open PySem L2
def tD (z : List Int) : PyData := .tuple (z.map PyData.int)
theorem dpAll_tups {K : PySem.W.Frag} {H : Hp} : ∀ {xs : List V} {zs : List (List Int)}, Tups encIs H xs zs → DpAll K H xs (zs.map tD)
  | [], [], _ => .nil
  | [], m :: r, t => by have := t.1; simp at this
  | x :: xs, [], t => by have := t.1; simp at this
  | x :: xs, z :: r, t => by
    obtain ⟨u, e1, e2⟩ := t.2 0 z rfl
    obtain rfl : x = .ref u := Option.some.inj e1
    refine .cons (.tup (SqT.of e2) (dpAll_ints z)) (dpAll_tups ⟨Nat.succ.inj t.1, fun i a e => ?_⟩)
    exact t.2 (i + 1) a e
theorem shaped_list_ints (ns : List Int) : PyData.canLayAll0 (ns.map PyData.int) = true ∧ PyData.depthAll (ns.map PyData.int) ≤ 1 := by
  induction ns with
  | nil => simp [PyData.canLayAll0, PyData.depthAll]
  | cons a r ih =>
    constructor
    · simp [PyData.canLayAll0, PyData.canLay0, ih.1]
    · simp only [List.map_cons, PyData.depthAll, PyData.depth]
      have := ih.2
      omega
theorem shaped_list_tups (zs : List (List Int)) : PyData.canLayAll0 (zs.map tD) = true ∧ PyData.depthAll (zs.map tD) ≤ 2 := by
  induction zs with
  | nil => simp [PyData.canLayAll0, PyData.depthAll]
  | cons a r ih =>
    obtain ⟨a1, a2⟩ := shaped_list_ints a
    constructor
    · simp only [List.map_cons, PyData.canLayAll0, tD, PyData.canLay0, a1, Bool.true_and]
      exact ih.1
    · simp only [List.map_cons, PyData.depthAll, tD, PyData.depth]
      have := ih.2
      omega
theorem shaped_tups (zs : List (List Int)) : SeqAt.shaped (.list (zs.map tD)) = true := by
  obtain ⟨h0, h1⟩ := shaped_list_tups zs
  have h2 : PyData.depth (.list (zs.map tD)) ≤ 64 := by
    simp only [PyData.depth]
    omega
  show (PyData.canLay0 (.list (zs.map tD)) && decide (PyData.depth (.list (zs.map tD)) ≤ 64)) = true
  rw [Bool.and_eq_true]
  exact ⟨by simp only [PyData.canLay0]; exact h0, decide_eq_true h2⟩
theorem eqv_tups (zs : List (List Int)) : PyData.eqv (.list (zs.map tD)) (.list (zs.map tD)) = true :=
  PySem.SeqAt.eqv_refl _ (by simp only [PyData.canLay0]; exact (shaped_list_tups zs).1)
theorem eqv_tD (a b : List Int) : PyData.eqv (tD a) (tD b) = decide (a = b) :=
  (PySem.W.Datum.eqv (α := PySem.W.Tup Int) ⟨a⟩ ⟨b⟩).trans (decide_eq_decide.mpr ⟨fun e => congrArg PySem.W.Tup.items e, fun e => by rw [e]⟩)
theorem any_tD (z : List Int) : ∀ zs : List (List Int), ((zs.map tD).any fun x => PyData.eqv x (tD z)) = decide (z ∈ zs)
  | [] => by simp
  | a :: r => by
    rw [List.map_cons, List.any_cons, any_tD z r, eqv_tD]
    by_cases e : a = z
    · rw [e]; simp
    · rw [decide_eq_false e, Bool.false_or]
      refine decide_eq_decide.mpr ⟨fun h => List.mem_cons_of_mem _ h, fun h => ?_⟩
      rcases List.mem_cons.mp h with h | h
      · exact absurd h.symm e
      · exact h
end Vf

/-! ### set comprehensions, by what a set tracks -/
namespace Vf
open PySem PySem.Spec PyProof.Rows L2
/-- an empty set's object -/
abbrev noneIn (w : World) : Obj := { cls := .type "set", dict := none, data := .set #[] 0 (.fresh 0 0 (!w.params.followText "set-order")) }
structure SetLike (P : Program) (w : World) {τ : Type} (SO : Addr → τ → HO) (z : τ) (grow : τ → V → τ → Prop) : Prop where
  fresh : ∀ (H : Hp) (h : Heap), ObjOk P w H (h.push (noneIn w)) h.objs.size (SO h.objs.size z)
  put : ∀ {X : Cx}, X.prog = P → X.w = w → ∀ {pins : List (Addr × Obj)} {σ : L2.St} {H : Hp} {s : Shared} {E : Value → Shared → Prop} {D : Addr} {t t' : τ} {y : V} {u : Value} {Q : Value → Shared → Prop}, Inv X pins σ H s → RelV y u → H D = some (SO D t) → grow t y t' →
    (∀ s', Inv X pins σ (upd H D (SO D t')) s' → Q .none s') → wpAny (model X.prog X.w) X.A (call (.builtin "set.add") [.ref D, u]) Q E s
def tScG {τ : Type} (SO : Addr → τ → HO) (z : τ) (grow : τ → V → τ → Prop) (wi : TI) (g : TG) (tt : TT) (te : TE) (vs : List Nat) : TE := fun σ H Q => wi σ H fun J H1 => ∀ D, H1 D = none → ∃ W : Nat → Nat → Hp → Prop, (∃ m, W 0 m (upd H1 D (SO D z))) ∧ ∀ i m H, W i m H →
  (J.stop i H ∧ Q (.ref D) H) ∨ (J.go i H ∧ ∃ Nx : Hp → Prop, (∀ H', Nx H' → ∃ m', m' < m ∧ W (i + 1) m' H') ∧ ∀ x H', J.yld i H x H' → g x (wipe σ vs) H' fun σ2 H2 => wipe σ2 vs = wipe σ vs ∧ tt σ2 H2 fun b H3 =>
    if b = true then te σ2 H3 fun y H4 => ∃ t t' : τ, H4 D = some (SO D t) ∧ grow t y t' ∧ Nx (upd H4 D (SO D t')) else Nx H3)
section
variable {X : Cx} {τ : Type} {SO : Addr → τ → HO} {z : τ} {grow : τ → V → τ → Prop}
theorem pe_scG (L : SetLike X.prog X.w SO z grow) {elt tg iter : Expr} {ifs : List Expr} {scope : Scope} {own : List (Str × Nat)} {pos : Pos} {wi : TI} {g : TG} {tt : TT} {te : TE} (hc : X.calm = true) (hN : X.N.Nodup) (hi : PI X tg iter wi) (ok : BlkOk X.N X.env.scope scope own)
    (hg : ∀ (s : Shared) (H : Hp) (C : Addr) (cl : List (Str × Addr)) (fp : List Addr), PG (X.blk s H scope (compEnvC scope cl C X.env) fp) tg g)
    (ht : ∀ (s : Shared) (H : Hp) (C : Addr) (cl : List (Str × Addr)) (fp : List Addr), PTs (X.blk s H scope (compEnvC scope cl C X.env) fp) ifs tt)
    (he : ∀ (s : Shared) (H : Hp) (C : Addr) (cl : List (Str × Addr)) (fp : List Addr), PE (X.blk s H scope (compEnvC scope cl C X.env) fp) elt te)
    (hs : ∀ x, foldedSetIterable iter X.env x = pure x := by intro _; rfl) : PE X (.SetComp elt [⟨tg, iter, ifs, 0⟩] scope pos) (tScG SO z grow wi g tt te (own.map (·.2))) := by
  constructor
  intro pins s σ H Q I h
  rw [PpSet.eval_SetComp]
  have free : ∀ y ∈ scope.names, y.2 = .free → ∃ c, X.env.cells.lookup y.1 = some c := fun y hy e => I.ok.has _ (by exact ok.free y hy e)
  refine wpAny_comprehension_free (use := none) rfl hs (closure_ok free) ok.kind (fun y hy e => by rw [ok.uniq y hy, e]) (thn (hi.run pins s σ H _ I h) fun xv s1 hx => thn hx fun itv s2 got => ?_)
  obtain ⟨it, fp, tn, J, H2, rfl, I2, T, st2, f2, q⟩ := got
  refine PpSet.newSet_ok (newEnv_comp ?_)
  obtain ⟨D, hD⟩ : ∃ D, D = s2.heap.objs.size := ⟨_, rfl⟩
  obtain ⟨W, ⟨m0, w0⟩, turn⟩ := q D (I2.hok.fresh (Nat.le_of_eq hD.symm))
  rw [← hD]
  obtain ⟨s3, es3⟩ : ∃ s3 : Shared, s3 = { s2 with heap := s2.heap.push (noneIn X.w) } := ⟨_, rfl⟩
  have h3 : s3.heap = s2.heap.push (noneIn X.w) := by rw [es3]
  have I3 : Inv X pins σ (upd H2 D (SO D z)) s3 := by
    rw [es3]
    refine I2.laid (t' := s2.toks) (fun b o e => Heap.get?_push_of_some _ e) (Nat.le_of_eq hD.symm) ?_
    have fr := L.fresh (upd H2 D (SO D z)) s2.heap
    rw [← hD] at fr
    exact fr
  have below : ∀ b ∈ fp, b < s2.heap.objs.size := fun b hb => Heap.lt_size (T.obj _ _ st2 b hb).choose_spec.1
  have f3 : ∀ b ∈ fp, FpOk X pins (upd H2 D (SO D z)) b ∧ b < s3.heap.objs.size := fun b hb => by
    have lt := below b hb
    have ne : b ≠ D := by rw [hD]; exact Nat.ne_of_lt lt
    refine ⟨⟨?_, (f2 b hb).2⟩, ?_⟩
    · rw [upd_ne ne]
      exact (f2 b hb).1
    · rw [h3, Heap.size_push]
      exact Nat.lt_succ_of_lt lt
  have st3 : tn 0 s3.heap := T.keep _ _ _ st2 fun b _ o e => by rw [h3]; exact Heap.get?_push_of_some _ e
  have I4 := block_start I3 ok hN f3
  have pg := hg s3 (upd H2 D (SO D z)) s3.heap.objs.size (cellsFrom (s3.heap.objs.size + 1) scope.names (cloFrom X.env.cells scope.names [])) fp
  have pt := ht s3 (upd H2 D (SO D z)) s3.heap.objs.size (cellsFrom (s3.heap.objs.size + 1) scope.names (cloFrom X.env.cells scope.names [])) fp
  have pe := he s3 (upd H2 D (SO D z)) s3.heap.objs.size (cellsFrom (s3.heap.objs.size + 1) scope.names (cloFrom X.env.cells scope.names [])) fp
  have done : ∀ (s' : Shared) (m : Str → Option Value) (H' : Hp), Inv X pins σ H' s' → Q (.ref D) H' → s'.heap.Ns s3.heap.objs.size m → FpOk X pins H' s3.heap.objs.size → compPost (model X.prog X.w) X.A X.xe none (EP X pins σ Q) (.ref D) s3.heap.objs.size (.ok .next) s' := fun s' m H' I' qq hn f => ⟨m, hn, fun h'' sb => by
    obtain ⟨a0, a1, a2, a3, a4, a5⟩ := f
    exact ⟨.ref D, H', I'.turned (t' := s'.toks) (fun b o hb e => (sb.2 b hb).trans e) a0 a1 a3 a4 a5, rfl, qq⟩⟩
  have fin0 : ∀ {s4 : Shared} {ce : Env}, ce = compEnvC scope (cellsFrom (s3.heap.objs.size + 1) scope.names (cloFrom X.env.cells scope.names [])) s3.heap.objs.size X.env →
      s4 = { s3 with heap := pushCells (s3.heap.push { cls := .type "dict", data := .dict #[] }) scope.names } → codeAny (model X.prog X.w) X.A (.compStart (.SetComp elt [⟨tg, iter, ifs, 0⟩] scope pos) 0 (.ref it) (.ref D) ce) (compPost (model X.prog X.w) X.A X.xe none (EP X pins σ Q) (.ref D) s3.heap.objs.size) s4 := by
    intro s4 ce ece es4
    rw [← ece] at I4 pg pt pe
    rw [← es4] at I4
    have cL : ce.locals = s3.heap.objs.size := by rw [ece]; rfl
    have st4 : tn 0 s4.heap := T.keep _ _ _ st3 fun b _ o e => by rw [es4]; exact pushCells_keeps _ _ _ _ (Heap.get?_push_of_some _ e)
    have un : ∀ b ∈ fp, (upd H2 D (SO D z)) b = none := fun b hb => (f3 b hb).1.1
    generalize upd H2 D (SO D z) = H3 at I3 I4 pg pt pe w0 un f3
    have stat : ∀ {σ' : L2.St} {H' : Hp} {s' : Shared}, Inv (X.blk s3 H3 scope ce fp) [] σ' H' s' → (∀ b ∈ fp, H' b = none) → ∀ b ∈ fp, FpOk (X.blk s3 H3 scope ce fp) [] H' b := fun {σ' H' s'} I' hn b hb => by
      refine ⟨hn b hb, (I'.ok.exf b hb).1, I'.ok.exfs b hb, .inl hb, fun x c e => (I'.ok.exf b hb).2 x c e, fun p hp => ?_⟩
      simp at hp
    have loop : codeAny (model X.prog X.w) X.A (.compLoop (.SetComp elt [⟨tg, iter, ifs, 0⟩] scope pos) 0 (.ref it) (.ref D) ce) (compPost (model X.prog X.w) X.A X.xe none (EP X pins σ Q) (.ref D) s3.heap.objs.size) s4 := by
      refine PpSet.compLoopS_any (fun n s' => ∃ i H', Inv (X.blk s3 H3 scope ce fp) [] (wipe σ (own.map (·.2))) H' s' ∧ tn i s'.heap ∧ (∀ b ∈ fp, H' b = none) ∧ W i n H') (fun n s5 hI => ?_) m0 ⟨0, H3, I4, st4, un, w0⟩
      obtain ⟨i, H5, I5, st5, n5, w5⟩ := hI
      rcases turn i n H5 w5 with ⟨stop, qq⟩ | ⟨go, Nx, hNx, step⟩
      · refine thnF (T.done (X.blk s3 H3 scope ce fp) rfl rfl rfl hc i [] s5 _ H5 (fun _ _ => False) I5 (stat I5 n5) st5 stop) fun r s6 ⟨hr, I6⟩ => ?_
        subst hr
        have I7 : Inv X pins σ H5 s6 := I3.call' (ch := fp) I6.os I6.base I6.hok I6.bare fun b hb => ⟨(f3 b hb).1.2.2.2.1, (f3 b hb).1.2.1, (f3 b hb).1.2.2.2.2.1, (f3 b hb).1.2.2.2.2.2⟩
        obtain ⟨m, hn, _⟩ := I6.loc
        have fr : H5 ce.locals = none := I6.free
        have hn : s6.heap.Ns ce.locals m := hn
        rw [cL] at hn fr
        exact done s6 m H5 I7 qq hn (I3.fpOk (Nat.le_refl _) fr)
      · refine thnF (T.item (X.blk s3 H3 scope ce fp) rfl rfl rfl hc i [] s5 _ H5 (fun _ _ => False) I5 (stat I5 n5) st5 go) fun r s6 ⟨u, hr, h6⟩ => ?_
        subst hr
        refine thnF h6 fun _ s7 ⟨x, H7, I7, r7, y7, st7, n7⟩ => ?_
        have I8 := I7.pinned (stat I7 n7) (T.obj _ _ st7)
        refine thnF (pg.run _ s7 _ H7 x u _ I8 r7 (step x H7 y7)) fun _ s8 ⟨σ8, H8, I9, hw8, q8⟩ => ?_
        refine thnF (pt.run _ s8 σ8 H8 _ I9 q8) fun b s9 ⟨H9, I10, q9⟩ => ?_
        have next : ∀ {s' : Shared} {H' : Hp}, Inv (X.blk s3 H3 scope ce fp) ([] ++ pinsAt fp s7.heap) σ8 H' s' → Nx H' → ∃ m, m < n ∧ ∃ i H', Inv (X.blk s3 H3 scope ce fp) [] (wipe σ (own.map (·.2))) H' s' ∧ tn i s'.heap ∧ (∀ b ∈ fp, H' b = none) ∧ W i m H' := fun {s' H'} I' nx => by
          obtain ⟨m', hm, w'⟩ := hNx H' nx
          have held : ∀ b ∈ fp, ∀ o, s7.heap.get? b = some o → s'.heap.get? b = some o ∧ H' b = none := fun b hb o e => by
            have zz := I'.pin (b, o) (List.mem_append_right _ (List.mem_append_right _ (mem_pinsAt hb e)))
            exact ⟨zz.1, zz.2.1⟩
          refine ⟨m', hm, i + 1, H', (I'.unpinned (pins := [])).weak (by rw [← hw8, wipe_length]) (fun j v e => ?_), T.keep _ _ _ st7 fun b hb o e => (held b hb o e).1, fun b hb => ?_, w'⟩
          · rw [← hw8] at e
            exact (wipe_some e).1
          · obtain ⟨o, e, _⟩ := T.obj _ _ st7 b hb
            exact (held b hb o e).2
        cases b with
        | false =>
          simp only [Bool.false_eq_true, if_false] at q9 ⊢
          exact next I10 q9
        | true =>
          simp only [if_true] at q9 ⊢
          refine thnF (pe.run _ s9 σ8 H9 _ I10 q9) fun uv s10 ⟨yv, H10, I11, r10, t, t', hD10, gr, nx⟩ => ?_
          exact L.put (X := X.blk s3 H3 scope ce fp) rfl rfl I11 r10 hD10 gr fun s11 I12 => next I12 nx
    exact PpSet.codeAny_compStart_set loop (T.self X.A 0 _ _ _ st4 loop)
  have last := fin0 rfl rfl
  subst es3
  exact last
end
/-- a set of whole numbers -/
def soI (w : World) (a : Addr) (t : (Int → Bool) × Nat) : HO := SetO w a t.1 t.2
def zI : (Int → Bool) × Nat := (fun _ => false, 0)
def growI (t : (Int → Bool) × Nat) (y : V) (t' : (Int → Bool) × Nat) : Prop := ∃ k : Int, y = .int k ∧ t.2 + 1 < scanBound ∧ t' = (fun j => t.1 j || decide (j = k), if t.1 k = true then t.2 else t.2 + 1)
theorem setLikeI (P : Program) (w : World) : SetLike P w (soI w) zI growI where
  fresh H h := setO_new (setR_fresh w)
  put := by
    rintro X rfl rfl pins σ H s E D t t' y u Q I r hD ⟨k, rfl, room, rfl⟩ h
    obtain ⟨tk, rfl⟩ := r
    refine setR_add (setO_get I hD) room fun h' sb new => ?_
    obtain ⟨o, es, ep, tb, ho, _⟩ := id new
    exact h _ (I.write (e := D) (t' := s.toks + 1) (by rw [hD]; trivial) (.inl rfl) (fun b u hb hu => (sb.2 b hb).trans hu) ⟨o, ho⟩ (setO_new new))
theorem pe_scI {X : Cx} {elt tg iter : Expr} {ifs : List Expr} {scope : Scope} {own : List (Str × Nat)} {pos : Pos} {wi : TI} {g : TG} {tt : TT} {te : TE} (hc : X.calm = true) (hN : X.N.Nodup) (hi : PI X tg iter wi) (ok : BlkOk X.N X.env.scope scope own)
    (hg : ∀ (s : Shared) (H : Hp) (C : Addr) (cl : List (Str × Addr)) (fp : List Addr), PG (X.blk s H scope (compEnvC scope cl C X.env) fp) tg g)
    (ht : ∀ (s : Shared) (H : Hp) (C : Addr) (cl : List (Str × Addr)) (fp : List Addr), PTs (X.blk s H scope (compEnvC scope cl C X.env) fp) ifs tt)
    (he : ∀ (s : Shared) (H : Hp) (C : Addr) (cl : List (Str × Addr)) (fp : List Addr), PE (X.blk s H scope (compEnvC scope cl C X.env) fp) elt te)
    (hs : ∀ x, foldedSetIterable iter X.env x = pure x := by intro _; rfl) : PE X (.SetComp elt [⟨tg, iter, ifs, 0⟩] scope pos) (tScG (soI X.w) zI growI wi g tt te (own.map (·.2))) := pe_scG (setLikeI X.prog X.w) hc hN hi ok hg ht he hs
section
variable {τ : Type} {SO : Addr → τ → HO} {z : τ} {grow : τ → V → τ → Prop} {J : It} {n : Nat} {G : Hp → Prop} {Y : Nat → Hp → V → Hp → Prop} {g : TG} {tt : TT} {te : TE} {vs : List Nat} {σ : L2.St} {H1 : Hp} {D : Addr} {Qd : Hp → Prop}
theorem sc_it (w : Walk J n G Y) (Pv : Nat → Hp → Prop) (h0 : Pv 0 (upd H1 D (SO D z))) (hG : ∀ i H, i ≤ n → Pv i H → G H)
    (hs : ∀ i x H H', i < n → Pv i H → Y i H x H' → g x (wipe σ vs) H' fun σ2 H2 => wipe σ2 vs = wipe σ vs ∧ tt σ2 H2 fun b H3 =>
      if b = true then te σ2 H3 fun y H4 => ∃ t t' : τ, H4 D = some (SO D t) ∧ grow t y t' ∧ Pv (i + 1) (upd H4 D (SO D t')) else Pv (i + 1) H3) (hd : ∀ H, Pv n H → Qd H) :
    ∃ W : Nat → Nat → Hp → Prop, (∃ m, W 0 m (upd H1 D (SO D z))) ∧ ∀ i m H, W i m H →
      (J.stop i H ∧ Qd H) ∨ (J.go i H ∧ ∃ Nx : Hp → Prop, (∀ H', Nx H' → ∃ m', m' < m ∧ W (i + 1) m' H') ∧ ∀ x H', J.yld i H x H' → g x (wipe σ vs) H' fun σ2 H2 => wipe σ2 vs = wipe σ vs ∧ tt σ2 H2 fun b H3 =>
        if b = true then te σ2 H3 fun y H4 => ∃ t t' : τ, H4 D = some (SO D t) ∧ grow t y t' ∧ Nx (upd H4 D (SO D t')) else Nx H3) := by
  refine ⟨fun i m H => m = n - i ∧ i ≤ n ∧ Pv i H, ⟨n, by simp, Nat.zero_le _, h0⟩, ?_⟩
  rintro i m H ⟨rfl, hi, p⟩
  have q := hG i H hi p
  by_cases hlt : i < n
  · exact .inr ⟨w.goes i H hlt q, Pv (i + 1), fun H' p' => ⟨n - (i + 1), by omega, rfl, hlt, p'⟩, fun x H' y => hs i x H H' hlt p (w.yields i H x H' hlt q y)⟩
  · have e : i = n := by omega
    subst e
    exact .inl ⟨w.stops H q, hd H p⟩
end
/-- what comes out at a place, up to the i-th state -/
def OutAt (ou ns : List Int) (i : Nat) (k : Int) : Prop := ∃ j : Nat, j < i ∧ ou[j]? = some k ∧ ∃ c, ns[j]? = some c ∧ 0 < c
def totalOf (ou ns : List Int) : Int := ((ou.zip ns).map fun x => x.1 * x.2).sum
theorem OutAt.succ {ou ns : List Int} {i : Nat} {k o c : Int} (ho : ou[i]? = some o) (hc : ns[i]? = some c) : OutAt ou ns (i + 1) k ↔ OutAt ou ns i k ∨ (k = o ∧ 0 < c) := by
  constructor
  · rintro ⟨j, hj, h1, c1, h2, h3⟩
    by_cases e : j = i
    · subst e
      rw [ho] at h1
      rw [hc] at h2
      cases h1
      cases h2
      exact .inr ⟨rfl, h3⟩
    · exact .inl ⟨j, by omega, h1, c1, h2, h3⟩
  · rintro (⟨j, hj, r⟩ | ⟨rfl, h⟩)
    · exact ⟨j, by omega, r⟩
    · exact ⟨i, by omega, ho, c, hc, h⟩
theorem zip_at {α β : Type} {l : List α} {m : List β} {i : Nat} {a : α} {b : β} (h1 : l[i]? = some a) (h2 : m[i]? = some b) : (l.zip m)[i]? = some (a, b) := by
  rw [List.getElem?_zip_eq_some]
  exact ⟨h1, h2⟩
theorem totalOf_succ {ou ns : List Int} {i : Nat} {o c : Int} (ho : ou[i]? = some o) (hc : ns[i]? = some c) : ((((ou.zip ns).map fun x => x.1 * x.2).take (i + 1)).sum) = (((ou.zip ns).map fun x => x.1 * x.2).take i).sum + o * c := by
  have e : ((ou.zip ns).map fun x => x.1 * x.2)[i]? = some (o * c) := by
    rw [List.getElem?_map, zip_at ho hc]
    rfl
  rw [List.take_succ, e, List.sum_append]
  simp
/-- two ways that meet again: what comes behind is shown once -/
theorem seq_join {t u : TS} {D : Ends} {σ : L2.St} {H : Hp} (R : L2.St → Hp → Prop) (h1 : ∀ nx : L2.St → Hp → Prop, (∀ σ' H', R σ' H' → nx σ' H') → t { D with nx := nx } σ H) (h2 : ∀ σ' H', R σ' H' → u D σ' H') : tSeq t u D σ H := h1 (u D) h2
theorem inV_int (s : Int) (l : List Int) : inV (.int s) (l.map V.int) = decide (s ∈ l) := by
  unfold inV
  rw [Bool.eq_iff_iff, List.any_eq_true, decide_eq_true_iff]
  constructor
  · rintro ⟨y, hy, h⟩
    obtain ⟨t, ht, rfl⟩ := List.mem_map.mp hy
    have e : decide (t = s) = true := h
    rw [← of_decide_eq_true e]
    exact ht
  · intro h
    exact ⟨.int s, List.mem_map.mpr ⟨s, h, rfl⟩, (decide_eq_true rfl : decide (s = s) = true)⟩
theorem flat_int (l : List Int) : (l.map V.int).all flatV = true := by
  rw [List.all_eq_true]
  intro x hx
  obtain ⟨t, _, rfl⟩ := List.mem_map.mp hx
  rfl
theorem asc_of {l : List Int} (h : l.Pairwise (· ≤ ·)) (n : l.Nodup) : l.Pairwise (· < ·) := (h.and n).imp fun ⟨a, b⟩ => by omega
end Vf

namespace Vf
open PySem L2
theorem sum_set : ∀ {l : List Int} {i : Nat} {c : Int}, i < l.length → (l.set i (l.getD i 0 + c)).sum = l.sum + c
  | [], i, c, h => by simp at h
  | a :: r, 0, c, _ => by simp; omega
  | a :: r, i + 1, c, h => by
    have h' : i < r.length := by simpa using h
    have e := sum_set (c := c) h'
    rw [show (a :: r).getD (i + 1) 0 = r.getD i 0 from rfl, List.set_cons_succ, List.sum_cons, List.sum_cons, e]
    omega
theorem putAt_sum {l : List Int} {i : Nat} {c : Int} (h : i < l.length) : (putAt l i c).sum = l.sum + c := sum_set h
theorem move_sum {ns : List Int} {m r : Int × Int} (h : InR ns.length m) (h' : InR ns.length r) : (movePl ns m r).sum = ns.sum := by
  obtain ⟨a0, a1, b0, b1⟩ := h
  obtain ⟨c0, c1, d0, d1⟩ := h'
  unfold movePl
  rw [putAt_sum (by rw [putAt_len, putAt_len, putAt_len]; omega), putAt_sum (by rw [putAt_len, putAt_len]; omega), putAt_sum (by rw [putAt_len]; omega), putAt_sum (by omega)]
  omega
theorem in_sum {D : DD} (v : ValidN D) : ∀ (ps : List (Str × Str)) (cs pl : List Int), pl.length = D.st.length → ps.length = cs.length → (∀ p ∈ ps, p.2 ∈ D.st) → ((ps.zip cs).foldl (fun pl pc => putAt pl (D.st.idxOf pc.1.2) pc.2) pl).sum = pl.sum + cs.sum
  | [], [], pl, _, _, _ => by simp
  | [], _ :: _, _, _, h, _ => by simp at h
  | _ :: _, [], _, _, h, _ => by simp at h
  | p :: ps, c :: cs, pl, hl, hh, hm => by
    rw [List.zip_cons_cons, List.foldl_cons, in_sum v ps cs _ ((putAt_len ..).trans hl) (by simpa using hh) fun q hq => hm q (List.mem_cons_of_mem _ hq), List.sum_cons, putAt_sum (by rw [hl]; exact List.idxOf_lt_length_of_mem (hm p (List.mem_cons_self ..)))]
    omega
theorem ld_sum {D : DD} : ∀ (ls : List Str) (pl : List Int), pl.length = D.st.length → (∀ s ∈ ls, s ∈ D.st) → (ldPl D ls pl).sum = pl.sum + ls.length
  | [], pl, _, _ => by simp [ldPl]
  | s :: r, pl, hl, hm => by
    have e : ldPl D (s :: r) pl = ldPl D r (putAt pl (D.st.idxOf s) 1) := rfl
    rw [e, ld_sum r _ ((putAt_len ..).trans hl) fun q hq => hm q (List.mem_cons_of_mem _ hq), putAt_sum (by rw [hl]; exact List.idxOf_lt_length_of_mem (hm s (List.mem_cons_self ..))), List.length_cons]
    omega
theorem zero_sum (n : Nat) : (List.replicate n (0 : Int)).sum = 0 := by
  induction n with
  | zero => rfl
  | succ n ih => rw [List.replicate_succ, List.sum_cons, ih]; rfl
theorem first_sum {D : DD} (v : ValidN D) {cs : List Int} (h : cs.length = D.ins.length) : (firstPl D cs).sum = cs.sum + D.ld.length := by
  unfold firstPl
  rw [ld_sum _ _ (inPl_len ..) v.ldm]
  unfold inPl
  rw [in_sum v _ _ _ (List.length_replicate ..) h.symm fun p hp => (v.inm p hp).2, zero_sum]
  omega
theorem in_nn {D : DD} (n : Nat) : ∀ (ps : List (Str × Str)) (cs pl : List Int), (∀ y ∈ pl, 0 ≤ y) → (∀ y ∈ cs, 0 ≤ y) → ∀ y ∈ (ps.zip cs).foldl (fun pl pc => putAt pl (D.st.idxOf pc.1.2) pc.2) pl, 0 ≤ y
  | [], cs, pl, h, _ => by simpa using h
  | _ :: _, [], pl, h, _ => by simpa using h
  | p :: ps, c :: cs, pl, h, hc => by
    rw [List.zip_cons_cons, List.foldl_cons]
    refine in_nn n ps cs _ (fun y hy => ?_) fun y hy => hc y (List.mem_cons_of_mem _ hy)
    have c0 := hc c (List.mem_cons_self ..)
    rcases putAt_mem hy with m | ⟨l, rfl⟩
    · exact h y m
    · have := h _ (getD_mem l (d := 0))
      dsimp only at l this ⊢
      omega
theorem ld_nn {D : DD} : ∀ (ls : List Str) (pl : List Int), (∀ y ∈ pl, 0 ≤ y) → ∀ y ∈ ldPl D ls pl, 0 ≤ y
  | [], pl, h => h
  | s :: r, pl, h => by
    refine ld_nn r _ fun y hy => ?_
    rcases putAt_mem hy with m | ⟨l, rfl⟩
    · exact h y m
    · have := h _ (getD_mem l (d := 0))
      omega
theorem first_fits {D : DD} {cs : List Int} (h : ∀ y ∈ cs, 0 ≤ y) : Fits D.st.length (firstPl D cs) := by
  refine ⟨(ldPl_len ..).trans (inPl_len ..), ld_nn _ _ (in_nn D.st.length _ _ _ (fun y hy => ?_) h)⟩
  rw [List.eq_of_mem_replicate hy]
  exact Int.le_refl _
theorem le_sum : ∀ {l : List Int}, (∀ y ∈ l, 0 ≤ y) → ∀ i, l.getD i 0 ≤ l.sum ∧ 0 ≤ l.sum
  | [], _, i => by simp
  | a :: r, h, i => by
    have a0 := h a (List.mem_cons_self ..)
    have ih := le_sum (l := r) fun y hy => h y (List.mem_cons_of_mem _ hy)
    rw [List.sum_cons]
    cases i with
    | zero =>
      have := (ih 0).2
      show a ≤ _ ∧ _
      omega
    | succ i =>
      have := ih i
      show r.getD i 0 ≤ _ ∧ _
      omega
theorem le_sum2 : ∀ {l : List Int}, (∀ y ∈ l, 0 ≤ y) → ∀ i j, i ≠ j → l.getD i 0 + l.getD j 0 ≤ l.sum
  | [], _, i, j, _ => by simp
  | a :: r, h, i, j, ne => by
    have a0 := h a (List.mem_cons_self ..)
    have hr : ∀ y ∈ r, 0 ≤ y := fun y hy => h y (List.mem_cons_of_mem _ hy)
    rw [List.sum_cons]
    cases i with
    | zero =>
      cases j with
      | zero => exact absurd rfl ne
      | succ j =>
        have := (le_sum hr j).1
        show a + r.getD j 0 ≤ _
        omega
    | succ i =>
      cases j with
      | zero =>
        have := (le_sum hr i).1
        show r.getD i 0 + a ≤ _
        omega
      | succ j =>
        have := le_sum2 hr i j (fun e => ne (by rw [e]))
        show r.getD i 0 + r.getD j 0 ≤ _
        omega
/-- fewer than two agents do not meet -/
theorem canMeet_two {ns : List Int} {m : Int × Int} (h : ∀ y ∈ ns, 0 ≤ y) (c : canMeet ns m = true) : 2 ≤ ns.sum := by
  have r := canMeet_in c
  unfold canMeet at c
  split at c
  · cases c
  · split at c
    · rw [decide_eq_true_eq] at c
      have := (le_sum h m.1.toNat).1
      omega
    · rename_i ne
      rw [Bool.and_eq_true, decide_eq_true_eq, decide_eq_true_eq] at c
      have := le_sum2 h m.1.toNat m.2.toNat (fun e => ne (by obtain ⟨a, _, b, _⟩ := r; omega))
      omega
theorem nextL_all {f : Int × Int → Int × Int} {ns : List Int} {m : Int × Int} (ne : movePl ns m (f m) ≠ ns) : ∀ {ms : List (Int × Int)}, m ∈ ms → movePl ns m (f m) ∈ (nextL f ns ms).map Prod.fst := by
  have keep : ∀ (ms : List (Int × Int)) (acc : List (List Int × (Int × Int))) (z : List Int), z ∈ acc.map Prod.fst → z ∈ (ms.foldl (nextS f ns) acc).map Prod.fst := by
    intro ms
    induction ms with
    | nil => intro acc z h; exact h
    | cons a r ih =>
      intro acc z h
      rw [List.foldl_cons]
      refine ih _ _ ?_
      unfold nextS
      split
      · exact h
      · rw [List.map_append]
        exact List.mem_append_left _ h
  have go : ∀ (ms : List (Int × Int)) (acc : List (List Int × (Int × Int))), m ∈ ms → movePl ns m (f m) ∈ (ms.foldl (nextS f ns) acc).map Prod.fst := by
    intro ms
    induction ms with
    | nil => intro acc h; simp at h
    | cons a r ih =>
      intro acc h
      rw [List.foldl_cons]
      rcases List.mem_cons.mp h with rfl | h
      · refine keep _ _ _ ?_
        unfold nextS
        split
        · rename_i c
          rcases c with c | c
          · exact absurd c ne
          · exact c
        · rw [List.map_append]
          exact List.mem_append_right _ (by simp)
      · exact ih _ h
  intro ms h
  exact go ms [] h
theorem goPl_snoc {f : Int × Int → Int × Int} {m : Int × Int} {cur : List Int} (c : canMeet cur m = true) : ∀ {ms : List (Int × Int)} {k : Nat} {pl : List Int}, goPl f k ms pl = .inr cur → goPl f k (ms ++ [m]) pl = .inr (movePl cur m (f m))
  | [], k, pl, h => by
    have e : pl = cur := Sum.inr.inj h
    subst e
    show (if canMeet pl m = true then goPl f (k + 1) [] (movePl pl m (f m)) else .inl k) = _
    rw [if_pos c]
    rfl
  | a :: r, k, pl, h => by
    have h' : (if canMeet pl a = true then goPl f (k + 1) r (movePl pl a (f a)) else .inl k) = Sum.inr cur := h
    show (if canMeet pl a = true then goPl f (k + 1) (r ++ [m]) (movePl pl a (f a)) else .inl k) = _
    by_cases ca : canMeet pl a = true
    · rw [if_pos ca] at h' ⊢
      exact goPl_snoc c h'
    · rw [if_neg ca] at h'
      cases h'
theorem pairs_nil {ms : List (Int × Int)} : PyData.eqv (.list (ms.map fun m => PyData.tuple [.int m.1, .int m.2])) (.list []) = decide (ms = []) := by
  cases ms with
  | nil => simp [PyData.eqv, PyData.eqvAll]
  | cons a r => simp [PyData.eqv, PyData.eqvAll]
end Vf

namespace Vf
open PySem PySem.W L2
/-! ### == of texts, pairs of texts, rules -/
def rEqP (K : PySem.W.Frag) (neg : Bool) : R2 := fun x y H Q => ∃ d e, Dp K H x d ∧ Dp K H y e ∧ (d.plain = true ∧ d.depth ≤ 64) ∧ (e.plain = true ∧ e.depth ≤ 64) ∧ Q (.bl (if neg then !PyData.eqv d e else PyData.eqv d e)) H
theorem op_eqP {X : Cx} (hu : X.A.units + 64 < cLine) : OpR X (compareOp .Eq) (rEqP X.K false) := by
  rintro pins s σ H x y v u Q I rx ry ⟨d, e, hd, he, ⟨pd, dd⟩, ⟨pe, _⟩, q⟩
  obtain ⟨_, r1⟩ := Dp.reads I d x v hd rx
  obtain ⟨_, r2⟩ := Dp.reads I e y u he ry
  exact SeqAt.eq_plain r1 r2 pd pe (by omega) ⟨.bl _, H, I, rfl, q⟩
theorem op_neP {X : Cx} (hu : X.A.units + 64 < cLine) : OpR X (compareOp .NotEq) (rEqP X.K true) := by
  rintro pins s σ H x y v u Q I rx ry ⟨d, e, hd, he, ⟨pd, dd⟩, ⟨pe, _⟩, q⟩
  obtain ⟨_, r1⟩ := Dp.reads I d x v hd rx
  obtain ⟨_, r2⟩ := Dp.reads I e y u he ry
  exact SeqAt.ne_plain r1 r2 pd pe (by omega) ⟨.bl _, H, I, rfl, q⟩
theorem datum_pl {α : Type} [DecidableEq α] [Datum α] (a : α) (h : Datum.depth α ≤ 64) : (Datum.toD a).plain = true ∧ (Datum.toD a).depth ≤ 64 := ⟨Datum.plain a, Nat.le_trans (Datum.depth_le a) h⟩
theorem dpAll_of {α : Type} {K : PySem.W.Frag} {H : Hp} {f : α → V} {g : α → PyData} (h : ∀ a, Dp K H (f a) (g a)) : ∀ l : List α, DpAll K H (l.map f) (l.map g)
  | [] => .nil
  | a :: r => .cons (h a) (dpAll_of h r)
end Vf

/-! ### dicts whose keys are tuples: {k: v}, and a comprehension -/
namespace Vf
open PySem PySem.Spec PyProof.Rows L2
abbrev emptyD : Obj := { cls := .type "dict", data := .dict #[] }
theorem d_dictSetT {X : Cx} {pins : List (Addr × Obj)} {σ : L2.St} {H : Hp} {s : Shared} {E : Value → Shared → Prop} {D b : Addr} {kvs : List (List Key × V)} {k : List Key} {v : V} {u r : Value} {Q : Unit → Shared → Prop} (hu : X.A.units + 1 < cLine) (I : Inv X pins σ H s)
    (hD : H D = some (.dT kvs)) (hz : kvs.length < sizeLine) (ry : RelV (.ref b) u) (eb : H b = some (.tup (k.map kV))) (rv : RelV v r) (h : ∀ s', Inv X pins σ (upd H D (.dT (putK kvs k v))) s' → Q () s') : wpAny (model X.prog X.w) X.A (dictSet D u r) Q E s := by
  obtain rfl : u = Value.ref b := ry
  obtain ⟨z, hd, xs, rel, dd⟩ := dt_of I.hok hD
  have xl : xs.length ≤ sizeLine := by
    rw [← Paired.length rel]
    exact z
  have pl : (putK kvs k v).length ≤ sizeLine := by
    have := length_putK kvs k v
    omega
  refine wpAny_dictSet_heap (hsz := xl) (show X.A.units < cLine by omega) (key_of I.hok eb) dd fun h' dd' hs => h _ ?_
  obtain ⟨q, es, ep, hq, h2, h3, h4, _, h5⟩ := dd'
  refine d_write I (by rw [hD]; trivial) hs ⟨q, hq⟩ ⟨pl, hd, _, (rel.put k eb rv).keeps fun c ys ec => ?_, q, es, ep, hq, h2, h3, h4, h5⟩
  rw [upd_ne (ne_of ec hD nofun)]
  exact ec
def tDcT (wi : TI) (g : TG) (tt : TT) (tk tv : TE) (vs : List Nat) : TE := fun σ H Q => wi σ H fun J H1 => ∀ D, H1 D = none → ∃ W : Nat → Nat → Hp → Prop, (∃ m, W 0 m (upd H1 D (.dT []))) ∧ ∀ i m H, W i m H →
  ((J.stop i H ∧ Q (.ref D) H) ∨ (J.go i H ∧ ∃ Nx : Hp → Prop, (∀ H', Nx H' → ∃ m', m' < m ∧ W (i + 1) m' H') ∧ ∀ x H', J.yld i H x H' → g x (wipe σ vs) H' fun σ2 H2 => wipe σ2 vs = wipe σ vs ∧ tt σ2 H2 fun b H3 =>
    if b = true then tk σ2 H3 fun y H4 => tv σ2 H4 fun z H5 => ∃ (kvs : List (List Key × V)) (k : List Key) (t : Addr), y = .ref t ∧ H5 t = some (.tup (k.map kV)) ∧ H5 D = some (.dT kvs) ∧ kvs.length < sizeLine ∧ Nx (upd H5 D (.dT (putK kvs k z))) else Nx H3))
section
variable {X : Cx}
theorem pe_dcT {kx vx tg iter : Expr} {ifs : List Expr} {scope : Scope} {own : List (Str × Nat)} {pos : Pos} {wi : TI} {g : TG} {tt : TT} {tk te : TE} (hu : X.A.units + 1 < cLine) (hc : X.calm = true) (hN : X.N.Nodup) (hi : PI X tg iter wi) (ok : BlkOk X.N X.env.scope scope own)
    (hg : ∀ (s : Shared) (H : Hp) (C : Addr) (cl : List (Str × Addr)) (fp : List Addr), PG (X.blk s H scope (compEnvC scope cl C X.env) fp) tg g)
    (ht : ∀ (s : Shared) (H : Hp) (C : Addr) (cl : List (Str × Addr)) (fp : List Addr), PTs (X.blk s H scope (compEnvC scope cl C X.env) fp) ifs tt)
    (hk : ∀ (s : Shared) (H : Hp) (C : Addr) (cl : List (Str × Addr)) (fp : List Addr), PE (X.blk s H scope (compEnvC scope cl C X.env) fp) kx tk)
    (he : ∀ (s : Shared) (H : Hp) (C : Addr) (cl : List (Str × Addr)) (fp : List Addr), PE (X.blk s H scope (compEnvC scope cl C X.env) fp) vx te)
    (hs : ∀ x, foldedSetIterable iter X.env x = pure x := by intro _; rfl) : PE X (.DictComp kx vx [⟨tg, iter, ifs, 0⟩] scope pos) (tDcT wi g tt tk te (own.map (·.2))) := by
  constructor
  intro pins s σ H Q I h
  rw [arm_eval_DictComp]
  have free : ∀ y ∈ scope.names, y.2 = .free → ∃ c, X.env.cells.lookup y.1 = some c := fun y hy e => I.ok.has _ (by exact ok.free y hy e)
  refine wpAny_comprehension_free (use := none) rfl hs (closure_ok free) ok.kind (fun y hy e => by rw [ok.uniq y hy, e]) (thn (hi.run pins s σ H _ I h) fun xv s1 hx => thn hx fun itv s2 got => ?_)
  obtain ⟨it, fp, tn, J, H2, rfl, I2, T, st2, f2, q⟩ := got
  refine wpAny_newObj_type (newEnv_comp ?_)
  obtain ⟨D, hD⟩ : ∃ D, D = s2.heap.objs.size := ⟨_, rfl⟩
  obtain ⟨W, ⟨m0, w0⟩, turn⟩ := q D (I2.hok.fresh (Nat.le_of_eq hD.symm))
  rw [← hD]
  obtain ⟨s3, es3⟩ : ∃ s3 : Shared, s3 = { s2 with heap := s2.heap.push emptyD } := ⟨_, rfl⟩
  have h3 : s3.heap = s2.heap.push emptyD := by rw [es3]
  have I3 : Inv X pins σ (upd H2 D (.dT [])) s3 := by
    rw [es3]
    refine I2.laid (t' := s2.toks) (fun b o e => Heap.get?_push_of_some _ e) (Nat.le_of_eq hD.symm) ?_
    have fr := dt_empty (P := X.prog) (w := X.w) (H := upd H2 D (.dT [])) s2.heap I2.big
    rw [← hD] at fr
    exact fr
  have below : ∀ b ∈ fp, b < s2.heap.objs.size := fun b hb => Heap.lt_size (T.obj _ _ st2 b hb).choose_spec.1
  have f3 : ∀ b ∈ fp, FpOk X pins (upd H2 D (.dT [])) b ∧ b < s3.heap.objs.size := fun b hb => by
    have lt := below b hb
    have ne : b ≠ D := by rw [hD]; exact Nat.ne_of_lt lt
    refine ⟨⟨?_, (f2 b hb).2⟩, ?_⟩
    · rw [upd_ne ne]
      exact (f2 b hb).1
    · rw [h3, Heap.size_push]
      exact Nat.lt_succ_of_lt lt
  have st3 : tn 0 s3.heap := T.keep _ _ _ st2 fun b _ o e => by rw [h3]; exact Heap.get?_push_of_some _ e
  have I4 := block_start I3 ok hN f3
  have pg := hg s3 (upd H2 D (.dT [])) s3.heap.objs.size (cellsFrom (s3.heap.objs.size + 1) scope.names (cloFrom X.env.cells scope.names [])) fp
  have pt := ht s3 (upd H2 D (.dT [])) s3.heap.objs.size (cellsFrom (s3.heap.objs.size + 1) scope.names (cloFrom X.env.cells scope.names [])) fp
  have pk := hk s3 (upd H2 D (.dT [])) s3.heap.objs.size (cellsFrom (s3.heap.objs.size + 1) scope.names (cloFrom X.env.cells scope.names [])) fp
  have pe := he s3 (upd H2 D (.dT [])) s3.heap.objs.size (cellsFrom (s3.heap.objs.size + 1) scope.names (cloFrom X.env.cells scope.names [])) fp
  have done : ∀ (s' : Shared) (m : Str → Option Value) (H' : Hp), Inv X pins σ H' s' → Q (.ref D) H' → s'.heap.Ns s3.heap.objs.size m → FpOk X pins H' s3.heap.objs.size → compPost (model X.prog X.w) X.A X.xe none (EP X pins σ Q) (.ref D) s3.heap.objs.size (.ok .next) s' := fun s' m H' I' qq hn f => ⟨m, hn, fun h'' sb => by
    obtain ⟨a0, a1, a2, a3, a4, a5⟩ := f
    exact ⟨.ref D, H', I'.turned (t' := s'.toks) (fun b o hb e => (sb.2 b hb).trans e) a0 a1 a3 a4 a5, rfl, qq⟩⟩
  have fin0 : ∀ {s4 : Shared} {ce : Env}, ce = compEnvC scope (cellsFrom (s3.heap.objs.size + 1) scope.names (cloFrom X.env.cells scope.names [])) s3.heap.objs.size X.env →
      s4 = { s3 with heap := pushCells (s3.heap.push { cls := .type "dict", data := .dict #[] }) scope.names } → codeAny (model X.prog X.w) X.A (.compStart (.DictComp kx vx [⟨tg, iter, ifs, 0⟩] scope pos) 0 (.ref it) (.ref D) ce) (compPost (model X.prog X.w) X.A X.xe none (EP X pins σ Q) (.ref D) s3.heap.objs.size) s4 := by
    intro s4 ce ece es4
    rw [← ece] at I4 pg pt pk pe
    rw [← es4] at I4
    have cL : ce.locals = s3.heap.objs.size := by rw [ece]; rfl
    have st4 : tn 0 s4.heap := T.keep _ _ _ st3 fun b _ o e => by rw [es4]; exact pushCells_keeps _ _ _ _ (Heap.get?_push_of_some _ e)
    have un : ∀ b ∈ fp, (upd H2 D (.dT [])) b = none := fun b hb => (f3 b hb).1.1
    generalize upd H2 D (.dT []) = H3 at I3 I4 pg pt pk pe w0 un f3
    have stat : ∀ {σ' : L2.St} {H' : Hp} {s' : Shared}, Inv (X.blk s3 H3 scope ce fp) [] σ' H' s' → (∀ b ∈ fp, H' b = none) → ∀ b ∈ fp, FpOk (X.blk s3 H3 scope ce fp) [] H' b := fun {σ' H' s'} I' hn b hb => by
      refine ⟨hn b hb, (I'.ok.exf b hb).1, I'.ok.exfs b hb, .inl hb, fun x c e => (I'.ok.exf b hb).2 x c e, fun p hp => ?_⟩
      simp at hp
    have loop : codeAny (model X.prog X.w) X.A (.compLoop (.DictComp kx vx [⟨tg, iter, ifs, 0⟩] scope pos) 0 (.ref it) (.ref D) ce) (compPost (model X.prog X.w) X.A X.xe none (EP X pins σ Q) (.ref D) s3.heap.objs.size) s4 := by
      refine compLoop_anyD (fun n s' => ∃ i H', Inv (X.blk s3 H3 scope ce fp) [] (wipe σ (own.map (·.2))) H' s' ∧ tn i s'.heap ∧ (∀ b ∈ fp, H' b = none) ∧ W i n H') (fun n s5 hI => ?_) m0 ⟨0, H3, I4, st4, un, w0⟩
      obtain ⟨i, H5, I5, st5, n5, w5⟩ := hI
      rcases turn i n H5 w5 with ⟨stop, qq⟩ | ⟨go, Nx, hNx, step⟩
      · refine thnF (T.done (X.blk s3 H3 scope ce fp) rfl rfl rfl hc i [] s5 _ H5 (fun _ _ => False) I5 (stat I5 n5) st5 stop) fun r s6 ⟨hr, I6⟩ => ?_
        subst hr
        have I7 : Inv X pins σ H5 s6 := I3.call' (ch := fp) I6.os I6.base I6.hok I6.bare fun b hb => ⟨(f3 b hb).1.2.2.2.1, (f3 b hb).1.2.1, (f3 b hb).1.2.2.2.2.1, (f3 b hb).1.2.2.2.2.2⟩
        obtain ⟨m, hn, _⟩ := I6.loc
        have fr : H5 ce.locals = none := I6.free
        have hn : s6.heap.Ns ce.locals m := hn
        rw [cL] at hn fr
        exact done s6 m H5 I7 qq hn (I3.fpOk (Nat.le_refl _) fr)
      · refine thnF (T.item (X.blk s3 H3 scope ce fp) rfl rfl rfl hc i [] s5 _ H5 (fun _ _ => False) I5 (stat I5 n5) st5 go) fun r s6 ⟨u, hr, h6⟩ => ?_
        subst hr
        refine thnF h6 fun _ s7 ⟨x, H7, I7, r7, y7, st7, n7⟩ => ?_
        have I8 := I7.pinned (stat I7 n7) (T.obj _ _ st7)
        refine thnF (pg.run _ s7 _ H7 x u _ I8 r7 (step x H7 y7)) fun _ s8 ⟨σ8, H8, I9, hw8, q8⟩ => ?_
        refine thnF (pt.run _ s8 σ8 H8 _ I9 q8) fun b s9 ⟨H9, I10, q9⟩ => ?_
        have next : ∀ {s' : Shared} {H' : Hp}, Inv (X.blk s3 H3 scope ce fp) ([] ++ pinsAt fp s7.heap) σ8 H' s' → Nx H' → ∃ m, m < n ∧ ∃ i H', Inv (X.blk s3 H3 scope ce fp) [] (wipe σ (own.map (·.2))) H' s' ∧ tn i s'.heap ∧ (∀ b ∈ fp, H' b = none) ∧ W i m H' := fun {s' H'} I' nx => by
          obtain ⟨m', hm, w'⟩ := hNx H' nx
          have held : ∀ b ∈ fp, ∀ o, s7.heap.get? b = some o → s'.heap.get? b = some o ∧ H' b = none := fun b hb o e => by
            have zz := I'.pin (b, o) (List.mem_append_right _ (List.mem_append_right _ (mem_pinsAt hb e)))
            exact ⟨zz.1, zz.2.1⟩
          refine ⟨m', hm, i + 1, H', (I'.unpinned (pins := [])).weak (by rw [← hw8, wipe_length]) (fun j v e => ?_), T.keep _ _ _ st7 fun b hb o e => (held b hb o e).1, fun b hb => ?_, w'⟩
          · rw [← hw8] at e
            exact (wipe_some e).1
          · obtain ⟨o, e, _⟩ := T.obj _ _ st7 b hb
            exact (held b hb o e).2
        cases b with
        | false =>
          simp only [Bool.false_eq_true, if_false] at q9 ⊢
          exact next I10 q9
        | true =>
          simp only [if_true] at q9 ⊢
          refine thnF (pk.run _ s9 σ8 H9 _ I10 q9) fun uk s10 ⟨yk, H10, I11, r10, q10⟩ => ?_
          refine thnF (pe.run _ s10 σ8 H10 _ I11 q10) fun uv s11 ⟨yv, H11, I12, r11, kvs, kk, b, ek, eb, hD11, hz, nx⟩ => ?_
          subst ek
          exact d_dictSetT (X := X.blk s3 H3 scope ce fp) hu I12 hD11 hz r10 eb r11 fun s12 I13 => next I13 nx
    exact codeAny_compStart_dict loop (T.self X.A 0 _ _ _ st4 loop)
  have last := fin0 rfl rfl
  subst es3
  exact last
end
/-- {k: v}, k a tuple; the new dict stands empty while the two are made -/
def tDT1 (tk tv : TE) : TE := fun σ H Q => ∀ p, H p = none → tk σ (upd H p (.dT [])) fun x H1 => tv σ H1 fun y H2 => ∃ (b : Addr) (k : List Key), x = .ref b ∧ H2 b = some (.tup (k.map kV)) ∧ H2 p = some (.dT []) ∧ Q (.ref p) (upd H2 p (.dT (putK [] k y)))
theorem pe_dispT {X : Cx} {ke ve : Expr} {pos : Pos} {tk tv : TE} (hu : X.A.units + 1 < cLine) (hk : PE X ke tk) (hv : PE X ve tv) : PE X (.Dict [some ke] [ve] pos) (tDT1 tk tv) := by
  constructor
  intro pins s σ H Q I q
  have fr := I.hok.fresh (Nat.le_refl s.heap.objs.size)
  have I0 := I.laid (a := s.heap.objs.size) (o := .dT []) (h' := s.heap.push emptyD) (t' := s.toks) (fun _ _ z => Heap.get?_push_of_some _ z) (Nat.le_refl _) (dt_empty s.heap I.big)
  rw [arm_eval_Dict, zip_pairTrees [some ke] [ve] X.env pos rfl rfl, dictDisplay_pairs _ (by simp [pairTrees]) (by simp [pairTrees])]
  refine wpAny_bind (wpAny_standAt (wpAny_bind ?_))
  unfold subDict
  refine wpAny_bind (wpAny_alloc (wpAny_bind (wpAny_holding ?_)))
  rw [if_pos (by simp [pairTrees])]
  refine wpAny_bind (pairTrees_cons_walk (thn (hk.run pins _ σ _ _ I0 (q _ fr)) fun ku s1 got => ?_))
  obtain ⟨x, H1, I1, rx, q1⟩ := got
  refine thn (hv.run pins s1 σ H1 _ I1 q1) fun vu s2 got => pairTrees_nil_walk ?_
  obtain ⟨y, H2, I2, ry, b, k, rfl, eb, hp, q2⟩ := got
  refine wpAny_holding ?_
  rw [List.forIn_cons]
  refine wpAny_bind (wpAny_bind (wpAny_bind (d_dictSetT hu I2 hp (by decide) rx eb ry fun s3 I3 => wpAny_pure ?_)))
  show wpAny _ _ (forIn [] PUnit.unit _) _ _ s3
  rw [List.forIn_nil]
  exact wpAny_pure (wpAny_pure (wpAny_pure (wpAny_pure ⟨.ref s.heap.objs.size, _, I3, rfl, q2⟩)))
/-- a def called with its last arguments by name -/
def kwG {α : Type} (n m : Nat) (us ws : List α) : List α := if us.length = n ∧ ws.length = m then us ++ ws else []
def KB (K : PySem.W.Frag) (fd : FuncData) (ps ks : List Str) (n m : Nat) : Prop := KBinds K fd ps ks (kwG n m) (kwG n m)
theorem kbinds {K : PySem.W.Frag} {x qual : Str} {st : Stmt} {f : Addr} {fd : FuncData} {ps ks : List Str} {n m : Nat} (F : Fun K x qual st f fd) (hp : ps ≠ [])
    (h : ∀ (kV doc pm : Value) (an : Option Addr) (cdv ct : Value) (us ws : List Value), us.length = n → ws.length = m → bindArgs (PySem.W.fnOf x qual (defArgs st) (defBody st) (defScope st) .none kV doc pm an cdv ct) ⟨us, ks.zip ws⟩ = pure (ps.zip (us ++ ws))) : KB K fd ps ks n m := by
  obtain ⟨oc, od, kV, doc, pm, an, cdv, ct, osl, rfl, lk, hcd⟩ := F.ex
  constructor
  · intro s us ws _ hl
    unfold kwG at hl ⊢
    by_cases c : us.length = n ∧ ws.length = m
    · rw [if_pos c]
      exact .of_eq (h kV doc pm an cdv ct us ws c.1 c.2)
    · rw [if_neg c] at hl
      exact absurd (List.length_eq_zero_iff.mp hl.symm) hp
  · intro vs us zs ws r1 r2
    unfold kwG
    rw [r1.length, r2.length]
    by_cases c : us.length = n ∧ ws.length = m
    · rw [if_pos c, if_pos c]
      exact Vals.append r1 r2
    · rw [if_neg c, if_neg c]
      exact .nil
end Vf
namespace Vf
open PySem PySem.Spec PyProof.Rows L2
/-- a def as it stands, with one keyword-only parameter y whose default is the number n -/
def FunKw (K : PySem.W.Frag) (x qual : Str) (st : Stmt) (f : Addr) (y : Str) (n : Int) : Prop :=
  ∃ (oc : Value) (od : Option Addr) (D : Addr) (t : Tok) (doc pm : Value) (an : Option Addr) (cdv ct : Value) (osl : Array (Option Value)),
    K.lookup f = some ⟨oc, od, .func (PySem.W.fnOf x qual (defArgs st) (defBody st) (defScope st) .none (.ref D) doc pm an cdv ct), osl⟩ ∧ PySem.W.codeIn K cdv qual = true ∧ PySem.W.keepIn K (.ref f) = true ∧ PySem.W.nsIn K D y = some (some (.int n t))
def KwN (K : PySem.W.Frag) (fd : FuncData) (y : Str) (n : Int) : Prop := ∃ (D : Addr) (t : Tok), fd.kwdefaults = .ref D ∧ PySem.W.nsIn K D y = some (some (.int n t))
theorem FunKw.get {K : PySem.W.Frag} {x qual : Str} {st : Stmt} {f : Addr} {y : Str} {n : Int} (h : FunKw K x qual st f y n) : ∃ fd, Fun K x qual st f fd ∧ KwN K fd y n := by
  obtain ⟨oc, od, D, t, doc, pm, an, cdv, ct, osl, h1, h2, h3, h4⟩ := h
  exact ⟨_, fun_mk h1 h2 h3, D, t, rfl, h4⟩
/-- called without it -/
theorem kwDef {K : PySem.W.Frag} {x qual : Str} {st : Stmt} {f : Addr} {fd : FuncData} {y : Str} {n : Int} {ps : List Str} (m : Nat) (F : Fun K x qual st f fd) (hk : KwN K fd y n) (hm : ps.length = m + 1)
    (h : ∀ (D : Addr) (doc pm : Value) (an : Option Addr) (cdv ct : Value) (us : List Value) (u : Value), us.length = m → KwChain D [(y, u)] (bindArgs (PySem.W.fnOf x qual (defArgs st) (defBody st) (defScope st) .none (.ref D) doc pm an cdv ct) ⟨us, []⟩) (ps.zip (us ++ [u]))) :
    ∃ ds, Vals [.int n] ds ∧ Binds K fd ps ds := by
  obtain ⟨oc, od, kV, doc, pm, an, cdv, ct, osl, rfl, lk, hcd⟩ := F.ex
  obtain ⟨D, t, e, hn⟩ := hk
  have e : kV = .ref D := e
  subst e
  refine ⟨[.int n t], .cons ⟨_, rfl⟩ .nil, fun s us X hl => BindsTo.of_looks fun M => KwChain.looks X (fun q hq => ?_) (h D doc pm an cdv ct us (.int n t) ?_)⟩
  · rw [List.mem_singleton.mp hq]
    exact hn
  · rw [List.length_append, hm] at hl
    exact Nat.succ.inj hl
end Vf
namespace Vf
open PySem L2
section
variable {J : It} {n : Nat} {G : Hp → Prop} {Y : Nat → Hp → V → Hp → Prop}
theorem dcT_it (w : Walk J n G Y) {g : TG} {tt : TT} {tk te : TE} {vs : List Nat} {σ : L2.St} {H1 : Hp} {D : Addr} {Qd : Hp → Prop} (Pv : Nat → Hp → Prop) (h0 : Pv 0 (upd H1 D (.dT []))) (hG : ∀ i H, i ≤ n → Pv i H → G H)
    (hs : ∀ i x H H', i < n → Pv i H → Y i H x H' → g x (wipe σ vs) H' fun σ2 H2 => wipe σ2 vs = wipe σ vs ∧ tt σ2 H2 fun b H3 =>
      if b = true then tk σ2 H3 fun y H4 => te σ2 H4 fun z H5 => ∃ (kvs : List (List Key × V)) (k : List Key) (t : Addr), y = .ref t ∧ H5 t = some (.tup (k.map kV)) ∧ H5 D = some (.dT kvs) ∧ kvs.length < sizeLine ∧ Pv (i + 1) (upd H5 D (.dT (putK kvs k z))) else Pv (i + 1) H3) (hd : ∀ H, Pv n H → Qd H) :
    ∃ W : Nat → Nat → Hp → Prop, (∃ m, W 0 m (upd H1 D (.dT []))) ∧ ∀ i m H, W i m H →
      (J.stop i H ∧ Qd H) ∨ (J.go i H ∧ ∃ Nx : Hp → Prop, (∀ H', Nx H' → ∃ m', m' < m ∧ W (i + 1) m' H') ∧ ∀ x H', J.yld i H x H' → g x (wipe σ vs) H' fun σ2 H2 => wipe σ2 vs = wipe σ vs ∧ tt σ2 H2 fun b H3 =>
        if b = true then tk σ2 H3 fun y H4 => te σ2 H4 fun z H5 => ∃ (kvs : List (List Key × V)) (k : List Key) (t : Addr), y = .ref t ∧ H5 t = some (.tup (k.map kV)) ∧ H5 D = some (.dT kvs) ∧ kvs.length < sizeLine ∧ Nx (upd H5 D (.dT (putK kvs k z))) else Nx H3) := by
  refine ⟨fun i m H => m = n - i ∧ i ≤ n ∧ Pv i H, ⟨n, by simp, Nat.zero_le _, h0⟩, ?_⟩
  rintro i m H ⟨rfl, hi, p⟩
  have q := hG i H hi p
  by_cases hlt : i < n
  · refine .inr ⟨w.goes i H hlt q, Pv (i + 1), fun H' p' => ⟨n - (i + 1), by omega, rfl, hlt, p'⟩, fun x H' y => hs i x H H' hlt p (w.yields i H x H' hlt q y)⟩
  · have e : i = n := by omega
    subst e
    exact .inl ⟨w.stops H q, hd H p⟩
end
end Vf

namespace Vf
open PySem L2
/-! ### the graph of the places that can be reached -/
abbrev NL := List (List Int × (Int × Int))
def nlOf (f : Int × Int → Int × Int) (x : List Int) : NL := nextL f x (prs x.length (cM f x))
/-- ascending -/
def codeLe (B : Int) (x y : List Int) : Bool := decide (TS.code B x ≤ TS.code B y)
def nxt (B : Int) (nl : NL) : List (List Int) := (nl.map Prod.fst).mergeSort (codeLe B)
theorem nxt_perm (B : Int) (nl : NL) : (nxt B nl).Perm (nl.map Prod.fst) := List.mergeSort_perm ..
theorem nxt_pw (B : Int) (nl : NL) : (nxt B nl).Pairwise (fun x y => TS.code B x ≤ TS.code B y) := by
  refine (List.pairwise_mergeSort (le := codeLe B) (fun a b c h1 h2 => ?_) (fun a b => ?_) _).imp fun {a b} h => ?_
  · unfold codeLe at *
    rw [decide_eq_true_eq] at *
    omega
  · unfold codeLe
    rw [Bool.or_eq_true, decide_eq_true_eq, decide_eq_true_eq]
    omega
  · unfold codeLe at h
    exact of_decide_eq_true h
theorem nxt_mem {B : Int} {nl : NL} {z : List Int} : z ∈ nxt B nl ↔ z ∈ nl.map Prod.fst := (nxt_perm B nl).mem_iff
theorem nxt_one {B : Int} {d : Nat} {nl : NL} {ws : List (List Int)} (p : ws.Perm (nl.map Prod.fst)) (hz : ∀ z ∈ nl.map Prod.fst, z.length = d ∧ TS.Bd B z) (h : ws.Pairwise (fun x y => TS.code B x ≤ TS.code B y)) : ws = nxt B nl :=
  sort_one (d := d) (p.trans (nxt_perm B nl).symm) (fun z hz' => hz z (nxt_mem.mp hz')) h (nxt_pw B nl)
/-- the meeting that leads there -/
def mOf (nl : NL) (w : List Int) : Int × Int := (nl.map Prod.snd).getD ((nl.map Prod.fst).idxOf w) (0, 0)
abbrev Og := Option (Int × (Int × Int))
structure BF where
  ps : List (List Int)
  og : List Og
  rows : List (List Int)
def addF (lim : Nat) (h : Int) (nl : NL) : List (List Int) → List (List Int) → List Og → Option (List (List Int) × List Og)
  | [], ps, og => some (ps, og)
  | w :: ws, ps, og => if w ∈ ps then addF lim h nl ws ps og else if ps.length = lim then none else addF lim h nl ws (ps ++ [w]) (og ++ [some (h, mOf nl w)])
def iLe (x y : Int) : Bool := decide (x ≤ y)
def sortI (l : List Int) : List Int := l.mergeSort iLe
theorem sortI_perm (l : List Int) : (sortI l).Perm l := List.mergeSort_perm ..
theorem sortI_pw (l : List Int) : (sortI l).Pairwise (· ≤ ·) := by
  refine (List.pairwise_mergeSort (le := iLe) (fun a b c h1 h2 => ?_) (fun a b => ?_) _).imp fun {a b} h => ?_
  · unfold iLe at *
    rw [decide_eq_true_eq] at *
    omega
  · unfold iLe
    rw [Bool.or_eq_true, decide_eq_true_eq, decide_eq_true_eq]
    omega
  · unfold iLe at h
    exact of_decide_eq_true h
theorem sortI_one {l z : List Int} (p : z.Perm l) (h : z.Pairwise (· ≤ ·)) : z = sortI l := (p.trans (sortI_perm l).symm).eq_of_pairwise (fun _ _ _ _ a b => Int.le_antisymm a b) h (sortI_pw l)
theorem sortI_congr {l z : List Int} (p : z.Perm l) : sortI z = sortI l := sortI_one ((sortI_perm z).trans p) (sortI_pw z)
def ixP (ps : List (List Int)) (w : List Int) : Int := (ps.idxOf w : Nat)
def rowF (ps : List (List Int)) (ws : List (List Int)) : List Int := sortI (ws.map (ixP ps))
def bfs (f : Int × Int → Int × Int) (B : Int) (lim : Nat) : Nat → BF → Option BF
  | 0, s => some s
  | k + 1, s => match s.ps[s.rows.length]? with
    | none => some s
    | some x => match addF lim (s.rows.length : Nat) (nlOf f x) (nxt B (nlOf f x)) s.ps s.og with
      | none => none
      | some po => bfs f B lim k ⟨po.1, po.2, s.rows ++ [rowF po.1 ((nlOf f x).map Prod.fst)]⟩
def bf0 (x : List Int) : BF := ⟨[x], [none], []⟩
def bfsAll (f : Int × Int → Int × Int) (B : Int) (lim : Nat) (x : List Int) : Option BF := bfs f B lim lim (bf0 x)
section
variable {f : Int × Int → Int × Int} {B : Int} {lim k : Nat} {s : BF}
theorem bfs_end (h : s.ps.length ≤ s.rows.length) : bfs f B lim k s = some s := by
  cases k with
  | zero => rfl
  | succ k =>
    unfold bfs
    rw [List.getElem?_eq_none h]
theorem bfs_step {x : List Int} {po : List (List Int) × List Og} (h : s.ps[s.rows.length]? = some x) (h2 : addF lim (s.rows.length : Nat) (nlOf f x) (nxt B (nlOf f x)) s.ps s.og = some po) :
    bfs f B lim (k + 1) s = bfs f B lim k ⟨po.1, po.2, s.rows ++ [rowF po.1 ((nlOf f x).map Prod.fst)]⟩ := by
  rw [bfs, h]
  dsimp only
  rw [h2]
theorem bfs_stop {x : List Int} (h : s.ps[s.rows.length]? = some x) (h2 : addF lim (s.rows.length : Nat) (nlOf f x) (nxt B (nlOf f x)) s.ps s.og = none) : bfs f B lim (k + 1) s = none := by
  rw [bfs, h]
  dsimp only
  rw [h2]
/-! what it keeps -/
def In1 (ps ps' : List (List Int)) : Prop := ∃ r, ps' = ps ++ r
structure GInv (n : Nat) (tot : Int) (lim : Nat) (s : BF) : Prop where
  nd : s.ps.Nodup
  fit : ∀ x ∈ s.ps, Fits n x ∧ x.sum = tot
  ogl : s.og.length = s.ps.length
  rl : s.rows.length ≤ s.ps.length
  pl : s.ps.length ≤ lim
  rows : ∀ r ∈ s.rows, ∀ z ∈ r, 0 ≤ z ∧ z < (s.ps.length : Nat)
theorem nl_in {D : DD} (v : ValidN D) {n : Nat} {x : List Int} (hn : n = D.st.length) (h : Fits n x) {z : List Int} (hz : z ∈ (nlOf (fD D) x).map Prod.fst) : Fits n z ∧ z.sum = x.sum := by
  unfold nlOf at hz
  obtain ⟨m, hm, rfl⟩ := nextL_mem hz
  obtain ⟨hr, hc⟩ := prs_mem hm
  unfold cM at hc
  rw [Bool.and_eq_true] at hc
  exact ⟨move_fits h hc.2, move_sum hr (by rw [h.1, hn]; exact meetOf_in v (by rw [← hn, ← h.1]; exact hr))⟩
theorem addF_inv {h : Int} {nl : NL} {n : Nat} {tot : Int} : ∀ {ws ps : List (List Int)} {og : List Og} {po : List (List Int) × List Og}, addF lim h nl ws ps og = some po → (∀ w ∈ ws, Fits n w ∧ w.sum = tot) →
    ps.Nodup → (∀ x ∈ ps, Fits n x ∧ x.sum = tot) → og.length = ps.length → ps.length ≤ lim →
    po.1.Nodup ∧ (∀ x ∈ po.1, Fits n x ∧ x.sum = tot) ∧ po.2.length = po.1.length ∧ po.1.length ≤ lim ∧ In1 ps po.1 ∧ (∀ w ∈ ws, w ∈ po.1) ∧ ps.length ≤ po.1.length
  | [], ps, og, po, h, _, nd, ft, ol, pl => by
    have e : (ps, og) = po := Option.some.inj h
    subst e
    exact ⟨nd, ft, ol, pl, ⟨[], (List.append_nil _).symm⟩, fun w hw => by simp at hw, Nat.le_refl _⟩
  | w :: ws, ps, og, po, h, hw, nd, ft, ol, pl => by
    rw [addF] at h
    split at h
    · rename_i c
      obtain ⟨a1, a2, a3, a4, a5, a6, a7⟩ := addF_inv h (fun z hz => hw z (List.mem_cons_of_mem _ hz)) nd ft ol pl
      refine ⟨a1, a2, a3, a4, a5, fun z hz => ?_, a7⟩
      rcases List.mem_cons.mp hz with rfl | hz
      · obtain ⟨r, e⟩ := a5
        rw [e]
        exact List.mem_append_left _ c
      · exact a6 z hz
    · rename_i c
      split at h
      · cases h
      · rename_i c2
        obtain ⟨a1, a2, a3, a4, ⟨r, e⟩, a6, a7⟩ := addF_inv h (fun z hz => hw z (List.mem_cons_of_mem _ hz)) (by
          rw [List.nodup_append]
          exact ⟨nd, by simp, fun a ha b hb => by rw [List.mem_singleton.mp hb]; exact fun e => c (e ▸ ha)⟩) (fun x hx => by
          rcases List.mem_append.mp hx with hx | hx
          · exact ft x hx
          · rw [List.mem_singleton.mp hx]; exact hw w (List.mem_cons_self ..)) (by rw [List.length_append, List.length_append, ol]; rfl) (by rw [List.length_append]; show ps.length + 1 ≤ lim; omega)
        have e' : po.1 = ps ++ (w :: r) := by rw [e]; simp
        refine ⟨a1, a2, a3, a4, ⟨_, e'⟩, fun z hz => ?_, ?_⟩
        · rcases List.mem_cons.mp hz with rfl | hz
          · rw [e']; simp
          · exact a6 z hz
        · rw [List.length_append] at a7
          omega
theorem ixP_bd {ps : List (List Int)} {w : List Int} (h : w ∈ ps) : 0 ≤ ixP ps w ∧ ixP ps w < (ps.length : Nat) := by
  have := List.idxOf_lt_length_of_mem h
  unfold ixP
  omega
theorem GInv.zero {n : Nat} {x : List Int} (h : Fits n x) (hl : 1 ≤ lim) : GInv n x.sum lim (bf0 x) :=
  ⟨by simp [bf0], fun z hz => by rw [List.mem_singleton.mp hz]; exact ⟨h, rfl⟩, rfl, Nat.zero_le _, hl, fun r hr => by simp [bf0] at hr⟩
theorem GInv.next {D : DD} (v : ValidN D) {tot : Int} (g : GInv D.st.length tot lim s) {x : List Int} {po : List (List Int) × List Og} (h : s.ps[s.rows.length]? = some x) (h2 : addF lim (s.rows.length : Nat) (nlOf (fD D) x) (nxt B (nlOf (fD D) x)) s.ps s.og = some po) :
    GInv D.st.length tot lim ⟨po.1, po.2, s.rows ++ [rowF po.1 ((nlOf (fD D) x).map Prod.fst)]⟩ := by
  obtain ⟨fx, sx⟩ := g.fit x (List.mem_of_getElem? h)
  obtain ⟨a1, a2, a3, a4, ⟨r, a5⟩, a6, a7⟩ := addF_inv h2 (fun w hw => by
    obtain ⟨b1, b2⟩ := nl_in v rfl fx (nxt_mem.mp hw)
    exact ⟨b1, b2.trans sx⟩) g.nd g.fit g.ogl g.pl
  have lt := (List.getElem?_eq_some_iff.mp h).1
  refine ⟨a1, a2, a3, ?_, a4, fun q hq z hz => ?_⟩
  · show (s.rows ++ [_]).length ≤ po.1.length
    rw [List.length_append]
    show s.rows.length + 1 ≤ _
    omega
  · rcases List.mem_append.mp hq with hq | hq
    · have := g.rows q hq z hz
      show 0 ≤ z ∧ z < (po.1.length : Nat)
      omega
    · rw [List.mem_singleton.mp hq] at hz
      unfold rowF at hz
      rw [(sortI_perm _).mem_iff, List.mem_map] at hz
      obtain ⟨w, hw, rfl⟩ := hz
      exact ixP_bd (a6 w (nxt_mem.mpr hw))
theorem bfs_inv {D : DD} (v : ValidN D) {tot : Int} : ∀ {k : Nat} {s t : BF}, bfs (fD D) B lim k s = some t → GInv D.st.length tot lim s → lim - s.rows.length ≤ k → GInv D.st.length tot lim t ∧ t.rows.length = t.ps.length
  | 0, s, t, h, g, hk => by
    have e : s = t := Option.some.inj h
    subst e
    have := g.rl
    have := g.pl
    exact ⟨g, by omega⟩
  | k + 1, s, t, h, g, hk => by
    cases e : s.ps[s.rows.length]? with
    | none =>
      have le := List.getElem?_eq_none_iff.mp e
      rw [bfs_end le] at h
      have e : s = t := Option.some.inj h
      subst e
      have := g.rl
      exact ⟨g, by omega⟩
    | some x =>
      cases e2 : addF lim (s.rows.length : Nat) (nlOf (fD D) x) (nxt B (nlOf (fD D) x)) s.ps s.og with
      | none => rw [bfs_stop e e2] at h; cases h
      | some po =>
        rw [bfs_step e e2] at h
        exact bfs_inv v h (g.next v e e2) (by
          show lim - (s.rows ++ [_]).length ≤ k
          rw [List.length_append]
          show lim - (s.rows.length + 1) ≤ k
          omega)
end
/-! ### in the heap -/
/-- the numbers of places -/
def kNum (ps : List (List Int)) : List (List Key × V) := ps.zipIdx.map fun p => (keyI p.1, V.int (p.2 : Int))
theorem kNum_snoc (ps : List (List Int)) (w : List Int) : kNum (ps ++ [w]) = kNum ps ++ [(keyI w, V.int (ps.length : Int))] := by
  unfold kNum
  rw [List.zipIdx_append, List.map_append]
  simp
theorem kNum_len (ps : List (List Int)) : (kNum ps).length = ps.length := by
  unfold kNum
  simp
theorem kNum_from : ∀ (ps : List (List Int)) (n : Nat) (w : List Int), valV ((ps.zipIdx n).map fun p => (keyI p.1, V.int (p.2 : Int))) (keyI w) = if w ∈ ps then some (V.int ((n + ps.idxOf w : Nat) : Int)) else none
  | [], n, w => rfl
  | t :: ps, n, w => by
    rw [List.zipIdx_cons, List.map_cons]
    by_cases e : t = w
    · subst e
      rw [valV_pos rfl, if_pos List.mem_cons_self, List.idxOf_cons_self]
      rfl
    · rw [valV_neg (by intro z; exact e (keyI_inj z)), kNum_from ps (n + 1) w]
      have e' : (t == w) = false := by simpa using e
      by_cases hm : w ∈ ps
      · rw [if_pos hm, if_pos (List.mem_cons_of_mem _ hm), List.idxOf_cons, e']
        simp only [cond_false]
        congr 3
        omega
      · rw [if_neg hm, if_neg (by simp [hm, Ne.symm e])]
theorem kNum_val (ps : List (List Int)) (w : List Int) : valV (kNum ps) (keyI w) = if w ∈ ps then some (V.int (ixP ps w)) else none := by
  have h := kNum_from ps 0 w
  simpa [kNum, ixP] using h
theorem kNum_put {ps : List (List Int)} {w : List Int} (h : w ∉ ps) : putK (kNum ps) (keyI w) (V.int (ps.length : Int)) = kNum (ps ++ [w]) := by
  rw [putK_new _ (by rw [kNum_val, if_neg h]), kNum_snoc]
theorem PPI.at {H : Hp} {kvs : List (List Key × V)} {nl : NL} (p : PPI H kvs nl) (nd : (nl.map Prod.fst).Nodup) {w : List Int} (h : w ∈ nl.map Prod.fst) : ∃ t, valV kvs (keyI w) = some (.ref t) ∧ H t = some (.tup (encP (mOf nl w))) := by
  have lt := List.idxOf_lt_length_of_mem h
  have l2 : (nl.map Prod.fst).idxOf w < (nl.map Prod.snd).length := by rw [List.length_map] at lt ⊢; exact lt
  obtain ⟨t, h1, h2⟩ := p.vals.2 ((nl.map Prod.fst).idxOf w) _ (List.getElem?_eq_getElem l2)
  have k1 : (kvs.map (·.1))[(nl.map Prod.fst).idxOf w]? = some (keyI w) := by
    rw [p.keys, List.getElem?_map, List.getElem?_eq_getElem lt, List.getElem_idxOf]
    rfl
  refine ⟨t, ?_, ?_⟩
  · refine valV_at (n := (nl.map Prod.fst).idxOf w) ?_ ?_
    · have e : kvs.map Prod.fst = (nl.map Prod.fst).map keyI := p.keys
      rw [e]
      unfold List.Nodup
      rw [List.pairwise_map]
      exact nd.imp fun h e => h (keyI_inj e)
    · rw [List.getElem?_map] at h1 k1
      cases e : kvs[(nl.map Prod.fst).idxOf w]? with
      | none => rw [e] at h1; cases h1
      | some q =>
        rw [e] at h1 k1
        have a1 : q.2 = V.ref t := Option.some.inj h1
        have a2 : q.1 = keyI w := Option.some.inj k1
        rw [show q = (q.1, q.2) from rfl, a1, a2]
  · unfold mOf
    rw [List.getD_eq_getElem?_getD, List.getElem?_eq_getElem l2]
    exact h2
theorem nextL_nd (f : Int × Int → Int × Int) (ns : List Int) (ms : List (Int × Int)) : ((nextL f ns ms).map Prod.fst).Nodup := by
  have go : ∀ (ms : List (Int × Int)) (acc : NL), (acc.map Prod.fst).Nodup → ((ms.foldl (nextS f ns) acc).map Prod.fst).Nodup := by
    intro ms
    induction ms with
    | nil => intro acc h; exact h
    | cons m r ih =>
      intro acc h
      rw [List.foldl_cons]
      refine ih _ ?_
      unfold nextS
      split
      · exact h
      · rename_i c
        rw [List.map_append, List.nodup_append]
        exact ⟨h, by simp, fun a ha b hb => by
          have e : b = movePl ns m (f m) := by simpa using hb
          rw [e]
          exact fun e2 => c (.inr (e2 ▸ ha))⟩
  exact go ms [] (by simp)
def OgAt (H : Hp) (x : V) : Og → Prop
  | none => x = .non
  | some (h, m) => ∃ t u, x = .ref t ∧ H t = some (.tup [.int h, .ref u]) ∧ H u = some (.tup (encP m))
def Ogs (H : Hp) (xs : List V) (l : List Og) : Prop := xs.length = l.length ∧ ∀ (i : Nat) (o : Og), l[i]? = some o → ∃ x, xs[i]? = some x ∧ OgAt H x o
theorem OgAt.mono {H H' : Hp} {x : V} {o : Og} (h : OgAt H x o) (e : ∀ t ys, H t = some (.tup ys) → H' t = some (.tup ys)) : OgAt H' x o := by
  cases o with
  | none => exact h
  | some q =>
    obtain ⟨t, u, h1, h2, h3⟩ := h
    exact ⟨t, u, h1, e _ _ h2, e _ _ h3⟩
theorem Ogs.mono {H H' : Hp} {xs : List V} {l : List Og} (h : Ogs H xs l) (e : ∀ t ys, H t = some (.tup ys) → H' t = some (.tup ys)) : Ogs H' xs l := ⟨h.1, fun i o ho => by
  obtain ⟨x, h1, h2⟩ := h.2 i o ho
  exact ⟨x, h1, h2.mono e⟩⟩
theorem Ogs.snoc {H : Hp} {xs : List V} {l : List Og} (h : Ogs H xs l) {x : V} {o : Og} (hx : OgAt H x o) : Ogs H (xs ++ [x]) (l ++ [o]) := by
  refine ⟨by simp [h.1], fun i b e => ?_⟩
  by_cases hi : i < l.length
  · rw [List.getElem?_append_left hi] at e
    obtain ⟨u, h1, h2⟩ := h.2 i b e
    exact ⟨u, by rw [List.getElem?_append_left (by rw [h.1]; exact hi)]; exact h1, h2⟩
  · rw [List.getElem?_append_right (by omega)] at e
    have z : i - l.length = 0 := by
      cases q : i - l.length with
      | zero => rfl
      | succ n => rw [q] at e; simp at e
    rw [z] at e
    have ea : o = b := Option.some.inj e
    subst ea
    exact ⟨x, by rw [List.getElem?_append_right (by rw [h.1]; omega), h.1, z]; rfl, hx⟩
/-- lists of ints, each a list of its own -/
def Lsts (H : Hp) (xs : List V) (l : List (List Int)) : Prop := xs.length = l.length ∧ ∀ (i : Nat) (r : List Int), l[i]? = some r → ∃ t, xs[i]? = some (.ref t) ∧ H t = some (.lst (r.map V.int))
theorem Lsts.mono {H H' : Hp} {xs : List V} {l : List (List Int)} (h : Lsts H xs l) (e : ∀ t ys, V.ref t ∈ xs → H t = some (.lst ys) → H' t = some (.lst ys)) : Lsts H' xs l := ⟨h.1, fun i r hr => by
  obtain ⟨t, h1, h2⟩ := h.2 i r hr
  exact ⟨t, h1, e _ _ (List.mem_of_getElem? h1) h2⟩⟩
theorem Lsts.snoc {H : Hp} {xs : List V} {l : List (List Int)} (h : Lsts H xs l) {t : Addr} {r : List Int} (ht : H t = some (.lst (r.map V.int))) : Lsts H (xs ++ [.ref t]) (l ++ [r]) := by
  refine ⟨by simp [h.1], fun i b e => ?_⟩
  by_cases hi : i < l.length
  · rw [List.getElem?_append_left hi] at e
    obtain ⟨u, h1, h2⟩ := h.2 i b e
    exact ⟨u, by rw [List.getElem?_append_left (by rw [h.1]; exact hi)]; exact h1, h2⟩
  · rw [List.getElem?_append_right (by omega)] at e
    have z : i - l.length = 0 := by
      cases q : i - l.length with
      | zero => rfl
      | succ n => rw [q] at e; simp at e
    rw [z] at e
    have ea : r = b := Option.some.inj e
    subst ea
    exact ⟨t, by rw [List.getElem?_append_right (by rw [h.1]; omega), h.1, z]; rfl, ht⟩
theorem Lsts.get {H : Hp} {xs : List V} {l : List (List Int)} (h : Lsts H xs l) {i : Nat} {x : V} (e : xs[i]? = some x) : ∃ r t, l[i]? = some r ∧ x = .ref t ∧ H t = some (.lst (r.map V.int)) := by
  have hi := (List.getElem?_eq_some_iff.mp e).1
  have hl : i < l.length := by rw [← h.1]; exact hi
  obtain ⟨t, h1, h2⟩ := h.2 i l[i] (List.getElem?_eq_getElem hl)
  rw [e] at h1
  exact ⟨l[i], t, List.getElem?_eq_getElem hl, Option.some.inj h1, h2⟩
structure GA where
  t1 : Addr
  dn : Addr
  t2 : Addr
  t3 : Addr
def gFs (b : Addr) (a : GA) : List (Str × V) := [("protocol", .ref b), ("_places", .ref a.t1), ("_numbers", .ref a.dn), ("_steps", .ref a.t2), ("_origins", .ref a.t3)]
theorem gFs_new (b : Addr) (a : GA) : putF "_origins" (.ref a.t3) (putF "_steps" (.ref a.t2) (putF "_numbers" (.ref a.dn) (putF "_places" (.ref a.t1) (putF "protocol" (.ref b) [])))) = gFs b a := by rfl
structure GraphAt (C : Addr) (H : Hp) (g b : Addr) (a : GA) (s : BF) : Prop where
  ob : ∃ dx, H g = some (.ins C dx (gFs b a))
  ps : ∃ xs, H a.t1 = some (.tup xs) ∧ Tups encIs H xs s.ps
  dn : H a.dn = some (.dT (kNum s.ps))
  st : ∃ xs, H a.t2 = some (.tup xs) ∧ Tups encIs H xs s.rows
  og : ∃ xs, H a.t3 = some (.tup xs) ∧ Ogs H xs s.og
theorem GraphAt.same {C : Addr} {H H' : Hp} {g b : Addr} {a : GA} {s : BF} (S : GraphAt C H g b a s) (e : Same H H') : GraphAt C H' g b a s := by
  obtain ⟨dx, h0⟩ := S.ob
  obtain ⟨x1, h1, T1⟩ := S.ps
  obtain ⟨x2, h2, T2⟩ := S.st
  obtain ⟨x3, h3, T3⟩ := S.og
  exact ⟨⟨dx, e _ _ h0⟩, ⟨x1, e _ _ h1, T1.same e⟩, e _ _ S.dn, ⟨x2, e _ _ h2, T2.same e⟩, ⟨x3, e _ _ h3, T3.mono fun t ys => e t _⟩⟩
/-- .. but for these objects -/
theorem Tups.keepD {α : Type} {enc : α → List V} {H H' : Hp} {xs : List V} {l : List α} (h : Tups enc H xs l) (e : ∀ t ys, H t = some (.tup ys) → H' t = some (.tup ys)) : Tups enc H' xs l := h.mono e
/-- lists and a dict under way: places, their numbers, rows; S: other lists -/
structure XL (S : List Addr) (H0 H : Hp) (lp dn ls : Addr) (ps kd rows : List (List Int)) : Prop where
  same : Same H0 H
  np : H0 lp = none
  nd : H0 dn = none
  ns : H0 ls = none
  ne : lp ≠ ls
  sp : lp ∉ S
  sd : dn ∉ S
  ss : ls ∉ S
  hp : ∃ xp, H lp = some (.lst xp) ∧ Tups encIs H xp ps
  hd : H dn = some (.dT (kNum kd))
  hs : ∃ xs, H ls = some (.lst xs) ∧ Lsts H xs rows ∧ ∀ t, V.ref t ∈ xs → t ≠ lp ∧ t ≠ ls ∧ t ∉ S
section
variable {S : List Addr} {H0 H H' : Hp} {lp dn ls : Addr} {ps kd rows : List (List Int)}
theorem XL.go (X : XL S H0 H lp dn ls ps kd rows) (e : Same H H') : XL S H0 H' lp dn ls ps kd rows := by
  obtain ⟨xp, h1, t1⟩ := X.hp
  obtain ⟨xs, h2, t2, a2⟩ := X.hs
  exact ⟨X.same.trans e, X.np, X.nd, X.ns, X.ne, X.sp, X.sd, X.ss, ⟨xp, e _ _ h1, t1.same e⟩, e _ _ X.hd, ⟨xs, e _ _ h2, t2.mono fun t ys _ h => e _ _ h, a2⟩⟩
theorem ne_in {x y : Addr} (hx : x ∈ S) (h : y ∉ S) : y ≠ x := fun e => h (by rw [e]; exact hx)
theorem upd_tups {H : Hp} {p : Addr} {o o' : HO} (h : H p = some o) (n : ∀ ys, o ≠ .tup ys) : ∀ t ys, H t = some (.tup ys) → (upd H p o') t = some (.tup ys) := fun t ys ht => by
  rw [upd_ne (fun e => by rw [e, h] at ht; exact n _ (Option.some.inj ht))]
  exact ht
theorem XL.putD (X : XL S H0 H lp dn ls ps kd rows) (kd' : List (List Int)) : XL S H0 (upd H dn (.dT (kNum kd'))) lp dn ls ps kd' rows := by
  obtain ⟨xp, h1, t1⟩ := X.hp
  obtain ⟨xs, h2, t2, a2⟩ := X.hs
  have up := upd_tups (o' := .dT (kNum kd')) X.hd (by intro ys e; cases e)
  have ne1 : ∀ {x : Addr} {ys : List V}, H x = some (.lst ys) → x ≠ dn := fun h e => by rw [e, X.hd] at h; cases h
  exact ⟨Vf.Same.chg X.same X.nd, X.np, X.nd, X.ns, X.ne, X.sp, X.sd, X.ss, ⟨xp, by rw [upd_ne (ne1 h1)]; exact h1, t1.mono up⟩, upd_same, ⟨xs, by rw [upd_ne (ne1 h2)]; exact h2, t2.mono fun t ys _ h => by rw [upd_ne (ne1 h)]; exact h, a2⟩⟩
theorem XL.appP (X : XL S H0 H lp dn ls ps kd rows) {xp : List V} {t : Addr} {w : List Int} (h : H lp = some (.lst xp)) (ht : H t = some (.tup (encIs w))) : XL S H0 (upd H lp (.lst (xp ++ [.ref t]))) lp dn ls (ps ++ [w]) kd rows := by
  obtain ⟨xp', h1, t1⟩ := X.hp
  rw [h] at h1
  cases h1
  obtain ⟨xs, h2, t2, a2⟩ := X.hs
  have up := upd_tups (o' := .lst (xp ++ [.ref t])) h (by intro ys e; cases e)
  exact ⟨Vf.Same.chg X.same X.np, X.np, X.nd, X.ns, X.ne, X.sp, X.sd, X.ss, ⟨_, upd_same, (t1.mono up).snoc (up _ _ ht)⟩, by rw [upd_ne (fun e => by rw [← e, X.hd] at h; cases h)]; exact X.hd,
    ⟨xs, by rw [upd_ne (Ne.symm X.ne)]; exact h2, t2.mono fun t ys m h => by rw [upd_ne (a2 t m).1]; exact h, a2⟩⟩
theorem XL.appS (X : XL S H0 H lp dn ls ps kd rows) {xs : List V} {t : Addr} {r : List Int} (h : H ls = some (.lst xs)) (ht : H t = some (.lst (r.map V.int))) (n : t ≠ lp ∧ t ≠ ls ∧ t ∉ S) : XL S H0 (upd H ls (.lst (xs ++ [.ref t]))) lp dn ls ps kd (rows ++ [r]) := by
  obtain ⟨xp, h1, t1⟩ := X.hp
  obtain ⟨xs', h2, t2, a2⟩ := X.hs
  rw [h] at h2
  cases h2
  have up := upd_tups (o' := .lst (xs ++ [.ref t])) h (by intro ys e; cases e)
  refine ⟨Vf.Same.chg X.same X.ns, X.np, X.nd, X.ns, X.ne, X.sp, X.sd, X.ss, ⟨xp, by rw [upd_ne X.ne]; exact h1, t1.mono up⟩, by rw [upd_ne (fun e => by rw [← e, X.hd] at h; cases h)]; exact X.hd, ⟨_, upd_same, ?_, fun u m => ?_⟩⟩
  · refine (t2.mono fun u ys m h => ?_).snoc ?_
    · rw [upd_ne (a2 u m).2.1]; exact h
    · rw [upd_ne n.2.1]; exact ht
  · rcases List.mem_append.mp m with m | m
    · exact a2 u m
    · have e : V.ref u = V.ref t := List.mem_singleton.mp m
      cases e
      exact n
theorem XL.oth (X : XL S H0 H lp dn ls ps kd rows) {x : Addr} {ys zs : List V} (hx : x ∈ S) (h0 : H0 x = none) (h : H x = some (.lst ys)) : XL S H0 (upd H x (.lst zs)) lp dn ls ps kd rows := by
  obtain ⟨xp, h1, t1⟩ := X.hp
  obtain ⟨xs, h2, t2, a2⟩ := X.hs
  have up := upd_tups (o' := .lst zs) h (by intro ys e; cases e)
  exact ⟨Vf.Same.chg X.same h0, X.np, X.nd, X.ns, X.ne, X.sp, X.sd, X.ss, ⟨xp, by rw [upd_ne (ne_in hx X.sp)]; exact h1, t1.mono up⟩, by rw [upd_ne (ne_in hx X.sd)]; exact X.hd,
    ⟨xs, by rw [upd_ne (ne_in hx X.ss)]; exact h2, t2.mono fun u ys m h => by rw [upd_ne (ne_in hx (a2 u m).2.2)]; exact h, a2⟩⟩
theorem XL.more (X : XL [] H0 H lp dn ls ps kd rows) {x : Addr} {o : HO} (nx : H x = none) : XL [x] H0 (upd H x o) lp dn ls ps kd rows := by
  have s := Vf.Same.new (o := o) (Same.refl H) nx
  have Y := X.go s
  obtain ⟨xp, h1, t1⟩ := X.hp
  obtain ⟨xs, h2, t2, a2⟩ := X.hs
  refine ⟨Y.same, Y.np, Y.nd, Y.ns, Y.ne, fun m => ?_, fun m => ?_, fun m => ?_, Y.hp, Y.hd, ⟨xs, s _ _ h2, t2.mono fun t ys _ h => s _ _ h, fun t m => ⟨(a2 t m).1, (a2 t m).2.1, fun m2 => ?_⟩⟩⟩
  · rw [← List.mem_singleton.mp m, h1] at nx; cases nx
  · rw [← List.mem_singleton.mp m, X.hd] at nx; cases nx
  · rw [← List.mem_singleton.mp m, h2] at nx; cases nx
  · obtain ⟨i, hi⟩ := List.mem_iff_getElem?.mp m
    obtain ⟨r, u, _, e, hu⟩ := t2.get hi
    cases e
    rw [← List.mem_singleton.mp m2, hu] at nx
    cases nx
theorem XL.less (X : XL S H0 H lp dn ls ps kd rows) : XL [] H0 H lp dn ls ps kd rows := by
  obtain ⟨xs, h2, t2, a2⟩ := X.hs
  exact ⟨X.same, X.np, X.nd, X.ns, X.ne, by simp, by simp, by simp, X.hp, X.hd, ⟨xs, h2, t2, fun t m => ⟨(a2 t m).1, (a2 t m).2.1, by simp⟩⟩⟩
end
/-- the law's graph: places and rows -/
structure DueAt (H : Hp) (l : Addr) (s : BF) : Prop where
  ex : ∃ (lf lr : Addr) (xf xr : List V), H l = some (.lst [.ref lf, .ref lr]) ∧ H lf = some (.lst xf) ∧ Tups encIs H xf s.ps ∧ H lr = some (.lst xr) ∧ Lsts H xr s.rows
theorem DueAt.same {H H' : Hp} {l : Addr} {s : BF} (d : DueAt H l s) (e : Same H H') : DueAt H' l s := by
  obtain ⟨lf, lr, xf, xr, h1, h2, h3, h4, h5⟩ := d.ex
  exact ⟨lf, lr, xf, xr, e _ _ h1, e _ _ h2, h3.same e, e _ _ h4, h5.mono fun t ys _ h => e _ _ h⟩
end Vf

namespace Vf
open PySem L2
/-! ### from where a place was discovered -/
theorem addF_form {lim : Nat} {h : Int} {nl : NL} : ∀ {ws ps : List (List Int)} {og : List Og} {po : List (List Int) × List Og}, addF lim h nl ws ps og = some po →
    ∃ r : List (List Int), po.1 = ps ++ r ∧ po.2 = og ++ r.map (fun w => some (h, mOf nl w)) ∧ ∀ w ∈ r, w ∈ ws
  | [], ps, og, po, e => by
    have e : (ps, og) = po := Option.some.inj e
    subst e
    exact ⟨[], by simp, by simp, by simp⟩
  | w :: ws, ps, og, po, e => by
    rw [addF] at e
    split at e
    · obtain ⟨r, a, b, c⟩ := addF_form e
      exact ⟨r, a, b, fun z hz => List.mem_cons_of_mem _ (c z hz)⟩
    · split at e
      · cases e
      · obtain ⟨r, a, b, c⟩ := addF_form e
        refine ⟨w :: r, by rw [a]; simp, by rw [b]; simp, fun z hz => ?_⟩
        rcases List.mem_cons.mp hz with rfl | hz
        · exact List.mem_cons_self ..
        · exact List.mem_cons_of_mem _ (c z hz)
structure OInv (f : Int × Int → Int × Int) (s : BF) (cn : Nat → Nat) : Prop where
  og0 : s.og[0]? = some none
  ogl : s.og.length = s.ps.length
  rl : s.rows.length ≤ s.ps.length
  c0 : cn 0 = 1
  cl : cn s.rows.length = s.ps.length
  row : ∀ (j : Nat) (x : List Int), j < s.rows.length → s.ps[j]? = some x → s.rows[j]? = some (rowF s.ps ((nlOf f x).map Prod.fst)) ∧ (∀ w ∈ (nlOf f x).map Prod.fst, w ∈ s.ps ∧ s.ps.idxOf w < cn (j + 1)) ∧ j < cn j ∧ cn j ≤ cn (j + 1) ∧
    ∀ t, cn j ≤ t → t < cn (j + 1) → ∃ w, s.ps[t]? = some w ∧ w ∈ (nlOf f x).map Prod.fst ∧ s.og[t]? = some (some (((j : Nat) : Int), mOf (nlOf f x) w))
theorem OInv.zero (f : Int × Int → Int × Int) (x : List Int) : OInv f (bf0 x) (fun _ => 1) := ⟨rfl, rfl, by simp [bf0], rfl, rfl, fun j y h => by simp [bf0] at h⟩
theorem ixP_app {ps r : List (List Int)} {w : List Int} (h : w ∈ ps) : ixP (ps ++ r) w = ixP ps w := by
  unfold ixP
  rw [List.idxOf_append, if_pos h]
theorem rowF_app {ps r : List (List Int)} {ws : List (List Int)} (h : ∀ w ∈ ws, w ∈ ps) : rowF (ps ++ r) ws = rowF ps ws := by
  unfold rowF
  rw [List.map_congr_left fun w hw => ixP_app (h w hw)]
theorem OInv.next {f : Int × Int → Int × Int} {s : BF} {cn : Nat → Nat} (o : OInv f s cn) {B : Int} {lim : Nat} {x : List Int} {po : List (List Int) × List Og} (h : s.ps[s.rows.length]? = some x)
    (h2 : addF lim (s.rows.length : Nat) (nlOf f x) (nxt B (nlOf f x)) s.ps s.og = some po) (hin : ∀ w ∈ (nlOf f x).map Prod.fst, w ∈ po.1) :
    OInv f ⟨po.1, po.2, s.rows ++ [rowF po.1 ((nlOf f x).map Prod.fst)]⟩ (fun j => if j = s.rows.length + 1 then po.1.length else cn j) := by
  obtain ⟨r, e1, e2, e3⟩ := addF_form h2
  have lt := (List.getElem?_eq_some_iff.mp h).1
  have pl : po.1.length = s.ps.length + r.length := by rw [e1, List.length_append]
  have rlen : (s.rows ++ [rowF po.1 ((nlOf f x).map Prod.fst)]).length = s.rows.length + 1 := by rw [List.length_append]; rfl
  refine ⟨?_, ?_, ?_, ?_, ?_, fun j y hj hy => ?_⟩
  · show po.2[0]? = _
    rw [e2, List.getElem?_append_left (by have := o.ogl; omega)]
    exact o.og0
  · show po.2.length = po.1.length
    rw [e1, e2, List.length_append, List.length_append, List.length_map, o.ogl]
  · show (s.rows ++ [_]).length ≤ po.1.length
    rw [rlen]
    omega
  · show (if 0 = s.rows.length + 1 then _ else _) = 1
    rw [if_neg (by omega)]
    exact o.c0
  · show (if (s.rows ++ [_]).length = s.rows.length + 1 then _ else _) = po.1.length
    rw [if_pos rlen]
  · have hj' : j < s.rows.length + 1 := by rw [← rlen]; exact hj
    have hy : po.1[j]? = some y := hy
    have jps : j < s.ps.length := by have := o.rl; omega
    have hy2 : s.ps[j]? = some y := by rw [e1, List.getElem?_append_left jps] at hy; exact hy
    by_cases c : j < s.rows.length
    · obtain ⟨a1, a2, a3, a4, a5⟩ := o.row j y c hy2
      dsimp only
      rw [if_neg (by omega), if_neg (by omega)]
      refine ⟨?_, fun w hw => ?_, a3, a4, fun t t1 t2 => ?_⟩
      · rw [List.getElem?_append_left c, a1, e1, rowF_app fun w hw => (a2 w hw).1]
      · rw [e1]
        refine ⟨List.mem_append_left _ (a2 w hw).1, ?_⟩
        rw [List.idxOf_append, if_pos (a2 w hw).1]
        exact (a2 w hw).2
      · obtain ⟨w, b1, b2, b3⟩ := a5 t t1 t2
        refine ⟨w, ?_, b2, ?_⟩
        · rw [e1, List.getElem?_append_left (List.getElem?_eq_some_iff.mp b1).1]
          exact b1
        · rw [e2, List.getElem?_append_left (List.getElem?_eq_some_iff.mp b3).1]
          exact b3
    · have ej : j = s.rows.length := by omega
      subst ej
      rw [h] at hy2
      cases hy2
      dsimp only
      rw [if_pos rfl, if_neg (show ¬ s.rows.length = s.rows.length + 1 by omega), o.cl]
      refine ⟨?_, fun w hw => ⟨hin w hw, List.idxOf_lt_length_of_mem (hin w hw)⟩, lt, by omega, fun t t1 t2 => ?_⟩
      · rw [List.getElem?_append_right (Nat.le_refl _), Nat.sub_self]
        rfl
      · obtain ⟨w, hw⟩ : ∃ w, r[t - s.ps.length]? = some w := ⟨_, List.getElem?_eq_getElem (by omega)⟩
        refine ⟨w, ?_, nxt_mem.mp (e3 w (List.mem_of_getElem? hw)), ?_⟩
        · rw [e1, List.getElem?_append_right t1]
          exact hw
        · rw [e2, List.getElem?_append_right (by rw [o.ogl]; exact t1), o.ogl, List.getElem?_map, hw]
          rfl
theorem bfs_oinv {D : DD} (v : ValidN D) {tot : Int} {B : Int} {lim : Nat} : ∀ {k : Nat} {s t : BF} {cn : Nat → Nat}, bfs (fD D) B lim k s = some t → GInv D.st.length tot lim s → OInv (fD D) s cn → ∃ cn', OInv (fD D) t cn'
  | 0, s, t, cn, h, _, o => by
    have e : s = t := Option.some.inj h
    subst e
    exact ⟨cn, o⟩
  | k + 1, s, t, cn, h, g, o => by
    cases e : s.ps[s.rows.length]? with
    | none =>
      rw [bfs_end (List.getElem?_eq_none_iff.mp e)] at h
      have e : s = t := Option.some.inj h
      subst e
      exact ⟨cn, o⟩
    | some x =>
      cases e2 : addF lim (s.rows.length : Nat) (nlOf (fD D) x) (nxt B (nlOf (fD D) x)) s.ps s.og with
      | none => rw [bfs_stop e e2] at h; cases h
      | some po =>
        rw [bfs_step e e2] at h
        obtain ⟨fx, sx⟩ := g.fit x (List.mem_of_getElem? e)
        have inv := addF_inv e2 (fun w hw => by
          obtain ⟨b1, b2⟩ := nl_in v rfl fx (nxt_mem.mp hw)
          exact ⟨b1, b2.trans sx⟩) g.nd g.fit g.ogl g.pl
        exact bfs_oinv v h (g.next v e e2) (o.next e e2 fun w hw => inv.2.2.2.2.2.1 w (nxt_mem.mpr hw))
/-! ### the way to a place -/
def wayF (og : List Og) : Nat → Nat → List (Int × Int)
  | 0, _ => []
  | k + 1, i => match og[i]? with
    | some (some q) => wayF og k q.1.toNat ++ [q.2]
    | _ => []
def way (og : List Og) (i : Nat) : List (Int × Int) := wayF og (i + 1) i
/-- each comes from an earlier one -/
def OgOk (og : List Og) : Prop := ∀ (i : Nat) (q : Int × (Int × Int)), og[i]? = some (some q) → 0 ≤ q.1 ∧ q.1.toNat < i
theorem wayF_more {og : List Og} (ok : OgOk og) : ∀ (k i : Nat), i < k → wayF og k i = wayF og (i + 1) i := by
  intro k
  refine Nat.strongRecOn k fun k ih i h => ?_
  match k, h, ih with
  | k + 1, h, ih =>
    rw [wayF, wayF]
    cases e : og[i]? with
    | none => rfl
    | some o =>
      cases o with
      | none => rfl
      | some q =>
        have := (ok i q e).2
        dsimp only
        by_cases c : i = k
        · rw [c]
        · rw [ih k (by omega) _ (by omega), ih i (by omega) _ this]
theorem way_step {og : List Og} (ok : OgOk og) {i : Nat} {q : Int × (Int × Int)} (e : og[i]? = some (some q)) : way og i = way og q.1.toNat ++ [q.2] := by
  unfold way
  rw [wayF, e]
  dsimp only
  rw [wayF_more ok i _ (ok i q e).2]
theorem way_zero {og : List Og} {i : Nat} (e : og[i]? = some none) : way og i = [] := by
  unfold way
  rw [wayF, e]
theorem OInv.ok {f : Int × Int → Int × Int} {s : BF} {cn : Nat → Nat} (o : OInv f s cn) (full : s.rows.length = s.ps.length) : OgOk s.og ∧ ∀ j, j ≤ s.rows.length → 1 ≤ cn j := by
  have mono : ∀ j, j ≤ s.rows.length → 1 ≤ cn j := by
    intro j
    induction j with
    | zero => intro _; rw [o.c0]; exact Nat.le_refl _
    | succ j ih =>
      intro h
      obtain ⟨x, hx⟩ : ∃ x, s.ps[j]? = some x := ⟨_, List.getElem?_eq_getElem (by omega)⟩
      have := (o.row j x h hx).2.2.2.1
      have := ih (by omega)
      omega
  refine ⟨fun i q e => ?_, mono⟩
  have hi : i < s.ps.length := by rw [← o.ogl]; exact (List.getElem?_eq_some_iff.mp e).1
  have find : ∀ n, n ≤ s.rows.length → i < cn n → i = 0 ∨ ∃ j, j < n ∧ cn j ≤ i ∧ i < cn (j + 1) := by
    intro n
    induction n with
    | zero => intro _ h; rw [o.c0] at h; exact .inl (by omega)
    | succ n ih =>
      intro hn h
      by_cases c : i < cn n
      · rcases ih (by omega) c with h | ⟨j, a, b, d⟩
        · exact .inl h
        · exact .inr ⟨j, by omega, b, d⟩
      · exact .inr ⟨n, by omega, by omega, h⟩
  rcases find s.rows.length (Nat.le_refl _) (by rw [o.cl]; exact hi) with h | ⟨j, a, b, d⟩
  · rw [h, o.og0] at e
    cases e
  · obtain ⟨x, hx⟩ : ∃ x, s.ps[j]? = some x := ⟨_, List.getElem?_eq_getElem (by omega)⟩
    obtain ⟨_, _, r3, r4, r5⟩ := o.row j x a hx
    obtain ⟨w, _, _, e2⟩ := r5 i b d
    rw [e] at e2
    cases e2
    dsimp only
    omega
/-- walking up an ascending row -/
theorem row_walk {r : List Int} {i L hi : Nat} {z : Int} (h : r[i]? = some z) (pw : r.Pairwise (· < ·)) (all : ∀ u : Nat, L ≤ u → u < hi → ((u : Nat) : Int) ∈ r.drop i) (z0 : 0 ≤ z) (zh : z < (hi : Nat)) :
    (z = (L : Nat) → ∀ u : Nat, L + 1 ≤ u → u < hi → ((u : Nat) : Int) ∈ r.drop (i + 1)) ∧ (z ≠ (L : Nat) → ∀ u : Nat, L ≤ u → u < hi → ((u : Nat) : Int) ∈ r.drop (i + 1)) := by
  obtain ⟨lt, e⟩ := List.getElem?_eq_some_iff.mp h
  have dr : r.drop i = z :: r.drop (i + 1) := by rw [List.drop_eq_getElem_cons lt, e]
  have pd : (r.drop i).Pairwise (· < ·) := pw.sublist (List.drop_sublist _ _)
  rw [dr] at all pd
  have gt : ∀ a ∈ r.drop (i + 1), z < a := (List.pairwise_cons.mp pd).1
  refine ⟨fun ez u h1 h2 => ?_, fun ez u h1 h2 => ?_⟩
  · rcases List.mem_cons.mp (all u (by omega) h2) with e | m
    · omega
    · exact m
  · rcases List.mem_cons.mp (all u h1 h2) with e | m
    · rcases List.mem_cons.mp (all L (Nat.le_refl _) (by omega)) with e2 | m2
      · exact absurd e2.symm ez
      · have := gt _ m2
        omega
    · exact m
theorem Tups.rev {α : Type} {enc : α → List V} {H : Hp} {xs : List V} {l : List α} (h : Tups enc H xs l) : Tups enc H xs.reverse l.reverse := ⟨by rw [List.length_reverse, List.length_reverse, h.1], fun i a e => by
  have hi : i < l.length := by have := (List.getElem?_eq_some_iff.mp e).1; rwa [List.length_reverse] at this
  rw [List.getElem?_reverse hi] at e
  obtain ⟨t, h1, h2⟩ := h.2 _ _ e
  refine ⟨t, ?_, h2⟩
  rw [List.getElem?_reverse (by rw [h.1]; exact hi), h.1]
  exact h1⟩
theorem sum_bd : ∀ {l : List Int} {b : Int}, (∀ y ∈ l, y ≤ b) → l.sum ≤ b * l.length
  | [], b, _ => by simp
  | a :: r, b, h => by
    have h1 := h a (List.mem_cons_self ..)
    have h2 := sum_bd (l := r) fun y hy => h y (List.mem_cons_of_mem _ hy)
    rw [List.sum_cons, List.length_cons]
    have e : b * ((r.length + 1 : Nat) : Int) = b * r.length + b := by
      rw [Int.natCast_add]
      exact Int.mul_add b r.length 1 |>.trans (by rw [Int.mul_one])
    rw [e]
    omega
/-- a greater limit -/
theorem addF_more {lim lim' : Nat} {h : Int} {nl : NL} (le : lim ≤ lim') : ∀ {ws ps : List (List Int)} {og : List Og} {po : List (List Int) × List Og}, addF lim h nl ws ps og = some po → ps.length ≤ lim → addF lim' h nl ws ps og = some po
  | [], ps, og, po, e, _ => e
  | w :: ws, ps, og, po, e, pl => by
    rw [addF] at e ⊢
    split at e
    · rename_i c
      rw [if_pos c]
      exact addF_more le e pl
    · rename_i c
      split at e
      · cases e
      · rename_i c2
        rw [if_neg c, if_neg (by omega)]
        exact addF_more le e (by rw [List.length_append]; show ps.length + 1 ≤ lim; omega)
theorem bfs_more {D : DD} (v : ValidN D) {tot B : Int} {lim lim' : Nat} (le : lim ≤ lim') : ∀ {k k' : Nat} {s t : BF}, bfs (fD D) B lim k s = some t → GInv D.st.length tot lim s → lim - s.rows.length ≤ k → k ≤ k' → bfs (fD D) B lim' k' s = some t
  | 0, k', s, t, h, g, hk, hk' => by
    have e : s = t := Option.some.inj h
    subst e
    have := g.pl
    exact bfs_end (by omega)
  | k + 1, 0, s, t, h, g, hk, hk' => by omega
  | k + 1, k' + 1, s, t, h, g, hk, hk' => by
    cases e : s.ps[s.rows.length]? with
    | none =>
      have le2 := List.getElem?_eq_none_iff.mp e
      rw [bfs_end le2] at h ⊢
      exact h
    | some x =>
      cases e2 : addF lim (s.rows.length : Nat) (nlOf (fD D) x) (nxt B (nlOf (fD D) x)) s.ps s.og with
      | none => rw [bfs_stop e e2] at h; cases h
      | some po =>
        rw [bfs_step e e2] at h
        rw [bfs_step e (addF_more le e2 g.pl)]
        exact bfs_more v le h (g.next v e e2) (by
          show lim - (s.rows ++ [_]).length ≤ k
          rw [List.length_append]
          show lim - (s.rows.length + 1) ≤ k
          omega) (by omega)
theorem bfsAll_more {D : DD} (v : ValidN D) {B : Int} {lim lim' : Nat} {x : List Int} {t : BF} (h : bfsAll (fD D) B lim x = some t) (fit : Fits D.st.length x) (l1 : 1 ≤ lim) (le : lim ≤ lim') : bfsAll (fD D) B lim' x = some t :=
  bfs_more v le h (GInv.zero fit l1) (by show lim - 0 ≤ lim; omega) le
/-! ### the smallest meeting -/
theorem mOf_app {nl : NL} {p : List Int × (Int × Int)} {w : List Int} (h : w ∈ nl.map Prod.fst) : mOf (nl ++ [p]) w = mOf nl w := by
  unfold mOf
  have lt := List.idxOf_lt_length_of_mem h
  rw [List.map_append, List.map_append, List.idxOf_append, if_pos h, List.getD_eq_getElem?_getD, List.getD_eq_getElem?_getD, List.getElem?_append_left (by rw [List.length_map] at lt ⊢; exact lt)]
theorem mOf_new {nl : NL} {w : List Int} {m : Int × Int} (h : w ∉ nl.map Prod.fst) : mOf (nl ++ [(w, m)]) w = m := by
  unfold mOf
  rw [List.map_append, List.map_append, List.idxOf_append, if_neg h, List.getD_eq_getElem?_getD]
  have e : List.idxOf w (List.map Prod.fst [(w, m)]) = 0 := by simp
  rw [e, List.getElem?_append_right (by simp)]
  simp
theorem first_of {f : Int × Int → Int × Int} {ns w : List Int} (ms : List (Int × Int)) : w ∈ (nextL f ns ms).map Prod.fst → ∃ rest, ms.filter (fun m => decide (movePl ns m (f m) = w)) = mOf (nextL f ns ms) w :: rest := by
  have sn : ∀ (l : List (Int × Int)) (m : Int × Int), nextL f ns (l ++ [m]) = nextS f ns (nextL f ns l) m := fun l m => by
    unfold nextL
    rw [List.foldl_append]
    rfl
  have go : ∀ (r : List (Int × Int)), w ∈ (nextL f ns r.reverse).map Prod.fst → ∃ rest, r.reverse.filter (fun m => decide (movePl ns m (f m) = w)) = mOf (nextL f ns r.reverse) w :: rest := by
    intro r
    induction r with
    | nil => intro h; simp [nextL] at h
    | cons m r ih =>
      intro h
      rw [List.reverse_cons] at h ⊢
      rw [sn] at h ⊢
      rw [List.filter_append]
      by_cases c : w ∈ (nextL f ns r.reverse).map Prod.fst
      · obtain ⟨rest, e⟩ := ih c
        rw [e]
        refine ⟨rest ++ List.filter (fun m => decide (movePl ns m (f m) = w)) [m], ?_⟩
        rw [List.cons_append]
        congr 1
        unfold nextS
        split
        · rfl
        · exact (mOf_app c).symm
      · unfold nextS at h ⊢
        split at h
        · exact absurd h c
        · rename_i c2
          rw [if_neg c2]
          rw [List.map_append] at h
          rcases List.mem_append.mp h with h | h
          · exact absurd h c
          · have e : w = movePl ns m (f m) := by simpa using h
            have ne : movePl ns m (f m) ≠ ns := fun e => c2 (.inl e)
            refine ⟨[], ?_⟩
            rw [← e, mOf_new c]
            have z : r.reverse.filter (fun m => decide (movePl ns m (f m) = w)) = [] := by
              rw [List.filter_eq_nil_iff]
              intro m' hm' q
              have q := of_decide_eq_true q
              exact c (by rw [← q]; exact nextL_all (by rw [q, e]; exact ne) hm')
            rw [z]
            simp [← e]
  have := go ms.reverse
  rw [List.reverse_reverse] at this
  exact this
def pLt (a b : Int × Int) : Prop := a.1 < b.1 ∨ a.1 = b.1 ∧ a.2 < b.2
theorem prs_pw (n : Nat) (c : Int × Int → Bool) : (prs n c).Pairwise pLt := by
  unfold prs
  rw [List.pairwise_flatMap]
  refine ⟨fun i _ => ?_, List.pairwise_lt_range.imp fun {a b} h x hx y hy => ?_⟩
  · rw [List.pairwise_map]
    unfold secs
    exact (nz_asc n _).imp fun h => .inr ⟨rfl, h⟩
  · obtain ⟨j, _, rfl⟩ := List.mem_map.mp hx
    obtain ⟨j', _, rfl⟩ := List.mem_map.mp hy
    exact .inl (Int.ofNat_lt.mpr h)
end Vf
namespace Vf
open PySem PySem.Spec PyProof.Rows L2
def rMinP (K : PySem.W.Frag) : List V → Hp → VK → Prop := fun vs H Q => ∃ (a : Addr) (xs : List V) (m : Int × Int) (ms : List (Int × Int)), vs = [V.ref a] ∧ SqL K H a xs ∧ Tups encP H xs (m :: ms) ∧ (∀ z ∈ ms, pLt m z) ∧ ∀ t : Addr, H t = some (.tup (encP m)) → Q (.ref t) H
theorem minOf_head {m : Int × Int} : ∀ {ms : List (Int × Int)}, (∀ z ∈ ms, pLt m z) → PySem.W.minOf m ms = m
  | [], _ => rfl
  | z :: ms, h => by
    have hz := h z (List.mem_cons_self ..)
    have e : PySem.W.DatumOrd.lt z m = false := by
      show (if z.1 = m.1 then decide (z.2 < m.2) else decide (z.1 < m.1)) = false
      unfold pLt at hz
      split
      · rw [decide_eq_false_iff_not]; omega
      · rw [decide_eq_false_iff_not]; omega
    show PySem.W.minOf (if PySem.W.DatumOrd.lt z m = true then z else m) ms = m
    rw [e, if_neg Bool.false_ne_true]
    exact minOf_head fun y hy => h y (List.mem_cons_of_mem _ hy)
theorem cr_minP {X : Cx} (hu : X.A.units + 64 < cLine) (hc : X.calm = true := by rfl) : CallR X (.builtin "min") (rMinP X.K) := by
  intro pins s σ H vs us Q I r h
  obtain ⟨a, xs, m, ms, rfl, hs, ht, hm, q⟩ := h
  obtain rfl := Vals.ref1 r
  obtain ⟨its, rv, hl, _⟩ := I.list hs
  have room : X.A.units + 1 + PySem.W.Datum.depth (Int × Int) < cLine := by
    show X.A.units + 1 + 1 < cLine
    omega
  have hall : PySem.W.HoldAll s.heap its (m :: ms) := Dp.readsAll I _ _ _ (dpAll_pairs ht) rv
  refine PySem.W.min_list_datum (I.ok.hd hc) hl.isList hall room fun i v h' tk hv hh k => ?_
  rw [minOf_head hm] at hh
  have hv : its[i]? = some v := by simpa using hv
  obtain ⟨x, ex, rx⟩ : ∃ x, xs[i]? = some x ∧ RelV x v := by
    have hi := (List.getElem?_eq_some_iff.mp hv).1
    obtain ⟨u, hu', ru⟩ := rv.get (List.getElem?_eq_getElem (l := xs) (i := i) (by rw [rv.length]; exact hi))
    rw [hv] at hu'
    cases hu'
    exact ⟨_, List.getElem?_eq_getElem _, ru⟩
  obtain ⟨p, t, ep, rfl, htp⟩ := ht.get ex
  have ev : v = Value.ref t := rx
  subst ev
  have I2 : Inv X pins σ H { s with heap := h', toks := tk } := I.kept (t' := tk) k
  obtain ⟨as, rd⟩ := Dp.reads I2 (.tuple [.int p.1, .int p.2]) (.ref t) (.ref t) (.tup (SqT.of htp) (.cons (.int _) (.cons (.int _) .nil))) rfl
  obtain ⟨bs, rd2⟩ := hh
  have e := SeqAt.plain_unique _ _ _ _ _ (by rfl) rd rd2
  have e2 : p = m := by
    have e' : PyData.tuple [.int p.1, .int p.2] = PyData.tuple [.int m.1, .int m.2] := e
    injection e' with e'
    simp only [List.cons.injEq, PyData.int.injEq, and_true] at e'
    exact Prod.ext e'.1 e'.2
  rw [e2] at htp
  exact ⟨.ref t, H, I2, rfl, q t htp⟩
end Vf
namespace Vf
open PySem L2
/-- the law's ways, as far as they are found -/
def WaysAt (H : Hp) (lw : Addr) (og : List Og) (n : Nat) : Prop := ∃ xs, H lw = some (.lst xs) ∧ xs.length = n ∧ ∀ t, t < n → ∃ (u : Addr) (ys : List V), xs[t]? = some (.ref u) ∧ u ≠ lw ∧ H u = some (.lst ys) ∧ Tups encP H ys (way og t)
theorem WaysAt.same {H H' : Hp} {lw : Addr} {og : List Og} {n : Nat} (w : WaysAt H lw og n) (e : Same H H') : WaysAt H' lw og n := by
  obtain ⟨xs, h1, h2, h3⟩ := w
  refine ⟨xs, e _ _ h1, h2, fun t ht => ?_⟩
  obtain ⟨u, ys, a1, a2, a3, a4⟩ := h3 t ht
  exact ⟨u, ys, a1, a2, e _ _ a3, a4.same e⟩
theorem WaysAt.push {H : Hp} {lw u : Addr} {og : List Og} {n : Nat} {xs ys : List V} (w : WaysAt H lw og n) (h : H lw = some (.lst xs)) (ne : u ≠ lw) (hu : H u = some (.lst ys)) (ty : Tups encP H ys (way og n)) : WaysAt (upd H lw (.lst (xs ++ [.ref u]))) lw og (n + 1) := by
  obtain ⟨xs', h1, h2, h3⟩ := w
  rw [h] at h1
  cases h1
  have up := upd_tups (o' := .lst (xs ++ [.ref u])) h (by intro ys e; cases e)
  refine ⟨_, upd_same, by rw [List.length_append, h2]; rfl, fun t ht => ?_⟩
  by_cases c : t < n
  · obtain ⟨v, zs, a1, a2, a3, a4⟩ := h3 t c
    exact ⟨v, zs, by rw [List.getElem?_append_left (by omega)]; exact a1, a2, by rw [upd_ne a2]; exact a3, a4.mono up⟩
  · have e : t = n := by omega
    subst e
    exact ⟨u, ys, by rw [List.getElem?_append_right (by omega), h2, Nat.sub_self]; rfl, ne, by rw [upd_ne ne]; exact hu, ty.mono up⟩
theorem row_facts {D : DD} {tot : Int} {lim : Nat} {s : BF} {cn : Nat → Nat} (g : GInv D.st.length tot lim s) (o : OInv (fD D) s cn) {i : Nat} {x : List Int} (hi : i < s.rows.length) (hx : s.ps[i]? = some x) (nd : ((nlOf (fD D) x).map Prod.fst).Nodup) :
    (rowF s.ps ((nlOf (fD D) x).map Prod.fst)).Pairwise (· < ·) ∧ (∀ z ∈ rowF s.ps ((nlOf (fD D) x).map Prod.fst), 0 ≤ z ∧ z < (cn (i + 1) : Nat)) ∧ ∀ u : Nat, cn i ≤ u → u < cn (i + 1) → ((u : Nat) : Int) ∈ rowF s.ps ((nlOf (fD D) x).map Prod.fst) := by
  obtain ⟨_, r2, _, _, r5⟩ := o.row i x hi hx
  have pm := sortI_perm (((nlOf (fD D) x).map Prod.fst).map (ixP s.ps))
  have nd2 : (((nlOf (fD D) x).map Prod.fst).map (ixP s.ps)).Nodup := by
    unfold List.Nodup
    rw [List.pairwise_map]
    refine List.Pairwise.imp_of_mem (fun {a b} ha hb ne e => ?_) nd
    refine ne ?_
    unfold ixP at e
    have e2 : s.ps.idxOf a = s.ps.idxOf b := by omega
    have h1 := List.getElem_idxOf (List.idxOf_lt_length_of_mem (r2 a ha).1)
    have h2 := List.getElem_idxOf (List.idxOf_lt_length_of_mem (r2 b hb).1)
    rw [← h1, ← h2]
    congr 1
  unfold rowF
  refine ⟨?_, fun z hz => ?_, fun u h1 h2 => ?_⟩
  · refine List.Pairwise.imp₂ (fun a b h1 h2 => ?_) (sortI_pw _) (pm.nodup_iff.mpr nd2)
    omega
  · obtain ⟨w, hw, rfl⟩ := List.mem_map.mp (pm.mem_iff.mp hz)
    have := (r2 w hw).2
    unfold ixP
    omega
  · obtain ⟨w, a1, a2, _⟩ := r5 u h1 h2
    refine pm.mem_iff.mpr (List.mem_map.mpr ⟨w, a2, ?_⟩)
    unfold ixP
    have hu := (List.getElem?_eq_some_iff.mp a1)
    have h3 := List.idxOf_lt_length_of_mem (r2 w a2).1
    have e : s.ps[s.ps.idxOf w]? = s.ps[u]? := by rw [a1, List.getElem?_eq_getElem h3, List.getElem_idxOf]
    have := (List.getElem?_inj h3 g.nd).mp e
    omega
theorem wayF_len (og : List Og) : ∀ k i : Nat, (wayF og k i).length ≤ k
  | 0, _ => Nat.le_refl _
  | k + 1, i => by
    rw [wayF]
    split
    · rw [List.length_append]
      have := wayF_len og k
      rename_i q _
      have := this q.1.toNat
      show _ + 1 ≤ k + 1
      omega
    · exact Nat.zero_le _
theorem way_len (og : List Og) (i : Nat) : (way og i).length ≤ i + 1 := wayF_len og _ _
end Vf

namespace Vf
open PySem PySem.Spec PyProof.Rows L2
/-- sorted(d), all keys whole numbers, any number of them -/
def rSortDIn : List V → Hp → VK → Prop := fun xs H Q => ∃ (a : Addr) (kvs : List (Key × V)) (ks : List Int), xs = [.ref a] ∧ Rd H a (.dK kvs) ∧ kvs.map (·.1) = ks.map Sum.inl ∧
    ∀ (ys : List Int) (p : Addr), ys.Perm ks → ys.Pairwise (· ≤ ·) → H p = none → Q (.ref p) (upd H p (.lst (ys.map V.int)))
theorem cr_sortDIn {X : Cx} (hcalm : X.calm = true) : CallR X (.builtin "sorted") rSortDIn := by
  intro pins s σ H xs us Q I r q
  obtain ⟨a, kvs, ks, ex, hd, hks, q⟩ := q
  subst ex
  obtain ⟨u, eu, rx⟩ := vals1 r
  subst eu
  cases rx
  obtain ⟨z, lo, vs, rel, dd⟩ := dk_rd I.hok hd
  obtain ⟨ep, hat⟩ := dd.dictAt
  have hkeys : vs.map (·.1) = ks.map Sum.inl := rel.keys.symm.trans hks
  have hl : vs.length = ks.length := by
    have e := congrArg List.length hkeys
    rw [List.length_map, List.length_map] at e
    exact e
  have hl2 : kvs.length = ks.length := by
    have e := congrArg List.length hks
    rw [List.length_map, List.length_map] at e
    exact e
  have h16 : vs.length ≤ sizeLine := by rw [hl, ← hl2]; exact z
  refine Calls.call_function_entry PyProof.Rows.kind_sorted PyProof.Rows.plain_sorted PyProof.Rows.entry_sorted (PyProof.Rows.args_sorted1 _) ?_
  unfold Builtin.«sorted»
  refine wpAny_bind (m := checkCount "sorted" 1 1 _) (wpAny_pure ?_)
  refine wpAny_bind (PySem.W.kdu_collect (A := X.A.in1) (PySem.W.kdl_dict (knd := mixKind X.prog X.w) (kvs := vs) (ep := ep) lo) (I.ok.hd hcalm) hat h16 fun h' tk acc hk hacc => ?_)
  have hal : acc.toList.length = ks.length := by rw [Array.length_toList, hacc.1, hl]
  have hS : IntsAre acc.toList ks := ints_each hal fun j v e => by
    obtain ⟨k, x, e1, e2⟩ := hacc.2 j v (by rw [← Array.getElem?_toList]; exact e)
    have e3 : (vs.map (·.1))[j]? = some k := by rw [List.getElem?_map, e1]; rfl
    rw [hkeys, List.getElem?_map] at e3
    cases e4 : ks[j]? with
    | none => rw [e4] at e3; cases e3
    | some y =>
      rw [e4] at e3
      have e5 : Sum.inl y = k := Option.some.inj e3
      subst e5
      rcases keyIs_shape (show keyIs (Sum.inl y) v = true from e2) with ⟨i, t, ek, ev⟩ | ⟨z, t, ek, ev⟩
      · cases ek
        exact ⟨y, t, rfl, ev⟩
      · cases ek
  have I1 : Inv X pins σ H { s with heap := h', toks := tk } := I.kept hk
  have haz : acc.toList.length ≤ sizeLine := by rw [hal, ← hl2]; exact z
  refine wpAny_bind (wpAny_newList ?_ haz)
  have hoL : (h'.push (seqObj "list" acc.toList.toArray 0)).get? h'.objs.size = some (seqObj "list" acc.toList.toArray 0) := Heap.get?_push_size _ rfl
  show wpAny _ _ _ _ _ { s with heap := h'.push (seqObj "list" acc.toList.toArray 0), toks := tk }
  refine wpAny_bind (wpAny_holding (wpAny_call_entry PyProof.Rows.slot_list_sort ⟨_, hoL, rfl⟩ PyProof.Rows.entry_list_sort
    (SrtO.list_sort_ord (s := { s with heap := h'.push (seqObj "list" acc.toList.toArray 0), toks := tk }) SrtO.swo_int hoL haz (fun h2 => SrtO.ints_sortable hS h2) fun out g1 g2 => ⟨_, rfl, ?_⟩) (PyProof.Rows.args_list_sort _)))
  obtain ⟨k1, k2, k3⟩ := SrtO.ints_out hS g1 g2
  obtain ⟨e', he'⟩ := PyProof.Rows.sortedHeap_at (vs := acc.toList) (out := out.toArray) hoL
  have hlen : ((out.map SrtO.iv).map V.int).length ≤ sizeLine := by
    rw [List.length_map, k2.length_eq, ← hl2]
    exact z
  refine wpAny_pure ⟨_, rfl, .ref h'.objs.size, upd H h'.objs.size (.lst ((out.map SrtO.iv).map V.int)), I1.laid (t' := tk) (fun b u e => ?_) (Nat.le_refl _)
    (show ObjOk X.prog X.w _ _ _ (.lst ((out.map SrtO.iv).map V.int)) from ⟨hlen, out, e', vals_of_ints k1, he'⟩), rfl, q _ _ k2 k3 (I1.hok.fresh (Nat.le_refl _))⟩
  have hb : b < h'.objs.size := Heap.lt_size e
  rw [PyProof.Rows.sortedHeap_old (Nat.ne_of_lt hb) (by rw [size_push']; exact Nat.lt_succ_of_lt hb)]
  exact Heap.get?_push_of_some _ e
end Vf

namespace Vf
/-! ### what is found along rows -/
def fl (F : List Bool) (x : Nat) : Bool := F.getD x true
def rw_ (R : List (List Int)) (x : Nat) : List Int := R.getD x []
inductive Walk (R : List (List Int)) (F : List Bool) (T : List Int) : Nat → Prop
  | start {x : Nat} : (x : Int) ∈ T → fl F x = false → Walk R F T x
  | step {x y : Nat} : Walk R F T y → (x : Int) ∈ rw_ R y → fl F x = false → Walk R F T x
theorem Walk.fl0 {R : List (List Int)} {F : List Bool} {T : List Int} {x : Nat} (w : Walk R F T x) : fl F x = false := by
  cases w <;> assumption
theorem fl_lt {F : List Bool} {x : Nat} (h : fl F x = false) : x < F.length := by
  unfold fl at h
  rw [List.getD_eq_getElem?_getD] at h
  cases e : F[x]? with
  | none => rw [e] at h; simp at h
  | some b => exact (List.getElem?_eq_some_iff.mp e).1
theorem fl_get {F : List Bool} {x : Nat} (h : x < F.length) : F[x]? = some (fl F x) := by
  unfold fl
  rw [List.getD_eq_getElem?_getD, List.getElem?_eq_getElem h]
  rfl
theorem fl_set {F : List Bool} {x : Nat} (h : x < F.length) (y : Nat) : fl (F.set x true) y = (fl F y || decide (y = x)) := by
  unfold fl
  rw [List.getD_eq_getElem?_getD, List.getD_eq_getElem?_getD, List.getElem?_set]
  by_cases e : x = y
  · subst e
    rw [if_pos rfl, if_pos h]
    simp
  · rw [if_neg e]
    simp [Ne.symm e]
structure WInv (R : List (List Int)) (F : List Bool) (T W Fd : List Int) (G : List Bool) : Prop where
  len : G.length = F.length
  eq : ∀ x : Nat, fl G x = (fl F x || decide ((x : Int) ∈ Fd))
  nd : Fd.Nodup
  fd : ∀ z ∈ Fd, ∃ x : Nat, z = x ∧ Walk R F T x
  wt : ∀ z ∈ W, ∃ x : Nat, z = x ∧ x < F.length ∧ (fl F x = false → Walk R F T x)
  c0 : ∀ x : Nat, (x : Int) ∈ T → fl F x = true ∨ (x : Int) ∈ Fd ∨ (x : Int) ∈ W
  c1 : ∀ y x : Nat, (y : Int) ∈ Fd → (x : Int) ∈ rw_ R y → fl F x = true ∨ (x : Int) ∈ Fd ∨ (x : Int) ∈ W
section
variable {R : List (List Int)} {F G : List Bool} {T W Fd : List Int}
theorem WInv.zero (h : ∀ z ∈ T, 0 ≤ z ∧ z < (F.length : Nat)) : WInv R F T T [] F := by
  refine ⟨rfl, fun x => by simp, List.nodup_nil, fun z hz => by simp at hz, fun z hz => ?_, fun x hx => .inr (.inr hx), fun y x hy => by simp at hy⟩
  have := h z hz
  exact ⟨z.toNat, by omega, by omega, fun f => .start (by rw [Int.toNat_of_nonneg this.1]; exact hz) f⟩
theorem WInv.skip {z : Int} (w : WInv R F T (W ++ [z]) Fd G) {x : Nat} (e : z = x) (h : fl G x = true) : WInv R F T W Fd G := by
  have seen : fl F x = true ∨ (x : Int) ∈ Fd := by
    have := w.eq x
    rw [h] at this
    cases c : fl F x with
    | true => exact .inl rfl
    | false =>
      rw [c] at this
      exact .inr (of_decide_eq_true (by simpa using this.symm))
  have go : ∀ y : Nat, (fl F y = true ∨ (y : Int) ∈ Fd ∨ (y : Int) ∈ W ++ [z]) → (fl F y = true ∨ (y : Int) ∈ Fd ∨ (y : Int) ∈ W) := fun y h => by
    rcases h with h | h | h
    · exact .inl h
    · exact .inr (.inl h)
    · rcases List.mem_append.mp h with h | h
      · exact .inr (.inr h)
      · have e2 : y = x := by have := List.mem_singleton.mp h; omega
        rw [e2]
        rcases seen with s | s
        · exact .inl s
        · exact .inr (.inl s)
  exact ⟨w.len, w.eq, w.nd, w.fd, fun z hz => w.wt z (List.mem_append_left _ hz), fun x hx => go x (w.c0 x hx), fun y x hy hx => go x (w.c1 y x hy hx)⟩
theorem WInv.take {z : Int} (w : WInv R F T (W ++ [z]) Fd G) {x : Nat} (e : z = x) (h : fl G x = false) (hr : ∀ z ∈ rw_ R x, 0 ≤ z ∧ z < (F.length : Nat)) : WInv R F T (W ++ rw_ R x) (Fd ++ [z]) (G.set x true) := by
  have hx := fl_lt h
  have h2 := w.eq x
  rw [h] at h2
  have f0 : fl F x = false := by
    cases c : fl F x with
    | false => rfl
    | true => rw [c] at h2; simp at h2
  have nf : (x : Int) ∉ Fd := by
    rw [f0] at h2
    exact of_decide_eq_false (by simpa using h2.symm)
  have wx : Walk R F T x := by
    obtain ⟨x', e1, _, e3⟩ := w.wt z (by simp)
    have : x' = x := by omega
    rw [this] at e3
    exact e3 f0
  have go : ∀ y : Nat, (fl F y = true ∨ (y : Int) ∈ Fd ∨ (y : Int) ∈ W ++ [z]) → (fl F y = true ∨ (y : Int) ∈ Fd ++ [z] ∨ (y : Int) ∈ W ++ rw_ R x) := fun y h => by
    rcases h with h | h | h
    · exact .inl h
    · exact .inr (.inl (List.mem_append_left _ h))
    · rcases List.mem_append.mp h with h | h
      · exact .inr (.inr (List.mem_append_left _ h))
      · exact .inr (.inl (List.mem_append_right _ h))
  refine ⟨by rw [List.length_set, w.len], fun y => ?_, ?_, fun q hq => ?_, fun q hq => ?_, fun y hy => go y (w.c0 y hy), fun u y hu hy => ?_⟩
  · rw [fl_set hx, w.eq y, Bool.or_assoc]
    congr 1
    rw [Bool.eq_iff_iff]
    simp only [Bool.or_eq_true, decide_eq_true_eq, List.mem_append, List.mem_singleton]
    constructor
    · rintro (a | a)
      · exact .inl a
      · exact .inr (by omega)
    · rintro (a | a)
      · exact .inl a
      · exact .inr (by omega)
  · rw [List.nodup_append]
    refine ⟨w.nd, by simp, fun a ha b hb => ?_⟩
    rw [List.mem_singleton.mp hb]
    exact fun e2 => nf (by rw [← e, ← e2]; exact ha)
  · rcases List.mem_append.mp hq with hq | hq
    · exact w.fd q hq
    · exact ⟨x, by rw [List.mem_singleton.mp hq]; exact e, wx⟩
  · rcases List.mem_append.mp hq with hq | hq
    · exact w.wt q (List.mem_append_left _ hq)
    · have := hr q hq
      exact ⟨q.toNat, by omega, by omega, fun f => .step wx (by rw [Int.toNat_of_nonneg this.1]; exact hq) f⟩
  · rcases List.mem_append.mp hu with hu | hu
    · exact go y (w.c1 u y hu hy)
    · have e2 : u = x := by have := List.mem_singleton.mp hu; omega
      rw [e2] at hy
      exact .inr (.inr (List.mem_append_right _ hy))
theorem WInv.done (w : WInv R F T [] Fd G) (x : Nat) : (x : Int) ∈ Fd ↔ Walk R F T x := by
  constructor
  · intro h
    obtain ⟨x', e, wx⟩ := w.fd _ h
    have : x' = x := by omega
    rw [← this]
    exact wx
  · intro h
    induction h with
    | start h f =>
      rcases w.c0 _ h with a | a | a
      · rw [f] at a; cases a
      · exact a
      · simp at a
    | step _ h f ih =>
      rcases w.c1 _ _ ih h with a | a | a
      · rw [f] at a; cases a
      · exact a
      · simp at a
/-- how much is left -/
def lft (n : Nat) (G : List Bool) (W : List Int) : Nat := G.count false * (n + 1) + W.length
theorem lft_skip {n : Nat} {z : Int} : lft n G W + 1 = lft n G (W ++ [z]) := by
  unfold lft
  rw [List.length_append]
  show _ = _ + (_ + 1)
  omega
theorem lft_take {n x : Nat} {z : Int} (h : fl G x = false) {r : List Int} (hr : r.length ≤ n) : lft n (G.set x true) (W ++ r) + 1 ≤ lft n G (W ++ [z]) := by
  have hx := fl_lt h
  have e : G[x] = false := by
    have := fl_get hx
    rw [h, List.getElem?_eq_getElem hx] at this
    exact Option.some.inj this
  have c := List.count_set (a := true) (b := false) hx
  rw [e] at c
  have p : 0 < G.count false := List.count_pos_iff.mpr (e ▸ List.getElem_mem hx)
  simp at c
  unfold lft
  rw [c, List.length_append, List.length_append]
  obtain ⟨k, hk⟩ : ∃ k, G.count false = k + 1 := ⟨G.count false - 1, by omega⟩
  rw [hk, Nat.add_sub_cancel, Nat.add_mul]
  show _ ≤ _ + (_ + 1)
  omega
end
theorem asc_one {a b : List Int} (ha : a.Pairwise (· < ·)) (hb : b.Pairwise (· < ·)) (h : ∀ x, x ∈ a ↔ x ∈ b) : a = b := by
  have na : a.Nodup := ha.imp fun h => by omega
  have nb : b.Nodup := hb.imp fun h => by omega
  exact ((List.perm_ext_iff_of_nodup na nb).mpr h).eq_of_pairwise (fun _ _ _ _ x y => by omega) ha hb
theorem pw_lt {a : List Int} (h : a.Pairwise (· ≤ ·)) (n : a.Nodup) : a.Pairwise (· < ·) := List.Pairwise.imp₂ (fun a b h1 h2 => by omega) h n
end Vf
namespace Vf
/-! ### back along rows, level by level -/
inductive Bk (R : List (List Int)) (T : List Int) : Nat → Prop
  | start {x : Nat} : (x : Int) ∈ T → Bk R T x
  | step {x y : Nat} : Bk R T y → (y : Int) ∈ rw_ R x → Bk R T x
abbrev LV := List (Int × Int)
def lk (L : LV) (z : Int) : Option Int := (L.find? fun p => decide (p.1 = z)).map (·.2)
theorem lk_none {L : LV} {z : Int} : lk L z = none ↔ z ∉ L.map Prod.fst := by
  unfold lk
  rw [Option.map_eq_none_iff, List.find?_eq_none]
  simp only [decide_eq_true_eq, List.mem_map, not_exists, not_and]
theorem lk_mem {L : LV} {z d : Int} (h : lk L z = some d) : (z, d) ∈ L := by
  unfold lk at h
  obtain ⟨p, h1, h2⟩ := Option.map_eq_some_iff.mp h
  have e := List.find?_some h1
  rw [decide_eq_true_eq] at e
  have m := List.mem_of_find?_eq_some h1
  rw [← e, ← h2]
  exact m
theorem lk_of {L : LV} (nd : (L.map Prod.fst).Nodup) {z d : Int} (h : (z, d) ∈ L) : lk L z = some d := by
  induction L with
  | nil => simp at h
  | cons p r ih =>
    rw [List.map_cons, List.nodup_cons] at nd
    unfold lk
    rw [List.find?_cons]
    rcases List.mem_cons.mp h with e | m
    · subst e
      simp
    · have ne : ¬ p.1 = z := fun e => nd.1 (by rw [e]; exact List.mem_map.mpr ⟨_, m, rfl⟩)
      rw [decide_eq_false ne]
      exact ih nd.2 m
theorem lk_key {L : LV} {z : Int} (h : z ∈ L.map Prod.fst) : ∃ d, lk L z = some d := by
  cases e : lk L z with
  | none => exact absurd h (lk_none.mp e)
  | some d => exact ⟨d, rfl⟩
theorem lk_in {L : LV} {z d : Int} (h : lk L z = some d) : z ∈ L.map Prod.fst := List.mem_map.mpr ⟨_, lk_mem h, rfl⟩
theorem lk_snoc {L : LV} {k d : Int} (h : lk L k = none) (z : Int) : lk (L ++ [(k, d)]) z = if z = k then some d else lk L z := by
  unfold lk
  rw [List.find?_append]
  by_cases e : z = k
  · subst e
    rw [if_pos rfl]
    unfold lk at h
    rw [Option.map_eq_none_iff] at h
    rw [h]
    simp
  · rw [if_neg e]
    have : List.find? (fun p => decide (p.1 = z)) [(k, d)] = none := by simp [Ne.symm e]
    rw [this, Option.or_none]
structure TInv (R : List (List Int)) (T : List Int) (n t k : Nat) (ch : Bool) (L : LV) : Prop where
  nd : (L.map Prod.fst).Nodup
  rng : ∀ z d, lk L z = some d → ∃ x : Nat, z = x ∧ x < n ∧ Bk R T x
  hi : ∀ z d, lk L z = some d → 0 ≤ d ∧ d ≤ (t : Int) + 1 ∧ (ch = false → d ≤ t)
  c0 : ∀ z ∈ T, z ∈ L.map Prod.fst
  lo : ∀ x : Nat, x < n → lk L x = none → ∀ z ∈ rw_ R x, ∀ d, lk L z = some d → (t : Int) ≤ d ∧ (x < k → (t : Int) + 1 ≤ d)
  c1 : ch = false → t = 0 ∨ t + 1 ≤ L.length
  c2 : ch = true → t + 2 ≤ L.length
section
variable {R : List (List Int)} {T : List Int} {n t k : Nat} {ch : Bool} {L : LV}
theorem TInv.found (w : TInv R T n t k ch L) (h : (k : Int) ∈ L.map Prod.fst) : TInv R T n t (k + 1) ch L :=
  ⟨w.nd, w.rng, w.hi, w.c0, fun x hx hn z hz d hd => by
    obtain ⟨a, b⟩ := w.lo x hx hn z hz d hd
    refine ⟨a, fun hk => b ?_⟩
    have : x ≠ k := fun e => lk_none.mp (e ▸ hn) h
    omega, w.c1, w.c2⟩
theorem TInv.far (w : TInv R T n t k ch L) (h : ∀ z ∈ rw_ R k, ∀ d, lk L z = some d → d ≠ t) : TInv R T n t (k + 1) ch L :=
  ⟨w.nd, w.rng, w.hi, w.c0, fun x hx hn z hz d hd => by
    obtain ⟨a, b⟩ := w.lo x hx hn z hz d hd
    refine ⟨a, fun hk => ?_⟩
    by_cases e : x = k
    · have := h z (e ▸ hz) d hd
      omega
    · exact b (by omega), w.c1, w.c2⟩
theorem TInv.near (w : TInv R T n t k ch L) (hk : k < n) (hn : lk L k = none) {z : Int} (hz : z ∈ rw_ R k) (hd : lk L z = some (t : Int)) : TInv R T n t (k + 1) true (L ++ [((k : Int), (t : Int) + 1)]) := by
  have sn := lk_snoc (d := (t : Int) + 1) hn
  have bk : Bk R T k := by
    obtain ⟨y, e, _, b⟩ := w.rng z _ hd
    exact .step b (by rw [← e]; exact hz)
  refine ⟨?_, fun y d h => ?_, fun y d h => ?_, fun y hy => ?_, fun x hx hxn y hy d h => ?_, (fun h => by cases h), fun _ => ?_⟩
  · rw [List.map_append, List.nodup_append]
    refine ⟨w.nd, by simp, fun a ha b hb => ?_⟩
    have e : b = (k : Int) := by simpa using hb
    rw [e]
    exact fun e2 => lk_none.mp hn (e2 ▸ ha)
  · rw [sn] at h
    split at h
    · rename_i e
      exact ⟨k, e, hk, bk⟩
    · exact w.rng y d h
  · rw [sn] at h
    split at h
    · cases h
      exact ⟨by omega, by omega, fun h => by cases h⟩
    · have := w.hi y d h
      exact ⟨this.1, this.2.1, fun h => by cases h⟩
  · rw [List.map_append]
    exact List.mem_append_left _ (w.c0 y hy)
  · rw [sn] at hxn h
    split at hxn
    · cases hxn
    · rename_i ne
      split at h
      · cases h
        exact ⟨by omega, fun _ => by omega⟩
      · obtain ⟨a, b⟩ := w.lo x hx hxn y hy d h
        exact ⟨a, fun q => b (by omega)⟩
  · rw [List.length_append]
    show t + 2 ≤ L.length + 1
    have l1 : 1 ≤ L.length := List.length_pos_of_mem (lk_mem hd)
    cases c : ch with
    | true => have := w.c2 c; omega
    | false =>
      rcases w.c1 c with a | a
      · omega
      · omega
/-- the next turn -/
theorem TInv.turn (w : TInv R T n t k true L) (hk : n ≤ k) : TInv R T n (t + 1) 0 false L :=
  ⟨w.nd, w.rng, fun z d h => by have := w.hi z d h; omega, w.c0, fun x hx hn z hz d hd => by
    have := (w.lo x hx hn z hz d hd).2 (by omega)
    omega, fun _ => .inr (by have := w.c2 rfl; omega), fun h => by cases h⟩
theorem TInv.stop (w : TInv R T n t k false L) (hk : n ≤ k) (hR : ∀ x, n ≤ x → rw_ R x = []) (hT : ∀ x : Nat, (x : Int) ∈ T → x < n) (x : Nat) : (x : Int) ∈ L.map Prod.fst ↔ Bk R T x := by
  constructor
  · intro h
    obtain ⟨d, hd⟩ := lk_key h
    obtain ⟨y, e, _, b⟩ := w.rng _ d hd
    have : y = x := by omega
    exact this ▸ b
  · intro h
    induction h with
    | start h => exact w.c0 _ h
    | @step x y b h ih =>
      by_cases c : (x : Int) ∈ L.map Prod.fst
      · exact c
      · have hx : x < n := by
          by_cases q : x < n
          · exact q
          · rw [hR x (by omega)] at h
            simp at h
        obtain ⟨d, hd⟩ := lk_key ih
        have h1 := (w.lo x hx (lk_none.mpr c) _ h d hd).2 (by omega)
        have h2 := (w.hi _ d hd).2.2 rfl
        omega
/-- so many turns can't all change something -/
theorem keys_few : ∀ {n : Nat} {l : List Int}, l.Nodup → (∀ z ∈ l, ∃ x : Nat, z = x ∧ x < n) → l.length ≤ n
  | 0, l, _, h => by
    cases l with
    | nil => exact Nat.le_refl _
    | cons a r =>
      obtain ⟨x, _, hx⟩ := h a (List.mem_cons_self ..)
      omega
  | n + 1, l, nd, h => by
    have ih := keys_few (n := n) (nd.erase (n : Int)) fun z hz => by
      obtain ⟨h1, h2⟩ := (List.Nodup.mem_erase_iff nd).mp hz
      obtain ⟨x, e, hx⟩ := h z h2
      exact ⟨x, e, by omega⟩
    by_cases c : (n : Int) ∈ l
    · rw [List.length_erase_of_mem c] at ih
      omega
    · rw [List.erase_of_not_mem c] at ih
      omega
theorem TInv.full (w : TInv R T n n 0 false L) (h1 : 1 ≤ n) : False := by
  have h2 := keys_few w.nd (n := n) fun z hz => by
    obtain ⟨d, hd⟩ := lk_key hz
    obtain ⟨x, e, hx, _⟩ := w.rng z d hd
    exact ⟨x, e, hx⟩
  rw [List.length_map] at h2
  rcases w.c1 rfl with a | a <;> omega
/-- the first level -/
def lv0 : List Int → LV → LV
  | [], L => L
  | z :: r, L => lv0 r (if z ∈ L.map Prod.fst then L else L ++ [(z, 0)])
theorem lv0_ok : ∀ {S : List Int} {L : LV}, (∀ z ∈ S, ∃ x : Nat, z = x ∧ x < n ∧ Bk R T x) → (L.map Prod.fst).Nodup → (∀ z d, lk L z = some d → d = 0 ∧ ∃ x : Nat, z = x ∧ x < n ∧ Bk R T x) →
    ((lv0 S L).map Prod.fst).Nodup ∧ (∀ z d, lk (lv0 S L) z = some d → d = 0 ∧ ∃ x : Nat, z = x ∧ x < n ∧ Bk R T x) ∧ (∀ z ∈ S, z ∈ (lv0 S L).map Prod.fst) ∧ ∀ z ∈ L.map Prod.fst, z ∈ (lv0 S L).map Prod.fst
  | [], L, _, nd, h => ⟨nd, h, fun z hz => by simp at hz, fun z hz => hz⟩
  | a :: r, L, hS, nd, h => by
    rw [lv0]
    by_cases c : a ∈ L.map Prod.fst
    · rw [if_pos c]
      obtain ⟨h1, h2, h3, h4⟩ := lv0_ok (S := r) (fun z hz => hS z (List.mem_cons_of_mem _ hz)) nd h
      refine ⟨h1, h2, fun z hz => ?_, h4⟩
      rcases List.mem_cons.mp hz with e | m
      · exact h4 z (e ▸ c)
      · exact h3 z m
    · rw [if_neg c]
      obtain ⟨h1, h2, h3, h4⟩ := lv0_ok (S := r) (L := L ++ [(a, 0)]) (fun z hz => hS z (List.mem_cons_of_mem _ hz)) (by
        rw [List.map_append, List.nodup_append]
        refine ⟨nd, by simp, fun x hx b hb => ?_⟩
        have e : b = a := by simpa using hb
        rw [e]
        exact fun e2 => c (e2 ▸ hx)) (fun z d hd => by
        rw [lk_snoc (lk_none.mpr c)] at hd
        split at hd
        · rename_i e
          cases hd
          exact ⟨rfl, e ▸ hS a (List.mem_cons_self ..)⟩
        · exact h z d hd)
      have h4' : ∀ z ∈ (L ++ [(a, (0 : Int))]).map Prod.fst, z ∈ (lv0 r (L ++ [(a, 0)])).map Prod.fst := h4
      refine ⟨h1, h2, fun z hz => ?_, fun z hz => h4' z (by rw [List.map_append]; exact List.mem_append_left _ hz)⟩
      rcases List.mem_cons.mp hz with e | m
      · exact h4' z (by rw [List.map_append, e]; exact List.mem_append_right _ (by simp))
      · exact h3 z m
theorem TInv.zero (hT : ∀ z ∈ T, 0 ≤ z ∧ z < (n : Nat)) : TInv R T n 0 0 false (lv0 T []) := by
  obtain ⟨h1, h2, h3, _⟩ := lv0_ok (R := R) (T := T) (n := n) (S := T) (L := []) (fun z hz => by
    have := hT z hz
    exact ⟨z.toNat, by omega, by omega, .start (by rw [Int.toNat_of_nonneg this.1]; exact hz)⟩) (by simp) (fun z d h => by simp [lk] at h)
  refine ⟨h1, fun z d h => (h2 z d h).2, fun z d h => ?_, h3, fun x hx hn z hz d h => ?_, fun _ => .inl rfl, fun h => by cases h⟩
  · have := (h2 z d h).1
    omega
  · have := (h2 z d h).1
    exact ⟨by omega, fun h => by omega⟩
end
/-! ### rows turned round -/
def turned (R : List (List Int)) : List (List Int) := (List.range R.length).map fun (i : Nat) => ((List.range R.length).filter fun (y : Nat) => decide ((i : Int) ∈ rw_ R y)).map fun (y : Nat) => (y : Int)
theorem turned_len (R : List (List Int)) : (turned R).length = R.length := by
  unfold turned
  rw [List.length_map, List.length_range]
theorem turned_at (R : List (List Int)) {i : Nat} (h : i < R.length) : (turned R)[i]? = some (((List.range R.length).filter fun (y : Nat) => decide ((i : Int) ∈ rw_ R y)).map fun (y : Nat) => (y : Int)) := by
  unfold turned
  rw [List.getElem?_map, List.getElem?_range h]
  rfl
theorem turned_mem (R : List (List Int)) (i : Nat) (z : Int) : z ∈ rw_ (turned R) i ↔ i < R.length ∧ ∃ y : Nat, z = y ∧ y < R.length ∧ (i : Int) ∈ rw_ R y := by
  unfold rw_
  rw [List.getD_eq_getElem?_getD]
  by_cases h : i < R.length
  · rw [turned_at R h]
    show z ∈ List.map _ _ ↔ _
    rw [List.mem_map]
    constructor
    · rintro ⟨y, hy, e⟩
      rw [List.mem_filter, List.mem_range] at hy
      exact ⟨h, y, e.symm, hy.1, of_decide_eq_true hy.2⟩
    · rintro ⟨_, y, e, h1, h2⟩
      exact ⟨y, by rw [List.mem_filter, List.mem_range]; exact ⟨h1, decide_eq_true h2⟩, e.symm⟩
  · rw [List.getElem?_eq_none (by rw [turned_len]; omega)]
    constructor
    · intro h; simp at h
    · rintro ⟨a, _⟩; exact absurd a h
theorem walk_back {R : List (List Int)} {T : List Int} (hT : ∀ z ∈ T, 0 ≤ z ∧ z < (R.length : Nat)) (x : Nat) : Walk (turned R) (List.replicate R.length false) T x ↔ Bk R T x := by
  have f0 : ∀ y : Nat, y < R.length → fl (List.replicate R.length false) y = false := fun y hy => by
    unfold fl
    rw [List.getD_eq_getElem?_getD, List.getElem?_replicate, if_pos hy]
    rfl
  constructor
  · intro w
    induction w with
    | start h _ => exact .start h
    | step _ h _ ih =>
      obtain ⟨_, y, e, _, h2⟩ := (turned_mem R _ _).mp h
      have e' := Int.ofNat.inj e
      rw [e'] 
      exact .step ih h2
  · intro w
    induction w with
    | start h => exact .start h (f0 _ (by have := hT _ h; omega))
    | @step x y _ h ih =>
      have hx : x < R.length := by
        by_cases c : x < R.length
        · exact c
        · unfold rw_ at h
          rw [List.getD_eq_getElem?_getD, List.getElem?_eq_none (by omega)] at h
          simp at h
      refine .step ih ((turned_mem R _ _).mpr ⟨?_, x, rfl, hx, h⟩) (f0 x hx)
      have := fl_lt ih.fl0
      rwa [List.length_replicate] at this
theorem turned_ok {R : List (List Int)} {r : List Int} (h : r ∈ turned R) : r.length ≤ R.length ∧ ∀ z ∈ r, 0 ≤ z ∧ z < (R.length : Nat) := by
  unfold turned at h
  obtain ⟨i, _, rfl⟩ := List.mem_map.mp h
  refine ⟨?_, fun z hz => ?_⟩
  · rw [List.length_map]
    have := List.length_filter_le (fun (y : Nat) => decide ((i : Int) ∈ rw_ R y)) (List.range R.length)
    rwa [List.length_range] at this
  · obtain ⟨y, hy, rfl⟩ := List.mem_map.mp hz
    rw [List.mem_filter, List.mem_range] at hy
    omega
end Vf
namespace Vf
/-- so far: rows before k, and so many of row k -/
def cont (R : List (List Int)) (k j i : Nat) : List Int := ((List.range k).filter fun (y : Nat) => decide ((i : Int) ∈ rw_ R y)).map (fun (y : Nat) => (y : Int)) ++ if (i : Int) ∈ (rw_ R k).take j then [(k : Int)] else []
theorem cont_zero (R : List (List Int)) (i : Nat) : cont R 0 0 i = [] := by simp [cont]
theorem cont_row (R : List (List Int)) (k i : Nat) {j : Nat} (h : (rw_ R k).length ≤ j) : cont R k j i = cont R (k + 1) 0 i := by
  unfold cont
  rw [List.take_of_length_le h, List.take_zero, if_neg (List.not_mem_nil), List.append_nil, List.range_succ, List.filter_append, List.map_append]
  congr 1
  by_cases c : (i : Int) ∈ rw_ R k
  · simp [c]
  · simp [c]
theorem cont_same {R : List (List Int)} {k j i : Nat} {z : Int} (h : (rw_ R k)[j]? = some z) (ne : (i : Int) ≠ z) : cont R k (j + 1) i = cont R k j i := by
  unfold cont
  congr 1
  have e : (rw_ R k).take (j + 1) = (rw_ R k).take j ++ [z] := by rw [List.take_add_one, h]; rfl
  rw [e]
  simp [ne]
theorem cont_new {R : List (List Int)} {k j i : Nat} (nd : (rw_ R k).Nodup) (h : (rw_ R k)[j]? = some (i : Int)) : cont R k (j + 1) i = cont R k j i ++ [(k : Int)] := by
  have e : (rw_ R k).take (j + 1) = (rw_ R k).take j ++ [(i : Int)] := by rw [List.take_add_one, h]; rfl
  have nm : (i : Int) ∉ (rw_ R k).take j := fun m => by
    have n2 : ((rw_ R k).take (j + 1)).Nodup := nd.sublist (List.take_sublist _ _)
    rw [e, List.nodup_append] at n2
    exact n2.2.2 _ m _ (List.mem_singleton.mpr rfl) rfl
  unfold cont
  rw [e, if_neg nm, if_pos (by simp), List.append_nil]
theorem cont_end {R : List (List Int)} {i : Nat} (h : i < R.length) : (turned R)[i]? = some (cont R R.length 0 i) := by
  rw [turned_at R h]
  unfold cont
  simp
theorem cont_len (R : List (List Int)) (k j i : Nat) : (cont R k j i).length ≤ k + 1 := by
  unfold cont
  rw [List.length_append, List.length_map]
  have h1 := List.length_filter_le (fun (y : Nat) => decide ((i : Int) ∈ rw_ R y)) (List.range k)
  rw [List.length_range] at h1
  have h2 : (if (i : Int) ∈ (rw_ R k).take j then [(k : Int)] else []).length ≤ 1 := by split <;> simp
  omega
theorem rw_at {R : List (List Int)} {k : Nat} {r : List Int} (h : R[k]? = some r) : rw_ R k = r := by
  unfold rw_
  rw [List.getD_eq_getElem?_getD, h]
  rfl
/-- the numbers with their levels, as a dict -/
theorem near_mem {L : LV} {l : List Int} {d : Int} : d ∈ l.filterMap (lk L) ↔ ∃ z ∈ l, lk L z = some d := List.mem_filterMap
end Vf
namespace Vf
open PySem L2
/-! ### in the heap -/
def dkv (L : LV) : List (Key × V) := L.map fun p => (Sum.inl p.1, V.int p.2)
theorem dkv_len (L : LV) : (dkv L).length = L.length := List.length_map ..
theorem dkv_val (L : LV) (z : Int) : valV (dkv L) (Sum.inl z) = (lk L z).map V.int := by
  induction L with
  | nil => rfl
  | cons p r ih =>
    unfold dkv lk at *
    rw [List.map_cons, List.find?_cons]
    by_cases e : p.1 = z
    · rw [valV_pos (by rw [e]), decide_eq_true e]
      rfl
    · rw [valV_neg (fun q => e (Sum.inl.inj q)), decide_eq_false e, ih]
theorem dkv_new {L : LV} {z d : Int} (h : lk L z = none) : putK (dkv L) (Sum.inl z) (V.int d) = dkv (L ++ [(z, d)]) := by
  rw [putK_new _ (by rw [dkv_val, h]; rfl)]
  unfold dkv
  rw [List.map_append]
  rfl
theorem dkv_old {L : LV} {z d : Int} (h : ∀ q ∈ L, q.1 = z → q.2 = d) (hin : z ∈ L.map Prod.fst) : putK (dkv L) (Sum.inl z) (V.int d) = dkv L := by
  obtain ⟨e, he⟩ := lk_key hin
  unfold putK
  rw [if_pos (by rw [valV_any, dkv_val, he]; rfl)]
  unfold dkv
  rw [List.map_map]
  refine List.map_congr_left fun q hq => ?_
  show (if (Sum.inl q.1 : Key) = Sum.inl z then ((Sum.inl q.1 : Key), V.int d) else (Sum.inl q.1, V.int q.2)) = _
  by_cases e : q.1 = z
  · rw [if_pos (by rw [e]), h q hq e]
  · rw [if_neg (fun q' => e (Sum.inl.inj q'))]
theorem dkv_keys (L : LV) : (dkv L).map (·.1) = (L.map Prod.fst).map Sum.inl := by
  unfold dkv
  rw [List.map_map, List.map_map]
  rfl
theorem lv0_snoc : ∀ (S : List Int) (z : Int) (L : LV), lv0 (S ++ [z]) L = if z ∈ (lv0 S L).map Prod.fst then lv0 S L else lv0 S L ++ [(z, 0)]
  | [], z, L => rfl
  | a :: r, z, L => by
    rw [List.cons_append, lv0, lv0]
    exact lv0_snoc r z _
theorem lv0_zero : ∀ {S : List Int} {L : LV}, (∀ q ∈ L, q.2 = 0) → ∀ q ∈ lv0 S L, q.2 = 0
  | [], L, h => h
  | a :: r, L, h => by
    rw [lv0]
    refine lv0_zero (S := r) ?_
    split
    · exact h
    · intro q hq
      rcases List.mem_append.mp hq with hq | hq
      · exact h q hq
      · rw [List.mem_singleton.mp hq]
theorem lv0_len : ∀ (S : List Int) (L : LV), (lv0 S L).length ≤ L.length + S.length
  | [], L => Nat.le_refl _
  | a :: r, L => by
    rw [lv0]
    have := lv0_len r (if a ∈ L.map Prod.fst then L else L ++ [(a, 0)])
    have h2 : (if a ∈ L.map Prod.fst then L else L ++ [(a, (0 : Int))]).length ≤ L.length + 1 := by
      split
      · omega
      · rw [List.length_append]
        exact Nat.le_refl _
    rw [List.length_cons]
    omega
/-- lists of a list, each another one -/
structure RowsL (H : Hp) (R : Addr) (m : Nat) (as : List Addr) (rows : Nat → List Int) : Prop where
  at_ : H R = some (.lst (as.map V.ref))
  len : as.length = m
  nd : as.Nodup
  row : ∀ i a, as[i]? = some a → H a = some (.lst ((rows i).map V.int)) ∧ a ≠ R
theorem RowsL.lsts {H : Hp} {R : Addr} {m : Nat} {as : List Addr} {rows : Nat → List Int} (W : RowsL H R m as rows) {l : List (List Int)} (hl : l.length = m) (h : ∀ i, i < m → l[i]? = some (rows i)) : Lsts H (as.map V.ref) l :=
  ⟨by rw [List.length_map, W.len, hl], fun i r hr => by
    have hi : i < m := by have := (List.getElem?_eq_some_iff.mp hr).1; omega
    have hj : i < as.length := by rw [W.len]; exact hi
    have e := h i hi
    rw [hr] at e
    have e : r = rows i := Option.some.inj e
    refine ⟨as[i], by rw [List.getElem?_map, List.getElem?_eq_getElem hj]; rfl, ?_⟩
    rw [e]
    exact (W.row i _ (List.getElem?_eq_getElem hj)).1⟩
theorem RowsL.snoc {H : Hp} {R b : Addr} {m : Nat} {as : List Addr} (W : RowsL H R m as (fun _ => [])) (hb : H b = none) : RowsL (upd (upd H b (.lst [])) R (.lst (as.map V.ref ++ [.ref b]))) R (m + 1) (as ++ [b]) (fun _ => []) := by
  have nb : R ≠ b := ne_of_none W.at_ hb
  refine ⟨by rw [upd_same, List.map_append]; rfl, by simp [W.len], ?_, fun n a hn => ?_⟩
  · rw [List.nodup_append]
    refine ⟨W.nd, by simp, fun a ha c hc => ?_⟩
    rw [List.mem_singleton] at hc
    subst hc
    obtain ⟨n, hn⟩ := List.mem_iff_getElem?.mp ha
    exact ne_of_none (W.row n a hn).1 hb
  · by_cases hl : n < as.length
    · rw [List.getElem?_append_left hl] at hn
      obtain ⟨h1, h2⟩ := W.row n a hn
      exact ⟨by rw [upd_ne h2, upd_ne (ne_of_none h1 hb)]; exact h1, h2⟩
    · rw [List.getElem?_append_right (by omega)] at hn
      have e0 : n - as.length = 0 := by
        cases q' : n - as.length with
        | zero => rfl
        | succ k => rw [q'] at hn; simp at hn
      rw [e0] at hn
      have e : b = a := Option.some.inj hn
      subst e
      exact ⟨by rw [upd_ne (Ne.symm nb), upd_same]; rfl, Ne.symm nb⟩
theorem RowsL.put {H : Hp} {R : Addr} {m : Nat} {as : List Addr} {rows rows' : Nat → List Int} (W : RowsL H R m as rows) {r : Nat} {a : Addr} (ha : as[r]? = some a) (h : ∀ i, i ≠ r → rows' i = rows i) :
    RowsL (upd H a (.lst ((rows' r).map V.int))) R m as rows' := by
  have ha2 := (W.row r a ha).2
  refine ⟨by rw [upd_ne (Ne.symm ha2)]; exact W.at_, W.len, W.nd, fun c b hb => ?_⟩
  obtain ⟨h1, h2⟩ := W.row c b hb
  by_cases e : b = a
  · subst e
    rw [nodup_ix W.nd hb ha]
    exact ⟨upd_same, h2⟩
  · have nc : c ≠ r := fun z => by
      rw [z, ha] at hb
      exact e (Option.some.inj hb).symm
    exact ⟨by rw [upd_ne e, h c nc]; exact h1, h2⟩
/-- other lists than one of flags -/
theorem ints_flags {H : Hp} {a b : Addr} {l : List Int} {F : List Bool} (ha : H a = some (.lst (l.map V.int))) (hb : H b = some (.lst (F.map V.bl))) (h : 1 ≤ F.length) : a ≠ b := fun e => by
  rw [e, hb] at ha
  have e2 : F.map V.bl = l.map V.int := by injection ha with ha; injection ha
  cases F with
  | nil => simp at h
  | cons x r =>
    cases l with
    | nil => simp at e2
    | cons y s => simp at e2
theorem set_map {F : List Bool} {x : Nat} : (F.map V.bl).set x (.bl true) = (F.set x true).map V.bl := by
  rw [List.map_set]
end Vf

namespace Vf
open PySem L2
theorem pi_listK2 {X : Cx} {K : PySem.W.Frag} (hk : X.K = K) {tg l : Expr} {tl : TE} (hl : PE X l tl) : PI X tg l (iList K tl) := by
  subst hk
  exact pi_list hl
theorem op_notIn_seqK2 {X : Cx} {K : PySem.W.Frag} (hk : X.K = K) : OpR X (compareOp .NotIn) (rIn K true) := by
  subst hk
  exact op_notIn_seq
theorem op_in_seqK2 {X : Cx} {K : PySem.W.Frag} (hk : X.K = K) : OpR X (compareOp .In) (rIn K false) := by
  subst hk
  exact op_in_seq
/-- a comprehension within a comprehension -/
theorem look_relabel (env : Env) (x : Str) : ∀ l : List (Str × NameKind), (l.map (fun p => match p with | (n, k) => if (k == NameKind.free && env.scope.kind == ScopeKind.function && env.kindOf n == some NameKind.cell) = true then (n, NameKind.cell) else (n, k))).lookup x = (l.lookup x).map fun k => if (k == NameKind.free && env.scope.kind == ScopeKind.function && env.kindOf x == some NameKind.cell) = true then NameKind.cell else k
  | [] => rfl
  | (n, k) :: r => by
    have ih := look_relabel env x r
    rw [List.map_cons, List.lookup_cons (as := r)]
    dsimp only
    by_cases c : (k == NameKind.free && env.scope.kind == ScopeKind.function && env.kindOf n == some NameKind.cell) = true
    · rw [if_pos c, List.lookup_cons]
      by_cases e : x = n
      · subst e
        simp only [beq_self_eq_true, Option.map_some]
        rw [if_pos c]
      · have e' : (x == n) = false := by simpa using e
        rw [e']
        exact ih
    · rw [if_neg c, List.lookup_cons]
      by_cases e : x = n
      · subst e
        simp only [beq_self_eq_true, Option.map_some]
        rw [if_neg c]
      · have e' : (x == n) = false := by simpa using e
        rw [e']
        exact ih
theorem blkOk_in {N : List Str} {sc scope : Scope} {own : List (Str × Nat)} {env : Env} (h : blkC N sc scope own = true) : BlkOk N (relabel sc env) scope own := by
  have b := blkOk_by h
  refine ⟨b.kind, b.uniq, b.ix, fun y hy hf => ?_, b.own⟩
  have e : (relabel sc env).names.lookup y.1 = (sc.names.lookup y.1).map fun k => if (k == NameKind.free && env.scope.kind == ScopeKind.function && env.kindOf y.1 == some NameKind.cell) = true then NameKind.cell else k := look_relabel env y.1 sc.names
  rw [e]
  rcases b.free y hy hf with q | q
  · rw [q]
    exact .inl rfl
  · rw [q, Option.map_some]
    split
    · exact .inl rfl
    · exact .inr rfl
end Vf

namespace Vf
open PySem PySem.Spec PyProof.Rows L2
def CDivWN (_ j : Int) : Prop := j ≠ 0 ∧ j.natAbs.log2 < 9000
def rCopy (K : PySem.W.Frag) : List V → Hp → VK → Prop := fun vs H Q => ∃ a its, vs = [.ref a] ∧ (SqL K H a its ∨ SqT K H a its) ∧ ∀ u, H u = none → Q (.ref u) (upd H u (.lst its))
theorem call_list_ofK {X : Cx} {K : PySem.W.Frag} (h : X.K = K) : CallR X (.type "list") (rCopy K) := by
  subst h
  exact call_list_of
/-- five lists, the parts of a protocol -/
theorem op_fdivWN {X : Cx} : OpR X (binaryOp .FloorDiv) (rI CDivWN fun i j => .int (i.fdiv j)) := opI fun _ _ _ _ _ _ _ hc q => floordiv_int hc.1 q (.inl (PyProof.noPylong_of_log2 hc.2))
end Vf
namespace Vf
open PySem L2
/-! ### rows of numbers and their elimination -/
/-- the row, divided -/
structure RedOk (ns ms : List Int) : Prop where
  len : ms.length = ns.length
  le : ∀ i : Nat, (ms.getD i 0).natAbs ≤ (ns.getD i 0).natAbs
  z : ∀ i : Nat, ms.getD i 0 = 0 ↔ ns.getD i 0 = 0
  lin : ∃ g : Int, g ≠ 0 ∧ ∀ i : Nat, ns.getD i 0 = g * ms.getD i 0
theorem RedOk.self (ns : List Int) : RedOk ns ns := ⟨rfl, fun _ => Nat.le_refl _, fun _ => Iff.rfl, 1, by decide, fun _ => (Int.one_mul _).symm⟩
/-- the greatest common divisor of a row -/
def gcdR (ns : List Int) : Nat := ns.foldl (fun (d : Nat) x => Int.gcd (d : Int) x) 0
theorem gcdR_snoc (ns : List Int) (x : Int) : gcdR (ns ++ [x]) = Int.gcd (gcdR ns : Int) x := by
  unfold gcdR
  rw [List.foldl_append]
  rfl
theorem foldl_dvd : ∀ (ns : List Int) (d : Nat), (∀ x ∈ ns, ((ns.foldl (fun (d : Nat) x => Int.gcd (d : Int) x) d : Nat) : Int) ∣ x) ∧ ns.foldl (fun (d : Nat) x => Int.gcd (d : Int) x) d ∣ d
  | [], d => ⟨fun x h => (by cases h), Nat.dvd_refl d⟩
  | y :: ns, d => by
    have h := foldl_dvd ns (Int.gcd (d : Int) y)
    have g1 : Int.gcd (d : Int) y ∣ d := Int.ofNat_dvd.mp (Int.gcd_dvd_left (d : Int) y)
    refine ⟨fun x hx => ?_, Nat.dvd_trans h.2 g1⟩
    rcases List.mem_cons.mp hx with rfl | hx
    · exact Int.dvd_trans (Int.ofNat_dvd.mpr h.2) (Int.gcd_dvd_right (d : Int) x)
    · exact h.1 x hx
theorem gcdR_dvd {ns : List Int} {x : Int} (h : x ∈ ns) : ((gcdR ns : Nat) : Int) ∣ x := (foldl_dvd ns 0).1 x h
theorem div_facts {x : Int} {g : Nat} (g0 : 0 < g) (h : (g : Int) ∣ x) : (x.fdiv (g : Int)).natAbs ≤ x.natAbs ∧ (x.fdiv (g : Int) = 0 ↔ x = 0) := by
  obtain ⟨k, rfl⟩ := h
  have e : ((g : Int) * k).fdiv (g : Int) = k := Int.mul_fdiv_cancel_left k (by omega)
  rw [e, Int.natAbs_mul]
  refine ⟨?_, ?_⟩
  · have h1 : ((g : Nat) : Int).natAbs = g := Int.natAbs_natCast g
    rw [h1]
    exact Nat.le_mul_of_pos_left _ g0
  · constructor
    · intro h; rw [h]; simp
    · intro h
      rcases Int.mul_eq_zero.mp h with h | h
      · omega
      · exact h
theorem red_ok {ns : List Int} (g0 : 0 < gcdR ns) : RedOk ns (ns.map fun x => x.fdiv (gcdR ns : Int)) := by
  have at' : ∀ i : Nat, (ns.map fun x => x.fdiv (gcdR ns : Int)).getD i 0 = (ns.getD i 0).fdiv (gcdR ns : Int) := fun i => by
    rw [List.getD_eq_getElem?_getD, List.getD_eq_getElem?_getD, List.getElem?_map]
    cases ns[i]? with
    | none => simp
    | some x => rfl
  have dv : ∀ i : Nat, ((gcdR ns : Nat) : Int) ∣ ns.getD i 0 := fun i => by
    rw [List.getD_eq_getElem?_getD]
    cases h : ns[i]? with
    | none => exact Int.dvd_zero _
    | some x => exact gcdR_dvd (List.mem_of_getElem? h)
  refine ⟨List.length_map .., fun i => ?_, fun i => ?_, (gcdR ns : Int), by omega, fun i => ?_⟩
  · rw [at']
    exact (div_facts g0 (dv i)).1
  · rw [at']
    exact (div_facts g0 (dv i)).2
  · rw [at']
    obtain ⟨k, hk⟩ := dv i
    rw [hk, Int.mul_fdiv_cancel_left k (by omega)]
/-- a row without what stands in a column -/
structure WoOk (ns ps : List Int) (c : Nat) (ms : List Int) : Prop where
  len : ms.length = ns.length
  b : ∀ a : Nat, 1 ≤ a → (∀ i : Nat, (ns.getD i 0).natAbs < 2 ^ a) → (∀ i : Nat, (ps.getD i 0).natAbs < 2 ^ a) → ∀ i : Nat, (ms.getD i 0).natAbs < 2 ^ (2 * a + 1)
  col : ms.getD c 0 = 0
  z : ps.getD c 0 ≠ 0 → ∀ i : Nat, ps.getD i 0 = 0 → (ms.getD i 0 = 0 ↔ ns.getD i 0 = 0)
  lin : ps.getD c 0 ≠ 0 → ∃ g k t : Int, g ≠ 0 ∧ k ≠ 0 ∧ ∀ i : Nat, g * ms.getD i 0 = k * ns.getD i 0 - t * ps.getD i 0
def crossR (ns ps : List Int) (c : Nat) : List Int := (List.range ns.length).map fun k => ns.getD k 0 * ps.getD c 0 - ps.getD k 0 * ns.getD c 0
theorem crossR_at {ns ps : List Int} {c i : Nat} (h : i < ns.length) : (crossR ns ps c).getD i 0 = ns.getD i 0 * ps.getD c 0 - ps.getD i 0 * ns.getD c 0 := by
  unfold crossR
  rw [List.getD_eq_getElem?_getD, List.getElem?_map, List.getElem?_range h]
  rfl
theorem wo_self {ns ps : List Int} {c : Nat} (h : ns.getD c 0 = 0) : WoOk ns ps c ns := ⟨rfl, fun a _ h _ i => Nat.lt_of_lt_of_le (h i) (Nat.pow_le_pow_right (by decide) (by omega)), h, fun _ _ _ => Iff.rfl, fun _ => ⟨1, 1, 0, by decide, by decide, fun i => by omega⟩⟩
theorem wo_cross {ns ps ms : List Int} {c : Nat} (hl : ps.length = ns.length) (hc : c < ns.length) (nz : ns.getD c 0 ≠ 0) (r : RedOk (crossR ns ps c) ms) : WoOk ns ps c ms := by
  have cl : (crossR ns ps c).length = ns.length := by unfold crossR; rw [List.length_map, List.length_range]
  have out : ∀ {l : List Int} {i : Nat}, l.length ≤ i → l.getD i 0 = 0 := fun h => by rw [List.getD_eq_getElem?_getD, List.getElem?_eq_none h]; rfl
  refine ⟨r.len.trans cl, fun a a1 h1 h2 i => Nat.lt_of_le_of_lt (r.le i) ?_, ?_, fun pz i hi => ?_, fun pz => ?_⟩
  · by_cases hi : i < ns.length
    · rw [crossR_at hi]
      have m1 := wide_lt (h1 i) (h2 c)
      have m2 := wide_lt (h2 i) (h1 c)
      have e : a + a = 2 * a := by omega
      rw [e] at m1 m2
      have p : 2 ^ (2 * a + 1) = 2 ^ (2 * a) + 2 ^ (2 * a) := by rw [Nat.pow_succ]; omega
      rw [p]
      omega
    · rw [out (by rw [cl]; omega)]
      exact Nat.pow_pos (by decide)
  · rw [r.z, crossR_at hc, Int.mul_comm (ps.getD c 0), Int.sub_self]
  · rw [r.z]
    by_cases hn : i < ns.length
    · rw [crossR_at hn, hi, Int.zero_mul, Int.sub_zero]
      constructor
      · intro h
        rcases Int.mul_eq_zero.mp h with h | h
        · exact h
        · exact absurd h pz
      · intro h
        rw [h, Int.zero_mul]
    · rw [out (by rw [cl]; omega), out (by omega)]
  · obtain ⟨g, g0, hg⟩ := r.lin
    refine ⟨g, ps.getD c 0, ns.getD c 0, g0, pz, fun i => ?_⟩
    rw [← hg i]
    by_cases hi : i < ns.length
    · rw [crossR_at hi, Int.mul_comm (ns.getD i 0), Int.mul_comm (ps.getD i 0)]
    · rw [out (by rw [cl]; omega), out (show ns.length ≤ i by omega), out (show ps.length ≤ i by omega)]
      omega
end Vf
namespace Vf
open PySem L2
theorem gcdR_zero : ∀ (ns : List Int) (d : Nat), (∀ x ∈ ns, x = 0) → ns.foldl (fun (d : Nat) x => Int.gcd (d : Int) x) d = d
  | [], _, _ => rfl
  | y :: ns, d, h => by
    have y0 := h y List.mem_cons_self
    subst y0
    rw [List.foldl_cons, Int.gcd_zero_right]
    exact gcdR_zero ns _ fun x hx => h x (List.mem_cons_of_mem _ hx)
theorem gcdR_lt {ns : List Int} {a : Nat} (g0 : 0 < gcdR ns) (h : ∀ i : Nat, (ns.getD i 0).natAbs < 2 ^ a) : gcdR ns < 2 ^ a := by
  by_cases z : ∀ x ∈ ns, x = 0
  · have e := gcdR_zero ns 0 z
    have e : gcdR ns = 0 := e
    omega
  · have ⟨x, hx, nz⟩ : ∃ x, x ∈ ns ∧ x ≠ 0 := by
      refine Classical.byContradiction fun n => z fun x hx => Classical.byContradiction fun nz => n ⟨x, hx, nz⟩
    have d := gcdR_dvd hx
    have le : gcdR ns ≤ x.natAbs := Nat.le_of_dvd (by omega) (Int.ofNat_dvd_left.mp d)
    obtain ⟨i, hi⟩ := List.mem_iff_getElem?.mp hx
    have hb := h i
    rw [List.getD_eq_getElem?_getD, hi] at hb
    exact Nat.lt_of_le_of_lt le hb
end Vf
namespace Vf
open PySem L2
def bndK : Nat → Nat
  | 0 => 3
  | k + 1 => 2 * bndK k + 1
theorem bndK_pos (k : Nat) : 1 ≤ bndK k := by cases k <;> simp [bndK]
theorem bndK_up (k : Nat) : bndK k ≤ bndK (k + 1) := by
  show bndK k ≤ 2 * bndK k + 1
  omega
theorem bndK_le {k : Nat} (h : k ≤ 6) : bndK k ≤ 255 := by
  have : k = 0 ∨ k = 1 ∨ k = 2 ∨ k = 3 ∨ k = 4 ∨ k = 5 ∨ k = 6 := by omega
  rcases this with rfl | rfl | rfl | rfl | rfl | rfl | rfl <;> decide
/-- each row without what stands in the column -/
def MapW (xs : List (List Int)) (p : List Int) (c : Nat) (ys : List (List Int)) : Prop := ys.length = xs.length ∧ ∀ (i : Nat) (r : List Int), xs[i]? = some r → ∃ r', ys[i]? = some r' ∧ WoOk r p c r'
theorem MapW.mem {xs ys : List (List Int)} {p : List Int} {c : Nat} (h : MapW xs p c ys) {y : List Int} (m : y ∈ ys) : ∃ x ∈ xs, WoOk x p c y := by
  obtain ⟨i, hi⟩ := List.mem_iff_getElem?.mp m
  have il := (List.getElem?_eq_some_iff.mp hi).1
  have e := List.getElem?_eq_getElem (show i < xs.length by rw [← h.1]; exact il)
  obtain ⟨r', h1, h2⟩ := h.2 i _ e
  rw [hi] at h1
  obtain rfl := Option.some.inj h1
  exact ⟨_, List.mem_of_getElem? e, h2⟩
structure El (n c : Nat) (left done : List (List Int)) (piv : List Int) : Prop where
  ll : ∀ r ∈ left, r.length = n
  dl : ∀ r ∈ done, r.length = n
  lb : ∀ r ∈ left, ∀ i : Nat, (r.getD i 0).natAbs < 2 ^ bndK c
  db : ∀ r ∈ done, ∀ i : Nat, (r.getD i 0).natAbs < 2 ^ bndK c
  zero : ∀ r ∈ left, ∀ p ∈ piv, r.getD p.toNat 0 = 0
  pb : ∀ p ∈ piv, 0 ≤ p ∧ p < (c : Int)
  len : done.length = piv.length
  pc : piv.length ≤ c
  nz : ∀ (k : Nat) (r : List Int) (p : Int), done[k]? = some r → piv[k]? = some p → r.getD p.toNat 0 ≠ 0
  sm : left.length + done.length ≤ 1000
theorem El.skip {n c : Nat} {left done : List (List Int)} {piv : List Int} (h : El n c left done piv) : El n (c + 1) left done piv where
  ll := h.ll
  dl := h.dl
  lb := fun r hr i => Nat.lt_of_lt_of_le (h.lb r hr i) (Nat.pow_le_pow_right (by decide) (bndK_up c))
  db := fun r hr i => Nat.lt_of_lt_of_le (h.db r hr i) (Nat.pow_le_pow_right (by decide) (bndK_up c))
  zero := h.zero
  pb := fun p hp => by have := h.pb p hp; omega
  len := h.len
  pc := Nat.le_succ_of_le h.pc
  nz := h.nz
  sm := h.sm
theorem El.step {n c k0 : Nat} {left done left' done' : List (List Int)} {piv p : List Int} (h : El n c left done piv) (hp : left[k0]? = some p) (pz : p.getD c 0 ≠ 0) (ml : MapW (left.eraseIdx k0) p c left') (md : MapW done p c done') : El n (c + 1) left' (done' ++ [p]) (piv ++ [(c : Int)]) := by
  have pm := List.mem_of_getElem? hp
  have k0l := (List.getElem?_eq_some_iff.mp hp).1
  have er : ∀ x, x ∈ left.eraseIdx k0 → x ∈ left := fun x hx => List.mem_of_mem_eraseIdx hx
  have bb : bndK (c + 1) = 2 * bndK c + 1 := rfl
  refine ⟨fun r hr => ?_, fun r hr => ?_, fun r hr i => ?_, fun r hr i => ?_, fun r hr q hq => ?_, fun q hq => ?_, ?_, by rw [List.length_append]; have := h.pc; show _ + 1 ≤ _; omega, fun k r q hk hq => ?_, ?_⟩
  · obtain ⟨x, hx, w⟩ := ml.mem hr
    exact w.len.trans (h.ll x (er x hx))
  · rcases List.mem_append.mp hr with hr | hr
    · obtain ⟨x, hx, w⟩ := md.mem hr
      exact w.len.trans (h.dl x hx)
    · rw [List.mem_singleton.mp hr]
      exact h.ll p pm
  · obtain ⟨x, hx, w⟩ := ml.mem hr
    rw [bb]
    exact w.b _ (bndK_pos c) (h.lb x (er x hx)) (h.lb p pm) i
  · rcases List.mem_append.mp hr with hr | hr
    · obtain ⟨x, hx, w⟩ := md.mem hr
      rw [bb]
      exact w.b _ (bndK_pos c) (h.db x hx) (h.lb p pm) i
    · rw [List.mem_singleton.mp hr]
      exact Nat.lt_of_lt_of_le (h.lb p pm i) (Nat.pow_le_pow_right (by decide) (bndK_up c))
  · obtain ⟨x, hx, w⟩ := ml.mem hr
    rcases List.mem_append.mp hq with hq | hq
    · exact (w.z pz _ (h.zero p pm q hq)).mpr (h.zero x (er x hx) q hq)
    · rw [List.mem_singleton.mp hq, Int.toNat_natCast]
      exact w.col
  · rcases List.mem_append.mp hq with hq | hq
    · have := h.pb q hq
      omega
    · rw [List.mem_singleton.mp hq]
      omega
  · rw [List.length_append, List.length_append, md.1, h.len]
    rfl
  · by_cases e : k < done'.length
    · rw [List.getElem?_append_left e] at hk
      have e2 : k < piv.length := by rw [← h.len, ← md.1]; exact e
      rw [List.getElem?_append_left e2] at hq
      have e3 := List.getElem?_eq_getElem (show k < done.length by rw [← md.1]; exact e)
      obtain ⟨r', h1, w⟩ := md.2 k _ e3
      rw [hk] at h1
      obtain rfl := Option.some.inj h1
      intro z
      exact h.nz k _ q e3 hq ((w.z pz _ (h.zero p pm q (List.mem_of_getElem? hq))).mp z)
    · rw [List.getElem?_append_right (by omega)] at hk
      have l1 := h.len
      have l2 := md.1
      rw [List.getElem?_append_right (by omega)] at hq
      have e0 := (List.getElem?_eq_some_iff.mp hk).1
      have e0 : k - done'.length = 0 := by simpa using e0
      rw [e0] at hk
      rw [show k - piv.length = 0 by omega] at hq
      obtain rfl := Option.some.inj hk
      obtain rfl := Option.some.inj hq
      rw [Int.toNat_natCast]
      exact pz
  · rw [List.length_append, ml.1, md.1, List.length_eraseIdx_of_lt k0l]
    have := h.sm
    show _ + (_ + 1) ≤ 1000
    omega
/-- lists of numbers in a list that is none of them -/
structure RowsN (H0 H : Hp) (L : Addr) (l : List (List Int)) (no : List Addr) : Prop where
  new : H0 L = none
  at' : ∃ xs, H L = some (.lst xs) ∧ Lsts H xs l ∧ ∀ t, V.ref t ∈ xs → t ≠ L ∧ t ∉ no
theorem Lsts.er {H : Hp} {xs : List V} {l : List (List Int)} (h : Lsts H xs l) (k : Nat) : Lsts H (xs.eraseIdx k) (l.eraseIdx k) := by
  refine ⟨?_, fun i r hr => ?_⟩
  · rw [List.length_eraseIdx, List.length_eraseIdx, h.1]
  · rw [List.getElem?_eraseIdx] at hr ⊢
    split at hr
    · rename_i c
      rw [if_pos c]
      exact h.2 i r hr
    · rename_i c
      rw [if_neg c]
      exact h.2 (i + 1) r hr
end Vf
namespace Vf
open PySem L2
/-- the three lists of an elimination -/
structure ElAt (H0 H : Hp) (L Dn Pv : Addr) (left done : List (List Int)) (piv : List Int) : Prop where
  s : Same H0 H
  nL : H0 L = none
  nP : H0 Pv = none
  l : ∃ xs, H L = some (.lst xs) ∧ Lsts H xs left ∧ ∀ t, V.ref t ∈ xs → t ≠ L ∧ t ≠ Pv
  d : ∃ xs, H Dn = some (.lst xs) ∧ Lsts H xs done ∧ ∀ t, V.ref t ∈ xs → t ≠ L ∧ t ≠ Pv
  p : H Pv = some (.lst (piv.map V.int))
  ld : L ≠ Dn
  lp : L ≠ Pv
  dp : Dn ≠ Pv
theorem Lsts.same {H H' : Hp} {xs : List V} {l : List (List Int)} (h : Lsts H xs l) (e : Same H H') : Lsts H' xs l := h.mono fun t ys _ g => e t _ g
theorem Lsts.upd {H : Hp} {xs : List V} {l : List (List Int)} {a : Addr} {o : HO} (h : Lsts H xs l) (n : ∀ t, V.ref t ∈ xs → t ≠ a) : Lsts (upd H a o) xs l := h.mono fun t ys m g => by
  rw [upd_ne (n t m)]
  exact g
theorem ElAt.same {H0 H H' : Hp} {L Dn Pv : Addr} {left done : List (List Int)} {piv : List Int} (h : ElAt H0 H L Dn Pv left done piv) (e : Same H H') : ElAt H0 H' L Dn Pv left done piv := by
  obtain ⟨s, nL, nP, ⟨xl, l1, l2, l3⟩, ⟨xd, d1, d2, d3⟩, p, e1, e2, e3⟩ := h
  exact ⟨s.trans e, nL, nP, ⟨xl, e _ _ l1, l2.same e, l3⟩, ⟨xd, e _ _ d1, d2.same e, d3⟩, e _ _ p, e1, e2, e3⟩
end Vf
namespace Vf
open PySem L2
theorem ixNq {n k : Nat} (h : k < n) : ixN n (k : Int) = some k := by
  unfold ixN
  rw [if_pos (Int.natCast_nonneg _), if_pos (by omega)]
  rfl
end Vf
namespace Vf
open PySem L2
theorem fdiv_nat (a b : Nat) : ((a : Int)).fdiv (b : Int) = ((a / b : Nat) : Int) := (Int.ofNat_fdiv a b).symm
theorem fdiv_le (a b : Int) : (a.fdiv b).natAbs ≤ a.natAbs := Int.natAbs_fdiv_le_natAbs a b
theorem div_gcd {a : Int} {f : Int} (h : a ≠ 0) : 1 ≤ a.natAbs / Int.gcd a f ∧ a.natAbs / Int.gcd a f ≤ a.natAbs ∧ 0 < Int.gcd a f ∧ Int.gcd a f ≤ a.natAbs := by
  have p : 0 < a.natAbs := by omega
  have g : 0 < Int.gcd a f := Nat.pos_of_ne_zero fun e => by
    have := Int.gcd_eq_zero_iff.mp e
    exact h this.1
  have le : Int.gcd a f ≤ a.natAbs := Nat.le_of_dvd p (Int.ofNat_dvd_left.mp (Int.gcd_dvd_left a f))
  exact ⟨Nat.div_pos le g, Nat.div_le_self _ _, g, le⟩
theorem rep0 (n i : Nat) : ((List.replicate n (0 : Int)).getD i 0).natAbs = 0 := by
  rw [List.getD_eq_getElem?_getD, List.getElem?_replicate]
  split <;> rfl
theorem set_le {w : List Int} {i B : Nat} {v : Int} (h : ∀ j : Nat, (w.getD j 0).natAbs ≤ B) (hv : v.natAbs ≤ B) (j : Nat) : ((w.set i v).getD j 0).natAbs ≤ B := by
  have hj := h j
  rw [List.getD_eq_getElem?_getD] at hj ⊢
  rw [List.getElem?_set]
  split
  · split
    · exact hv
    · exact Nat.zero_le _
  · exact hj
theorem walk_zipM {K : PySem.W.Frag} {a b : Addr} {xs ys : List V} {n : Nat} (hx : xs.length = n) (hy : ys.length = n) : L2.Walk (ItzM K a b) n (fun H => SqT K H a xs ∧ SqL K H b ys) (YPair (fun i => xs[i]?) (fun i => ys[i]?)) where
  goes := fun i H hi q => ⟨xs, ys, xs[i], ys[i], q, List.getElem?_eq_getElem (by omega), List.getElem?_eq_getElem (by omega)⟩
  stops := fun H q => ⟨xs, ys, q, by omega, by omega, Or.inl (by omega)⟩
  yields := fun i H v H' _ q y => by
    obtain ⟨u, x, z, ⟨h1, h2, h3⟩, h4, h5⟩ := y
    exact ⟨u, x, z, h1, h2, h3, h4 xs q.1, h5 ys q.2⟩
/-- the weight of a place -/
def dotW (ns ws : List Int) : Int := ((ns.zip ws).map fun x => x.1 * x.2).sum
end Vf
namespace Vf
open PySem L2
/-! ### the factors of an equation, by states -/
def wS (L : LV) (w : Int → Int) : Int := (L.map fun p => p.2 * w p.1).sum
def dAdd (L : LV) (z f : Int) : LV := match lk L z with
  | some d => L.map fun p => if p.1 = z then (p.1, d + f) else p
  | none => L ++ [(z, 0 + f)]
theorem dAdd_put (L : LV) (z f : Int) : putK (dkv L) (Sum.inl z) (V.int ((lk L z).getD 0 + f)) = dkv (dAdd L z f) := by
  unfold dAdd
  cases h : lk L z with
  | none => exact dkv_new h
  | some d =>
    unfold putK
    rw [if_pos (by rw [valV_any, dkv_val, h]; rfl)]
    unfold dkv
    rw [List.map_map, List.map_map]
    refine List.map_congr_left fun q hq => ?_
    show (if (Sum.inl q.1 : Key) = Sum.inl z then ((Sum.inl q.1 : Key), V.int (d + f)) else (Sum.inl q.1, V.int q.2)) = (Sum.inl (if q.1 = z then (q.1, d + f) else q).1, V.int (if q.1 = z then (q.1, d + f) else q).2)
    by_cases e : q.1 = z
    · rw [if_pos (by rw [e]), if_pos e]
    · rw [if_neg (fun q' => e (Sum.inl.inj q')), if_neg e]
theorem wS_map : ∀ {L : LV} {z d f : Int} {w : Int → Int}, (L.map Prod.fst).Nodup → lk L z = some d → wS (L.map fun p => if p.1 = z then (p.1, d + f) else p) w = wS L w + f * w z
  | [], z, d, f, w, _, h => by cases h
  | p :: r, z, d, f, w, nd, h => by
    rw [List.map_cons, List.nodup_cons] at nd
    have h' : (List.find? (fun q : Int × Int => decide (q.1 = z)) (p :: r)).map (·.2) = some d := h
    rw [List.find?_cons] at h'
    show ((if p.1 = z then (p.1, d + f) else p).2 * w (if p.1 = z then (p.1, d + f) else p).1) + wS (r.map fun p => if p.1 = z then (p.1, d + f) else p) w = p.2 * w p.1 + wS r w + f * w z
    by_cases e : p.1 = z
    · rw [decide_eq_true e] at h'
      have e2 : p.2 = d := Option.some.inj h'
      have id' : (r.map fun p => if p.1 = z then (p.1, d + f) else p) = r := by
        refine (List.map_congr_left fun q hq => ?_).trans (List.map_id r)
        have ne : q.1 ≠ z := fun x => nd.1 (by rw [e, ← x]; exact List.mem_map_of_mem hq)
        exact if_neg ne
      rw [if_pos e, id', e, e2, Int.add_mul]
      omega
    · rw [decide_eq_false e] at h'
      rw [if_neg e, wS_map nd.2 h']
      omega
theorem wS_append (L M : LV) (w : Int → Int) : wS (L ++ M) w = wS L w + wS M w := by
  unfold wS
  rw [List.map_append, List.sum_append]
theorem dAdd_sum {L : LV} {z f : Int} {w : Int → Int} (nd : (L.map Prod.fst).Nodup) : wS (dAdd L z f) w = wS L w + f * w z := by
  unfold dAdd
  cases h : lk L z with
  | none =>
    show wS (L ++ [(z, 0 + f)]) w = _
    rw [wS_append]
    unfold wS
    simp
  | some d => exact wS_map nd h
/-- what holds of the factors after k names -/
structure EqOk (n k : Nat) (L : LV) : Prop where
  nd : (L.map Prod.fst).Nodup
  key : ∀ p ∈ L, 0 ≤ p.1 ∧ p.1 < (n : Int)
  b : ∀ p ∈ L, p.2.natAbs ≤ k
  len : L.length ≤ k
theorem EqOk.nil {n : Nat} : EqOk n 0 [] := ⟨List.nodup_nil, fun p h => (nomatch h), fun p h => (nomatch h), Nat.le_refl _⟩
theorem EqOk.add {n k : Nat} {L : LV} {z f : Int} (h : EqOk n k L) (z0 : 0 ≤ z) (z1 : z < (n : Int)) (f1 : f.natAbs ≤ 1) : EqOk n (k + 1) (dAdd L z f) := by
  unfold dAdd
  cases e : lk L z with
  | none =>
    refine ⟨?_, fun p hp => ?_, fun p hp => ?_, by rw [List.length_append]; exact Nat.succ_le_succ h.len⟩
    · rw [List.map_append, List.nodup_append]
      refine ⟨h.nd, by simp, fun a ha b hb => ?_⟩
      have : b = z := by simpa using hb
      rw [this]
      exact fun x => (Vf.lk_none.mp e) (x ▸ ha)
    · rcases List.mem_append.mp hp with hp | hp
      · exact h.key p hp
      · rw [List.mem_singleton.mp hp]
        exact ⟨z0, z1⟩
    · rcases List.mem_append.mp hp with hp | hp
      · exact Nat.le_succ_of_le (h.b p hp)
      · rw [List.mem_singleton.mp hp]
        show (0 + f).natAbs ≤ k + 1
        omega
  | some d =>
    have db : d.natAbs ≤ k := h.b _ (lk_mem e)
    refine ⟨?_, fun p hp => ?_, fun p hp => ?_, by rw [List.length_map]; exact Nat.le_succ_of_le h.len⟩
    · rw [List.map_map]
      have : (Prod.fst ∘ fun p : Int × Int => if p.1 = z then (p.1, d + f) else p) = Prod.fst := by
        funext p
        show (if p.1 = z then (p.1, d + f) else p).1 = p.1
        split <;> rfl
      rw [this]
      exact h.nd
    · obtain ⟨q, hq, rfl⟩ := List.mem_map.mp hp
      show 0 ≤ (if q.1 = z then (q.1, d + f) else q).1 ∧ _
      split
      · exact h.key q hq
      · exact h.key q hq
    · obtain ⟨q, hq, rfl⟩ := List.mem_map.mp hp
      show (if q.1 = z then (q.1, d + f) else q).2.natAbs ≤ k + 1
      split
      · show (d + f).natAbs ≤ k + 1
        omega
      · exact Nat.le_succ_of_le (h.b q hq)
/-- those that are not 0 -/
def nzL (L : LV) : LV := L.filter fun p => decide (p.2 ≠ 0)
theorem nzL_sum (w : Int → Int) : ∀ L : LV, wS (nzL L) w = wS L w
  | [] => rfl
  | p :: r => by
    unfold nzL
    rw [List.filter_cons]
    have ih := nzL_sum w r
    unfold nzL at ih
    by_cases e : p.2 = 0
    · rw [if_neg (by simpa using e), ih]
      show _ = p.2 * w p.1 + wS r w
      rw [e]
      omega
    · rw [if_pos (by simpa using e)]
      show p.2 * w p.1 + wS (r.filter _) w = p.2 * w p.1 + wS r w
      rw [ih]
theorem EqOk.nz {n k : Nat} {L : LV} (h : EqOk n k L) : EqOk n k (nzL L) := by
  have sub : (nzL L).Sublist L := List.filter_sublist
  exact ⟨h.nd.sublist (sub.map _), fun p hp => h.key p (sub.subset hp), fun p hp => h.b p (sub.subset hp), Nat.le_trans sub.length_le h.len⟩
theorem dc_ite {J : It} {n : Nat} {G : Hp → Prop} {Y : Nat → Hp → V → Hp → Prop} (w : L2.Walk J n G Y) {g : TG} {tt : TT} {tk tv : TE} {vs : List Nat} {σ : L2.St} {H1 : Hp} {D : Addr} {Qd : Hp → Prop} (Pv : Nat → Hp → Prop) (h0 : Pv 0 (upd H1 D (.dK []))) (hG : ∀ i H, i ≤ n → Pv i H → G H)
    (hs : ∀ i x H H', i < n → Pv i H → Y i H x H' → g x (wipe σ vs) H' fun σ2 H2 => wipe σ2 vs = wipe σ vs ∧ tt σ2 H2 fun b H3 =>
      if b = true then tk σ2 H3 fun y H4 => tv σ2 H4 fun z H5 => ∃ kvs k, y = kV k ∧ H5 D = some (.dK kvs) ∧ kvs.length < sizeLine ∧ Pv (i + 1) (upd H5 D (.dK (putK kvs k z))) else Pv (i + 1) H3) (hd : ∀ H, Pv n H → Qd H) :
    ∃ W : Nat → Nat → Hp → Prop, (∃ m, W 0 m (upd H1 D (.dK []))) ∧ ∀ i m H, W i m H →
      (J.stop i H ∧ Qd H) ∨ (J.go i H ∧ ∃ Nx : Hp → Prop, (∀ H', Nx H' → ∃ m', m' < m ∧ W (i + 1) m' H') ∧ ∀ x H', J.yld i H x H' → g x (wipe σ vs) H' fun σ2 H2 => wipe σ2 vs = wipe σ vs ∧ tt σ2 H2 fun b H3 =>
        if b = true then tk σ2 H3 fun y H4 => tv σ2 H4 fun z H5 => ∃ kvs k, y = kV k ∧ H5 D = some (.dK kvs) ∧ kvs.length < sizeLine ∧ Nx (upd H5 D (.dK (putK kvs k z))) else Nx H3) := by
  refine ⟨fun i m H => m = n - i ∧ i ≤ n ∧ Pv i H, ⟨n, by simp, Nat.zero_le _, h0⟩, ?_⟩
  rintro i m H ⟨rfl, hi, p⟩
  have q := hG i H hi p
  by_cases hlt : i < n
  · exact .inr ⟨w.goes i H hlt q, Pv (i + 1), fun H' p' => ⟨n - (i + 1), by omega, rfl, hlt, p'⟩, fun x H' y => hs i x H H' hlt p (w.yields i H x H' hlt q y)⟩
  · have e : i = n := by omega
    subst e
    exact .inl ⟨w.stops H q, hd H p⟩
theorem nzL_take {L : LV} {i : Nat} {p : Int × Int} (h : L[i]? = some p) : nzL (L.take (i + 1)) = if p.2 = 0 then nzL (L.take i) else nzL (L.take i) ++ [p] := by
  unfold nzL
  rw [take_snoc h, List.filter_append, List.filter_cons, List.filter_nil]
  by_cases e : p.2 = 0
  · rw [if_pos e, if_neg (by simpa using e), List.append_nil]
  · rw [if_neg e, if_pos (by simpa using e)]
theorem get_val (L : LV) (z : Int) : (valV (dkv L) (Sum.inl z)).getD (.int 0) = .int ((lk L z).getD 0) := by
  rw [dkv_val]
  cases lk L z <;> rfl
theorem nzL_new {L : LV} {i : Nat} {p : Int × Int} (nd : (L.map Prod.fst).Nodup) (h : L[i]? = some p) : lk (nzL (L.take i)) p.1 = none := by
  rw [Vf.lk_none]
  intro m
  obtain ⟨q, hq, e⟩ := List.mem_map.mp m
  have hq : q ∈ L.take i := (List.mem_filter.mp hq).1
  obtain ⟨j, hj⟩ := List.mem_iff_getElem?.mp hq
  have jl : j < i := by
    have := (List.getElem?_eq_some_iff.mp hj).1
    rw [List.length_take] at this
    omega
  rw [List.getElem?_take_of_lt jl] at hj
  have h1 : (L.map Prod.fst)[j]? = some p.1 := by rw [List.getElem?_map, hj, ← e]; rfl
  have h2 : (L.map Prod.fst)[i]? = some p.1 := by rw [List.getElem?_map, h]; rfl
  have := nodup_ix nd h1 h2
  omega
/-- the weight of a state told by its name -/
def wtN (D : DD) (ws : List Int) (s : Str) : Int := ws.getD (D.st.idxOf s) 0
def ruleB (D : DD) (ws : List Int) (r : S4) : Bool := decide (wtN D ws r.1 + wtN D ws r.2.1 = wtN D ws r.2.2.1 + wtN D ws r.2.2.2)
def keptB (D : DD) (ws : List Int) : Bool := D.ru.all (ruleB D ws)
theorem wS_list (L : LV) (w : Int → Int) : wS L w = (L.map fun p => p.2 * w p.1).sum := rfl
theorem ruleB_eq {D : DD} {ws : List Int} {r : S4} {v : Int} (h : v = wtN D ws r.1 + wtN D ws r.2.1 - wtN D ws r.2.2.1 - wtN D ws r.2.2.2) : (decide (v = 0)) = ruleB D ws r := by
  unfold ruleB
  refine decide_eq_decide.mpr ?_
  omega
theorem all_take_succ {α : Type} {l : List α} {p : α → Bool} {i : Nat} {x : α} (h : l[i]? = some x) : (l.take (i + 1)).all p = ((l.take i).all p && p x) := by
  rw [take_snoc h, List.all_append]
  simp
end Vf

namespace Vf
open PySem L2
/-! ### weights of places along a run -/
def vlw (G : Nat → Int) : List Int → Int
  | [] => 0
  | a :: r => a * G 0 + vlw (fun k => G (k + 1)) r
theorem vlw_set : ∀ {G : Nat → Int} {x : List Int} {i : Nat} {c : Int}, i < x.length → vlw G (putAt x i c) = vlw G x + c * G i
  | G, a :: r, 0, c, _ => by
    show (a + c) * G 0 + vlw _ r = a * G 0 + vlw _ r + c * G 0
    rw [Int.add_mul]
    omega
  | G, a :: r, i + 1, c, h => by
    show a * G 0 + vlw (fun k => G (k + 1)) (putAt r i c) = a * G 0 + vlw (fun k => G (k + 1)) r + c * G (i + 1)
    rw [vlw_set (by simpa using h)]
    omega
theorem vlw_move {G : Nat → Int} {x : List Int} {m r : Int × Int} (hm : InR x.length m) (hr : InR x.length r) : vlw G (movePl x m r) = vlw G x - G m.1.toNat - G m.2.toNat + G r.1.toNat + G r.2.toNat := by
  obtain ⟨a1, a2, a3, a4⟩ := hm
  obtain ⟨b1, b2, b3, b4⟩ := hr
  unfold movePl
  rw [vlw_set (by simp only [putAt_len]; omega), vlw_set (by simp only [putAt_len]; omega), vlw_set (by simp only [putAt_len]; omega), vlw_set (by omega)]
  omega
theorem dotW_vlw : ∀ {x ws : List Int}, x.length ≤ ws.length → dotW x ws = vlw (fun k => ws.getD k 0) x
  | [], ws, _ => by
    unfold dotW
    rfl
  | a :: r, [], h => by simp at h
  | a :: r, b :: t, h => by
    have ih := dotW_vlw (x := r) (ws := t) (by simpa using h)
    unfold dotW at ih ⊢
    rw [List.zip_cons_cons, List.map_cons, List.sum_cons, ih]
    rfl
theorem kept_meet {D : DD} {ws : List Int} (h : keptB D ws = true) (m : Int × Int) : ws.getD (meetOf (rks D) (rvs D) m).1.toNat 0 + ws.getD (meetOf (rks D) (rvs D) m).2.toNat 0 = ws.getD m.1.toNat 0 + ws.getD m.2.toNat 0 := by
  unfold meetOf
  by_cases c : m ∈ rks D
  · rw [if_pos c]
    have lt := List.idxOf_lt_length_of_mem c
    have l1 : (rks D).length = D.ru.length := by simp [rks]
    have hr : D.ru[(rks D).idxOf m]? = some (D.ru[(rks D).idxOf m]'(by omega)) := List.getElem?_eq_getElem _
    generalize D.ru[(rks D).idxOf m]'(by omega) = r at hr
    have e1 : (rks D)[(rks D).idxOf m]? = some (ix D.st r.1, ix D.st r.2.1) := by
      unfold rks
      rw [List.getElem?_map]
      unfold rks at hr
      rw [hr]
      rfl
    have e2 : (rvs D)[(rks D).idxOf m]? = some (ix D.st r.2.2.1, ix D.st r.2.2.2) := by
      unfold rvs
      rw [List.getElem?_map, hr]
      rfl
    have e3 : (rks D)[(rks D).idxOf m]? = some m := by
      rw [List.getElem?_eq_getElem lt, List.getElem_idxOf]
    rw [e3] at e1
    have em := Option.some.inj e1
    have e4 : (rvs D).getD ((rks D).idxOf m) m = (ix D.st r.2.2.1, ix D.st r.2.2.2) := by rw [List.getD_eq_getElem?_getD, e2]; rfl
    rw [e4]
    have hb := List.all_eq_true.mp h r (List.mem_of_getElem? hr)
    unfold ruleB at hb
    rw [decide_eq_true_eq] at hb
    unfold wtN at hb
    show ws.getD (ix D.st r.2.2.1).toNat 0 + ws.getD (ix D.st r.2.2.2).toNat 0 = _
    rw [em]
    exact hb.symm
  · rw [if_neg c]
theorem dot_kept {D : DD} (v : ValidN D) {ws x : List Int} (k : keptB D ws = true) (wl : ws.length = x.length) (xl : x.length = D.st.length) {m : Int × Int} (hm : InR D.st.length m) : dotW (movePl x m (meetOf (rks D) (rvs D) m)) ws = dotW x ws := by
  have ml : (movePl x m (meetOf (rks D) (rvs D) m)).length = x.length := by unfold movePl; simp only [putAt_len]
  rw [dotW_vlw (by omega), dotW_vlw (by omega), vlw_move (by rw [xl]; exact hm) (by rw [xl]; exact meetOf_in v hm)]
  have := kept_meet k m
  omega
/-! ### the rows of weights and the pool -/
structure WrAt (G H : Hp) (pl dr : Addr) (m : Int) (R : Addr) (xs : List V) (ws : List (List Int)) : Prop where
  s : Same G H
  p : H pl = some (.lst [.ref dr, .int m])
  r : H R = some (.lst xs)
  l : Lsts H xs ws
  n : ∀ t, V.ref t ∈ xs → t ≠ R ∧ t ≠ pl
theorem WrAt.same {G H H' : Hp} {pl dr R : Addr} {m : Int} {xs : List V} {ws : List (List Int)} (h : WrAt G H pl dr m R xs ws) (e : Same H H') : WrAt G H' pl dr m R xs ws := ⟨h.s.trans e, e _ _ h.p, e _ _ h.r, h.l.same e, h.n⟩
theorem WrAt.keep {G H H' : Hp} {pl dr R : Addr} {m m' : Int} {xs : List V} {ws : List (List Int)} (h : WrAt G H pl dr m R xs ws) (gn : G pl = none) (ne : R ≠ pl) (k : Keep [pl] H H') (hp : H' pl = some (.lst [.ref dr, .int m'])) : WrAt G H' pl dr m' R xs ws :=
  ⟨same_keep h.s gn k, hp, k R _ (by simpa using ne) h.r, h.l.mono fun t ys mm g => k t _ (by simpa using (h.n t mm).2) g, h.n⟩
theorem WrAt.put {G H : Hp} {pl dr R t : Addr} {m : Int} {ws : List (List Int)} {w : List Int} {xs : List V} (h : WrAt G H pl dr m R xs ws) (gn : G R = none) (ne : R ≠ pl) (ht : H t = some (.lst (w.map V.int))) (t1 : t ≠ R) (t2 : t ≠ pl) : WrAt G (upd H R (.lst (xs ++ [.ref t]))) pl dr m R (xs ++ [.ref t]) (ws ++ [w]) := by
  refine ⟨Same.chg h.s gn, by rw [upd_ne (Ne.symm ne)]; exact h.p, upd_same, (h.l.upd fun u hu => (h.n u hu).1).snoc (by rw [upd_ne t1]; exact ht), fun u hu => ?_⟩
  rcases List.mem_append.mp hu with hu | hu
  · exact h.n u hu
  · obtain rfl := V.ref.inj (List.mem_singleton.mp hu)
    exact ⟨t1, t2⟩
theorem WrAt.apart {G H : Hp} {pl dr R u : Addr} {m : Int} {ws : List (List Int)} {xs : List V} (h : WrAt G H pl dr m R xs ws) (nu : H u = none) : u ≠ R ∧ u ≠ pl ∧ G u = none ∧ ∀ t, V.ref t ∈ xs → t ≠ u := by
  refine ⟨fun e => (by rw [e, h.r] at nu; cases nu), fun e => (by rw [e, h.p] at nu; cases nu), h.s.free nu, fun t ht e => ?_⟩
  obtain ⟨j, hj⟩ := List.mem_iff_getElem?.mp ht
  obtain ⟨r, t', _, et, h'⟩ := h.l.get hj
  obtain rfl := V.ref.inj et
  rw [e, nu] at h'
  cases h'
theorem WrAt.chg {G H : Hp} {pl dr R u : Addr} {m : Int} {ws : List (List Int)} {xs : List V} {o : HO} (h : WrAt G H pl dr m R xs ws) (a : u ≠ R ∧ u ≠ pl ∧ G u = none ∧ ∀ t, V.ref t ∈ xs → t ≠ u) : WrAt G (upd H u o) pl dr m R xs ws :=
  ⟨Same.chg h.s a.2.2.1, by rw [upd_ne (Ne.symm a.2.1)]; exact h.p, by rw [upd_ne (Ne.symm a.1)]; exact h.r, h.l.upd a.2.2.2, h.n⟩
/-- rows that stay when the pool goes on -/
theorem lsts_er {H : Hp} {pl dr : Addr} {n : Int} {xs : List V} {ws : List (List Int)} (hp : H pl = some (.lst [.ref dr, .int n])) (h : Lsts H xs ws) : Lsts (Er pl H) xs ws := by
  refine ⟨h.1, fun i r hr => ?_⟩
  obtain ⟨t, h1, h2⟩ := h.2 i r hr
  refine ⟨t, h1, er_ne h2 hp fun e => ?_⟩
  have e := HO.lst.inj e
  cases r with
  | nil => cases e
  | cons a l => cases e
theorem lst_er {H : Hp} {pl dr R : Addr} {n : Int} {xs : List V} {ws : List (List Int)} (hp : H pl = some (.lst [.ref dr, .int n])) (h : Lsts H xs ws) (hR : H R = some (.lst xs)) : Er pl H R = some (.lst xs) := by
  refine er_ne hR hp fun e => ?_
  have e := HO.lst.inj e
  subst e
  have l2 : ws.length = 2 := h.1.symm
  obtain ⟨r, hr⟩ : ∃ r, ws[1]? = some r := ⟨_, List.getElem?_eq_getElem (by omega)⟩
  obtain ⟨t, h1, _⟩ := h.2 1 r hr
  cases h1
theorem reps (k : Nat) (c : Int) : (List.replicate k [V.int c]).flatten = (List.replicate k c).map V.int := by
  induction k with
  | zero => rfl
  | succ k ih =>
    rw [List.replicate_succ, List.flatten_cons, ih]
    rfl
/-- what is said of each row -/
def WrOk (n : Nat) (ws : List (List Int)) : Prop := ∀ w ∈ ws, w.length = n ∧ ∀ x ∈ w, x.natAbs < 2 ^ 2010
theorem WrOk.snoc {n : Nat} {ws : List (List Int)} {w : List Int} (h : WrOk n ws) (l : w.length = n) (b : ∀ x ∈ w, x.natAbs < 2 ^ 2010) : WrOk n (ws ++ [w]) := fun x hx => by
  rcases List.mem_append.mp hx with hx | hx
  · exact h x hx
  · rw [List.mem_singleton.mp hx]
    exact ⟨l, b⟩
theorem big_small {x : Int} {k : Nat} (h : x.natAbs < 2 ^ k) (hk : k ≤ 2010) : x.natAbs < 2 ^ 2010 := Nat.lt_of_lt_of_le h (Nat.pow_le_pow_right (by decide) hk)
theorem dot_take {x w : List Int} {k : Nat} {a b : Int} (h1 : x[k]? = some a) (h2 : w[k]? = some b) : (((x.zip w).map fun q => q.1 * q.2).take (k + 1)).sum = (((x.zip w).map fun q => q.1 * q.2).take k).sum + a * b := by
  have e : ((x.zip w).map fun q => q.1 * q.2)[k]? = some (a * b) := by rw [List.getElem?_map, zip_at h1 h2]; rfl
  rw [take_snoc e, List.sum_append]
  simp
end Vf

namespace Vf
open PySem L2
theorem ix_seqK {X : Cx} {K : PySem.W.Frag} (h : X.K = K) : IxR X (rIxS K) := by
  subst h
  exact ix_seq
theorem mt_indexK {X : Cx} {K : PySem.W.Frag} (h : X.K = K) : MtR X "list.index" (rIndex K) := by
  subst h
  exact mt_index
theorem pe_bmK {X : Cx} {K : PySem.W.Frag} {o e : Expr} {es : List Expr} {to : TE} {t : TA} {name : Str} {apos cpos : Pos} {T id : String} {r : V → List V → Hp → VK → Prop} (h : X.K = K)
    (pa : PlainAttrs T) (sl : Slot T name id) (hty : typeOf (.builtin id) = pure (.type "method_descriptor")) (hm : MtR X id r) (ho : PE X o to) (ha : PA X (e :: es) t)
    (h1 : attributeBase o name X.env (eval o X.env) = eval o X.env := by rfl)
    (h2 : ((backTo cpos (starEach (e :: es) X.env)).all (fun x => !x.1) && (backToKw cpos (keywordEach [] X.env)).all (fun x => x.1.isSome) && decide ((e :: es).length + ([] : List Keyword).length + (if ([] : List Keyword).isEmpty then 0 else 1) < 30)) = true := by rfl)
    (h3 : (apos.endLine == cpos.line) = true := by rfl) (h4 : starEach (e :: es) X.env = (false, eval e X.env) :: starEach es X.env := by rfl) (h5 : (backTo cpos (starEach es X.env)).any (·.1) = false := by rfl) :
    PE X (.Call (.Attribute o name apos) (e :: es) [] cpos) (tBM K T r to t) := by
  subst h
  exact pe_bm pa sl hty hm ho ha h1 h2 h3 h4 h5
end Vf

namespace Vf
open PySem L2
theorem cut_hi (xs : List V) (c : Nat) : cutV xs none (some (c : Int)) = xs.take c := by
  unfold cutV
  rw [HT.sIx_nat, show HT.sIx xs.length 0 none = 0 from rfl, List.drop_zero, Nat.sub_zero]
  by_cases h : c ≤ xs.length
  · rw [Nat.min_eq_left h]
  · rw [Nat.min_eq_right (by omega), List.take_of_length_le (Nat.le_refl _), List.take_of_length_le (by omega)]
theorem cut_lo (xs : List V) (c : Nat) : cutV xs (some (c : Int)) none = xs.drop c := by
  unfold cutV
  rw [HT.sIx_nat, show HT.sIx xs.length xs.length none = xs.length from rfl]
  by_cases h : c ≤ xs.length
  · rw [Nat.min_eq_left h, List.take_of_length_le (by rw [List.length_drop]; omega)]
  · rw [Nat.min_eq_right (by omega), List.drop_of_length_le (Nat.le_refl _), List.drop_of_length_le (by omega), List.take_nil]
theorem Tups.takeT {α : Type} {enc : α → List V} {H : Hp} {xs : List V} {l : List α} (h : Tups enc H xs l) (c : Nat) : Tups enc H (xs.take c) (l.take c) := ⟨by rw [List.length_take, List.length_take, h.1], fun i a e => by
  rw [List.getElem?_take] at e
  by_cases ic : i < c
  · rw [if_pos ic] at e
    obtain ⟨t, h1, h2⟩ := h.2 i a e
    exact ⟨t, by rw [List.getElem?_take, if_pos ic]; exact h1, h2⟩
  · rw [if_neg ic] at e
    cases e⟩
theorem Tups.dropT {α : Type} {enc : α → List V} {H : Hp} {xs : List V} {l : List α} (h : Tups enc H xs l) (c : Nat) : Tups enc H (xs.drop c) (l.drop c) := ⟨by rw [List.length_drop, List.length_drop, h.1], fun i a e => by
  rw [List.getElem?_drop] at e
  obtain ⟨t, h1, h2⟩ := h.2 _ a e
  exact ⟨t, by rw [List.getElem?_drop]; exact h1, h2⟩⟩
theorem Tups.join {α : Type} {enc : α → List V} {H : Hp} {xs ys : List V} {l m : List α} (h : Tups enc H xs l) (k : Tups enc H ys m) : Tups enc H (xs ++ ys) (l ++ m) := by
  refine ⟨by rw [List.length_append, List.length_append, h.1, k.1], fun i a e => ?_⟩
  by_cases c : i < l.length
  · rw [List.getElem?_append_left c] at e
    obtain ⟨t, h1, h2⟩ := h.2 i a e
    exact ⟨t, by rw [List.getElem?_append_left (by rw [h.1]; exact c)]; exact h1, h2⟩
  · rw [List.getElem?_append_right (by omega)] at e
    obtain ⟨t, h1, h2⟩ := k.2 _ a e
    exact ⟨t, by rw [List.getElem?_append_right (by rw [h.1]; omega), h.1]; exact h1, h2⟩
end Vf
namespace Vf
open PySem L2
theorem ans_or2 {t u : TT} {σ : L2.St} {H : Hp} {b1 b2 : Bool} (h1 : Ans t σ H b1) (h2 : Ans u σ H b2) : Ans (tOr t u) σ H (b1 || b2) := fun R r => by
  refine h1 _ ?_
  cases b1 with
  | true => exact ite_b (fun _ => r) (fun c => absurd c (by decide))
  | false => exact ite_b (fun c => absurd c (by decide)) (fun _ => h2 R r)
end Vf

namespace L2
open PySem PySem.Spec PyProof.Rows
section
variable {X : Cx}
/-- y = {k: v for ..} where the name is stored ahead of the block's end -/
theorem ps_setDc {i : Nat} {y : Str} {py : Pos} {kx vx tg iter : Expr} {ifs : List Expr} {scope : Scope} {own : List (Str × Nat)} {pos spos : Pos} {wi : TI} {g : TG} {tt : TT} {tk tv : TE} (hc : X.calm = true) (hN : X.N.Nodup) (hy : X.N[i]? = some y) (hyl : X.env.scope.names.lookup y = some .local)
    (hsw : swapsWith (.DictComp kx vx [⟨tg, iter, ifs, 0⟩] scope pos) (some (.Name y py)) spos.line X.env = pure true) (hi : PI X tg iter wi) (ok : BlkOk X.N X.env.scope scope own)
    (hg : ∀ (s : Shared) (H : Hp) (C : Addr) (cl : List (Str × Addr)) (fp : List Addr), PG (X.blk s H scope (compEnvC scope cl C X.env) fp) tg g) (ht : ∀ (s : Shared) (H : Hp) (C : Addr) (cl : List (Str × Addr)) (fp : List Addr), PTs (X.blk s H scope (compEnvC scope cl C X.env) fp) ifs tt)
    (hk : ∀ (s : Shared) (H : Hp) (C : Addr) (cl : List (Str × Addr)) (fp : List Addr), PE (X.blk s H scope (compEnvC scope cl C X.env) fp) kx tk)
    (he : ∀ (s : Shared) (H : Hp) (C : Addr) (cl : List (Str × Addr)) (fp : List Addr), PE (X.blk s H scope (compEnvC scope cl C X.env) fp) vx tv) (hs : ∀ x, foldedSetIterable iter X.env x = pure x := by intro _; rfl) :
    PS X (.Assign [.Name y py] (.DictComp kx vx [⟨tg, iter, ifs, 0⟩] scope pos) spos) (tAsg (tDc wi g tt tk tv (own.map (·.2))) (gName i)) := by
  refine ⟨fun pins s σ H D I h => ?_⟩
  rw [exec_Assign_Name_used _ _ _ _ hsw]
  refine wpAny_bind (wpAny_standAt (wpAny_bind ?_))
  show wpAny _ X.A (do let _ ← comprehension (.DictComp kx vx [⟨tg, iter, ifs, 0⟩] scope pos) scope X.env (firstIterPos [⟨tg, iter, ifs, 0⟩] pos) newDict false (eval iter X.env) (some (assign (.Name y py) X.env))) _ _ s
  have h : tDc wi g tt tk tv (own.map (·.2)) σ H (fun x H1 => gName i x σ H1 D.nx) := h
  refine wpAny_bind (thn (dc_core (Qf := fun _ s' => SP X pins D .next s') hc hN I hi ok hg ht hk he hs h fun L C s' m H' I' q hn f => ?_) fun _ s' hq => wpAny_pure (wpAny_pure hq))
  show wpAny _ _ (assign (.Name y py) X.env (.ref L)) _ _ _
  refine wpAny_assign_Name (store_ok2 (v := V.ref L) I' hN hy (.inl hyl) rfl (fun s2 I2 ⟨a, sb, ha⟩ => ?_) (.inr hyl))
  obtain ⟨f0, f1, f2, f3, f4, f5⟩ := f
  have haC : C ≠ a := by
    rcases ha with z | z
    · rw [z]; exact f1
    · exact fun e => f4 y a z e.symm
  refine ⟨m, hn.sameBut sb haC, fun h3 sb3 => ?_⟩
  exact ⟨_, H', I2.turned (t' := s2.toks) (fun b o hb e => (sb3.2 b hb).trans e) f0 f1 f3 f4 f5, q⟩
theorem sw_trueD {kx vx : Expr} {gs : List Comprehension} {scope : Scope} {pos py : Pos} {y : Str} {l : Nat} {env : Env} (hk : env.scope.kind = .function) (hy : env.scope.names.lookup y = some .local) (hl : (py.line == pos.line) = true)
    (ha : (scope.names.any fun (n, k) => n == y && (k == .local || k == .cell)) = false) : swapsWith (.DictComp kx vx gs scope pos) (some (.Name y py)) l env = pure true := by
  have ky : env.kindOf y = some .local := hy
  have hb : env.blockKind = .function := by unfold Env.blockKind; rw [hk]; rfl
  unfold swapsWith
  simp only [hb, ky, ha, Expr.pos, hl]
  rfl
end
end L2

namespace Vf
open PySem L2 PySem.Spec PyProof.Rows PySem.W
def rLcm : List V → Hp → VK → Prop := fun vs H Q => ∃ a b : Int, vs = [.int a, .int b] ∧ a.natAbs < 2 ^ 13000 ∧ b.natAbs < 2 ^ 13000 ∧ Q (.int ((Nat.lcm a.natAbs b.natAbs : Nat) : Int)) H
theorem cr_lcm {X : Cx} : CallR X (.builtin "math.lcm") rLcm := by
  intro pins s σ H vs us Q I r h
  obtain ⟨a, b, rfl, ha, hb, q⟩ := h
  obtain ⟨t, u, rfl⟩ := Vals.int2 r
  have e : (Nat.lcm 1 a.natAbs) = a.natAbs := Nat.lcm_one_left _
  have lb : ∀ {x : Nat}, x < 2 ^ 13000 → x.log2 ≤ 12999 := fun h => PySem.W.mg_log h
  have h1 : (max 1 a.natAbs).log2 ≤ 12999 := lb (by
    have : 1 < 2 ^ 13000 := Nat.one_lt_two_pow (by decide)
    omega)
  have h2 : (max a.natAbs b.natAbs).log2 ≤ 12999 := lb (by omega)
  have h3 : (Nat.lcm a.natAbs b.natAbs) < 2 ^ 26000 := by
    refine Nat.lt_of_le_of_lt (Nat.div_le_self ..) ?_
    have := wide_lt ha hb
    rw [Int.natAbs_mul] at this
    exact this
  have h4 : (Nat.lcm a.natAbs b.natAbs).log2 ≤ 25999 := PySem.W.mg_log h3
  have run := PySem.W.mg_run_lcm a t b u (by omega) (by omega) (by
    rw [e, Int.natAbs_natCast]
    exact Nat.lt_of_le_of_lt h4 (by decide))
  rw [e] at run
  exact call_function_meets MGF.kind_lcm MGF.plain_lcm MGF.entry_lcm (MGF.args_lcm _ _) run.meets ⟨.int _, H, I.tok _, ⟨_, rfl⟩, q⟩
end Vf

namespace Vf
open PySem L2
/-! ### rows as functions, and what belongs to them -/
def dvN (n : Nat) (f w : Nat → Int) : Int := ((List.range n).map fun i => f i * w i).sum
theorem dvN_succ (n : Nat) (f w : Nat → Int) : dvN (n + 1) f w = dvN n f w + f n * w n := by
  unfold dvN
  rw [List.range_succ, List.map_append, List.sum_append]
  simp
theorem dvN_lin {g k t : Int} {f p q : Nat → Int} : ∀ {n : Nat}, (∀ z, z < n → g * q z = k * f z - t * p z) → ∀ w : Nat → Int, g * dvN n q w = k * dvN n f w - t * dvN n p w
  | 0, _, w => by show g * 0 = k * 0 - t * 0; omega
  | n + 1, h, w => by
    have ih := dvN_lin (n := n) (fun z hz => h z (by omega)) w
    have e := h n (by omega)
    rw [dvN_succ, dvN_succ, dvN_succ, Int.mul_add, Int.mul_add, Int.mul_add, ih, ← Int.mul_assoc, ← Int.mul_assoc, ← Int.mul_assoc, e, Int.sub_mul]
    omega
theorem dvN_add (f p w : Nat → Int) : ∀ n : Nat, dvN n (fun z => f z + p z) w = dvN n f w + dvN n p w
  | 0 => rfl
  | n + 1 => by
    rw [dvN_succ, dvN_succ, dvN_succ, dvN_add f p w n, Int.add_mul]
    omega
theorem dvN_congr {f p w u : Nat → Int} : ∀ {n : Nat}, (∀ z, z < n → f z * w z = p z * u z) → dvN n f w = dvN n p u
  | 0, _ => rfl
  | n + 1, h => by rw [dvN_succ, dvN_succ, dvN_congr (n := n) fun z hz => h z (by omega), h n (by omega)]
theorem dvN_zero {f w : Nat → Int} : ∀ {n : Nat}, (∀ z, z < n → f z * w z = 0) → dvN n f w = 0
  | 0, _ => rfl
  | n + 1, h => by rw [dvN_succ, dvN_zero (n := n) fun z hz => h z (by omega), h n (by omega)]; rfl
theorem dvN_one {f w : Nat → Int} {a : Nat} : ∀ {n : Nat}, a < n → (∀ z, z < n → z ≠ a → f z * w z = 0) → dvN n f w = f a * w a
  | n + 1, ha, h => by
    rw [dvN_succ]
    by_cases e : a = n
    · subst e
      rw [dvN_zero fun z hz => h z (by omega) (by omega), Int.zero_add]
    · rw [dvN_one (n := n) (by omega) fun z hz ne => h z (by omega) ne, h n (by omega) (fun x => e x.symm), Int.add_zero]
theorem dvN_two {f w : Nat → Int} {a b : Nat} (ne : a ≠ b) : ∀ {n : Nat}, a < n → b < n → (∀ z, z < n → z ≠ a → z ≠ b → f z * w z = 0) → dvN n f w = f a * w a + f b * w b
  | n + 1, ha, hb, h => by
    rw [dvN_succ]
    by_cases e : a = n
    · subst e
      rw [dvN_one (a := b) (by omega) fun z hz nb => h z (by omega) (by omega) nb]
      omega
    · by_cases e2 : b = n
      · subst e2
        rw [dvN_one (a := a) (by omega) fun z hz na => h z (by omega) na (by omega)]
      · rw [dvN_two ne (n := n) (by omega) (by omega) fun z hz na nb => h z (by omega) na nb, h n (by omega) (fun x => e x.symm) (fun x => e2 x.symm), Int.add_zero]
/-- rows in reduced form, each with the place that leads it -/
structure RrOk (n : Nat) (Ker : (Nat → Int) → Prop) (R : List (Nat × (Nat → Int))) : Prop where
  pin : ∀ x ∈ R, x.1 < n
  nz : ∀ x ∈ R, x.2 x.1 ≠ 0
  lead : ∀ x ∈ R, ∀ z, z < x.1 → x.2 z = 0
  oth : ∀ x ∈ R, ∀ y ∈ R, x.1 ≠ y.1 → x.2 y.1 = 0
  ker : ∀ w, Ker w ↔ ∀ x ∈ R, dvN n x.2 w = 0
/-- the weights that belong to a free place -/
structure WtOk (n : Nat) (R : List (Nat × (Nat → Int))) (f : Nat) (ws : List Int) : Prop where
  len : ws.length = n
  pos : 0 < ws.getD f 0
  piv : ∀ x ∈ R, ws.getD x.1 0 * x.2 x.1 = - x.2 f * ws.getD f 0
  oth : ∀ z, z < n → z ≠ f → (∀ x ∈ R, x.1 ≠ z) → ws.getD z 0 = 0
  low : ∀ v : Int, (∀ x ∈ R, x.2 x.1 ∣ x.2 f * v) → ws.getD f 0 ∣ v
variable {n : Nat} {Ker : (Nat → Int) → Prop} {R R' : List (Nat × (Nat → Int))} {f : Nat} {ws ws' : List Int}
/-- a row and weights that are 0 at all free places but one -/
theorem RrOk.two (h : RrOk n Ker R) {w : Nat → Int} (hf : f < n) (fr : ∀ x ∈ R, x.1 ≠ f) (wz : ∀ z, z < n → z ≠ f → (∀ x ∈ R, x.1 ≠ z) → w z = 0) {x : Nat × (Nat → Int)} (hx : x ∈ R) : dvN n x.2 w = x.2 x.1 * w x.1 + x.2 f * w f := by
  refine dvN_two (fr x hx) (h.pin x hx) hf fun z hz n1 n2 => ?_
  by_cases c : ∃ y ∈ R, y.1 = z
  · obtain ⟨y, hy, e⟩ := c
    rw [← e, h.oth x hx y hy (by omega), Int.zero_mul]
  · rw [wz z hz n2 fun y hy e => c ⟨y, hy, e⟩, Int.mul_zero]
theorem RrOk.kept (h : RrOk n Ker R) (hf : f < n) (fr : ∀ x ∈ R, x.1 ≠ f) (w : WtOk n R f ws) : Ker fun z => ws.getD z 0 := by
  rw [h.ker]
  intro x hx
  rw [h.two hf fr (w := fun z => ws.getD z 0) w.oth hx, Int.mul_comm, w.piv x hx, Int.neg_mul]
  omega
theorem WtOk.after (h : RrOk n Ker R) (w : WtOk n R f ws) : ∀ z, f < z → z < n → ws.getD z 0 = 0 := by
  intro z hz hn
  by_cases c : ∃ y ∈ R, y.1 = z
  · obtain ⟨y, hy, rfl⟩ := c
    have e := w.piv y hy
    rw [h.lead y hy f hz, Int.neg_zero, Int.zero_mul] at e
    rcases Int.mul_eq_zero.mp e with e | e
    · exact e
    · exact absurd e (h.nz y hy)
  · exact w.oth z hn (by omega) fun y hy e => c ⟨y, hy, e⟩
theorem RrOk.van (h : RrOk n Ker R) {v : Nat → Int} (k : Ker v) {x : Nat × (Nat → Int)} (hx : x ∈ R) (az : ∀ z, x.1 < z → z < n → v z = 0) : v x.1 = 0 := by
  have e := (h.ker v).mp k x hx
  rw [dvN_one (a := x.1) (h.pin x hx) fun z hz ne => ?_] at e
  · rcases Int.mul_eq_zero.mp e with e | e
    · exact absurd e (h.nz x hx)
    · exact e
  · by_cases c : z < x.1
    · rw [h.lead x hx z c, Int.zero_mul]
    · rw [az z (by omega) hz, Int.mul_zero]
theorem RrOk.free (h : RrOk n Ker R) (h' : RrOk n Ker R') (hf : f < n) (fr : ∀ x ∈ R, x.1 ≠ f) (w : WtOk n R f ws) : ∀ x ∈ R', x.1 ≠ f := fun x hx e => by
  have := h'.van (h.kept hf fr w) hx (by rw [e]; exact WtOk.after h w)
  have p := w.pos
  rw [e] at this
  omega
theorem RrOk.dvd (h : RrOk n Ker R) (h' : RrOk n Ker R') (hf : f < n) (fr : ∀ x ∈ R, x.1 ≠ f) (fr' : ∀ x ∈ R', x.1 ≠ f) (same : ∀ z, z < n → ((∃ x ∈ R, x.1 = z) ↔ ∃ x ∈ R', x.1 = z)) (w' : WtOk n R' f ws') : ∀ x ∈ R, ws'.getD x.1 0 * x.2 x.1 = - x.2 f * ws'.getD f 0 := fun x hx => by
  have k := (h.ker _).mp (h'.kept hf fr' w') x hx
  rw [h.two hf fr (w := fun z => ws'.getD z 0) (fun z hz ne c => w'.oth z hz ne fun y hy e => by
    obtain ⟨u, hu, e2⟩ := (same z hz).mpr ⟨y, hy, e⟩
    exact c u hu e2) hx] at k
  rw [Int.mul_comm, Int.neg_mul]
  omega
theorem RrOk.weights (h : RrOk n Ker R) (h' : RrOk n Ker R') (hf : f < n) (fr : ∀ x ∈ R, x.1 ≠ f) (fr' : ∀ x ∈ R', x.1 ≠ f) (same : ∀ z, z < n → ((∃ x ∈ R, x.1 = z) ↔ ∃ x ∈ R', x.1 = z)) (w : WtOk n R f ws) (w' : WtOk n R' f ws') : ws = ws' := by
  have d1 := h.dvd h' hf fr fr' same w'
  have d2 := h'.dvd h hf fr' fr (fun z hz => (same z hz).symm) w
  have l1 : ws.getD f 0 ∣ ws'.getD f 0 := w.low _ fun x hx => ⟨- ws'.getD x.1 0, by
    have := d1 x hx
    rw [Int.mul_comm, Int.neg_mul] at this
    rw [Int.mul_neg, this, Int.neg_neg]⟩
  have l2 : ws'.getD f 0 ∣ ws.getD f 0 := w'.low _ fun x hx => ⟨- ws.getD x.1 0, by
    have := d2 x hx
    rw [Int.mul_comm, Int.neg_mul] at this
    rw [Int.mul_neg, this, Int.neg_neg]⟩
  have p := w.pos
  have p' := w'.pos
  have e : ws.getD f 0 = ws'.getD f 0 := Int.le_antisymm (Int.le_of_dvd p' l1) (Int.le_of_dvd p l2)
  have al : ∀ z, z < n → ws.getD z 0 = ws'.getD z 0 := fun z hz => by
    by_cases zf : z = f
    · rw [zf, e]
    · by_cases c : ∃ x ∈ R, x.1 = z
      · obtain ⟨x, hx, rfl⟩ := c
        have e1 := w.piv x hx
        have e2 := d1 x hx
        rw [← e, ← e1] at e2
        exact (Int.eq_of_mul_eq_mul_right (h.nz x hx) e2).symm
      · rw [w.oth z hz zf fun y hy e => c ⟨y, hy, e⟩, w'.oth z hz zf fun y hy e => c ((same z hz).mpr ⟨y, hy, e⟩)]
  refine List.ext_getElem (by rw [w.len, w'.len]) fun i h1 h2 => ?_
  have := al i (by rw [← w.len]; exact h1)
  rw [List.getD_eq_getElem?_getD, List.getD_eq_getElem?_getD, List.getElem?_eq_getElem h1, List.getElem?_eq_getElem h2] at this
  exact this
/-- a base: weights for each free place, in their order -/
def frs (n : Nat) (R : List (Nat × (Nat → Int))) : List Nat := (List.range n).filter fun f => decide (∀ x ∈ R, x.1 ≠ f)
structure BsOk (n : Nat) (Ker : (Nat → Int) → Prop) (R : List (Nat × (Nat → Int))) (wss : List (List Int)) : Prop where
  rr : RrOk n Ker R
  len : wss.length = (frs n R).length
  wt : ∀ (i f : Nat) (ws : List Int), (frs n R)[i]? = some f → wss[i]? = some ws → WtOk n R f ws
theorem mem_frs : f ∈ frs n R ↔ f < n ∧ ∀ x ∈ R, x.1 ≠ f := by
  unfold frs
  rw [List.mem_filter, List.mem_range, decide_eq_true_iff]
theorem BsOk.at' {wss : List (List Int)} (b : BsOk n Ker R wss) (h : f ∈ frs n R) : ∃ ws, WtOk n R f ws := by
  obtain ⟨i, hi⟩ := List.mem_iff_getElem?.mp h
  have il := (List.getElem?_eq_some_iff.mp hi).1
  exact ⟨_, b.wt i f _ hi (List.getElem?_eq_getElem (by rw [b.len]; exact il))⟩
theorem BsOk.kept {wss : List (List Int)} (b : BsOk n Ker R wss) {ws : List Int} (h : ws ∈ wss) : ws.length = n ∧ Ker fun z => ws.getD z 0 := by
  obtain ⟨i, hi⟩ := List.mem_iff_getElem?.mp h
  have il := (List.getElem?_eq_some_iff.mp hi).1
  rw [b.len] at il
  have ef := List.getElem?_eq_getElem il
  have w := b.wt i _ ws ef hi
  have m := mem_frs.mp (List.mem_of_getElem? ef)
  exact ⟨w.len, b.rr.kept m.1 m.2 w⟩
theorem BsOk.uniq {wss wss' : List (List Int)} (b : BsOk n Ker R wss) (b' : BsOk n Ker R' wss') : wss = wss' := by
  have same : ∀ z, z < n → ((∃ x ∈ R, x.1 = z) ↔ ∃ x ∈ R', x.1 = z) := by
    intro z hz
    have one : ∀ {R R' : List (Nat × (Nat → Int))} {wss wss' : List (List Int)}, BsOk n Ker R wss → BsOk n Ker R' wss' → (∃ x ∈ R, x.1 = z) → ∃ x ∈ R', x.1 = z := fun {R R'} {_ _} b b' h => Classical.byContradiction fun c => by
      have fr : ∀ x ∈ R', x.1 ≠ z := fun x hx e => c ⟨x, hx, e⟩
      obtain ⟨ws, w⟩ := b'.at' (mem_frs.mpr ⟨hz, fr⟩)
      obtain ⟨x, hx, e⟩ := h
      exact b'.rr.free b.rr hz fr w x hx e
    exact ⟨one b b', one b' b⟩
  have ef : frs n R = frs n R' := by
    unfold frs
    refine List.filter_congr fun z hz => ?_
    have := same z (List.mem_range.mp hz)
    refine decide_eq_decide.mpr ⟨fun h x hx e => ?_, fun h x hx e => ?_⟩
    · obtain ⟨y, hy, e2⟩ := this.mpr ⟨x, hx, e⟩
      exact h y hy e2
    · obtain ⟨y, hy, e2⟩ := this.mp ⟨x, hx, e⟩
      exact h y hy e2
  refine List.ext_getElem (by rw [b.len, b'.len, ef]) fun i h1 h2 => ?_
  have i1 := List.getElem?_eq_getElem h1
  have i2 := List.getElem?_eq_getElem h2
  have fl : i < (frs n R).length := by rw [← b.len]; exact h1
  have e1 := List.getElem?_eq_getElem fl
  have m := mem_frs.mp (List.mem_of_getElem? e1)
  have w := b.wt i _ _ e1 i1
  have w' := b'.wt i _ _ (by rw [← ef]; exact e1) i2
  exact b.rr.weights b'.rr m.1 m.2 (b.rr.free b'.rr m.1 m.2 w) same w w'
end Vf

namespace Vf
open PySem L2
/-! ### rows as dicts by states -/
def rv (L : LV) (z : Int) : Int := (lk L z).getD 0
def rvN (L : LV) (i : Nat) : Int := rv L (i : Int)
structure KyOk (n : Nat) (L : LV) : Prop where
  nd : (L.map Prod.fst).Nodup
  key : ∀ p ∈ L, 0 ≤ p.1 ∧ p.1 < (n : Int)
structure RwOk (n b : Nat) (L : LV) : Prop extends KyOk n L where
  nz : ∀ p ∈ L, p.2 ≠ 0
  b : ∀ p ∈ L, p.2.natAbs < 2 ^ b
theorem rv_mem {L : LV} (nd : (L.map Prod.fst).Nodup) {p : Int × Int} (h : p ∈ L) : rv L p.1 = p.2 := by
  unfold rv
  rw [lk_of nd (z := p.1) (d := p.2) h]
  rfl
theorem rv_out {L : LV} {z : Int} (h : z ∉ L.map Prod.fst) : rv L z = 0 := by
  unfold rv
  rw [lk_none.mpr h]
  rfl
theorem lk_some {L : LV} {z : Int} (h : z ∈ L.map Prod.fst) : lk L z = some (rv L z) := by
  obtain ⟨d, e⟩ := lk_key h
  unfold rv
  rw [e]
  rfl
theorem RwOk.at' {n b : Nat} {L : LV} (h : RwOk n b L) {z : Int} (m : z ∈ L.map Prod.fst) : rv L z ≠ 0 := by
  obtain ⟨p, hp, rfl⟩ := List.mem_map.mp m
  rw [rv_mem h.nd hp]
  exact h.nz p hp
theorem RwOk.iff {n b : Nat} {L : LV} (h : RwOk n b L) {z : Int} : z ∈ L.map Prod.fst ↔ rv L z ≠ 0 := ⟨h.at', fun ne => Classical.byContradiction fun c => ne (rv_out c)⟩
theorem rv_b {n : Nat} {L : LV} {B : Nat} (_ : KyOk n L) (hb : ∀ p ∈ L, p.2.natAbs < B) (B0 : 0 < B) (z : Int) : (rv L z).natAbs < B := by
  by_cases m : z ∈ L.map Prod.fst
  · have := hb _ (lk_mem (lk_some m))
    exact this
  · rw [rv_out m]
    exact B0
theorem KyOk.in' {n : Nat} {L : LV} (h : KyOk n L) {z : Int} (m : z ∈ L.map Prod.fst) : 0 ≤ z ∧ z < (n : Int) := by
  obtain ⟨p, hp, rfl⟩ := List.mem_map.mp m
  exact h.key p hp
theorem keys_le : ∀ {n : Nat} {l : List Int}, l.Nodup → (∀ z ∈ l, 0 ≤ z ∧ z < (n : Int)) → l.length ≤ n := fun {n l} nd h => by
  have e : l.length = (l.map Int.toNat).length := (List.length_map ..).symm
  rw [e]
  have nd' : (l.map Int.toNat).Nodup := by
    refine List.Pairwise.map Int.toNat (R := fun a b => a ≠ b ∧ 0 ≤ a ∧ 0 ≤ b) (S := (· ≠ ·)) (fun a b hab => by omega) ?_
    refine List.Pairwise.imp_of_mem (R := (· ≠ ·)) (fun {a b} ha hb hab => ⟨hab, (h a ha).1, (h b hb).1⟩) nd
  have sub : ∀ x ∈ l.map Int.toNat, x ∈ List.range n := fun x hx => by
    obtain ⟨z, hz, rfl⟩ := List.mem_map.mp hx
    have := h z hz
    rw [List.mem_range]
    omega
  have := List.Nodup.length_le_of_subset nd' sub
  rw [List.length_range] at this
  exact this
theorem KyOk.len {n : Nat} {L : LV} (h : KyOk n L) : L.length ≤ n := by
  have := keys_le h.nd fun z m => h.in' m
  rw [List.length_map] at this
  exact this
/-- the sum over the factors is the sum over all states -/
theorem wS_dv {n : Nat} {w : Nat → Int} : ∀ {L : LV}, KyOk n L → wS L (fun z => w z.toNat) = dvN n (rvN L) w
  | [], _ => by
    rw [dvN_zero fun z _ => by show (0 : Int) * w z = 0; omega]
    rfl
  | p :: r, h => by
    have nd := h.nd
    rw [List.map_cons, List.nodup_cons] at nd
    have hr : KyOk n r := ⟨nd.2, fun q hq => h.key q (List.mem_cons_of_mem _ hq)⟩
    have hp := h.key p (List.mem_cons_self ..)
    have e : ∀ i : Nat, rvN (p :: r) i = (if i = p.1.toNat then p.2 else 0) + rvN r i := fun i => by
      unfold rvN
      by_cases c : i = p.1.toNat
      · rw [if_pos c]
        have ci : (i : Int) = p.1 := by omega
        rw [ci, rv_mem h.nd (List.mem_cons_self ..), rv_out nd.1, Int.add_zero]
      · rw [if_neg c, Int.zero_add]
        unfold rv lk
        rw [List.find?_cons, decide_eq_false (by omega)]
    show p.2 * w p.1.toNat + wS r (fun z => w z.toNat) = _
    rw [wS_dv hr, dvN_congr (f := rvN (p :: r)) (w := w) (p := fun i => (if i = p.1.toNat then p.2 else 0) + rvN r i) (u := w) fun z _ => by rw [e], dvN_add]
    rw [dvN_one (f := fun i => if i = p.1.toNat then p.2 else 0) (a := p.1.toNat) (by omega) fun z _ ne => by show (if z = p.1.toNat then p.2 else 0) * w z = 0; rw [if_neg ne, Int.zero_mul]]
    show _ = (if p.1.toNat = p.1.toNat then p.2 else 0) * w p.1.toNat + _
    rw [if_pos rfl]
/-- a row, divided by what divides all of its factors -/
def lowL (L : LV) : LV := L.map fun p => (p.1, p.2.fdiv (gcdR (L.map Prod.snd) : Int))
theorem low_keys (L : LV) : (lowL L).map Prod.fst = L.map Prod.fst := by
  unfold lowL
  rw [List.map_map]
  rfl
theorem gcd_pos {L : LV} {p : Int × Int} (hp : p ∈ L) (nz : p.2 ≠ 0) : 0 < gcdR (L.map Prod.snd) := by
  have := gcdR_dvd (List.mem_map_of_mem (f := Prod.snd) hp)
  refine Nat.pos_of_ne_zero fun e => nz ?_
  rw [e] at this
  exact Int.zero_dvd.mp this
theorem low_ok {n b : Nat} {L : LV} (h : RwOk n b L) : RwOk n b (lowL L) ∧ ∃ g : Int, g ≠ 0 ∧ ∀ z, rv L z = g * rv (lowL L) z := by
  have dvd : ∀ p ∈ L, ((gcdR (L.map Prod.snd) : Nat) : Int) ∣ p.2 := fun p hp => gcdR_dvd (List.mem_map_of_mem hp)
  have ok : RwOk n b (lowL L) := by
    refine ⟨⟨by rw [low_keys]; exact h.nd, fun p hp => ?_⟩, fun p hp => ?_, fun p hp => ?_⟩
    · obtain ⟨q, hq, rfl⟩ := List.mem_map.mp hp
      exact h.key q hq
    · obtain ⟨q, hq, rfl⟩ := List.mem_map.mp hp
      exact fun z => h.nz q hq ((div_facts (gcd_pos hq (h.nz q hq)) (dvd q hq)).2.mp z)
    · obtain ⟨q, hq, rfl⟩ := List.mem_map.mp hp
      exact Nat.lt_of_le_of_lt (div_facts (gcd_pos hq (h.nz q hq)) (dvd q hq)).1 (h.b q hq)
  refine ⟨ok, ?_⟩
  by_cases e : L = []
  · exact ⟨1, by decide, fun z => by rw [e]; rfl⟩
  · obtain ⟨p0, hp0⟩ := List.exists_mem_of_ne_nil L e
    have g0 := gcd_pos hp0 (h.nz p0 hp0)
    refine ⟨(gcdR (L.map Prod.snd) : Int), by omega, fun z => ?_⟩
    by_cases m : z ∈ L.map Prod.fst
    · obtain ⟨p, hp, rfl⟩ := List.mem_map.mp m
      have hp' : (p.1, p.2.fdiv (gcdR (L.map Prod.snd) : Int)) ∈ lowL L := List.mem_map_of_mem (f := fun p => (p.1, p.2.fdiv (gcdR (L.map Prod.snd) : Int))) hp
      rw [rv_mem h.nd hp, rv_mem ok.nd hp']
      obtain ⟨k, hk⟩ := dvd p hp
      show p.2 = _ * p.2.fdiv _
      rw [hk, Int.mul_fdiv_cancel_left k (by omega)]
    · rw [rv_out m, rv_out (by rw [low_keys]; exact m), Int.mul_zero]
/-- a factor added -/
theorem dAdd_rv (L : LV) (z f y : Int) : rv (dAdd L z f) y = rv L y + if y = z then f else 0 := by
  unfold dAdd
  cases e : lk L z with
  | none =>
    show rv (L ++ [(z, 0 + f)]) y = _
    unfold rv
    rw [lk_snoc e]
    by_cases c : y = z
    · rw [if_pos c, if_pos c, c, e]
      show 0 + f = 0 + f
      rfl
    · rw [if_neg c, if_neg c, Int.add_zero]
  | some d =>
    show rv (L.map fun p => if p.1 = z then (p.1, d + f) else p) y = _
    have k : ∀ M : LV, (M.map fun p => if p.1 = z then (p.1, d + f) else p).find? (fun p => decide (p.1 = y)) = (M.find? fun p => decide (p.1 = y)).map fun p => if p.1 = z then (p.1, d + f) else p := fun M => by
      induction M with
      | nil => rfl
      | cons p r ih =>
        rw [List.map_cons, List.find?_cons, List.find?_cons, ih]
        have : (if p.1 = z then (p.1, d + f) else p).1 = p.1 := by split <;> rfl
        rw [this]
        cases decide (p.1 = y) <;> rfl
    unfold rv lk
    rw [k]
    cases e2 : L.find? fun p => decide (p.1 = y) with
    | none =>
      have c : y ≠ z := fun c => by
        unfold lk at e
        rw [← c, e2] at e
        cases e
      rw [if_neg c]
      rfl
    | some p =>
      have py : p.1 = y := by simpa using List.find?_some e2
      show (if p.1 = z then (p.1, d + f) else p).2 = p.2 + _
      by_cases c : y = z
      · rw [if_pos c, if_pos (py.trans c)]
        unfold lk at e
        rw [← c, e2] at e
        rw [show p.2 = d from Option.some.inj e]
      · rw [if_neg c, if_neg (fun x => c (py.symm.trans x)), Int.add_zero]
theorem dAdd_ky {n : Nat} {L : LV} {z f : Int} (h : KyOk n L) (z0 : 0 ≤ z) (z1 : z < (n : Int)) : KyOk n (dAdd L z f) := by
  unfold dAdd
  cases e : lk L z with
  | none =>
    refine ⟨?_, fun p hp => ?_⟩
    · show ((L ++ [(z, 0 + f)]).map Prod.fst).Nodup
      rw [List.map_append, List.nodup_append]
      refine ⟨h.nd, by simp, fun a ha b hb => ?_⟩
      have : b = z := by simpa using hb
      rw [this]
      exact fun x => (lk_none.mp e) (x ▸ ha)
    · rcases List.mem_append.mp hp with hp | hp
      · exact h.key p hp
      · rw [List.mem_singleton.mp hp]
        exact ⟨z0, z1⟩
  | some d =>
    refine ⟨?_, fun p hp => ?_⟩
    · show ((L.map fun p => if p.1 = z then (p.1, d + f) else p).map Prod.fst).Nodup
      rw [List.map_map]
      have : (Prod.fst ∘ fun p : Int × Int => if p.1 = z then (p.1, d + f) else p) = Prod.fst := by
        funext p
        show (if p.1 = z then (p.1, d + f) else p).1 = p.1
        split <;> rfl
      rw [this]
      exact h.nd
    · obtain ⟨q, hq, rfl⟩ := List.mem_map.mp hp
      have : (if q.1 = z then (q.1, d + f) else q).1 = q.1 := by split <;> rfl
      rw [this]
      exact h.key q hq
def mulL (k : Int) (L : LV) : LV := L.map fun p => (p.1, k * p.2)
theorem mul_keys (k : Int) (L : LV) : (mulL k L).map Prod.fst = L.map Prod.fst := by
  unfold mulL
  rw [List.map_map]
  rfl
theorem mul_ky {n : Nat} {L : LV} (h : KyOk n L) (k : Int) : KyOk n (mulL k L) := ⟨by rw [mul_keys]; exact h.nd, fun p hp => by
  obtain ⟨q, hq, rfl⟩ := List.mem_map.mp hp
  exact h.key q hq⟩
theorem mul_rv {n : Nat} {L : LV} (h : KyOk n L) (k z : Int) : rv (mulL k L) z = k * rv L z := by
  by_cases m : z ∈ L.map Prod.fst
  · obtain ⟨p, hp, rfl⟩ := List.mem_map.mp m
    have hp' : (p.1, k * p.2) ∈ mulL k L := List.mem_map_of_mem (f := fun p => (p.1, k * p.2)) hp
    rw [rv_mem h.nd hp, rv_mem (mul_ky h k).nd hp']
  · rw [rv_out m, rv_out (by rw [mul_keys]; exact m), Int.mul_zero]
/-- a multiple of a row taken away, a factor at a time -/
def subL (t : Int) (P F : LV) : LV := P.foldl (fun F q => dAdd F q.1 (-(t * q.2))) F
theorem subL_snoc (t : Int) (P F : LV) (q : Int × Int) : subL t (P ++ [q]) F = dAdd (subL t P F) q.1 (-(t * q.2)) := by
  unfold subL
  rw [List.foldl_append]
  rfl
theorem subL_ok {n : Nat} {t : Int} : ∀ {P F : LV}, KyOk n P → KyOk n F → KyOk n (subL t P F) ∧ ∀ z, rv (subL t P F) z = rv F z - t * rv P z
  | [], F, _, hF => ⟨hF, fun z => by show rv F z = rv F z - t * 0; omega⟩
  | q :: P, F, hP, hF => by
    have nd := hP.nd
    rw [List.map_cons, List.nodup_cons] at nd
    have hq := hP.key q (List.mem_cons_self ..)
    have hr : KyOk n P := ⟨nd.2, fun p hp => hP.key p (List.mem_cons_of_mem _ hp)⟩
    obtain ⟨h1, h2⟩ := subL_ok (t := t) hr (dAdd_ky (f := -(t * q.2)) hF hq.1 hq.2)
    refine ⟨h1, fun z => ?_⟩
    show rv (subL t P (dAdd F q.1 (-(t * q.2)))) z = _
    rw [h2, dAdd_rv]
    by_cases c : z = q.1
    · rw [if_pos c, c, rv_out nd.1, rv_mem hP.nd (List.mem_cons_self ..)]
      omega
    · rw [if_neg c]
      have : rv (q :: P) z = rv P z := by
        unfold rv lk
        rw [List.find?_cons, decide_eq_false (fun e => c e.symm)]
      rw [this]
      omega
theorem nz_rv {n : Nat} {F : LV} (h : KyOk n F) : KyOk n (nzL F) ∧ (∀ p ∈ nzL F, p.2 ≠ 0) ∧ ∀ z, rv (nzL F) z = rv F z := by
  have sub : (nzL F).Sublist F := List.filter_sublist
  have nd : ((nzL F).map Prod.fst).Nodup := h.nd.sublist (sub.map _)
  refine ⟨⟨nd, fun p hp => h.key p (sub.subset hp)⟩, fun p hp => by simpa using (List.mem_filter.mp hp).2, fun z => ?_⟩
  by_cases m : z ∈ F.map Prod.fst
  · obtain ⟨p, hp, rfl⟩ := List.mem_map.mp m
    rw [rv_mem h.nd hp]
    by_cases c : p.2 = 0
    · rw [rv_out, c]
      intro m2
      obtain ⟨q, hq, e⟩ := List.mem_map.mp m2
      have h1 := rv_mem h.nd (sub.subset hq)
      rw [e, rv_mem h.nd hp, c] at h1
      have := (List.mem_filter.mp hq).2
      simp at this
      exact this h1.symm
    · exact rv_mem nd (List.mem_filter.mpr ⟨hp, by simpa using c⟩)
  · rw [rv_out m, rv_out fun x => m ((sub.map _).subset x)]
/-- what is told of a row without a state -/
structure WoR (n b p : Nat) (L P : LV) (s : Int) (M : LV) : Prop where
  ok : RwOk n (b + p + 1) M
  col : rv M s = 0
  lin : ∃ g k t : Int, g ≠ 0 ∧ k ≠ 0 ∧ ∀ z, g * rv M z = k * rv L z - t * rv P z
theorem wo_row {n b p : Nat} {L P : LV} {s k t : Int} (hL : RwOk n b L) (hP : RwOk n p P) (sP : s ∈ P.map Prod.fst) (sL : s ∈ L.map Prod.fst) (ek : k = (rv P s).fdiv (Int.gcd (rv L s) (rv P s) : Int)) (et : t = (rv L s).fdiv (Int.gcd (rv L s) (rv P s) : Int)) : RwOk n (b + p + 1) (nzL (subL t P (mulL k L))) ∧ WoR n b p L P s (lowL (nzL (subL t P (mulL k L)))) := by
  have lnz := hL.at' sL
  have pnz := hP.at' sP
  have g0 : 0 < Int.gcd (rv L s) (rv P s) := Nat.pos_of_ne_zero fun e => lnz (Int.gcd_eq_zero_iff.mp e).1
  have d1 := Int.gcd_dvd_left (rv L s) (rv P s)
  have d2 := Int.gcd_dvd_right (rv L s) (rv P s)
  have f1 := div_facts g0 d1
  have f2 := div_facts g0 d2
  rw [← et] at f1
  rw [← ek] at f2
  have kb : k.natAbs < 2 ^ p := Nat.lt_of_le_of_lt f2.1 (rv_b hP.toKyOk hP.b (Nat.pow_pos (by decide)) s)
  have tb : t.natAbs < 2 ^ b := Nat.lt_of_le_of_lt f1.1 (rv_b hL.toKyOk hL.b (Nat.pow_pos (by decide)) s)
  have kn : k ≠ 0 := fun e => pnz (f2.2.mp e)
  obtain ⟨s1, s2⟩ := subL_ok (t := t) hP.toKyOk (mul_ky hL.toKyOk k)
  obtain ⟨n1, n2, n3⟩ := nz_rv s1
  have val : ∀ z, rv (nzL (subL t P (mulL k L))) z = k * rv L z - t * rv P z := fun z => by rw [n3, s2, mul_rv hL.toKyOk]
  have ok : RwOk n (b + p + 1) (nzL (subL t P (mulL k L))) := ⟨n1, n2, fun q hq => by
    rw [← rv_mem n1.nd hq, val]
    have m1 := wide_lt kb (rv_b hL.toKyOk hL.b (Nat.pow_pos (by decide)) q.1)
    have m2 := wide_lt tb (rv_b hP.toKyOk hP.b (Nat.pow_pos (by decide)) q.1)
    rw [Nat.add_comm p b] at m1
    rw [Nat.pow_succ]
    omega⟩
  obtain ⟨lo, g, gn, lg⟩ := low_ok ok
  refine ⟨ok, lo, ?_, g, k, t, gn, kn, fun z => by rw [← lg, val]⟩
  have e := lg s
  have cz : rv (nzL (subL t P (mulL k L))) s = 0 := by
    rw [val]
    obtain ⟨u, hu⟩ := d1
    obtain ⟨v, hv⟩ := d2
    have ek' : k = v := by
      rw [ek]
      conv => lhs; lhs; rw [hv]
      exact Int.mul_fdiv_cancel_left v (by omega)
    have et' : t = u := by
      rw [et]
      conv => lhs; lhs; rw [hu]
      exact Int.mul_fdiv_cancel_left u (by omega)
    rw [ek', et']
    generalize ((Int.gcd (rv L s) (rv P s) : Nat) : Int) = G at hu hv
    rw [hu, hv, Int.mul_left_comm, Int.mul_left_comm u, Int.mul_comm v u, Int.sub_self]
  rw [cz] at e
  rcases Int.mul_eq_zero.mp e.symm with e | e
  · exact absurd e gn
  · exact e
theorem upd_back {H : Hp} {d : Addr} {o u : HO} (h : H d = some u) : upd (upd H d o) d u = H := by
  funext a
  by_cases e : a = d
  · rw [e, upd_same, h]
  · rw [upd_ne e, upd_ne e]
theorem Same.unlock {H H' : Hp} {d : Addr} {o u : HO} (h : H d = some u) (s : Same (upd H d o) H') : Same H (upd H' d u) := fun a w e => by
  by_cases c : a = d
  · rw [c] at e ⊢
    rw [upd_same, ← h, e]
  · rw [upd_ne c]
    exact s a w (by rw [upd_ne c]; exact e)
theorem gcdR_take {L : LV} {i : Nat} {p : Int × Int} (h : L[i]? = some p) : gcdR ((L.take (i + 1)).map Prod.snd) = Int.gcd (gcdR ((L.take i).map Prod.snd) : Int) p.2 := by
  rw [take_snoc h, List.map_append]
  exact gcdR_snoc _ _
theorem dget_row {H : Hp} {d : Addr} {L : LV} {z : Int} (hd : H d = some (.dK (dkv L))) (m : z ∈ L.map Prod.fst) : DGet H d (.int z) (some (.int (rv L z))) := by
  have := DGet.k (k := Sum.inl z) hd
  rw [dkv_val, lk_some m] at this
  exact this
theorem get_rv (L : LV) (z : Int) : (valV (dkv L) (Sum.inl z)).getD (.int 0) = .int (rv L z) := get_val L z
theorem keys_take {L : LV} {i : Nat} {z f : Int} (nd : (L.map Prod.fst).Nodup) (h : L[i]? = some (z, f)) : lk (L.take i) z = none := by
  rw [lk_none]
  intro m
  have ei : (L.map Prod.fst)[i]? = some z := by rw [List.getElem?_map, h]; rfl
  rw [List.map_take] at m
  obtain ⟨j, hj⟩ := List.mem_iff_getElem?.mp m
  have jl : j < i := by
    have := (List.getElem?_eq_some_iff.mp hj).1
    rw [List.length_take] at this
    omega
  rw [List.getElem?_take_of_lt jl] at hj
  have := nodup_ix nd hj ei
  omega
theorem KyOk.take {n : Nat} {L : LV} (h : KyOk n L) (i : Nat) : KyOk n (L.take i) := ⟨by rw [List.map_take]; exact h.nd.sublist (List.take_sublist ..), fun p hp => h.key p (List.mem_of_mem_take hp)⟩
theorem dkv_at {L : LV} {i : Nat} (h : i < (dkv L).length) : ∃ z f, L[i]? = some (z, f) ∧ (dkv L)[i]? = some (Sum.inl z, V.int f) := by
  rw [dkv_len] at h
  refine ⟨L[i].1, L[i].2, List.getElem?_eq_getElem h, ?_⟩
  unfold dkv
  rw [List.getElem?_map, List.getElem?_eq_getElem h]
  rfl
theorem cdiv_ok {x : Int} (nz : x ≠ 0) {b : Nat} (b1 : b ≤ 8999) (h : x.natAbs < 2 ^ b) : CDivWN 0 x := ⟨nz, by
  have h8 : x.natAbs < 2 ^ 8999 := Nat.lt_of_lt_of_le h (Nat.pow_le_pow_right (by decide) b1)
  have := PySem.Flt.log2_lt_of (by decide) h8
  omega⟩
theorem cmul_ok {x y : Int} {a b : Nat} (hx : x.natAbs < 2 ^ a) (hy : y.natAbs < 2 ^ b) (ha : a ≤ 100000) (hb : b ≤ 100000) : CMulW x y := wide_mul (a := 100001) (b := 100001) (Nat.lt_of_lt_of_le hx (Nat.pow_le_pow_right (by decide) (by omega))) (Nat.lt_of_lt_of_le hy (Nat.pow_le_pow_right (by decide) (by omega))) (by decide) (by decide) (by decide)
theorem map_take_new {L : LV} {g : Int → Int} {i : Nat} {z f : Int} (nd : (L.map Prod.fst).Nodup) (h : L[i]? = some (z, f)) : putK (dkv ((L.map fun p => (p.1, g p.2)).take i)) (Sum.inl z) (V.int (g f)) = dkv ((L.map fun p => (p.1, g p.2)).take (i + 1)) := by
  have ek : (L.map fun p => (p.1, g p.2)).map Prod.fst = L.map Prod.fst := by rw [List.map_map]; rfl
  have et : (L.map fun p => (p.1, g p.2))[i]? = some (z, g f) := by rw [List.getElem?_map, h]; rfl
  rw [dkv_new (keys_take (by rw [ek]; exact nd) et), take_snoc et]
end Vf

namespace Vf
open PySem L2
/-! ### pivot rows: a dict of dicts -/
abbrev PV := List (Int × Addr × LV)
def pvk (pv : PV) : List (Key × V) := pv.map fun x => (Sum.inl x.1, V.ref x.2.1)
def pks (pv : PV) : List Int := pv.map fun x => x.1
theorem pvk_len (pv : PV) : (pvk pv).length = pv.length := List.length_map ..
theorem pvk_val (z : Int) : ∀ pv : PV, valV (pvk pv) (Sum.inl z) = (pv.find? fun x => decide (x.1 = z)).map fun x => V.ref x.2.1
  | [] => rfl
  | p :: r => by
    have ih := pvk_val z r
    unfold pvk at *
    rw [List.map_cons, List.find?_cons]
    by_cases e : p.1 = z
    · rw [valV_pos (by rw [e]), decide_eq_true e]
      rfl
    · rw [valV_neg (fun q => e (Sum.inl.inj q)), decide_eq_false e, ih]
theorem pvk_find : ∀ {pv : PV}, (pks pv).Nodup → ∀ {x : Int × Addr × LV}, x ∈ pv → (pv.find? fun y => decide (y.1 = x.1)) = some x
  | p :: r, nd, x, h => by
    unfold pks at nd
    rw [List.map_cons, List.nodup_cons] at nd
    rw [List.find?_cons]
    rcases List.mem_cons.mp h with rfl | m
    · rw [decide_eq_true rfl]
    · rw [decide_eq_false (fun e => nd.1 (by rw [e]; exact List.mem_map.mpr ⟨_, m, rfl⟩))]
      exact pvk_find nd.2 m
theorem pvk_mem {pv : PV} (nd : (pks pv).Nodup) {x : Int × Addr × LV} (h : x ∈ pv) : valV (pvk pv) (Sum.inl x.1) = some (.ref x.2.1) := by
  rw [pvk_val, pvk_find nd h]
  rfl
theorem pvk_isSome (pv : PV) (z : Int) : (valV (pvk pv) (Sum.inl z)).isSome = decide (z ∈ pks pv) := by
  rw [pvk_val, Option.isSome_map, List.isSome_find?, Bool.eq_iff_iff, List.any_eq_true, decide_eq_true_iff]
  unfold pks
  rw [List.mem_map]
  simp only [decide_eq_true_eq]
structure PvOk (n p : Nat) (pv : PV) : Prop where
  nd : (pks pv).Nodup
  rw : ∀ x ∈ pv, RwOk n p x.2.2
  own : ∀ x ∈ pv, x.1 ∈ x.2.2.map Prod.fst
  lead : ∀ x ∈ pv, ∀ z ∈ x.2.2.map Prod.fst, x.1 ≤ z
  oth : ∀ x ∈ pv, ∀ y ∈ pv, x.1 ≠ y.1 → rv x.2.2 y.1 = 0
structure PvH (H : Hp) (e : Addr) (pv : PV) : Prop where
  d : H e = some (.dK (pvk pv))
  r : ∀ x ∈ pv, H x.2.1 = some (.dK (dkv x.2.2))
theorem PvH.same {H H' : Hp} {e : Addr} {pv : PV} (h : PvH H e pv) (s : Same H H') : PvH H' e pv := ⟨s _ _ h.d, fun x hx => s _ _ (h.r x hx)⟩
theorem pv_at {pv : PV} {z : Int} (h : z ∈ pks pv) : ∃ x ∈ pv, x.1 = z := List.mem_map.mp h
theorem dget_pv {H : Hp} {e : Addr} {pv : PV} (hd : H e = some (.dK (pvk pv))) (nd : (pks pv).Nodup) {x : Int × Addr × LV} (h : x ∈ pv) : DGet H e (.int x.1) (some (.ref x.2.1)) := by
  have := DGet.k (k := Sum.inl x.1) hd
  rw [pvk_mem nd h] at this
  exact this
def bnd (L : LV) (pv : PV) : List Int := (L.map Prod.fst).filter fun z => decide (z ∈ pks pv)
theorem mem_bnd {L : LV} {pv : PV} {z : Int} : z ∈ bnd L pv ↔ z ∈ L.map Prod.fst ∧ z ∈ pks pv := by
  unfold bnd
  rw [List.mem_filter, decide_eq_true_iff]
theorem bnd_nd {L : LV} (h : (L.map Prod.fst).Nodup) (pv : PV) : (bnd L pv).Nodup := h.sublist List.filter_sublist
theorem bnd_len {L : LV} (h : (L.map Prod.fst).Nodup) (pv : PV) : (bnd L pv).length ≤ pv.length := by
  have := List.Nodup.length_le_of_subset (bnd_nd h pv) (l₂ := pks pv) fun x hx => (mem_bnd.mp hx).2
  unfold pks at this
  rwa [List.length_map] at this
theorem RwOk.mono {n b c : Nat} {L : LV} (h : RwOk n b L) (l : b ≤ c) : RwOk n c L := ⟨h.toKyOk, h.nz, fun p hp => Nat.lt_of_lt_of_le (h.b p hp) (Nat.pow_le_pow_right (by decide) l)⟩
structure BdOk (n b p : Nat) (L : LV) (pv : PV) (j : Nat) (M : LV) : Prop where
  ok : RwOk n (b + j * (p + 1)) M
  z1 : ∀ s ∈ (bnd L pv).take j, rv M s = 0
  z2 : ∀ x ∈ pv, x.1 ∉ (bnd L pv).take j → (rv M x.1 = 0 ↔ rv L x.1 = 0)
  ker : ∀ w : Nat → Int, (∀ x ∈ pv, dvN n (rvN x.2.2) w = 0) → (dvN n (rvN M) w = 0 ↔ dvN n (rvN L) w = 0)
theorem BdOk.start {n b p : Nat} {L : LV} {pv : PV} (h : RwOk n b L) : BdOk n b p L pv 0 L := ⟨by rw [Nat.zero_mul]; exact h, fun s hs => by simp at hs, fun _ _ _ => Iff.rfl, fun _ _ => Iff.rfl⟩
theorem lin_zero {g k t a b c : Int} (g0 : g ≠ 0) (k0 : k ≠ 0) (e : g * a = k * b - t * c) (c0 : c = 0) : a = 0 ↔ b = 0 := by
  rw [c0, Int.mul_zero, Int.sub_zero] at e
  constructor
  · intro h
    rw [h, Int.mul_zero] at e
    rcases Int.mul_eq_zero.mp e.symm with h | h
    · exact absurd h k0
    · exact h
  · intro h
    rw [h, Int.mul_zero] at e
    rcases Int.mul_eq_zero.mp e with h | h
    · exact absurd h g0
    · exact h
theorem BdOk.sIn {n b p j : Nat} {L M : LV} {pv : PV} {s : Int} (h : BdOk n b p L pv j M) (okL : RwOk n b L) (hs : (bnd L pv)[j]? = some s) : s ∈ M.map Prod.fst := by
  have mb := mem_bnd.mp (List.mem_of_getElem? hs)
  obtain ⟨x, hx, rfl⟩ := pv_at mb.2
  have nin : x.1 ∉ (bnd L pv).take j := fun m => by
    obtain ⟨i, hi⟩ := List.mem_iff_getElem?.mp m
    have il : i < j := by
      have := (List.getElem?_eq_some_iff.mp hi).1
      rw [List.length_take] at this
      omega
    rw [List.getElem?_take_of_lt il] at hi
    have := nodup_ix (bnd_nd okL.nd pv) hi hs
    omega
  rw [h.ok.iff]
  exact fun z => okL.at' mb.1 ((h.z2 x hx nin).mp z)
theorem BdOk.step {n b p j : Nat} {L M M' : LV} {pv : PV} {x : Int × Addr × LV} (h : BdOk n b p L pv j M) (P : PvOk n p pv) (hx : x ∈ pv) (hs : (bnd L pv)[j]? = some x.1) (w : WoR n (b + j * (p + 1)) p M x.2.2 x.1 M') : BdOk n b p L pv (j + 1) M' := by
  obtain ⟨g, k, t, g0, k0, lin⟩ := w.lin
  have et := take_snoc hs
  refine ⟨w.ok.mono (by rw [Nat.succ_mul]; omega), fun s m => ?_, fun y hy nin => ?_, fun u hu => ?_⟩
  · rw [et] at m
    by_cases c : s = x.1
    · rw [c]
      exact w.col
    · rcases List.mem_append.mp m with m | m
      · have sp : s ∈ pks pv := (mem_bnd.mp (List.mem_of_mem_take m)).2
        obtain ⟨y, hy, rfl⟩ := pv_at sp
        exact (lin_zero g0 k0 (lin y.1) (P.oth x hx y hy (fun e => c e.symm))).mpr (h.z1 _ m)
      · exact absurd (List.mem_singleton.mp m) c
  · rw [et, List.mem_append, not_or] at nin
    have ne : x.1 ≠ y.1 := fun e => nin.2 (by rw [List.mem_singleton]; exact e.symm)
    exact (lin_zero g0 k0 (lin y.1) (P.oth x hx y hy ne)).trans (h.z2 y hy nin.1)
  · have e := dvN_lin (n := n) (f := rvN M) (p := rvN x.2.2) (q := rvN M') (fun z _ => lin (z : Int)) u
    exact (lin_zero g0 k0 e (hu x hx)).trans (h.ker u hu)
theorem BdOk.fin {n b p : Nat} {L M : LV} {pv : PV} (h : BdOk n b p L pv (bnd L pv).length M) (okL : RwOk n b L) : RwOk n (b + pv.length * (p + 1)) M ∧ ∀ x ∈ pv, rv M x.1 = 0 := by
  refine ⟨h.ok.mono (Nat.add_le_add_left (Nat.mul_le_mul_right _ (bnd_len okL.nd pv)) _), fun x hx => ?_⟩
  by_cases c : x.1 ∈ bnd L pv
  · exact h.z1 x.1 (by rw [List.take_length]; exact c)
  · refine (h.z2 x hx (by rw [List.take_length]; exact c)).mpr (rv_out fun m => c (mem_bnd.mpr ⟨m, ?_⟩))
    exact List.mem_map.mpr ⟨x, hx, rfl⟩
theorem bnd_take {L : LV} {pv : PV} {i : Nat} {z f : Int} (h : L[i]? = some (z, f)) : bnd (L.take (i + 1)) pv = if z ∈ pks pv then bnd (L.take i) pv ++ [z] else bnd (L.take i) pv := by
  unfold bnd
  rw [take_snoc h, List.map_append, List.filter_append, List.map_cons, List.map_nil, List.filter_cons, List.filter_nil]
  by_cases c : z ∈ pks pv
  · rw [if_pos c, if_pos (decide_eq_true c)]
  · rw [if_neg c, if_neg (by simpa using c), List.append_nil]
theorem bnd_small (L : LV) (pv : PV) : (bnd L pv).length ≤ L.length := by
  unfold bnd
  refine Nat.le_trans (List.length_filter_le ..) ?_
  rw [List.length_map]
  exact Nat.le_refl _
theorem Rd.same {H H' : Hp} {a : Addr} {u : HO} (r : Rd H a u) (s : Same H H') : Rd H' a u := by
  rcases r with r | ⟨o, r⟩
  · exact .inl (s _ _ r)
  · exact .inr ⟨o, s _ _ r⟩
end Vf

namespace Vf
open PySem L2
/-! ### one more pivot row -/
def eqv (D : DD) (r : S4) (w : Nat → Int) : Int := w (ix D.st r.1).toNat + w (ix D.st r.2.1).toNat - w (ix D.st r.2.2.1).toNat - w (ix D.st r.2.2.2).toNat
def KerD (D : DD) (rs : List S4) (w : Nat → Int) : Prop := ∀ r ∈ rs, eqv D r w = 0
theorem eqv_one (D : DD) (r : S4) : eqv D r (fun _ => 1) = 0 := rfl
def Pb : Nat → Nat
  | 0 => 0
  | r + 1 => Pb r + (3 + r * (Pb r + 1)) + 1
theorem Pb_le {r : Nat} (h : r ≤ 5) : 3 + r * (Pb r + 1) ≤ 4723 ∧ Pb (r + 1) ≤ 5667 ∧ Pb r ≤ 943 := by
  have : r = 0 ∨ r = 1 ∨ r = 2 ∨ r = 3 ∨ r = 4 ∨ r = 5 := by omega
  rcases this with rfl | rfl | rfl | rfl | rfl | rfl <;> decide
/-- a row whose least state is the last one holds no equation of this kind -/
theorem lead_small {n b : Nat} {L : LV} {s : Int} (ok : RwOk n b L) (hs : s ∈ L.map Prod.fst) (le : ∀ z ∈ L.map Prod.fst, s ≤ z) (sum : dvN n (rvN L) (fun _ => 1) = 0) : 0 ≤ s ∧ s + 1 < (n : Int) := by
  have si := ok.in' hs
  refine ⟨si.1, ?_⟩
  by_cases c : s + 1 < (n : Int)
  · exact c
  · rw [dvN_one (a := s.toNat) (by omega) fun z hz ne => by
      have : (z : Int) ∉ L.map Prod.fst := fun m => by
        have := le _ m
        omega
      show rv L (z : Int) * 1 = 0
      rw [rv_out this]
      rfl] at sum
    have e : rvN L s.toNat = rv L s := by
      unfold rvN
      rw [Int.toNat_of_nonneg si.1]
    rw [e, Int.mul_one] at sum
    exact absurd sum (ok.at' hs)
theorem keysLow {n : Nat} {l : List Int} (nd : l.Nodup) (h : ∀ z ∈ l, 0 ≤ z ∧ z + 1 < (n : Int)) : l.length ≤ n - 1 := keys_le nd fun z hz => by
  have := h z hz
  omega
theorem PvOk.few {n p : Nat} {pv : PV} (P : PvOk n p pv) (one : ∀ x ∈ pv, dvN n (rvN x.2.2) (fun _ => 1) = 0) : pv.length ≤ n - 1 := by
  have := keysLow P.nd (n := n) fun z hz => by
    obtain ⟨x, hx, rfl⟩ := pv_at hz
    exact lead_small (P.rw x hx) (P.own x hx) (P.lead x hx) (one x hx)
  unfold pks at this
  rwa [List.length_map] at this
/-- a pivot row, before and after -/
def UpR (n p b : Nat) (M : LV) (bd : Int) (x y : Int × Addr × LV) : Prop := (bd ∉ x.2.2.map Prod.fst ∧ y = x) ∨ (bd ∈ x.2.2.map Prod.fst ∧ y.1 = x.1 ∧ WoR n p b x.2.2 M bd y.2.2)
theorem UpR.key {n p b : Nat} {M : LV} {bd : Int} {x y : Int × Addr × LV} (h : UpR n p b M bd x y) : y.1 = x.1 := by
  rcases h with ⟨_, rfl⟩ | ⟨_, e, _⟩
  · rfl
  · exact e
theorem UpR.lin {n p b : Nat} {M : LV} {bd : Int} {x y : Int × Addr × LV} (h : UpR n p b M bd x y) : ∃ g k t : Int, g ≠ 0 ∧ k ≠ 0 ∧ ∀ z, g * rv y.2.2 z = k * rv x.2.2 z - t * rv M z := by
  rcases h with ⟨_, rfl⟩ | ⟨_, _, w⟩
  · exact ⟨1, 1, 0, by decide, by decide, fun z => by omega⟩
  · exact w.lin
theorem UpR.ok {n p b : Nat} {M : LV} {bd : Int} {x y : Int × Addr × LV} (h : UpR n p b M bd x y) (okx : RwOk n p x.2.2) : RwOk n (p + b + 1) y.2.2 ∧ rv y.2.2 bd = 0 := by
  rcases h with ⟨c, rfl⟩ | ⟨_, _, w⟩
  · exact ⟨okx.mono (by omega), rv_out c⟩
  · exact ⟨w.ok, w.col⟩
theorem PvOk.step {n p b : Nat} {pv pw : PV} {M : LV} {bd : Int} {m : Addr} (P : PvOk n p pv) (okM : RwOk n b M) (mz : ∀ x ∈ pv, rv M x.1 = 0) (hb : bd ∈ M.map Prod.fst) (le : ∀ z ∈ M.map Prod.fst, bd ≤ z) (len : pw.length = pv.length) (up : ∀ (i : Nat) (x : Int × Addr × LV), pv[i]? = some x → ∃ y, pw[i]? = some y ∧ UpR n p b M bd x y) : PvOk n (p + b + 1) (pw ++ [(bd, m, M)]) ∧ bd ∉ pks pw ∧ ∀ w : Nat → Int, (∀ y ∈ pw ++ [(bd, m, M)], dvN n (rvN y.2.2) w = 0) ↔ (∀ x ∈ pv, dvN n (rvN x.2.2) w = 0) ∧ dvN n (rvN M) w = 0 := by
  have back : ∀ y ∈ pw, ∃ x ∈ pv, UpR n p b M bd x y := fun y hy => by
    obtain ⟨i, hi⟩ := List.mem_iff_getElem?.mp hy
    have il := (List.getElem?_eq_some_iff.mp hi).1
    have ex := List.getElem?_eq_getElem (show i < pv.length by omega)
    obtain ⟨y', h1, h2⟩ := up i _ ex
    rw [hi] at h1
    obtain rfl := Option.some.inj h1
    exact ⟨_, List.mem_of_getElem? ex, h2⟩
  have forth : ∀ x ∈ pv, ∃ y ∈ pw, UpR n p b M bd x y := fun x hx => by
    obtain ⟨i, hi⟩ := List.mem_iff_getElem?.mp hx
    obtain ⟨y, h1, h2⟩ := up i x hi
    exact ⟨y, List.mem_of_getElem? h1, h2⟩
  have mb := okM.at' hb
  have ks : pks pw = pks pv := by
    refine List.ext_getElem? fun i => ?_
    unfold pks
    rw [List.getElem?_map, List.getElem?_map]
    by_cases c : i < pv.length
    · have ex := List.getElem?_eq_getElem c
      obtain ⟨y, h1, h2⟩ := up i _ ex
      rw [h1, ex]
      exact congrArg some h2.key
    · rw [List.getElem?_eq_none (by omega), List.getElem?_eq_none (by omega)]
  have nb : bd ∉ pks pw := by
    rw [ks]
    intro h
    obtain ⟨x, hx, rfl⟩ := pv_at h
    exact mb (mz x hx)
  have low : ∀ z, z < bd → rv M z = 0 := fun z hz => rv_out fun h => by
    have := le z h
    omega
  refine ⟨⟨?_, fun y hy => ?_, fun y hy => ?_, fun y hy z hz => ?_, fun y hy y' hy' ne => ?_⟩, nb, fun w => ⟨fun h => ⟨fun x hx => ?_, ?_⟩, fun h y hy => ?_⟩⟩
  · unfold pks
    rw [List.map_append, List.nodup_append]
    refine ⟨?_, by simp, fun a ha c hc => ?_⟩
    · show (pks pw).Nodup
      rw [ks]
      exact P.nd
    · have : c = bd := by simpa using hc
      rw [this]
      exact fun e => nb (e ▸ ha)
  · rcases List.mem_append.mp hy with hy | hy
    · obtain ⟨x, hx, u⟩ := back y hy
      exact (u.ok (P.rw x hx)).1
    · rw [List.mem_singleton.mp hy]
      exact okM.mono (by omega)
  · rcases List.mem_append.mp hy with hy | hy
    · obtain ⟨x, hx, u⟩ := back y hy
      obtain ⟨g, k, t, g0, k0, lin⟩ := u.lin
      rw [(u.ok (P.rw x hx)).1.iff, u.key]
      exact fun z => (P.rw x hx).at' (P.own x hx) ((lin_zero g0 k0 (lin x.1) (mz x hx)).mp z)
    · rw [List.mem_singleton.mp hy]
      exact hb
  · rcases List.mem_append.mp hy with hy | hy
    · obtain ⟨x, hx, u⟩ := back y hy
      rcases u with ⟨_, rfl⟩ | ⟨c, ek, w⟩
      · exact P.lead y hx z hz
      · have u : UpR n p b M bd x y := .inr ⟨c, ek, w⟩
        obtain ⟨g, k, t, g0, k0, lin⟩ := w.lin
        have xb : x.1 ≤ bd := P.lead x hx bd c
        refine Classical.byContradiction fun n' => ?_
        rw [ek] at n'
        have z1 : rv M z = 0 := low z (by omega)
        have z2 := (lin_zero g0 k0 (lin z) z1)
        refine w.ok.at' hz (z2.mpr (rv_out fun h => ?_))
        have := P.lead x hx z h
        omega
    · rw [List.mem_singleton.mp hy] at hz ⊢
      exact le z hz
  · rcases List.mem_append.mp hy with hy | hy
    · obtain ⟨x, hx, u⟩ := back y hy
      rcases List.mem_append.mp hy' with hy' | hy'
      · obtain ⟨x', hx', u'⟩ := back y' hy'
        obtain ⟨g, k, t, g0, k0, lin⟩ := u.lin
        rw [u.key, u'.key] at ne
        rw [u'.key]
        exact (lin_zero g0 k0 (lin x'.1) (mz x' hx')).mpr (P.oth x hx x' hx' ne)
      · rw [List.mem_singleton.mp hy']
        exact (u.ok (P.rw x hx)).2
    · rw [List.mem_singleton.mp hy] at ne ⊢
      rcases List.mem_append.mp hy' with hy' | hy'
      · obtain ⟨x', hx', u'⟩ := back y' hy'
        rw [u'.key]
        exact mz x' hx'
      · rw [List.mem_singleton.mp hy'] at ne
        exact absurd rfl ne
  · have hM : dvN n (rvN M) w = 0 := h (bd, m, M) (List.mem_append.mpr (.inr (List.mem_singleton.mpr rfl)))
    obtain ⟨y, hy, u⟩ := forth x hx
    obtain ⟨g, k, t, g0, k0, lin⟩ := u.lin
    have e := dvN_lin (n := n) (f := rvN x.2.2) (p := rvN M) (q := rvN y.2.2) (fun z _ => lin (z : Int)) w
    exact (lin_zero g0 k0 e hM).mp (h y (List.mem_append.mpr (.inl hy)))
  · exact h (bd, m, M) (List.mem_append.mpr (.inr (List.mem_singleton.mpr rfl)))
  · rcases List.mem_append.mp hy with hy | hy
    · obtain ⟨x, hx, u⟩ := back y hy
      obtain ⟨g, k, t, g0, k0, lin⟩ := u.lin
      have e := dvN_lin (n := n) (f := rvN x.2.2) (p := rvN M) (q := rvN y.2.2) (fun z _ => lin (z : Int)) w
      exact (lin_zero g0 k0 e h.2).mpr (h.1 x hx)
    · rw [List.mem_singleton.mp hy]
      exact h.2
/-! ### in the heap -/
theorem dkv_pvk {L : LV} {pv : PV} (h : L ≠ []) : dkv L ≠ pvk pv := by
  cases L with
  | nil => exact absurd rfl h
  | cons p r =>
    cases pv with
    | nil => intro e; cases e
    | cons x t =>
      intro e
      have := (List.cons.inj e).1
      cases (Prod.mk.inj this).2
theorem PvH.ne {H : Hp} {e a : Addr} {pv : PV} {L : LV} (he : H e = some (.dK (pvk pv))) (ha : H a = some (.dK (dkv L))) (h : L ≠ []) : a ≠ e := fun x => by
  rw [x, he] at ha
  exact dkv_pvk h (HO.dK.inj (Option.some.inj ha)).symm
theorem pv_set {pv : PV} {j : Nat} {x : Int × Addr × LV} {t : Addr} {L : LV} (nd : (pks pv).Nodup) (h : pv[j]? = some x) : putK (pvk pv) (Sum.inl x.1) (.ref t) = pvk (pv.set j (x.1, t, L)) := by
  have jl := (List.getElem?_eq_some_iff.mp h).1
  unfold putK
  rw [if_pos (by rw [valV_any, pvk_mem nd (List.mem_of_getElem? h)]; rfl)]
  refine List.ext_getElem? fun i => ?_
  unfold pvk
  rw [List.getElem?_map, List.getElem?_map, List.getElem?_map, List.getElem?_set]
  by_cases c : j = i
  · subst c
    rw [if_pos rfl, if_pos jl, h]
    show some (if (Sum.inl x.1 : Key) = Sum.inl x.1 then ((Sum.inl x.1 : Key), V.ref t) else _) = _
    rw [if_pos rfl]
    rfl
  · rw [if_neg c]
    cases e : pv[i]? with
    | none => rfl
    | some y =>
      show some (if (Sum.inl y.1 : Key) = Sum.inl x.1 then ((Sum.inl y.1 : Key), V.ref t) else (Sum.inl y.1, V.ref y.2.1)) = some (Sum.inl y.1, V.ref y.2.1)
      rw [if_neg fun q => c ?_]
      have h1 : (pks pv)[j]? = some x.1 := by unfold pks; rw [List.getElem?_map, h]; rfl
      have h2 : (pks pv)[i]? = some x.1 := by unfold pks; rw [List.getElem?_map, e, ← Sum.inl.inj q]; rfl
      exact nodup_ix nd h1 h2
theorem pv_new {pv : PV} {k : Int} {t : Addr} {L : LV} (h : k ∉ pks pv) : putK (pvk pv) (Sum.inl k) (.ref t) = pvk (pv ++ [(k, t, L)]) := by
  rw [putK_new _ (by
    have := pvk_isSome pv k
    rw [decide_eq_false h] at this
    cases e : valV (pvk pv) (Sum.inl k) with
    | none => rfl
    | some v => rw [e] at this; cases this)]
  unfold pvk
  rw [List.map_append]
  rfl
theorem PvH.put {H : Hp} {e : Addr} {pv pw : PV} (he : H e = some (.dK (pvk pv))) (r : ∀ x ∈ pw, H x.2.1 = some (.dK (dkv x.2.2)) ∧ x.2.2 ≠ []) : PvH (upd H e (.dK (pvk pw))) e pw := ⟨upd_same, fun x hx => by
  rw [upd_ne (PvH.ne he (r x hx).1 (r x hx).2)]
  exact (r x hx).1⟩
theorem lk_isSome (L : LV) (z : Int) : (valV (dkv L) (Sum.inl z)).isSome = decide (z ∈ L.map Prod.fst) := by
  rw [dkv_val, Option.isSome_map]
  by_cases m : z ∈ L.map Prod.fst
  · rw [lk_some m, decide_eq_true m]
    rfl
  · rw [lk_none.mpr m, decide_eq_false m]
    rfl
theorem pvk_keys (pv : PV) : ((pvk pv).map fun kv => kV kv.1) = (pks pv).map V.int := by
  unfold pvk pks
  rw [List.map_map, List.map_map]
  rfl
theorem RwOk.notnil {n b : Nat} {L : LV} {z : Int} (m : z ∈ L.map Prod.fst) : L ≠ [] := fun e => by rw [e] at m; cases m
theorem UpR.nn {n p b : Nat} {M : LV} {bd : Int} {x y : Int × Addr × LV} (h : UpR n p b M bd x y) (okx : RwOk n p x.2.2) (own : x.1 ∈ x.2.2.map Prod.fst) (mz : rv M x.1 = 0) : y.2.2 ≠ [] := by
  obtain ⟨g, k, t, g0, k0, lin⟩ := h.lin
  exact RwOk.notnil (n := n) (b := p + b + 1) (z := x.1) ((h.ok okx).1.iff.mpr fun z => okx.at' own ((lin_zero g0 k0 (lin x.1) mz).mp z))
/-- the rows while they are brought up to date -/
structure PjR (n p b : Nat) (M : LV) (bd : Int) (pv pw : PV) (j : Nat) : Prop where
  len : pw.length = pv.length
  up : ∀ (i : Nat) (x : Int × Addr × LV), pv[i]? = some x → ∃ y, pw[i]? = some y ∧ (i < j → UpR n p b M bd x y) ∧ (j ≤ i → y = x)
theorem PjR.start {n p b : Nat} {M : LV} {bd : Int} {pv : PV} : PjR n p b M bd pv pv 0 := ⟨rfl, fun i x h => ⟨x, h, fun c => absurd c (by omega), fun _ => rfl⟩⟩
theorem PjR.keys {n p b j : Nat} {M : LV} {bd : Int} {pv pw : PV} (h : PjR n p b M bd pv pw j) : pks pw = pks pv := by
  refine List.ext_getElem? fun i => ?_
  unfold pks
  rw [List.getElem?_map, List.getElem?_map]
  by_cases c : i < pv.length
  · have ex := List.getElem?_eq_getElem c
    obtain ⟨y, h1, h2, h3⟩ := h.up i _ ex
    rw [h1, ex]
    by_cases l : i < j
    · exact congrArg some (h2 l).key
    · rw [h3 (by omega)]
  · have := h.len
    rw [List.getElem?_eq_none (by omega), List.getElem?_eq_none (by omega)]
theorem PjR.next {n p b j : Nat} {M : LV} {bd : Int} {pv pw : PV} (h : PjR n p b M bd pv pw j) {x y : Int × Addr × LV} (hx : pv[j]? = some x) (u : UpR n p b M bd x y) : PjR n p b M bd pv (pw.set j y) (j + 1) := by
  have jl := (List.getElem?_eq_some_iff.mp hx).1
  have hl := h.len
  refine ⟨by rw [List.length_set]; exact hl, fun i z hz => ?_⟩
  rw [List.getElem?_set]
  by_cases c : j = i
  · subst c
    rw [hx] at hz
    obtain rfl := Option.some.inj hz
    rw [if_pos rfl, if_pos (by omega)]
    exact ⟨y, rfl, fun _ => u, fun l => absurd l (by omega)⟩
  · rw [if_neg c]
    obtain ⟨w, h1, h2, h3⟩ := h.up i z hz
    exact ⟨w, h1, fun l => h2 (by omega), fun l => h3 (by omega)⟩
theorem PjR.skip {n p b j : Nat} {M : LV} {bd : Int} {pv pw : PV} (h : PjR n p b M bd pv pw j) {x : Int × Addr × LV} (hx : pv[j]? = some x) (u : UpR n p b M bd x x) : PjR n p b M bd pv pw (j + 1) := by
  refine ⟨h.len, fun i z hz => ?_⟩
  obtain ⟨w, h1, h2, h3⟩ := h.up i z hz
  refine ⟨w, h1, fun l => ?_, fun l => h3 (by omega)⟩
  by_cases c : i = j
  · subst c
    rw [hx] at hz
    obtain rfl := Option.some.inj hz
    rw [h3 (Nat.le_refl _)]
    exact u
  · exact h2 (by omega)
theorem rv_nil (z : Int) : rv [] z = 0 := rfl
end Vf

namespace Vf
open PySem L2
/-! ### the weights that belong to a free place, a step at a time -/
def den (x : Nat × (Nat → Int)) (f : Nat) : Nat := (x.2 x.1).natAbs / Int.gcd (x.2 x.1) (x.2 f)
theorem den_pos {x : Nat × (Nat → Int)} {f : Nat} (nz : x.2 x.1 ≠ 0) : 0 < den x f := (div_gcd (f := x.2 f) nz).1
theorem den_split {x : Nat × (Nat → Int)} {f : Nat} (nz : x.2 x.1 ≠ 0) : ∃ a' b' g : Nat, 0 < g ∧ (x.2 x.1).natAbs = g * a' ∧ (x.2 f).natAbs = g * b' ∧ Nat.Coprime a' b' ∧ den x f = a' := by
  have g0 : 0 < Nat.gcd (x.2 x.1).natAbs (x.2 f).natAbs := Nat.gcd_pos_of_pos_left _ (by omega)
  refine ⟨(x.2 x.1).natAbs / Nat.gcd (x.2 x.1).natAbs (x.2 f).natAbs, (x.2 f).natAbs / Nat.gcd (x.2 x.1).natAbs (x.2 f).natAbs, _, g0, (Nat.mul_div_cancel' (Nat.gcd_dvd_left ..)).symm, (Nat.mul_div_cancel' (Nat.gcd_dvd_right ..)).symm, ?_, rfl⟩
  exact Nat.coprime_div_gcd_div_gcd g0
theorem den_dvd {x : Nat × (Nat → Int)} {f : Nat} (nz : x.2 x.1 ≠ 0) (v : Nat) : den x f ∣ v ↔ (x.2 x.1).natAbs ∣ (x.2 f).natAbs * v := by
  obtain ⟨a, b, g, g0, e1, e2, co, e3⟩ := den_split (f := f) nz
  rw [e3, e1, e2, Nat.mul_assoc]
  constructor
  · intro h
    exact Nat.mul_dvd_mul_left g (Nat.dvd_trans h (Nat.dvd_mul_left v b))
  · intro h
    exact co.dvd_of_dvd_mul_left (Nat.dvd_of_mul_dvd_mul_left g0 h)
structure WhOk (R : List (Nat × (Nat → Int))) (f : Nat) (W : Nat) : Prop where
  pos : 0 < W
  dv : ∀ x ∈ R, den x f ∣ W
  low : ∀ v : Nat, (∀ x ∈ R, den x f ∣ v) → W ∣ v
theorem WhOk.nil (f : Nat) : WhOk [] f 1 := ⟨by decide, fun x hx => (by cases hx), fun v _ => Nat.one_dvd v⟩
theorem WhOk.snoc {R : List (Nat × (Nat → Int))} {f W : Nat} {x : Nat × (Nat → Int)} (h : WhOk R f W) (nz : x.2 x.1 ≠ 0) : WhOk (R ++ [x]) f (Nat.lcm W (den x f)) := by
  refine ⟨Nat.lcm_pos h.pos (den_pos nz), fun y hy => ?_, fun v hv => ?_⟩
  · rcases List.mem_append.mp hy with hy | hy
    · exact Nat.dvd_trans (h.dv y hy) (Nat.dvd_lcm_left ..)
    · rw [List.mem_singleton.mp hy]
      exact Nat.dvd_lcm_right ..
  · exact Nat.lcm_dvd (h.low v fun y hy => hv y (List.mem_append.mpr (.inl hy))) (hv x (List.mem_append.mpr (.inr (List.mem_singleton.mpr rfl))))
theorem WhOk.same {R : List (Nat × (Nat → Int))} {f W : Nat} {x : Nat × (Nat → Int)} (h : WhOk R f W) (nz : x.2 x.1 ≠ 0) (z : x.2 f = 0) : WhOk (R ++ [x]) f W := by
  have e : den x f = 1 := by
    unfold den
    rw [z, Int.gcd_zero_right, Nat.div_self (by omega)]
  refine ⟨h.pos, fun y hy => ?_, fun v hv => h.low v fun y hy => hv y (List.mem_append.mpr (.inl hy))⟩
  rcases List.mem_append.mp hy with hy | hy
  · exact h.dv y hy
  · rw [List.mem_singleton.mp hy, e]
    exact Nat.one_dvd W
structure WgOk (n : Nat) (R : List (Nat × (Nat → Int))) (f W : Nat) (ws : List Int) : Prop where
  len : ws.length = n
  at' : ws.getD f 0 = (W : Int)
  piv : ∀ x ∈ R, ws.getD x.1 0 * x.2 x.1 = - x.2 f * (W : Int)
  oth : ∀ z, z < n → z ≠ f → (∀ x ∈ R, x.1 ≠ z) → ws.getD z 0 = 0
theorem set_at {w : List Int} {i j : Nat} {v : Int} (hi : i < w.length) : (w.set i v).getD j 0 = if j = i then v else w.getD j 0 := by
  rw [List.getD_eq_getElem?_getD, List.getElem?_set, List.getD_eq_getElem?_getD]
  by_cases e : i = j
  · subst e
    rw [if_pos rfl, if_pos hi, if_pos rfl]
    rfl
  · rw [if_neg e, if_neg (fun x => e x.symm)]
theorem WgOk.start {n f W : Nat} (hf : f < n) : WgOk n [] f W ((List.replicate n (0 : Int)).set f (W : Int)) := by
  have l : f < (List.replicate n (0 : Int)).length := by rw [List.length_replicate]; exact hf
  refine ⟨by rw [List.length_set, List.length_replicate], by rw [set_at l, if_pos rfl], fun x hx => (by cases hx), fun z hz ne _ => ?_⟩
  rw [set_at l, if_neg ne]
  have := rep0 n z
  omega
theorem WgOk.snoc {n f W : Nat} {R : List (Nat × (Nat → Int))} {ws : List Int} {x : Nat × (Nat → Int)} (h : WgOk n R f W ws) (nz : x.2 x.1 ≠ 0) (dv : den x f ∣ W) (xn : x.1 < n) (xf : x.1 ≠ f) (new : ∀ y ∈ R, y.1 ≠ x.1) : WgOk n (R ++ [x]) f W (ws.set x.1 ((- x.2 f * (W : Int)).fdiv (x.2 x.1))) := by
  have l : x.1 < ws.length := by rw [h.len]; exact xn
  have d : x.2 x.1 ∣ - x.2 f * (W : Int) := by
    have := (den_dvd (f := f) nz W).mp dv
    refine Int.natAbs_dvd_natAbs.mp ?_
    rw [Int.natAbs_mul, Int.natAbs_neg, Int.natAbs_natCast]
    exact this
  refine ⟨by rw [List.length_set]; exact h.len, by rw [set_at l, if_neg (fun e => xf e.symm)]; exact h.at', fun y hy => ?_, fun z hz ne c => ?_⟩
  · rcases List.mem_append.mp hy with hy | hy
    · rw [set_at l, if_neg (new y hy)]
      exact h.piv y hy
    · rw [List.mem_singleton.mp hy, set_at l, if_pos rfl]
      obtain ⟨k, hk⟩ := d
      rw [hk, Int.mul_fdiv_cancel_left k nz, Int.mul_comm]
  · rw [set_at l, if_neg (fun e => c x (List.mem_append.mpr (.inr (List.mem_singleton.mpr rfl))) e.symm)]
    exact h.oth z hz ne fun y hy => c y (List.mem_append.mpr (.inl hy))
theorem wt_of {n f W : Nat} {R : List (Nat × (Nat → Int))} {ws : List Int} (nz : ∀ x ∈ R, x.2 x.1 ≠ 0) (h : WhOk R f W) (g : WgOk n R f W ws) : WtOk n R f ws := by
  refine ⟨g.len, by rw [g.at']; have := h.pos; omega, fun x hx => by rw [g.piv x hx, g.at'], g.oth, fun v hv => ?_⟩
  rw [g.at']
  refine Int.natAbs_dvd_natAbs.mp ?_
  rw [Int.natAbs_natCast]
  refine h.low _ fun x hx => (den_dvd (nz x hx) _).mpr ?_
  have := Int.natAbs_dvd_natAbs.mpr (hv x hx)
  rw [Int.natAbs_mul] at this
  exact this
/-- the rows of the program -/
def rowsP (pv : PV) : List (Nat × (Nat → Int)) := pv.map fun x => (x.1.toNat, rvN x.2.2)
theorem PvOk.rr {n p : Nat} {pv : PV} {Ker : (Nat → Int) → Prop} (P : PvOk n p pv) (ker : ∀ w : Nat → Int, Ker w ↔ ∀ x ∈ pv, dvN n (rvN x.2.2) w = 0) : RrOk n Ker (rowsP pv) := by
  have pos : ∀ x ∈ pv, 0 ≤ x.1 ∧ x.1 < (n : Int) := fun x hx => (P.rw x hx).in' (P.own x hx)
  have val : ∀ x ∈ pv, ∀ y ∈ pv, rvN x.2.2 y.1.toNat = rv x.2.2 y.1 := fun x _ y hy => by
    unfold rvN
    rw [Int.toNat_of_nonneg (pos y hy).1]
  refine ⟨fun z hz => ?_, fun z hz => ?_, fun z hz k hk => ?_, fun z hz u hu ne => ?_, fun w => (ker w).trans ⟨fun h z hz => ?_, fun h x hx => h (x.1.toNat, rvN x.2.2) (List.mem_map_of_mem hx)⟩⟩
  · obtain ⟨x, hx, rfl⟩ := List.mem_map.mp hz
    have := pos x hx
    show x.1.toNat < n
    omega
  · obtain ⟨x, hx, rfl⟩ := List.mem_map.mp hz
    show rvN x.2.2 x.1.toNat ≠ 0
    rw [val x hx x hx]
    exact (P.rw x hx).at' (P.own x hx)
  · obtain ⟨x, hx, rfl⟩ := List.mem_map.mp hz
    have hk : k < x.1.toNat := hk
    show rv x.2.2 (k : Int) = 0
    refine rv_out fun m => ?_
    have := P.lead x hx _ m
    omega
  · obtain ⟨x, hx, rfl⟩ := List.mem_map.mp hz
    obtain ⟨y, hy, rfl⟩ := List.mem_map.mp hu
    show rvN x.2.2 y.1.toNat = 0
    rw [val x hx y hy]
    exact P.oth x hx y hy fun e => ne (congrArg Int.toNat e)
  · obtain ⟨x, hx, rfl⟩ := List.mem_map.mp hz
    exact h x hx
theorem fdiv_abs {a : Int} {g : Nat} (g0 : 0 < g) (h : (g : Int) ∣ a) : (a.fdiv (g : Int)).natAbs = a.natAbs / g := by
  obtain ⟨k, rfl⟩ := h
  rw [Int.mul_fdiv_cancel_left k (by omega), Int.natAbs_mul, Int.natAbs_natCast, Nat.mul_div_cancel_left _ g0]
/-- the free places below k -/
def frK (k : Nat) (R : List (Nat × (Nat → Int))) : List Nat := (List.range k).filter fun f => decide (∀ x ∈ R, x.1 ≠ f)
theorem frK_succ (k : Nat) (R : List (Nat × (Nat → Int))) : frK (k + 1) R = if (∀ x ∈ R, x.1 ≠ k) then frK k R ++ [k] else frK k R := by
  unfold frK
  rw [List.range_succ, List.filter_append, List.filter_cons, List.filter_nil]
  by_cases c : ∀ x ∈ R, x.1 ≠ k
  · rw [if_pos c, if_pos (decide_eq_true c)]
  · rw [if_neg c, if_neg (by simpa using c), List.append_nil]
/-- weights told so far -/
structure FrW (n k : Nat) (R : List (Nat × (Nat → Int))) (wss : List (List Int)) : Prop where
  len : wss.length = (frK k R).length
  wt : ∀ (i f : Nat) (ws : List Int), (frK k R)[i]? = some f → wss[i]? = some ws → WtOk n R f ws
theorem FrW.nil (n : Nat) (R : List (Nat × (Nat → Int))) : FrW n 0 R [] := ⟨rfl, fun i f ws h => by simp [frK] at h⟩
theorem FrW.skip {n k : Nat} {R : List (Nat × (Nat → Int))} {wss : List (List Int)} (h : FrW n k R wss) (c : ¬ ∀ x ∈ R, x.1 ≠ k) : FrW n (k + 1) R wss := by
  have e := frK_succ k R
  rw [if_neg c] at e
  exact ⟨by rw [e]; exact h.len, by rw [e]; exact h.wt⟩
theorem FrW.snoc {n k : Nat} {R : List (Nat × (Nat → Int))} {wss : List (List Int)} {ws : List Int} (h : FrW n k R wss) (c : ∀ x ∈ R, x.1 ≠ k) (w : WtOk n R k ws) : FrW n (k + 1) R (wss ++ [ws]) := by
  have e := frK_succ k R
  rw [if_pos c] at e
  refine ⟨by rw [e, List.length_append, List.length_append, h.len]; rfl, fun i f us h1 h2 => ?_⟩
  rw [e] at h1
  by_cases il : i < (frK k R).length
  · rw [List.getElem?_append_left il] at h1
    rw [List.getElem?_append_left (by rw [h.len]; exact il)] at h2
    exact h.wt i f us h1 h2
  · rw [List.getElem?_append_right (by omega)] at h1
    rw [List.getElem?_append_right (by rw [h.len]; omega), h.len] at h2
    have i0 : i - (frK k R).length = 0 := by
      have := (List.getElem?_eq_some_iff.mp h1).1
      simp at this
      omega
    rw [i0] at h1 h2
    obtain rfl : k = f := Option.some.inj h1
    obtain rfl : ws = us := Option.some.inj h2
    exact w
theorem FrW.base {n : Nat} {Ker : (Nat → Int) → Prop} {R : List (Nat × (Nat → Int))} {wss : List (List Int)} (h : FrW n n R wss) (r : RrOk n Ker R) : BsOk n Ker R wss := ⟨r, h.len, h.wt⟩
theorem FrW.few {n k : Nat} {R : List (Nat × (Nat → Int))} {wss : List (List Int)} (h : FrW n k R wss) : wss.length ≤ k := by
  rw [h.len]
  unfold frK
  refine Nat.le_trans (List.length_filter_le ..) ?_
  rw [List.length_range]
  exact Nat.le_refl _
theorem free_iff {n p : Nat} {pv : PV} (P : PvOk n p pv) (k : Nat) : (k : Int) ∉ pks pv ↔ ∀ x ∈ rowsP pv, x.1 ≠ k := by
  constructor
  · intro h z hz e
    obtain ⟨x, hx, rfl⟩ := List.mem_map.mp hz
    have := (P.rw x hx).in' (P.own x hx)
    have e : x.1.toNat = k := e
    exact h (List.mem_map.mpr ⟨x, hx, by omega⟩)
  · intro h m
    obtain ⟨x, hx, e⟩ := pv_at m
    refine h (x.1.toNat, rvN x.2.2) (List.mem_map.mpr ⟨x, hx, rfl⟩) ?_
    show x.1.toNat = k
    omega
end Vf

namespace Vf
open PySem L2
/-! ### what an elimination keeps -/
def gD (r : List Int) (z : Nat) : Int := r.getD z 0
structure ElK (n c : Nat) (rs left done : List (List Int)) (piv : List Int) : Prop where
  ker : ∀ v : Nat → Int, (∀ r ∈ rs, dvN n (gD r) v = 0) ↔ ((∀ r ∈ left, dvN n (gD r) v = 0) ∧ ∀ r ∈ done, dvN n (gD r) v = 0)
  zl : ∀ r ∈ left, ∀ i, i < c → r.getD i 0 = 0
  lead : ∀ (k : Nat) (r : List Int) (p : Int), done[k]? = some r → piv[k]? = some p → ∀ i : Nat, (i : Int) < p → r.getD i 0 = 0
  oth : ∀ (k : Nat) (r : List Int) (p : Int), done[k]? = some r → piv[k]? = some p → ∀ q ∈ piv, q ≠ p → r.getD q.toNat 0 = 0
  nd : piv.Nodup
theorem ElK.start (n : Nat) (rs : List (List Int)) : ElK n 0 rs rs [] [] := ⟨fun v => ⟨fun h => ⟨h, fun r hr => (by cases hr)⟩, fun h => h.1⟩, fun r _ i h => absurd h (Nat.not_lt_zero i), fun k r p h => (by simp at h), fun k r p h => (by simp at h), List.nodup_nil⟩
theorem ElK.skip {n c : Nat} {rs left done : List (List Int)} {piv : List Int} (h : ElK n c rs left done piv) (z : ∀ r ∈ left, r.getD c 0 = 0) : ElK n (c + 1) rs left done piv := ⟨h.ker, fun r hr i hi => by
  by_cases e : i = c
  · rw [e]
    exact z r hr
  · exact h.zl r hr i (by omega), h.lead, h.oth, h.nd⟩
theorem WoOk.vec {ns ps ms : List Int} {c : Nat} (w : WoOk ns ps c ms) (pz : ps.getD c 0 ≠ 0) (n : Nat) (v : Nat → Int) (h : dvN n (gD ps) v = 0) : dvN n (gD ms) v = 0 ↔ dvN n (gD ns) v = 0 := by
  obtain ⟨g, k, t, g0, k0, lin⟩ := w.lin pz
  exact lin_zero g0 k0 (dvN_lin (n := n) (f := gD ns) (p := gD ps) (q := gD ms) (fun z _ => lin z) v) h
theorem MapW.to {xs ys : List (List Int)} {p : List Int} {c : Nat} (h : MapW xs p c ys) {x : List Int} (m : x ∈ xs) : ∃ y ∈ ys, WoOk x p c y := by
  obtain ⟨i, hi⟩ := List.mem_iff_getElem?.mp m
  obtain ⟨y, h1, h2⟩ := h.2 i x hi
  exact ⟨y, List.mem_of_getElem? h1, h2⟩
theorem ElK.step {n c k0 : Nat} {rs left done left' done' : List (List Int)} {piv p : List Int} (h : ElK n c rs left done piv) (el : El n c left done piv) (hp : left[k0]? = some p) (pz : p.getD c 0 ≠ 0) (ml : MapW (left.eraseIdx k0) p c left') (md : MapW done p c done') : ElK n (c + 1) rs left' (done' ++ [p]) (piv ++ [(c : Int)]) := by
  have pm := List.mem_of_getElem? hp
  have er : ∀ x, x ∈ left.eraseIdx k0 → x ∈ left := fun x hx => List.mem_of_mem_eraseIdx hx
  have re : ∀ x, x ∈ left → x = p ∨ x ∈ left.eraseIdx k0 := fun x hx => by
    obtain ⟨i, hi⟩ := List.mem_iff_getElem?.mp hx
    by_cases e : i = k0
    · rw [e, hp] at hi
      exact .inl (Option.some.inj hi).symm
    · exact .inr (List.mem_eraseIdx_iff_getElem?.mpr ⟨i, e, hi⟩)
  have lenD : done'.length = done.length := md.1
  have lenP := el.len
  -- a row of done', with its row before
  have dat : ∀ (k : Nat) (r : List Int) (q : Int), (done' ++ [p])[k]? = some r → (piv ++ [(c : Int)])[k]? = some q → (∃ r0, done[k]? = some r0 ∧ piv[k]? = some q ∧ WoOk r0 p c r) ∨ (r = p ∧ q = (c : Int)) := fun k r q hk hq => by
    by_cases e : k < done'.length
    · rw [List.getElem?_append_left e] at hk
      rw [List.getElem?_append_left (by omega)] at hq
      have e3 := List.getElem?_eq_getElem (show k < done.length by omega)
      obtain ⟨r', h1, w⟩ := md.2 k _ e3
      rw [hk] at h1
      obtain rfl := Option.some.inj h1
      exact .inl ⟨_, e3, hq, w⟩
    · rw [List.getElem?_append_right (by omega)] at hk
      rw [List.getElem?_append_right (by omega)] at hq
      have e0 : k - done'.length = 0 := by
        have := (List.getElem?_eq_some_iff.mp hk).1
        simpa using this
      rw [e0] at hk
      rw [show k - piv.length = 0 by omega] at hq
      exact .inr ⟨(Option.some.inj hk).symm, (Option.some.inj hq).symm⟩
  refine ⟨fun v => (h.ker v).trans ⟨fun a => ?_, fun a => ?_⟩, fun r hr i hi => ?_, fun k r q hk hq i hi => ?_, fun k r q hk hq u hu ne => ?_, ?_⟩
  · have vp := a.1 p pm
    refine ⟨fun r hr => ?_, fun r hr => ?_⟩
    · obtain ⟨x, hx, w⟩ := ml.mem hr
      exact (w.vec pz n v vp).mpr (a.1 x (er x hx))
    · rcases List.mem_append.mp hr with hr | hr
      · obtain ⟨x, hx, w⟩ := md.mem hr
        exact (w.vec pz n v vp).mpr (a.2 x hx)
      · rw [List.mem_singleton.mp hr]
        exact vp
  · have vp := a.2 p (List.mem_append.mpr (.inr (List.mem_singleton.mpr rfl)))
    refine ⟨fun r hr => ?_, fun r hr => ?_⟩
    · rcases re r hr with rfl | hr
      · exact vp
      · obtain ⟨y, hy, w⟩ := ml.to hr
        exact (w.vec pz n v vp).mp (a.1 y hy)
    · obtain ⟨y, hy, w⟩ := md.to hr
      exact (w.vec pz n v vp).mp (a.2 y (List.mem_append.mpr (.inl hy)))
  · obtain ⟨x, hx, w⟩ := ml.mem hr
    by_cases e : i = c
    · rw [e]
      exact w.col
    · exact (w.z pz i (h.zl p pm i (by omega))).mpr (h.zl x (er x hx) i (by omega))
  · rcases dat k r q hk hq with ⟨r0, h1, h2, w⟩ | ⟨rfl, rfl⟩
    · have qc := (el.pb q (List.mem_of_getElem? h2)).2
      exact (w.z pz i (h.zl p pm i (by omega))).mpr (h.lead k r0 q h1 h2 i hi)
    · exact h.zl r pm i (by omega)
  · rcases dat k r q hk hq with ⟨r0, h1, h2, w⟩ | ⟨rfl, rfl⟩
    · rcases List.mem_append.mp hu with hu | hu
      · exact (w.z pz _ (el.zero p pm u hu)).mpr (h.oth k r0 q h1 h2 u hu ne)
      · rw [List.mem_singleton.mp hu, Int.toNat_natCast]
        exact w.col
    · rcases List.mem_append.mp hu with hu | hu
      · exact el.zero r pm u hu
      · exact absurd (List.mem_singleton.mp hu) ne
  · rw [List.nodup_append]
    refine ⟨h.nd, by simp, fun a ha b hb => ?_⟩
    have := (el.pb a ha).2
    rw [List.mem_singleton.mp hb]
    omega
/-- the rows of the law, each with its pivot -/
def rowsL (piv : List Int) (done : List (List Int)) : List (Nat × (Nat → Int)) := (piv.zip done).map fun x => (x.1.toNat, gD x.2)
theorem rowsL_len {piv : List Int} {done : List (List Int)} (l : done.length = piv.length) : (rowsL piv done).length = piv.length := by
  unfold rowsL
  rw [List.length_map, List.length_zip, l, Nat.min_self]
theorem rowsL_at {piv : List Int} {done : List (List Int)} {k : Nat} {q : Int} {r : List Int} (h1 : piv[k]? = some q) (h2 : done[k]? = some r) : (rowsL piv done)[k]? = some (q.toNat, gD r) := by
  unfold rowsL
  rw [List.getElem?_map, (List.getElem?_zip_eq_some (z := (q, r))).mpr ⟨h1, h2⟩]
  rfl
theorem rowsL_mem {piv : List Int} {done : List (List Int)} (l : done.length = piv.length) {x : Nat × (Nat → Int)} (h : x ∈ rowsL piv done) : ∃ (k : Nat) (q : Int) (r : List Int), piv[k]? = some q ∧ done[k]? = some r ∧ x = (q.toNat, gD r) := by
  obtain ⟨k, hk⟩ := List.mem_iff_getElem?.mp h
  have kl := (List.getElem?_eq_some_iff.mp hk).1
  rw [rowsL_len l] at kl
  have h1 := List.getElem?_eq_getElem kl
  have h2 := List.getElem?_eq_getElem (show k < done.length by omega)
  rw [rowsL_at h1 h2] at hk
  exact ⟨k, _, _, h1, h2, (Option.some.inj hk).symm⟩
theorem ElK.rr {n : Nat} {rs left done : List (List Int)} {piv : List Int} {Ker : (Nat → Int) → Prop} (h : ElK n n rs left done piv) (el : El n n left done piv) (ker : ∀ w : Nat → Int, Ker w ↔ ∀ r ∈ rs, dvN n (gD r) w = 0) : RrOk n Ker (rowsL piv done) := by
  refine ⟨fun x hx => ?_, fun x hx => ?_, fun x hx z hz => ?_, fun x hx y hy ne => ?_, fun w => (ker w).trans ((h.ker w).trans ⟨fun a x hx => ?_, fun a => ⟨fun r hr => ?_, fun r hr => ?_⟩⟩)⟩
  · obtain ⟨k, q, r, h1, h2, rfl⟩ := rowsL_mem el.len hx
    have := el.pb q (List.mem_of_getElem? h1)
    show q.toNat < n
    omega
  · obtain ⟨k, q, r, h1, h2, rfl⟩ := rowsL_mem el.len hx
    exact el.nz k r q h2 h1
  · obtain ⟨k, q, r, h1, h2, rfl⟩ := rowsL_mem el.len hx
    have hz : z < q.toNat := hz
    exact h.lead k r q h2 h1 z (by omega)
  · obtain ⟨k, q, r, h1, h2, rfl⟩ := rowsL_mem el.len hx
    obtain ⟨k', q', r', h1', h2', rfl⟩ := rowsL_mem el.len hy
    exact h.oth k r q h2 h1 q' (List.mem_of_getElem? h1') fun e => ne (by rw [e])
  · obtain ⟨k, q, r, h1, h2, rfl⟩ := rowsL_mem el.len hx
    exact a.2 r (List.mem_of_getElem? h2)
  · refine dvN_zero fun z hz => ?_
    unfold gD
    rw [h.zl r hr z hz, Int.zero_mul]
  · obtain ⟨k, hk⟩ := List.mem_iff_getElem?.mp hr
    have kl := (List.getElem?_eq_some_iff.mp hk).1
    have h1 := List.getElem?_eq_getElem (show k < piv.length by rw [← el.len]; exact kl)
    exact a _ (List.mem_of_getElem? (rowsL_at h1 hk))
theorem freeL_iff {n : Nat} {left done : List (List Int)} {piv : List Int} (el : El n n left done piv) (k : Nat) : (k : Int) ∉ piv ↔ ∀ x ∈ rowsL piv done, x.1 ≠ k := by
  constructor
  · intro h x hx e
    obtain ⟨i, q, r, h1, h2, rfl⟩ := rowsL_mem el.len hx
    have qm := List.mem_of_getElem? h1
    have := el.pb q qm
    have e : q.toNat = k := e
    exact h (by rw [show (k : Int) = q by omega]; exact qm)
  · intro h m
    obtain ⟨i, hi⟩ := List.mem_iff_getElem?.mp m
    have il := (List.getElem?_eq_some_iff.mp hi).1
    have h2 := List.getElem?_eq_getElem (show i < done.length by rw [el.len]; exact il)
    exact h _ (List.mem_of_getElem? (rowsL_at hi h2)) (Int.toNat_natCast k)
theorem rowsL_new {piv : List Int} {done : List (List Int)} {k : Nat} {p : Nat} (nd : piv.Nodup) (pb : ∀ p ∈ piv, 0 ≤ p) (l : done.length = piv.length) (h : piv[k]? = some (p : Int)) : ∀ y ∈ (rowsL piv done).take k, y.1 ≠ p := fun y hy e => by
  obtain ⟨j, hj⟩ := List.mem_iff_getElem?.mp hy
  have jl : j < k := by
    have := (List.getElem?_eq_some_iff.mp hj).1
    rw [List.length_take] at this
    omega
  rw [List.getElem?_take_of_lt jl] at hj
  have jp := (List.getElem?_eq_some_iff.mp hj).1
  rw [rowsL_len l] at jp
  have h1 := List.getElem?_eq_getElem jp
  have h2 := List.getElem?_eq_getElem (show j < done.length by omega)
  rw [rowsL_at h1 h2] at hj
  have hj := Option.some.inj hj
  rw [← hj] at e
  have q0 := pb _ (List.mem_of_getElem? h1)
  have e : (piv[j]).toNat = p := e
  rw [show piv[j] = (p : Int) by omega] at h1
  have := nodup_ix nd h1 h
  omega
def zsR (D : DD) (r : S4) : List (Nat × Int) := [(D.st.idxOf r.1, 1), (D.st.idxOf r.2.1, 1), (D.st.idxOf r.2.2.1, -1), (D.st.idxOf r.2.2.2, -1)]
def eqP (zs : List (Nat × Int)) (v : Nat → Int) : Int := (zs.map fun z => z.2 * v z.1).sum
theorem eqP_snoc (zs : List (Nat × Int)) (z : Nat × Int) (v : Nat → Int) : eqP (zs ++ [z]) v = eqP zs v + z.2 * v z.1 := by
  unfold eqP
  rw [List.map_append, List.sum_append]
  simp
theorem eqP_all (D : DD) (r : S4) (v : Nat → Int) : eqP (zsR D r) v = eqv D r v := by
  unfold eqP zsR eqv ix
  simp
  omega
theorem dv_set {n i : Nat} {w : List Int} {x : Int} {v : Nat → Int} (l : w.length = n) (hi : i < n) : dvN n (gD (w.set i x)) v = dvN n (gD w) v + (x - w.getD i 0) * v i := by
  rw [dvN_congr (f := gD (w.set i x)) (w := v) (p := fun z => gD w z + (if z = i then x - w.getD i 0 else 0)) (u := v) fun z hz => ?_, dvN_add, dvN_one (f := fun z => if z = i then x - w.getD i 0 else 0) (a := i) hi fun z hz ne => ?_]
  · show _ + (if i = i then x - w.getD i 0 else 0) * v i = _
    rw [if_pos rfl]
  · show (if z = i then x - w.getD i 0 else 0) * v z = 0
    rw [if_neg ne, Int.zero_mul]
  · unfold gD
    rw [set_at (by omega)]
    by_cases c : z = i
    · rw [if_pos c, c]
      show x * v i = (w.getD i 0 + if i = i then x - w.getD i 0 else 0) * v i
      rw [if_pos rfl]
      congr 1
      omega
    · rw [if_neg c]
      show _ = (w.getD z 0 + if z = i then x - w.getD i 0 else 0) * v z
      rw [if_neg c, Int.add_zero]
theorem dv_zeros (n : Nat) (v : Nat → Int) : dvN n (gD (List.replicate n 0)) v = 0 := dvN_zero fun z _ => by
  unfold gD
  have := rep0 n z
  rw [show (List.replicate n (0 : Int)).getD z 0 = 0 by omega, Int.zero_mul]
/-- the rows are the equations -/
theorem ker_rows {D : DD} {rs : List (List Int)} {n : Nat} (l : rs.length = D.ru.length) (e : ∀ (j : Nat) (w : List Int) (r : S4), rs[j]? = some w → D.ru[j]? = some r → ∀ v : Nat → Int, dvN n (gD w) v = eqv D r v) (v : Nat → Int) : KerD D D.ru v ↔ ∀ r ∈ rs, dvN n (gD r) v = 0 := by
  constructor
  · intro h w hw
    obtain ⟨j, hj⟩ := List.mem_iff_getElem?.mp hw
    have jl := (List.getElem?_eq_some_iff.mp hj).1
    have hr := List.getElem?_eq_getElem (show j < D.ru.length by omega)
    rw [e j w _ hj hr]
    exact h _ (List.mem_of_getElem? hr)
  · intro h r hr
    obtain ⟨j, hj⟩ := List.mem_iff_getElem?.mp hr
    have jl := (List.getElem?_eq_some_iff.mp hj).1
    have hw := List.getElem?_eq_getElem (show j < rs.length by omega)
    rw [← e j _ r hw hj]
    exact h _ (List.mem_of_getElem? hw)
theorem dpLsts {K : PySem.W.Frag} {H : Hp} : ∀ {xs : List V} {rows : List (List Int)}, Lsts H xs rows → DpAll K H xs (rows.map PySem.W.Datum.toD)
  | [], [], _ => .nil
  | [], _ :: _, t => by have := t.1; simp at this
  | _ :: _, [], t => by have := t.1; simp at this
  | x :: xs, r :: rows, t => by
    obtain ⟨u, e1, e2⟩ := t.2 0 r rfl
    obtain rfl : x = .ref u := Option.some.inj e1
    exact .cons (.lst (SqL.of e2) (dpAll_of (fun a => .int a) r)) (dpLsts ⟨Nat.succ.inj t.1, fun i b e => t.2 (i + 1) b e⟩)
/-- the first rules alone -/
def DD.cutRu (D : DD) (k : Nat) : DD := { D with ru := D.ru.take k }
theorem ValidN.cutRu {D : DD} (v : ValidN D) (k : Nat) : ValidN (D.cutRu k) :=
  ⟨v.len, v.n400, v.nm, v.nd, v.ou, v.n8, v.inm, v.ind, v.n10, v.ldm, fun r hr => v.rum r (List.mem_of_mem_take hr), by
    show ((D.ru.take k).map fun x => (x.1, x.2.1)).Nodup
    rw [List.map_take]
    exact v.rnd.sublist (List.take_sublist ..)⟩
theorem Small.cutRu {D : DD} (s : Small D) (k : Nat) : Small (D.cutRu k) := ⟨s.st0, s.st6, s.in3, s.ld2, Nat.le_trans (List.length_take_le' ..) s.ru36, s.gn⟩
theorem kept_of {D : DD} {ws : List Int} (h : KerD D D.ru fun z => ws.getD z 0) : keptB D ws = true := by
  unfold keptB
  rw [List.all_eq_true]
  intro r hr
  have e := h r hr
  unfold eqv ix at e
  simp only [Int.toNat_natCast] at e
  unfold ruleB wtN
  rw [decide_eq_true_iff]
  omega
end Vf

namespace Vf
open PySem L2
/-- less than 2 ^ k -/
def Bt (k : Nat) (x : Int) : Prop := x.natAbs < 2 ^ k
theorem Bt.log {k : Nat} {x : Int} (h : Bt k x) (hk : k ≤ 9000) (h0 : 0 < k) : x.natAbs.log2 < 9000 := by
  by_cases z : x.natAbs = 0
  · rw [z]; decide
  · exact Nat.lt_of_lt_of_le ((Nat.log2_lt z).mpr h) hk
theorem Bt.logs {k l : Nat} {x y : Int} (h : Bt k x) (h2 : Bt l y) (hk : k ≤ 400000) (hl : l ≤ 400000) : CMulW x y := by
  have a : ∀ {k : Nat} {x : Int}, Bt k x → k ≤ 400000 → x.natAbs.log2 ≤ 400000 := fun {k x} h hk => by
    by_cases z : x.natAbs = 0
    · rw [z]; decide
    · exact Nat.le_trans (Nat.le_of_lt ((Nat.log2_lt z).mpr h)) hk
  have := a h hk
  have := a h2 hl
  unfold CMulW
  omega
theorem Bt.mono {k l : Nat} {x : Int} (h : Bt k x) (hk : k ≤ l) : Bt l x := Nat.lt_of_lt_of_le h (Nat.pow_le_pow_right (by decide) hk)
theorem Bt.mul {k l : Nat} {x y : Int} (h : Bt k x) (h2 : Bt l y) : Bt (k + l) (x * y) := by
  unfold Bt at *
  rw [Int.natAbs_mul, Nat.pow_add]
  exact Nat.mul_lt_mul'' h h2
theorem Bt.add {k : Nat} {x y : Int} (h : Bt k x) (h2 : Bt k y) : Bt (k + 1) (x + y) := by
  unfold Bt at *
  rw [Nat.pow_succ]
  have := Int.natAbs_add_le x y
  omega
theorem Bt.neg {k : Nat} {x : Int} (h : Bt k x) : Bt k (-x) := by
  unfold Bt at *
  rw [Int.natAbs_neg]
  exact h
theorem Bt.sub {k : Nat} {x y : Int} (h : Bt k x) (h2 : Bt k y) : Bt (k + 1) (x - y) := by
  rw [Int.sub_eq_add_neg]
  exact h.add h2.neg
theorem Bt.le {k : Nat} {x y : Int} (h : Bt k x) (e : y.natAbs ≤ x.natAbs) : Bt k y := Nat.lt_of_le_of_lt e h
def shOf (n d : Int) : Int := if d < 0 then -((Nat.gcd n.natAbs d.natAbs : Nat) : Int) else ((Nat.gcd n.natAbs d.natAbs : Nat) : Int)
def fr (n d : Int) : Int × Int := (n.fdiv (shOf n d), d.fdiv (shOf n d))
/-- in lowest terms -/
structure Low (p : Int × Int) : Prop where
  pos : 0 < p.2
  cop : Nat.gcd p.1.natAbs p.2.natAbs = 1
theorem fr_ex {n d : Int} (h : d ≠ 0) : ∃ a b : Int, shOf n d ≠ 0 ∧ (shOf n d).natAbs ≤ d.natAbs ∧ n = shOf n d * a ∧ d = shOf n d * b ∧ 0 < b ∧ Nat.gcd a.natAbs b.natAbs = 1 := by
  have dp : 0 < d.natAbs := by omega
  have gp : 0 < Nat.gcd n.natAbs d.natAbs := Nat.gcd_pos_of_pos_right _ dp
  have gl : Nat.gcd n.natAbs d.natAbs ≤ d.natAbs := Nat.le_of_dvd dp (Nat.gcd_dvd_right ..)
  obtain ⟨a0, ha⟩ := Int.ofNat_dvd_left.mpr (Nat.gcd_dvd_left n.natAbs d.natAbs)
  obtain ⟨b0, hb⟩ := Int.ofNat_dvd_left.mpr (Nat.gcd_dvd_right n.natAbs d.natAbs)
  have cop : Nat.gcd a0.natAbs b0.natAbs = 1 := by
    have e1 : n.natAbs = Nat.gcd n.natAbs d.natAbs * a0.natAbs := by conv => lhs; rw [ha, Int.natAbs_mul, Int.natAbs_natCast]
    have e2 : d.natAbs = Nat.gcd n.natAbs d.natAbs * b0.natAbs := by conv => lhs; rw [hb, Int.natAbs_mul, Int.natAbs_natCast]
    have e3 := Nat.gcd_mul_left (Nat.gcd n.natAbs d.natAbs) a0.natAbs b0.natAbs
    rw [← e1, ← e2] at e3
    exact Nat.eq_of_mul_eq_mul_left gp (by rw [Nat.mul_one]; exact e3.symm)
  generalize hg : Nat.gcd n.natAbs d.natAbs = g at *
  have gi : (0 : Int) < (g : Int) := by omega
  unfold shOf
  rw [hg]
  by_cases c : d < 0
  · rw [if_pos c]
    refine ⟨-a0, -b0, by omega, by omega, by rw [ha, Int.neg_mul_neg], by rw [hb, Int.neg_mul_neg], ?_, by rw [Int.natAbs_neg, Int.natAbs_neg]; exact cop⟩
    have : b0 < 0 := by
      rcases (by omega : b0 < 0 ∨ 0 ≤ b0) with k | k
      · exact k
      · have := Int.mul_nonneg (Int.le_of_lt gi) k
        omega
    omega
  · rw [if_neg c]
    refine ⟨a0, b0, by omega, by omega, ha, hb, ?_, cop⟩
    rcases (by omega : 0 < b0 ∨ b0 ≤ 0) with k | k
    · exact k
    · have := Int.mul_nonpos_of_nonneg_of_nonpos (Int.le_of_lt gi) k
      omega
theorem fr_spec {n d : Int} (h : d ≠ 0) : Low (fr n d) ∧ (fr n d).1 * d = n * (fr n d).2 ∧ (fr n d).1.natAbs ≤ n.natAbs ∧ (fr n d).2.natAbs ≤ d.natAbs := by
  obtain ⟨a, b, s0, sl, ha, hb, bp, cop⟩ := fr_ex (n := n) h
  have e : fr n d = (a, b) := by
    unfold fr
    generalize shOf n d = s at *
    rw [ha, hb, Int.mul_fdiv_cancel_left _ s0, Int.mul_fdiv_cancel_left _ s0]
  rw [e]
  have s1 : 1 ≤ (shOf n d).natAbs := by omega
  generalize shOf n d = s at *
  refine ⟨⟨bp, cop⟩, ?_, ?_, ?_⟩
  · show a * d = n * b
    rw [ha, hb, ← Int.mul_assoc, Int.mul_comm a s]
  · show a.natAbs ≤ n.natAbs
    rw [ha, Int.natAbs_mul]
    exact Nat.le_mul_of_pos_left _ s1
  · show b.natAbs ≤ d.natAbs
    rw [hb, Int.natAbs_mul]
    exact Nat.le_mul_of_pos_left _ s1
def pFr (p : Int × Int) : List V := [V.int p.1, V.int p.2]
/-- a step of the search for a common divisor -/
def GcInv (G B : Nat) (k : Nat) (f s : Nat) : Prop := Nat.gcd f s = G ∧ ((k = 0 ∧ s < 2 ^ B) ∨ (0 < k ∧ s < f ∧ f * s * 2 ^ (k - 1) < 2 ^ (2 * B)))
theorem GcInv.step {G B k f s : Nat} (h : GcInv G B k f s) (s0 : 0 < s) : GcInv G B (k + 1) s (f % s) := by
  obtain ⟨hg, h⟩ := h
  have lt := Nat.mod_lt f s0
  refine ⟨?_, .inr ⟨Nat.succ_pos k, lt, ?_⟩⟩
  · rw [Nat.gcd_comm f s, Nat.gcd_rec] at hg
    rw [Nat.gcd_comm]
    exact hg
  · rcases h with ⟨rfl, sB⟩ | ⟨k0, sf, hp⟩
    · show s * (f % s) * 2 ^ 0 < _
      rw [Nat.pow_zero, Nat.mul_one, Nat.two_mul, Nat.pow_add]
      exact Nat.mul_lt_mul'' sB (Nat.lt_trans lt sB)
    · show s * (f % s) * 2 ^ k < _
      have e : f % s * 2 ≤ f := by
        have := Nat.div_add_mod f s
        have d1 : 1 ≤ f / s := Nat.div_pos (Nat.le_of_lt sf) s0
        have := Nat.le_mul_of_pos_right s d1
        omega
      obtain ⟨j, rfl⟩ : ∃ j, k = j + 1 := ⟨k - 1, by omega⟩
      refine Nat.lt_of_le_of_lt ?_ hp
      rw [Nat.add_sub_cancel, Nat.pow_succ, Nat.mul_comm (2 ^ j) 2, ← Nat.mul_assoc]
      refine Nat.mul_le_mul_right _ ?_
      rw [Nat.mul_assoc, Nat.mul_comm f s]
      exact Nat.mul_le_mul_left _ e
theorem GcInv.last {G B f s : Nat} (h : GcInv G B 400 f s) (hB : 2 * B ≤ 399) : s = 0 := by
  obtain ⟨_, ⟨h, _⟩ | ⟨_, sf, hp⟩⟩ := h
  · cases h
  · rcases Nat.eq_zero_or_pos s with e | e
    · exact e
    · have f0 : 0 < f * s := Nat.mul_pos (by omega) e
      have h1 : 2 ^ (2 * B) ≤ 2 ^ 399 := Nat.pow_le_pow_right (by decide) hB
      have h2 : 2 ^ 399 ≤ f * s * 2 ^ 399 := Nat.le_mul_of_pos_left _ f0
      exact absurd (Nat.lt_of_lt_of_le hp h1) (Nat.not_lt.mpr h2)
end Vf
namespace Vf
open PySem L2
theorem all_ints : ∀ {xs : List V} {P : Int → Prop}, (∀ (i : Nat) (y : V), xs[i]? = some y → ∃ m : Int, y = V.int m ∧ P m) → ∃ ms : List Int, xs = ms.map V.int ∧ ∀ m ∈ ms, P m
  | [], P, _ => ⟨[], rfl, fun m h => (nomatch h)⟩
  | x :: xs, P, h => by
    obtain ⟨m, e, p⟩ := h 0 x rfl
    obtain ⟨ms, e2, p2⟩ := all_ints (xs := xs) (P := P) fun i y hy => h (i + 1) y hy
    refine ⟨m :: ms, by rw [e, e2]; rfl, fun k hk => ?_⟩
    rcases List.mem_cons.mp hk with rfl | hk
    · exact p
    · exact p2 k hk
theorem big21 : Bt 70 (10 ^ (21 : Int).toNat) := by unfold Bt; decide +kernel
theorem drawn_bt {r m z : Int} (h0 : 0 ≤ r) (h1 : r < m) (hm : m ≤ 4096) (hz : Bt 70 z) (z0 : 0 ≤ z) : 0 ≤ r * z ∧ Bt 82 (r * z) := by
  refine ⟨Int.mul_nonneg h0 z0, ?_⟩
  have : Bt 12 r := by
    unfold Bt
    show r.natAbs < 4096
    omega
  exact this.mul hz
/-- what a function of fractions gave, with the numbers of which it is the fraction -/
def RowAt (H : Hp) (v : V) : Prop := ∃ (u t : Addr) (n d : Int), v = .ref u ∧ H u = some (.tup [.ref t, .int n, .int d]) ∧ H t = some (.tup (pFr (fr n d))) ∧ d ≠ 0 ∧ Bt 170 n ∧ Bt 170 d
theorem RowAt.same {H H' : Hp} {v : V} (s : Same H H') (h : RowAt H v) : RowAt H' v := by
  obtain ⟨u, t, n, d, e, h1, h2, r⟩ := h
  exact ⟨u, t, n, d, e, s _ _ h1, s _ _ h2, r⟩
theorem RowAt.put {H : Hp} {v : V} {L : Addr} {xs ys : List V} (hL : H L = some (.lst xs)) (h : RowAt H v) : RowAt (upd H L (.lst ys)) v := by
  obtain ⟨u, t, n, d, e, h1, h2, r⟩ := h
  exact ⟨u, t, n, d, e, by rw [upd_ne (fun x => by rw [x, hL] at h1; cases h1)]; exact h1, by rw [upd_ne (fun x => by rw [x, hL] at h2; cases h2)]; exact h2, r⟩
end Vf

namespace Vf
open PySem L2
/-! ### determinants of at most four rows -/
def sumN (n : Nat) (g : Nat → Int) : Int := ((List.range n).map g).sum
theorem sumN_succ (n : Nat) (g : Nat → Int) : sumN (n + 1) g = sumN n g + g n := by
  unfold sumN
  rw [List.range_succ, List.map_append, List.sum_append]
  simp
theorem sumN_congr {g h : Nat → Int} : ∀ {n : Nat}, (∀ i, i < n → g i = h i) → sumN n g = sumN n h
  | 0, _ => rfl
  | n + 1, e => by rw [sumN_succ, sumN_succ, sumN_congr (n := n) fun i hi => e i (by omega), e n (by omega)]
def skp (k i : Nat) : Nat := if i < k then i else i + 1
theorem sumN_skip {g : Nat → Int} {k : Nat} (z : g k = 0) : ∀ {n : Nat}, k ≤ n → sumN (n + 1) g = sumN n fun i => g (skp k i)
  | 0, h => by
    obtain rfl : k = 0 := by omega
    rw [sumN_succ, z]
    rfl
  | n + 1, h => by
    rw [sumN_succ]
    by_cases c : k = n + 1
    · rw [← c, z, Int.add_zero, c]
      refine sumN_congr fun i hi => ?_
      unfold skp
      rw [if_pos (by omega)]
    · rw [sumN_skip z (n := n) (by omega), sumN_succ n]
      congr 1
      unfold skp
      rw [if_neg (by omega)]
def ins0 (k : Nat) (u : Nat → Int) (z : Nat) : Int := if z < k then u z else if z = k then 0 else u (z - 1)
theorem ins0_at (k : Nat) (u : Nat → Int) : ins0 k u k = 0 := by
  unfold ins0
  rw [if_neg (Nat.lt_irrefl k), if_pos rfl]
theorem ins0_skp (k : Nat) (u : Nat → Int) (i : Nat) : ins0 k u (skp k i) = u i := by
  unfold ins0 skp
  by_cases c : i < k
  · rw [if_pos c, if_pos c]
  · rw [if_neg c, if_neg (by omega), if_neg (by omega), Nat.add_sub_cancel]
theorem gD_erase (r : List Int) (k i : Nat) : gD (r.eraseIdx k) i = gD r (skp k i) := by
  unfold gD skp
  rw [List.getD_eq_getElem?_getD, List.getD_eq_getElem?_getD, List.getElem?_eraseIdx]
  split <;> rfl
theorem dvN_sum (n : Nat) (f w : Nat → Int) : dvN n f w = sumN n fun i => f i * w i := rfl
theorem dv_ins {n k : Nat} (hk : k ≤ n) (r : List Int) (u : Nat → Int) : dvN (n + 1) (gD r) (ins0 k u) = dvN n (gD (r.eraseIdx k)) u := by
  rw [dvN_sum, sumN_skip (k := k) (by rw [ins0_at, Int.mul_zero]) hk, dvN_sum]
  refine sumN_congr fun i _ => ?_
  rw [ins0_skp, gD_erase]
def sg (k : Nat) : Int := if k % 2 = 1 then -1 else 1
def minr (k : Nat) (rows : List (List Int)) : List (List Int) := rows.tail.map fun r => r.eraseIdx k
def detN : Nat → List (List Int) → Int
  | 0, _ => 1
  | n + 1, rows => sumN (n + 1) fun k => sg k * (rows.headD []).getD k 0 * detN n (minr k rows)
theorem ln1 {α : Type} {l : List α} (h : l.length = 1) : ∃ a, l = [a] := by
  match l, h with
  | [a], _ => exact ⟨a, rfl⟩
theorem ln2 {α : Type} {l : List α} (h : l.length = 2) : ∃ a b, l = [a, b] := by
  match l, h with
  | [a, b], _ => exact ⟨a, b, rfl⟩
theorem ln3 {α : Type} {l : List α} (h : l.length = 3) : ∃ a b c, l = [a, b, c] := by
  match l, h with
  | [a, b, c], _ => exact ⟨a, b, c, rfl⟩
theorem ln4 {α : Type} {l : List α} (h : l.length = 4) : ∃ a b c d, l = [a, b, c, d] := by
  match l, h with
  | [a, b, c, d], _ => exact ⟨a, b, c, d, rfl⟩
def d1 (a : Int) : Int := a
def d2 (a b c d : Int) : Int := a * d - b * c
def d3 (a b c d e f g h i : Int) : Int := a * d2 e f h i - b * d2 d f g i + c * d2 d e g h
def d4 (a b c d e f g h i j k l m n o p : Int) : Int := a * d3 f g h j k l n o p - b * d3 e g h i k l m o p + c * d3 e f h i j l m n p - d * d3 e f g i j k m n o
theorem det1 (m0 : Int) : detN 1 [[m0]] = d1 m0 := by
  simp [detN, sumN, sg, d1, List.range_succ]
theorem det2 (m0 m1 m2 m3 : Int) : detN 2 [[m0, m1], [m2, m3]] = d2 m0 m1 m2 m3 := by
  have e : ∀ k : Nat, minr k [[m0, m1], [m2, m3]] = [[m2, m3].eraseIdx k] := fun k => rfl
  show sumN 2 (fun k => sg k * ([m0, m1] : List Int).getD k 0 * detN 1 (minr k [[m0, m1], [m2, m3]])) = _
  unfold sumN
  simp only [List.range_succ, List.range_zero, List.nil_append, List.cons_append, List.map_cons, List.map_nil, List.sum_cons, List.sum_nil, e, List.eraseIdx_zero, List.eraseIdx_cons_succ, List.eraseIdx_cons_zero, List.tail_cons, det1]
  simp [sg, d2, d1]
  grind
theorem det3 (m0 m1 m2 m3 m4 m5 m6 m7 m8 : Int) : detN 3 [[m0, m1, m2], [m3, m4, m5], [m6, m7, m8]] = d3 m0 m1 m2 m3 m4 m5 m6 m7 m8 := by
  have e : ∀ k : Nat, minr k [[m0, m1, m2], [m3, m4, m5], [m6, m7, m8]] = [[m3, m4, m5].eraseIdx k, [m6, m7, m8].eraseIdx k] := fun k => rfl
  show sumN 3 (fun k => sg k * ([m0, m1, m2] : List Int).getD k 0 * detN 2 (minr k [[m0, m1, m2], [m3, m4, m5], [m6, m7, m8]])) = _
  unfold sumN
  simp only [List.range_succ, List.range_zero, List.nil_append, List.cons_append, List.map_cons, List.map_nil, List.sum_cons, List.sum_nil, e, List.eraseIdx_zero, List.eraseIdx_cons_succ, List.eraseIdx_cons_zero, List.tail_cons, det2]
  simp [sg, d3]
  grind
theorem det4 (m0 m1 m2 m3 m4 m5 m6 m7 m8 m9 m10 m11 m12 m13 m14 m15 : Int) : detN 4 [[m0, m1, m2, m3], [m4, m5, m6, m7], [m8, m9, m10, m11], [m12, m13, m14, m15]] = d4 m0 m1 m2 m3 m4 m5 m6 m7 m8 m9 m10 m11 m12 m13 m14 m15 := by
  have e : ∀ k : Nat, minr k [[m0, m1, m2, m3], [m4, m5, m6, m7], [m8, m9, m10, m11], [m12, m13, m14, m15]] = [[m4, m5, m6, m7].eraseIdx k, [m8, m9, m10, m11].eraseIdx k, [m12, m13, m14, m15].eraseIdx k] := fun k => rfl
  show sumN 4 (fun k => sg k * ([m0, m1, m2, m3] : List Int).getD k 0 * detN 3 (minr k [[m0, m1, m2, m3], [m4, m5, m6, m7], [m8, m9, m10, m11], [m12, m13, m14, m15]])) = _
  unfold sumN
  simp only [List.range_succ, List.range_zero, List.nil_append, List.cons_append, List.map_cons, List.map_nil, List.sum_cons, List.sum_nil, e, List.eraseIdx_zero, List.eraseIdx_cons_succ, List.eraseIdx_cons_zero, List.tail_cons, det3]
  simp [sg, d4]
  grind
theorem rep2_1 (m2 m3 : Int) : d2 m2 m3 m2 m3 = 0 := by
  unfold d2
  grind
theorem rep3_1 (m3 m4 m5 m6 m7 m8 : Int) : d3 m3 m4 m5 m3 m4 m5 m6 m7 m8 = 0 := by
  unfold d3 d2
  grind
theorem rep3_2 (m3 m4 m5 m6 m7 m8 : Int) : d3 m6 m7 m8 m3 m4 m5 m6 m7 m8 = 0 := by
  unfold d3 d2
  grind
theorem rep4_1 (m4 m5 m6 m7 m8 m9 m10 m11 m12 m13 m14 m15 : Int) : d4 m4 m5 m6 m7 m4 m5 m6 m7 m8 m9 m10 m11 m12 m13 m14 m15 = 0 := by
  unfold d4 d3 d2
  grind
theorem rep4_2 (m4 m5 m6 m7 m8 m9 m10 m11 m12 m13 m14 m15 : Int) : d4 m8 m9 m10 m11 m4 m5 m6 m7 m8 m9 m10 m11 m12 m13 m14 m15 = 0 := by
  unfold d4 d3 d2
  grind
theorem rep4_3 (m4 m5 m6 m7 m8 m9 m10 m11 m12 m13 m14 m15 : Int) : d4 m12 m13 m14 m15 m4 m5 m6 m7 m8 m9 m10 m11 m12 m13 m14 m15 = 0 := by
  unfold d4 d3 d2
  grind
theorem cram1_0 (m0 x : Int) (h0 : m0 * x = 0) : d1 m0 * x = 0 := by
  have e : d1 m0 * x = (1) * (m0 * x) := by
    unfold d1
    grind
  rw [e, h0]
  simp
theorem cram2_0 (m0 m1 m2 m3 x y : Int) (h0 : m0 * x + m1 * y = 0) (h1 : m2 * x + m3 * y = 0) : d2 m0 m1 m2 m3 * x = 0 := by
  have e : d2 m0 m1 m2 m3 * x = ((d1 m3)) * (m0 * x + m1 * y) + (-(d1 m1)) * (m2 * x + m3 * y) := by
    unfold d2 d1
    grind
  rw [e, h0, h1]
  simp
theorem cram2_1 (m0 m1 m2 m3 x y : Int) (h0 : m0 * x + m1 * y = 0) (h1 : m2 * x + m3 * y = 0) : d2 m0 m1 m2 m3 * y = 0 := by
  have e : d2 m0 m1 m2 m3 * y = (-(d1 m2)) * (m0 * x + m1 * y) + ((d1 m0)) * (m2 * x + m3 * y) := by
    unfold d2 d1
    grind
  rw [e, h0, h1]
  simp
theorem cram3_0 (m0 m1 m2 m3 m4 m5 m6 m7 m8 x y z : Int) (h0 : m0 * x + m1 * y + m2 * z = 0) (h1 : m3 * x + m4 * y + m5 * z = 0) (h2 : m6 * x + m7 * y + m8 * z = 0) : d3 m0 m1 m2 m3 m4 m5 m6 m7 m8 * x = 0 := by
  have e : d3 m0 m1 m2 m3 m4 m5 m6 m7 m8 * x = ((d2 m4 m5 m7 m8)) * (m0 * x + m1 * y + m2 * z) + (-(d2 m1 m2 m7 m8)) * (m3 * x + m4 * y + m5 * z) + ((d2 m1 m2 m4 m5)) * (m6 * x + m7 * y + m8 * z) := by
    unfold d3 d2
    grind
  rw [e, h0, h1, h2]
  simp
theorem cram3_1 (m0 m1 m2 m3 m4 m5 m6 m7 m8 x y z : Int) (h0 : m0 * x + m1 * y + m2 * z = 0) (h1 : m3 * x + m4 * y + m5 * z = 0) (h2 : m6 * x + m7 * y + m8 * z = 0) : d3 m0 m1 m2 m3 m4 m5 m6 m7 m8 * y = 0 := by
  have e : d3 m0 m1 m2 m3 m4 m5 m6 m7 m8 * y = (-(d2 m3 m5 m6 m8)) * (m0 * x + m1 * y + m2 * z) + ((d2 m0 m2 m6 m8)) * (m3 * x + m4 * y + m5 * z) + (-(d2 m0 m2 m3 m5)) * (m6 * x + m7 * y + m8 * z) := by
    unfold d3 d2
    grind
  rw [e, h0, h1, h2]
  simp
theorem cram3_2 (m0 m1 m2 m3 m4 m5 m6 m7 m8 x y z : Int) (h0 : m0 * x + m1 * y + m2 * z = 0) (h1 : m3 * x + m4 * y + m5 * z = 0) (h2 : m6 * x + m7 * y + m8 * z = 0) : d3 m0 m1 m2 m3 m4 m5 m6 m7 m8 * z = 0 := by
  have e : d3 m0 m1 m2 m3 m4 m5 m6 m7 m8 * z = ((d2 m3 m4 m6 m7)) * (m0 * x + m1 * y + m2 * z) + (-(d2 m0 m1 m6 m7)) * (m3 * x + m4 * y + m5 * z) + ((d2 m0 m1 m3 m4)) * (m6 * x + m7 * y + m8 * z) := by
    unfold d3 d2
    grind
  rw [e, h0, h1, h2]
  simp
theorem cram4_0 (m0 m1 m2 m3 m4 m5 m6 m7 m8 m9 m10 m11 m12 m13 m14 m15 x y z w : Int) (h0 : m0 * x + m1 * y + m2 * z + m3 * w = 0) (h1 : m4 * x + m5 * y + m6 * z + m7 * w = 0) (h2 : m8 * x + m9 * y + m10 * z + m11 * w = 0) (h3 : m12 * x + m13 * y + m14 * z + m15 * w = 0) : d4 m0 m1 m2 m3 m4 m5 m6 m7 m8 m9 m10 m11 m12 m13 m14 m15 * x = 0 := by
  have e : d4 m0 m1 m2 m3 m4 m5 m6 m7 m8 m9 m10 m11 m12 m13 m14 m15 * x = ((d3 m5 m6 m7 m9 m10 m11 m13 m14 m15)) * (m0 * x + m1 * y + m2 * z + m3 * w) + (-(d3 m1 m2 m3 m9 m10 m11 m13 m14 m15)) * (m4 * x + m5 * y + m6 * z + m7 * w) + ((d3 m1 m2 m3 m5 m6 m7 m13 m14 m15)) * (m8 * x + m9 * y + m10 * z + m11 * w) + (-(d3 m1 m2 m3 m5 m6 m7 m9 m10 m11)) * (m12 * x + m13 * y + m14 * z + m15 * w) := by
    unfold d4 d3 d2
    grind
  rw [e, h0, h1, h2, h3]
  simp
theorem cram4_1 (m0 m1 m2 m3 m4 m5 m6 m7 m8 m9 m10 m11 m12 m13 m14 m15 x y z w : Int) (h0 : m0 * x + m1 * y + m2 * z + m3 * w = 0) (h1 : m4 * x + m5 * y + m6 * z + m7 * w = 0) (h2 : m8 * x + m9 * y + m10 * z + m11 * w = 0) (h3 : m12 * x + m13 * y + m14 * z + m15 * w = 0) : d4 m0 m1 m2 m3 m4 m5 m6 m7 m8 m9 m10 m11 m12 m13 m14 m15 * y = 0 := by
  have e : d4 m0 m1 m2 m3 m4 m5 m6 m7 m8 m9 m10 m11 m12 m13 m14 m15 * y = (-(d3 m4 m6 m7 m8 m10 m11 m12 m14 m15)) * (m0 * x + m1 * y + m2 * z + m3 * w) + ((d3 m0 m2 m3 m8 m10 m11 m12 m14 m15)) * (m4 * x + m5 * y + m6 * z + m7 * w) + (-(d3 m0 m2 m3 m4 m6 m7 m12 m14 m15)) * (m8 * x + m9 * y + m10 * z + m11 * w) + ((d3 m0 m2 m3 m4 m6 m7 m8 m10 m11)) * (m12 * x + m13 * y + m14 * z + m15 * w) := by
    unfold d4 d3 d2
    grind
  rw [e, h0, h1, h2, h3]
  simp
theorem cram4_2 (m0 m1 m2 m3 m4 m5 m6 m7 m8 m9 m10 m11 m12 m13 m14 m15 x y z w : Int) (h0 : m0 * x + m1 * y + m2 * z + m3 * w = 0) (h1 : m4 * x + m5 * y + m6 * z + m7 * w = 0) (h2 : m8 * x + m9 * y + m10 * z + m11 * w = 0) (h3 : m12 * x + m13 * y + m14 * z + m15 * w = 0) : d4 m0 m1 m2 m3 m4 m5 m6 m7 m8 m9 m10 m11 m12 m13 m14 m15 * z = 0 := by
  have e : d4 m0 m1 m2 m3 m4 m5 m6 m7 m8 m9 m10 m11 m12 m13 m14 m15 * z = ((d3 m4 m5 m7 m8 m9 m11 m12 m13 m15)) * (m0 * x + m1 * y + m2 * z + m3 * w) + (-(d3 m0 m1 m3 m8 m9 m11 m12 m13 m15)) * (m4 * x + m5 * y + m6 * z + m7 * w) + ((d3 m0 m1 m3 m4 m5 m7 m12 m13 m15)) * (m8 * x + m9 * y + m10 * z + m11 * w) + (-(d3 m0 m1 m3 m4 m5 m7 m8 m9 m11)) * (m12 * x + m13 * y + m14 * z + m15 * w) := by
    unfold d4 d3 d2
    grind
  rw [e, h0, h1, h2, h3]
  simp
theorem cram4_3 (m0 m1 m2 m3 m4 m5 m6 m7 m8 m9 m10 m11 m12 m13 m14 m15 x y z w : Int) (h0 : m0 * x + m1 * y + m2 * z + m3 * w = 0) (h1 : m4 * x + m5 * y + m6 * z + m7 * w = 0) (h2 : m8 * x + m9 * y + m10 * z + m11 * w = 0) (h3 : m12 * x + m13 * y + m14 * z + m15 * w = 0) : d4 m0 m1 m2 m3 m4 m5 m6 m7 m8 m9 m10 m11 m12 m13 m14 m15 * w = 0 := by
  have e : d4 m0 m1 m2 m3 m4 m5 m6 m7 m8 m9 m10 m11 m12 m13 m14 m15 * w = (-(d3 m4 m5 m6 m8 m9 m10 m12 m13 m14)) * (m0 * x + m1 * y + m2 * z + m3 * w) + ((d3 m0 m1 m2 m8 m9 m10 m12 m13 m14)) * (m4 * x + m5 * y + m6 * z + m7 * w) + (-(d3 m0 m1 m2 m4 m5 m6 m12 m13 m14)) * (m8 * x + m9 * y + m10 * z + m11 * w) + ((d3 m0 m1 m2 m4 m5 m6 m8 m9 m10)) * (m12 * x + m13 * y + m14 * z + m15 * w) := by
    unfold d4 d3 d2
    grind
  rw [e, h0, h1, h2, h3]
  simp
theorem det_head (n : Nat) (r : List Int) (rows : List (List Int)) : detN (n + 1) (r :: rows.tail) = sumN (n + 1) fun k => sg k * r.getD k 0 * detN n (minr k rows) := by
  show sumN (n + 1) (fun k => sg k * r.getD k 0 * detN n (minr k (r :: rows.tail))) = _
  rfl
theorem rep_row {n : Nat} (n4 : n + 1 ≤ 4) {rows : List (List Int)} (l : rows.length = n + 1) (lr : ∀ r ∈ rows, r.length = n + 1) {i : Nat} {r : List Int} (i0 : 0 < i) (hi : rows[i]? = some r) : detN (n + 1) (r :: rows.tail) = 0 := by
  have il := (List.getElem?_eq_some_iff.mp hi).1
  have hn : n = 0 ∨ n = 1 ∨ n = 2 ∨ n = 3 := by omega
  rcases hn with rfl | rfl | rfl | rfl
  · omega
  · obtain ⟨r0, r1, rfl⟩ := ln2 l
    obtain ⟨m0, m1, rfl⟩ := ln2 (lr r0 (by simp))
    obtain ⟨m2, m3, rfl⟩ := ln2 (lr r1 (by simp))
    obtain rfl : i = 1 := by have il : i < 2 := il; omega
    obtain rfl := Option.some.inj hi
    exact (det2 _ _ _ _).trans (rep2_1 _ _)
  · obtain ⟨r0, r1, r2, rfl⟩ := ln3 l
    obtain ⟨m0, m1, m2, rfl⟩ := ln3 (lr r0 (by simp))
    obtain ⟨m3, m4, m5, rfl⟩ := ln3 (lr r1 (by simp))
    obtain ⟨m6, m7, m8, rfl⟩ := ln3 (lr r2 (by simp))
    have il : i < 3 := il
    have : i = 1 ∨ i = 2 := by omega
    rcases this with rfl | rfl
    · obtain rfl := Option.some.inj hi
      exact (det3 _ _ _ _ _ _ _ _ _).trans (rep3_1 _ _ _ _ _ _)
    · obtain rfl := Option.some.inj hi
      exact (det3 _ _ _ _ _ _ _ _ _).trans (rep3_2 _ _ _ _ _ _)
  · obtain ⟨r0, r1, r2, r3, rfl⟩ := ln4 l
    obtain ⟨m0, m1, m2, m3, rfl⟩ := ln4 (lr r0 (by simp))
    obtain ⟨m4, m5, m6, m7, rfl⟩ := ln4 (lr r1 (by simp))
    obtain ⟨m8, m9, m10, m11, rfl⟩ := ln4 (lr r2 (by simp))
    obtain ⟨m12, m13, m14, m15, rfl⟩ := ln4 (lr r3 (by simp))
    have il : i < 4 := il
    have : i = 1 ∨ i = 2 ∨ i = 3 := by omega
    rcases this with rfl | rfl | rfl
    · obtain rfl := Option.some.inj hi
      exact (det4 _ _ _ _ _ _ _ _ _ _ _ _ _ _ _ _).trans (rep4_1 _ _ _ _ _ _ _ _ _ _ _ _)
    · obtain rfl := Option.some.inj hi
      exact (det4 _ _ _ _ _ _ _ _ _ _ _ _ _ _ _ _).trans (rep4_2 _ _ _ _ _ _ _ _ _ _ _ _)
    · obtain rfl := Option.some.inj hi
      exact (det4 _ _ _ _ _ _ _ _ _ _ _ _ _ _ _ _).trans (rep4_3 _ _ _ _ _ _ _ _ _ _ _ _)
theorem cramer {n : Nat} (n4 : n ≤ 4) {rows : List (List Int)} (l : rows.length = n) (lr : ∀ r ∈ rows, r.length = n) {x : Nat → Int} (h : ∀ r ∈ rows, dvN n (gD r) x = 0) {j : Nat} (hj : j < n) (nz : x j ≠ 0) : detN n rows = 0 := by
  have key : detN n rows * x j = 0 := by
    have hn : n = 1 ∨ n = 2 ∨ n = 3 ∨ n = 4 := by omega
    rcases hn with rfl | rfl | rfl | rfl
    · obtain ⟨r0, rfl⟩ := ln1 l
      obtain ⟨m0, rfl⟩ := ln1 (lr r0 (by simp))
      have h0 := h [m0] (by simp)
      simp [dvN, gD, List.range_succ] at h0
      rw [det1]
      obtain rfl : j = 0 := by omega
      exact cram1_0 _ _ (by simpa using h0)
    · obtain ⟨r0, r1, rfl⟩ := ln2 l
      obtain ⟨m0, m1, rfl⟩ := ln2 (lr r0 (by simp))
      obtain ⟨m2, m3, rfl⟩ := ln2 (lr r1 (by simp))
      have h0 := h [m0, m1] (by simp)
      have h1 := h [m2, m3] (by simp)
      simp [dvN, gD, List.range_succ] at h0 h1
      rw [det2]
      have : j = 0 ∨ j = 1 := by omega
      rcases this with rfl | rfl
      · exact cram2_0 _ _ _ _ (x 0) (x 1) (by grind) (by grind)
      · exact cram2_1 _ _ _ _ (x 0) (x 1) (by grind) (by grind)
    · obtain ⟨r0, r1, r2, rfl⟩ := ln3 l
      obtain ⟨m0, m1, m2, rfl⟩ := ln3 (lr r0 (by simp))
      obtain ⟨m3, m4, m5, rfl⟩ := ln3 (lr r1 (by simp))
      obtain ⟨m6, m7, m8, rfl⟩ := ln3 (lr r2 (by simp))
      have h0 := h [m0, m1, m2] (by simp)
      have h1 := h [m3, m4, m5] (by simp)
      have h2 := h [m6, m7, m8] (by simp)
      simp [dvN, gD, List.range_succ] at h0 h1 h2
      rw [det3]
      have : j = 0 ∨ j = 1 ∨ j = 2 := by omega
      rcases this with rfl | rfl | rfl
      · exact cram3_0 _ _ _ _ _ _ _ _ _ (x 0) (x 1) (x 2) (by grind) (by grind) (by grind)
      · exact cram3_1 _ _ _ _ _ _ _ _ _ (x 0) (x 1) (x 2) (by grind) (by grind) (by grind)
      · exact cram3_2 _ _ _ _ _ _ _ _ _ (x 0) (x 1) (x 2) (by grind) (by grind) (by grind)
    · obtain ⟨r0, r1, r2, r3, rfl⟩ := ln4 l
      obtain ⟨m0, m1, m2, m3, rfl⟩ := ln4 (lr r0 (by simp))
      obtain ⟨m4, m5, m6, m7, rfl⟩ := ln4 (lr r1 (by simp))
      obtain ⟨m8, m9, m10, m11, rfl⟩ := ln4 (lr r2 (by simp))
      obtain ⟨m12, m13, m14, m15, rfl⟩ := ln4 (lr r3 (by simp))
      have h0 := h [m0, m1, m2, m3] (by simp)
      have h1 := h [m4, m5, m6, m7] (by simp)
      have h2 := h [m8, m9, m10, m11] (by simp)
      have h3 := h [m12, m13, m14, m15] (by simp)
      simp [dvN, gD, List.range_succ] at h0 h1 h2 h3
      rw [det4]
      have : j = 0 ∨ j = 1 ∨ j = 2 ∨ j = 3 := by omega
      rcases this with rfl | rfl | rfl | rfl
      · exact cram4_0 _ _ _ _ _ _ _ _ _ _ _ _ _ _ _ _ (x 0) (x 1) (x 2) (x 3) (by grind) (by grind) (by grind) (by grind)
      · exact cram4_1 _ _ _ _ _ _ _ _ _ _ _ _ _ _ _ _ (x 0) (x 1) (x 2) (x 3) (by grind) (by grind) (by grind) (by grind)
      · exact cram4_2 _ _ _ _ _ _ _ _ _ _ _ _ _ _ _ _ (x 0) (x 1) (x 2) (x 3) (by grind) (by grind) (by grind) (by grind)
      · exact cram4_3 _ _ _ _ _ _ _ _ _ _ _ _ _ _ _ _ (x 0) (x 1) (x 2) (x 3) (by grind) (by grind) (by grind) (by grind)
  rcases Int.mul_eq_zero.mp key with e | e
  · exact e
  · exact absurd e nz
theorem dv_comb {n : Nat} {f u v : Nat → Int} (a b : Int) : dvN n f (fun z => a * u z - b * v z) = a * dvN n f u - b * dvN n f v := by
  induction n with
  | zero => show (0 : Int) = a * 0 - b * 0; omega
  | succ n ih =>
    rw [dvN_succ, dvN_succ, dvN_succ, ih]
    grind
/-- if the determinant is 0, the columns depend on each other -/
theorem depend : ∀ {n : Nat}, n ≤ 4 → ∀ {rows : List (List Int)}, rows.length = n → (∀ r ∈ rows, r.length = n) → detN n rows = 0 → ∃ x : Nat → Int, (∃ j, j < n ∧ x j ≠ 0) ∧ ∀ r ∈ rows, dvN n (gD r) x = 0
  | 0, _, rows, _, _, d => absurd d (show ¬ (1 : Int) = 0 by decide)
  | n + 1, n4, [], l, _, _ => absurd l (by simp)
  | n + 1, n4, r0 :: B, l, lr, d => by
    have lB : B.length = n := by simpa using l
    have eraseL : ∀ r ∈ B, ∀ k, k < n + 1 → (r.eraseIdx k).length = n := fun r hr k hk => by
      rw [List.length_eraseIdx_of_lt (by rw [lr r (List.mem_cons_of_mem _ hr)]; exact hk), lr r (List.mem_cons_of_mem _ hr)]
      rfl
    by_cases c : ∃ k, k < n + 1 ∧ detN n (minr k (r0 :: B)) ≠ 0
    · obtain ⟨k, hk, nz⟩ := c
      refine ⟨fun k => sg k * detN n (minr k (r0 :: B)), ⟨k, hk, ?_⟩, fun r hr => ?_⟩
      · intro e
        rcases Int.mul_eq_zero.mp e with e | e
        · unfold sg at e
          split at e <;> omega
        · exact nz e
      · obtain ⟨i, hi⟩ := List.mem_iff_getElem?.mp hr
        have key : detN (n + 1) (r :: B) = 0 := by
          by_cases i0 : i = 0
          · subst i0
            rw [← Option.some.inj hi]
            exact d
          · exact rep_row n4 l lr (Nat.pos_of_ne_zero i0) hi
        have dh := det_head n r (r0 :: B)
        rw [show (r0 :: B).tail = B from rfl, key] at dh
        rw [dvN_sum, dh]
        refine sumN_congr fun z _ => ?_
        show r.getD z 0 * (sg z * detN n (minr z (r0 :: B))) = _
        rw [← Int.mul_assoc, Int.mul_comm (r.getD z 0)]
    · have all : ∀ k, k < n + 1 → detN n (minr k (r0 :: B)) = 0 := fun k hk => Classical.byContradiction fun h => c ⟨k, hk, h⟩
      -- a vector without the place k, for each k
      have vec : ∀ k, k < n + 1 → ∃ x : Nat → Int, x k = 0 ∧ (∃ j, j < n + 1 ∧ x j ≠ 0) ∧ ∀ r ∈ B, dvN (n + 1) (gD r) x = 0 := fun k hk => by
        obtain ⟨u, ⟨j, hj, nz⟩, hu⟩ := depend (n := n) (by omega) (rows := minr k (r0 :: B)) (by unfold minr; rw [List.length_map]; exact lB) (fun r hr => by
          obtain ⟨r', hr', rfl⟩ := List.mem_map.mp hr
          exact eraseL r' hr' k hk) (all k hk)
        refine ⟨ins0 k u, ins0_at k u, ⟨skp k j, by unfold skp; split <;> omega, by rw [ins0_skp]; exact nz⟩, fun r hr => ?_⟩
        rw [dv_ins (by omega)]
        exact hu _ (List.mem_map_of_mem hr)
      obtain ⟨x0, _, ⟨j0, hj0, nz0⟩, h0⟩ := vec 0 (by omega)
      obtain ⟨x1, z1, ⟨j1, hj1, nz1⟩, h1⟩ := vec j0 hj0
      by_cases p : dvN (n + 1) (gD r0) x0 = 0
      · refine ⟨x0, ⟨j0, hj0, nz0⟩, fun r hr => ?_⟩
        rcases List.mem_cons.mp hr with rfl | hr
        · exact p
        · exact h0 r hr
      · refine ⟨fun z => dvN (n + 1) (gD r0) x1 * x0 z - dvN (n + 1) (gD r0) x0 * x1 z, ?_, fun r hr => ?_⟩
        · by_cases q : dvN (n + 1) (gD r0) x1 = 0
          · refine ⟨j1, hj1, fun e => ?_⟩
            have e : dvN (n + 1) (gD r0) x1 * x0 j1 - dvN (n + 1) (gD r0) x0 * x1 j1 = 0 := e
            rw [q, Int.zero_mul] at e
            rcases Int.mul_eq_zero.mp (by omega : dvN (n + 1) (gD r0) x0 * x1 j1 = 0) with e | e
            · exact p e
            · exact nz1 e
          · refine ⟨j0, hj0, fun e => ?_⟩
            have e : dvN (n + 1) (gD r0) x1 * x0 j0 - dvN (n + 1) (gD r0) x0 * x1 j0 = 0 := e
            rw [z1, Int.mul_zero, Int.sub_zero] at e
            rcases Int.mul_eq_zero.mp e with e | e
            · exact q e
            · exact nz0 e
        · rw [dv_comb]
          rcases List.mem_cons.mp hr with rfl | hr
          · grind
          · rw [h0 r hr, h1 r hr]
            simp
/-! ### rows like stairs -/
/-- a vector that all stairs before c take to 0 -/
theorem stair_vec {N : Nat} {S : List (List Int)} (st : ∀ (k : Nat) (r : List Int), S[k]? = some r → (∀ i, i < k → gD r i = 0) ∧ gD r k ≠ 0) (lN : S.length < N) : ∃ x : Nat → Int, x S.length ≠ 0 ∧ (∀ j, S.length < j → x j = 0) ∧ ∀ r ∈ S, dvN N (gD r) x = 0 := by
  have go : ∀ m : Nat, m ≤ S.length → ∃ x : Nat → Int, x S.length ≠ 0 ∧ (∀ j, S.length < j → x j = 0) ∧ (∀ j, j < S.length - m → x j = 0) ∧ ∀ (k : Nat) (r : List Int), S.length - m ≤ k → S[k]? = some r → dvN N (gD r) x = 0 := by
    intro m
    induction m with
    | zero =>
      intro _
      refine ⟨fun z => if z = S.length then 1 else 0, by simp, fun j hj => if_neg (by omega), fun j hj => if_neg (by omega), fun k r hk hr => ?_⟩
      have := (List.getElem?_eq_some_iff.mp hr).1
      omega
    | succ m ih =>
      intro hm
      obtain ⟨x, a, b, c, d⟩ := ih (by omega)
      obtain ⟨k, ek⟩ : ∃ k, k = S.length - (m + 1) := ⟨_, rfl⟩
      have hk : k < S.length := by omega
      have er := List.getElem?_eq_getElem hk
      obtain ⟨z1, z2⟩ := st k _ er
      have xk : x k = 0 := c k (by omega)
      refine ⟨fun z => gD S[k] k * x z - dvN N (gD S[k]) x * (if z = k then 1 else 0), ?_, fun j hj => ?_, fun j hj => ?_, fun i r hi hr => ?_⟩
      · show gD S[k] k * x S.length - dvN N (gD S[k]) x * (if S.length = k then 1 else 0) ≠ 0
        rw [if_neg (by omega), Int.mul_zero, Int.sub_zero]
        intro e
        rcases Int.mul_eq_zero.mp e with e | e
        · exact z2 e
        · exact a e
      · show gD S[k] k * x j - dvN N (gD S[k]) x * (if j = k then 1 else 0) = 0
        rw [if_neg (by omega), b j hj]
        simp
      · show gD S[k] k * x j - dvN N (gD S[k]) x * (if j = k then 1 else 0) = 0
        rw [if_neg (by omega), c j (by omega)]
        simp
      · rw [dv_comb (u := x) (v := fun z => if z = k then 1 else 0), dvN_one (f := gD r) (w := fun z => if z = k then 1 else 0) (a := k) (by omega) fun z _ ne => by show gD r z * (if z = k then 1 else 0) = 0; rw [if_neg ne, Int.mul_zero]]
        show _ - _ * (gD r k * (if k = k then 1 else 0)) = 0
        rw [if_pos rfl, Int.mul_one]
        by_cases ik : i = k
        · rw [ik, er] at hr
          rw [← Option.some.inj hr]
          grind
        · have ih' := d i r (by omega) hr
          have zr := (st i r hr).1 k (by omega)
          rw [ih', zr]
          simp
  obtain ⟨x, a, b, _, d⟩ := go S.length (Nat.le_refl _)
  refine ⟨x, a, b, fun r hr => ?_⟩
  obtain ⟨k, hk⟩ := List.mem_iff_getElem?.mp hr
  exact d k r (by omega) hk
/-- only 0 is taken to 0 by all stairs -/
theorem stair_zero {N : Nat} {S : List (List Int)} (st : ∀ (k : Nat) (r : List Int), S[k]? = some r → (∀ i, i < k → gD r i = 0) ∧ gD r k ≠ 0) (lN : S.length ≤ N) {x : Nat → Int} (out : ∀ j, S.length ≤ j → x j = 0) (h : ∀ r ∈ S, dvN N (gD r) x = 0) : ∀ j, x j = 0 := by
  have go : ∀ m : Nat, m ≤ S.length → ∀ j, S.length - m ≤ j → x j = 0 := by
    intro m
    induction m with
    | zero => exact fun _ j hj => out j (by omega)
    | succ m ih =>
      intro hm j hj
      by_cases c : S.length - m ≤ j
      · exact ih (by omega) j c
      · have hk : j < S.length := by omega
        have er := List.getElem?_eq_getElem hk
        obtain ⟨z1, z2⟩ := st j _ er
        have e := h _ (List.mem_of_getElem? er)
        rw [dvN_one (a := j) (by omega) fun z hz ne => by
          by_cases zj : z < j
          · rw [z1 z zj, Int.zero_mul]
          · rw [ih (by omega) z (by omega), Int.mul_zero]] at e
        rcases Int.mul_eq_zero.mp e with e | e
        · exact absurd e z2
        · exact e
  exact fun j => go S.length (Nat.le_refl _) j (by omega)
end Vf

namespace Vf
open PySem L2
/-! ### a fraction in lowest terms that is w / d -/
structure Fw (z : Int × Int) (w d : Int) : Prop where
  low : Low z
  eq : z.1 * d = w * z.2
theorem Fw.dvd {z : Int × Int} {w d : Int} (h : Fw z w d) : z.2 ∣ d := by
  have p := h.low.pos
  have e := h.eq
  have c := h.low.cop
  have dv : z.2.natAbs ∣ z.1.natAbs * d.natAbs := by
    rw [← Int.natAbs_mul, e, Int.natAbs_mul]
    exact Nat.dvd_mul_left ..
  have := (show Nat.Coprime z.2.natAbs z.1.natAbs by rw [Nat.coprime_comm]; exact c).dvd_of_dvd_mul_left dv
  exact Int.natAbs_dvd_natAbs.mp this
theorem Fw.le {z : Int × Int} {w d : Int} (h : Fw z w d) (d0 : 0 < d) : z.2 ≤ d ∧ z.1.natAbs ≤ w.natAbs := by
  have p := h.low.pos
  have l := Int.le_of_dvd d0 h.dvd
  refine ⟨l, ?_⟩
  have e : z.1.natAbs * d.natAbs = w.natAbs * z.2.natAbs := by rw [← Int.natAbs_mul, h.eq, Int.natAbs_mul]
  have l2 : w.natAbs * z.2.natAbs ≤ w.natAbs * d.natAbs := Nat.mul_le_mul_left _ (by omega)
  rw [← e] at l2
  exact Nat.le_of_mul_le_mul_right l2 (by omega)
theorem fw_fr {n d0 w d : Int} (h0 : d0 ≠ 0) (h : n * d = w * d0) : Fw (fr n d0) w d := by
  obtain ⟨lo, e, _, _⟩ := fr_spec (n := n) h0
  refine ⟨lo, ?_⟩
  have : (fr n d0).1 * d * d0 = w * (fr n d0).2 * d0 := by
    calc (fr n d0).1 * d * d0 = ((fr n d0).1 * d0) * d := by grind
      _ = (n * (fr n d0).2) * d := by rw [e]
      _ = (n * d) * (fr n d0).2 := by grind
      _ = (w * d0) * (fr n d0).2 := by rw [h]
      _ = w * (fr n d0).2 * d0 := by grind
  exact Int.eq_of_mul_eq_mul_right h0 this
theorem Fw.nz {z : Int × Int} {w d : Int} (h : Fw z w d) : z.2 ≠ 0 := Int.ne_of_gt h.low.pos
theorem fw_add {x y : Int × Int} {w v d : Int} (h : Fw x w d) (k : Fw y v d) : Fw (fr (x.1 * y.2 + y.1 * x.2) (x.2 * y.2)) (w + v) d := by
  refine fw_fr (Int.mul_ne_zero h.nz k.nz) ?_
  have e1 := h.eq
  have e2 := k.eq
  grind
theorem fw_sub {x y : Int × Int} {w v d : Int} (h : Fw x w d) (k : Fw y v d) : Fw (fr (x.1 * y.2 - y.1 * x.2) (x.2 * y.2)) (w - v) d := by
  refine fw_fr (Int.mul_ne_zero h.nz k.nz) ?_
  have e1 := h.eq
  have e2 := k.eq
  grind
theorem fw_mul {x y : Int × Int} {w v d e : Int} (h : Fw x w d) (k : Fw y v e) : Fw (fr (x.1 * y.1) (x.2 * y.2)) (w * v) (d * e) := by
  refine fw_fr (Int.mul_ne_zero h.nz k.nz) ?_
  have e1 := h.eq
  have e2 := k.eq
  grind
theorem fw_over {x : Int × Int} {w v d r : Int} (h : Fw x w d) (r0 : r ≠ 0) (e : w = v * r) : Fw (fr (x.1 * 1) (x.2 * r)) v d := by
  refine fw_fr (Int.mul_ne_zero h.nz r0) ?_
  have e1 := h.eq
  grind
theorem fw_neg {x : Int × Int} {w d : Int} (h : Fw x w d) : Fw (-x.1, x.2) (-w) d := by
  refine ⟨⟨h.low.pos, by show Nat.gcd (-x.1).natAbs x.2.natAbs = 1; rw [Int.natAbs_neg]; exact h.low.cop⟩, ?_⟩
  show -x.1 * d = -w * x.2
  rw [Int.neg_mul, Int.neg_mul, h.eq]
theorem fw_scale {x : Int × Int} {w d : Int} (h : Fw x w d) (c : Int) : Fw x (w * c) (d * c) := ⟨h.low, by
  have := h.eq
  grind⟩
theorem fw_int (n : Int) : Fw (n, 1) n 1 := ⟨⟨by show (0 : Int) < 1; decide, by show Nat.gcd n.natAbs 1 = 1; exact Nat.gcd_one_right _⟩, rfl⟩
theorem fw_zero {x : Int × Int} {w d : Int} (h : Fw x w d) (d0 : d ≠ 0) : x.1 = 0 ↔ w = 0 := by
  have e := h.eq
  constructor
  · intro z
    rw [z, Int.zero_mul] at e
    rcases Int.mul_eq_zero.mp e.symm with e | e
    · exact e
    · exact absurd e h.nz
  · intro z
    rw [z, Int.zero_mul] at e
    rcases Int.mul_eq_zero.mp e with e | e
    · exact e
    · exact absurd e d0
theorem fw_uniq {x y : Int × Int} {w v d e : Int} (h : Fw x w d) (k : Fw y v e) (d0 : d ≠ 0) (e0 : e ≠ 0) (q : w * e = v * d) : x = y := by
  have e1 := h.eq
  have e2 := k.eq
  have c : x.1 * y.2 = y.1 * x.2 := by
    have : x.1 * y.2 * (d * e) = y.1 * x.2 * (d * e) := by
      calc x.1 * y.2 * (d * e) = (x.1 * d) * (y.2 * e) := by grind
        _ = (w * x.2) * (y.2 * e) := by rw [e1]
        _ = (w * e) * (x.2 * y.2) := by grind
        _ = (v * d) * (x.2 * y.2) := by rw [q]
        _ = (v * y.2) * (x.2 * d) := by grind
        _ = (y.1 * e) * (x.2 * d) := by rw [e2]
        _ = y.1 * x.2 * (d * e) := by grind
    exact Int.eq_of_mul_eq_mul_right (Int.mul_ne_zero d0 e0) this
  have p1 : Fw x y.1 y.2 := ⟨h.low, c⟩
  have p2 : Fw y x.1 x.2 := ⟨k.low, c.symm⟩
  have l1 := Int.le_of_dvd k.low.pos p1.dvd
  have l2 := Int.le_of_dvd h.low.pos p2.dvd
  have s : x.2 = y.2 := Int.le_antisymm l1 l2
  have n : x.1 = y.1 := by
    rw [s] at c
    exact Int.eq_of_mul_eq_mul_right k.nz c
  exact Prod.ext n s
theorem Fw.bt {x : Int × Int} {w d : Int} {a b : Nat} (h : Fw x w d) (d0 : 0 < d) (hw : w.natAbs < 2 ^ a) (hd : d.natAbs < 2 ^ b) : Bt a x.1 ∧ Bt b x.2 := by
  obtain ⟨l1, l2⟩ := h.le d0
  have p := h.low.pos
  refine ⟨Nat.lt_of_le_of_lt l2 hw, ?_⟩
  unfold Bt
  omega
/-! ### a row without what stands in a column, by the greatest common divisor -/
def crossG (ns ps : List Int) (k t : Int) : List Int := (ns.zip ps).map fun x => k * x.1 - t * x.2
theorem crossG_at {ns ps : List Int} {k t : Int} (hl : ps.length = ns.length) (i : Nat) : (crossG ns ps k t).getD i 0 = k * ns.getD i 0 - t * ps.getD i 0 := by
  unfold crossG
  by_cases h : i < ns.length
  · have h1 := List.getElem?_eq_getElem h
    have h2 := List.getElem?_eq_getElem (show i < ps.length by omega)
    rw [List.getD_eq_getElem?_getD, List.getElem?_map, zip_at h1 h2, List.getD_eq_getElem?_getD, List.getD_eq_getElem?_getD, h1, h2]
    rfl
  · rw [List.getD_eq_getElem?_getD, List.getElem?_eq_none (by rw [List.length_map, List.length_zip]; omega), List.getD_eq_getElem?_getD, List.getD_eq_getElem?_getD, List.getElem?_eq_none (by omega : ns.length ≤ i), List.getElem?_eq_none (by omega : ps.length ≤ i)]
    show (0 : Int) = k * 0 - t * 0
    omega
theorem gcd_cut {x y : Int} (x0 : x ≠ 0) (y0 : y ≠ 0) : ∃ g : Nat, 0 < g ∧ g = Int.gcd x y ∧ (x.fdiv (g : Int)).natAbs ≤ x.natAbs ∧ (y.fdiv (g : Int)).natAbs ≤ y.natAbs ∧ y.fdiv (g : Int) ≠ 0 ∧ y.fdiv (g : Int) * x - x.fdiv (g : Int) * y = 0 ∧ g ≤ x.natAbs := by
  have g0 : 0 < Int.gcd x y := Nat.pos_of_ne_zero fun e => x0 (Int.gcd_eq_zero_iff.mp e).1
  have d1 := Int.gcd_dvd_left x y
  have d2 := Int.gcd_dvd_right x y
  have f1 := div_facts g0 d1
  have f2 := div_facts g0 d2
  refine ⟨_, g0, rfl, f1.1, f2.1, fun e => y0 (f2.2.mp e), ?_, Nat.le_of_dvd (by omega) (Int.ofNat_dvd_left.mp d1)⟩
  obtain ⟨u, hu⟩ := d1
  obtain ⟨v, hv⟩ := d2
  have e1 : x.fdiv (Int.gcd x y : Int) = u := by
    conv => lhs; lhs; rw [hu]
    exact Int.mul_fdiv_cancel_left u (by omega)
  have e2 : y.fdiv (Int.gcd x y : Int) = v := by
    conv => lhs; lhs; rw [hv]
    exact Int.mul_fdiv_cancel_left v (by omega)
  rw [e1, e2]
  generalize ((Int.gcd x y : Nat) : Int) = G at hu hv
  rw [hu, hv]
  grind
theorem wo_gcd {ns ps ms : List Int} {c : Nat} {k t : Int} (hl : ps.length = ns.length) (kp : k.natAbs ≤ (ps.getD c 0).natAbs) (tn : t.natAbs ≤ (ns.getD c 0).natAbs) (k0 : k ≠ 0) (z : k * ns.getD c 0 - t * ps.getD c 0 = 0) (r : RedOk (crossG ns ps k t) ms) : WoOk ns ps c ms := by
  have at' := crossG_at (k := k) (t := t) hl
  have cl : (crossG ns ps k t).length = ns.length := by
    unfold crossG
    rw [List.length_map, List.length_zip, hl, Nat.min_self]
  refine ⟨r.len.trans cl, fun a a1 h1 h2 i => Nat.lt_of_le_of_lt (r.le i) ?_, ?_, fun pz i hi => ?_, fun pz => ?_⟩
  · rw [at']
    have m1 := wide_lt (Nat.lt_of_le_of_lt kp (h2 c)) (h1 i)
    have m2 := wide_lt (Nat.lt_of_le_of_lt tn (h1 c)) (h2 i)
    have p : 2 ^ (2 * a + 1) = 2 ^ (a + a) + 2 ^ (a + a) := by rw [Nat.pow_succ, Nat.two_mul a]; omega
    rw [p]
    omega
  · rw [r.z, at']
    exact z
  · rw [r.z, at', hi, Int.mul_zero, Int.sub_zero]
    constructor
    · intro h
      rcases Int.mul_eq_zero.mp h with h | h
      · exact absurd h k0
      · exact h
    · intro h
      rw [h, Int.mul_zero]
  · obtain ⟨g', g0, hg⟩ := r.lin
    exact ⟨g', k, t, g0, k0, fun i => by rw [← hg i, at']⟩
end Vf

namespace Vf
open PySem L2
/-! ### rows of fractions, and rows like stairs -/
def FrRows (H : Hp) (xs : List V) (zss : List (List (Int × Int))) : Prop := xs.length = zss.length ∧ ∀ (i : Nat) (zs : List (Int × Int)), zss[i]? = some zs → ∃ (t : Addr) (ys : List V), xs[i]? = some (.ref t) ∧ H t = some (.lst ys) ∧ Tups pFr H ys zs
theorem FrRows.same {H H' : Hp} {xs : List V} {zss : List (List (Int × Int))} (h : FrRows H xs zss) (s : Same H H') : FrRows H' xs zss := ⟨h.1, fun i zs e => by
  obtain ⟨t, ys, h1, h2, h3⟩ := h.2 i zs e
  exact ⟨t, ys, h1, s _ _ h2, h3.same s⟩⟩
theorem FrRows.get {H : Hp} {xs : List V} {zss : List (List (Int × Int))} (h : FrRows H xs zss) {i : Nat} {x : V} (e : xs[i]? = some x) : ∃ (zs : List (Int × Int)) (t : Addr) (ys : List V), zss[i]? = some zs ∧ x = .ref t ∧ H t = some (.lst ys) ∧ Tups pFr H ys zs := by
  have il := (List.getElem?_eq_some_iff.mp e).1
  have ez := List.getElem?_eq_getElem (show i < zss.length by rw [← h.1]; exact il)
  obtain ⟨t, ys, h1, h2, h3⟩ := h.2 i _ ez
  rw [e] at h1
  exact ⟨_, t, ys, ez, Option.some.inj h1, h2, h3⟩
/-- the rows as whole numbers over one number -/
structure FwRows (N : Nat) (zss : List (List (Int × Int))) (W : List (List Int)) : Prop where
  len : W.length = zss.length
  row : ∀ (i : Nat) (zs : List (Int × Int)) (w : List Int), zss[i]? = some zs → W[i]? = some w → zs.length = N ∧ w.length = N ∧ ∃ D : Nat, 0 < D ∧ D ≤ 1000 ∧ ∀ (j : Nat) (z : Int × Int), zs[j]? = some z → Fw z (gD w j) (D : Int) ∧ (gD w j).natAbs < 2 ^ 13
/-- rows that vanish at the same vectors -/
theorem prop_ker {N : Nat} {ms w : List Int} {g k : Int} (g0 : g ≠ 0) (k0 : k ≠ 0) (h : ∀ z, z < N → g * gD ms z = k * gD w z) (v : Nat → Int) : dvN N (gD ms) v = 0 ↔ dvN N (gD w) v = 0 := by
  have e := dvN_lin (g := g) (k := k) (t := 0) (n := N) (f := gD w) (p := fun _ => 0) (q := gD ms) (fun z hz => by rw [h z hz]; omega) v
  have z0 : dvN N (fun _ => 0) v = 0 := dvN_zero fun z _ => Int.zero_mul _
  exact lin_zero g0 k0 e z0
theorem whole_ker {N : Nat} {zs : List (Int × Int)} {w ms : List Int} {D : Nat} {g k : Int} (D0 : 0 < D) (zl : zs.length = N) (g0 : g ≠ 0) (k0 : k ≠ 0) (h : ∀ (j : Nat) (z : Int × Int), zs[j]? = some z → g * ms.getD j 0 * z.2 = k * z.1) (f : ∀ (j : Nat) (z : Int × Int), zs[j]? = some z → Fw z (gD w j) (D : Int)) (v : Nat → Int) : dvN N (gD ms) v = 0 ↔ dvN N (gD w) v = 0 := by
  refine prop_ker (g := g * (D : Int)) (k := k) (Int.mul_ne_zero g0 (by omega)) k0 (fun j hj => ?_) v
  have ez := List.getElem?_eq_getElem (show j < zs.length by omega)
  have e1 := h j _ ez
  have F := f j _ ez
  have e2 := F.eq
  have : g * (D : Int) * gD ms j * (zs[j]).2 = k * gD w j * (zs[j]).2 := by
    calc g * (D : Int) * gD ms j * (zs[j]).2 = (g * ms.getD j 0 * (zs[j]).2) * (D : Int) := by unfold gD; grind
      _ = (k * (zs[j]).1) * (D : Int) := by rw [e1]
      _ = k * ((zs[j]).1 * (D : Int)) := by grind
      _ = k * (gD w j * (zs[j]).2) := by rw [e2]
      _ = k * gD w j * (zs[j]).2 := by grind
  exact Int.eq_of_mul_eq_mul_right F.nz this
def bS : Nat → Nat
  | 0 => 24
  | c + 1 => 2 * bS c + 1
theorem bS_le {c : Nat} (h : c ≤ 4) : 1 ≤ bS c ∧ bS c ≤ 399 ∧ (c ≤ 3 → bS c ≤ 199) := by
  have : c = 0 ∨ c = 1 ∨ c = 2 ∨ c = 3 ∨ c = 4 := by omega
  rcases this with rfl | rfl | rfl | rfl | rfl <;> decide
structure StK (n c : Nat) (W waiting found : List (List Int)) : Prop where
  wl : ∀ r ∈ waiting, r.length = n + 1
  fl : ∀ r ∈ found, r.length = n + 1
  cnt : waiting.length + c = n
  fc : found.length = c
  wb : ∀ r ∈ waiting, ∀ i : Nat, (r.getD i 0).natAbs < 2 ^ bS c
  fb : ∀ r ∈ found, ∀ i : Nat, (r.getD i 0).natAbs < 2 ^ bS c
  zl : ∀ r ∈ waiting, ∀ i, i < c → gD r i = 0
  st : ∀ (k : Nat) (r : List Int), found[k]? = some r → (∀ i, i < k → gD r i = 0) ∧ gD r k ≠ 0
  ker : ∀ v : Nat → Int, (∀ w ∈ W, dvN (n + 1) (gD w) v = 0) ↔ ((∀ r ∈ waiting, dvN (n + 1) (gD r) v = 0) ∧ ∀ r ∈ found, dvN (n + 1) (gD r) v = 0)
theorem StK.step {n c j : Nat} {W waiting found waiting' : List (List Int)} {p : List Int} (h : StK n c W waiting found) (hp : waiting[j]? = some p) (pz : p.getD c 0 ≠ 0) (ml : MapW (waiting.eraseIdx j) p c waiting') : StK n (c + 1) W waiting' (found ++ [p]) := by
  have pm := List.mem_of_getElem? hp
  have jl := (List.getElem?_eq_some_iff.mp hp).1
  have er : ∀ x, x ∈ waiting.eraseIdx j → x ∈ waiting := fun x hx => List.mem_of_mem_eraseIdx hx
  have re : ∀ x, x ∈ waiting → x = p ∨ x ∈ waiting.eraseIdx j := fun x hx => by
    obtain ⟨i, hi⟩ := List.mem_iff_getElem?.mp hx
    by_cases e : i = j
    · rw [e, hp] at hi
      exact .inl (Option.some.inj hi).symm
    · exact .inr (List.mem_eraseIdx_iff_getElem?.mpr ⟨i, e, hi⟩)
  have up : bS c ≤ bS (c + 1) := by show bS c ≤ 2 * bS c + 1; omega
  have b1 : 1 ≤ bS c := by cases c <;> simp [bS]
  refine ⟨fun r hr => ?_, fun r hr => ?_, ?_, by rw [List.length_append, h.fc]; rfl, fun r hr i => ?_, fun r hr i => ?_, fun r hr i hi => ?_, fun k r hk => ?_, fun v => (h.ker v).trans ⟨fun a => ?_, fun a => ?_⟩⟩
  · obtain ⟨x, hx, w⟩ := ml.mem hr
    exact w.len.trans (h.wl x (er x hx))
  · rcases List.mem_append.mp hr with hr | hr
    · exact h.fl r hr
    · rw [List.mem_singleton.mp hr]
      exact h.wl p pm
  · rw [ml.1, List.length_eraseIdx_of_lt jl]
    have := h.cnt
    omega
  · obtain ⟨x, hx, w⟩ := ml.mem hr
    exact w.b _ b1 (h.wb x (er x hx)) (h.wb p pm) i
  · rcases List.mem_append.mp hr with hr | hr
    · exact Nat.lt_of_lt_of_le (h.fb r hr i) (Nat.pow_le_pow_right (by decide) up)
    · rw [List.mem_singleton.mp hr]
      exact Nat.lt_of_lt_of_le (h.wb p pm i) (Nat.pow_le_pow_right (by decide) up)
  · obtain ⟨x, hx, w⟩ := ml.mem hr
    by_cases e : i = c
    · rw [e]
      exact w.col
    · exact (w.z pz i (h.zl p pm i (by omega))).mpr (h.zl x (er x hx) i (by omega))
  · by_cases kl : k < found.length
    · rw [List.getElem?_append_left kl] at hk
      exact h.st k r hk
    · rw [List.getElem?_append_right (by omega)] at hk
      have k0 : k - found.length = 0 := by
        have := (List.getElem?_eq_some_iff.mp hk).1
        simpa using this
      rw [k0] at hk
      obtain rfl : p = r := Option.some.inj hk
      have kc : k = c := by have := h.fc; omega
      rw [kc]
      exact ⟨h.zl p pm, pz⟩
  · have vp := a.1 p pm
    refine ⟨fun r hr => ?_, fun r hr => ?_⟩
    · obtain ⟨x, hx, w⟩ := ml.mem hr
      exact (w.vec pz (n + 1) v vp).mpr (a.1 x (er x hx))
    · rcases List.mem_append.mp hr with hr | hr
      · exact a.2 r hr
      · rw [List.mem_singleton.mp hr]
        exact vp
  · have vp := a.2 p (List.mem_append.mpr (.inr (List.mem_singleton.mpr rfl)))
    refine ⟨fun r hr => ?_, fun r hr => a.2 r (List.mem_append.mpr (.inl hr))⟩
    rcases re r hr with rfl | hr
    · exact vp
    · obtain ⟨y, hy, w⟩ := ml.to hr
      exact (w.vec pz (n + 1) v vp).mp (a.1 y hy)
theorem StK.none {n c : Nat} {W waiting found : List (List Int)} (h : StK n c W waiting found) (cn : c < n) (z : ∀ r ∈ waiting, r.getD c 0 = 0) : ∃ x : Nat → Int, (∃ j, j < n ∧ x j ≠ 0) ∧ (∀ j, n ≤ j → x j = 0) ∧ ∀ w ∈ W, dvN (n + 1) (gD w) x = 0 := by
  obtain ⟨x, a, b, d⟩ := stair_vec (N := n + 1) h.st (by rw [h.fc]; omega)
  rw [h.fc] at a b
  refine ⟨x, ⟨c, cn, a⟩, fun j hj => b j (by omega), (h.ker x).mpr ⟨fun r hr => dvN_zero fun i hi => ?_, d⟩⟩
  by_cases ic : i ≤ c
  · have : gD r i = 0 := by
      by_cases e : i = c
      · rw [e]; exact z r hr
      · exact h.zl r hr i (by omega)
    rw [this, Int.zero_mul]
  · rw [b i (by omega), Int.mul_zero]
/-- the two lists of an elimination -/
structure StAt (H0 H : Hp) (L F : Addr) (waiting found : List (List Int)) : Prop where
  s : Same H0 H
  nL : H0 L = none
  nF : H0 F = none
  l : ∃ xs, H L = some (.lst xs) ∧ Lsts H xs waiting ∧ ∀ t, V.ref t ∈ xs → t ≠ L ∧ t ≠ F
  f : ∃ xs, H F = some (.lst xs) ∧ Lsts H xs found ∧ ∀ t, V.ref t ∈ xs → t ≠ L ∧ t ≠ F
  ne : L ≠ F
theorem StAt.same {H0 H H' : Hp} {L F : Addr} {waiting found : List (List Int)} (h : StAt H0 H L F waiting found) (e : Same H H') : StAt H0 H' L F waiting found := by
  obtain ⟨xs, a1, a2, a3⟩ := h.l
  obtain ⟨ys, b1, b2, b3⟩ := h.f
  exact ⟨h.s.trans e, h.nL, h.nF, ⟨xs, e _ _ a1, a2.same e, a3⟩, ⟨ys, e _ _ b1, b2.same e, b3⟩, h.ne⟩
end Vf

namespace Vf
open PySem L2
/-! ### solved from behind -/
def tl (s v : List Int) (c b : Nat) : Int := dvN b (fun i => if c < i then gD s i else 0) (gD v)
theorem tl_zero {s v : List Int} {c b : Nat} (h : b ≤ c + 1) : tl s v c b = 0 := dvN_zero fun i hi => by
  show (if c < i then gD s i else 0) * gD v i = 0
  rw [if_neg (by omega), Int.zero_mul]
theorem tl_succ {s v : List Int} {c b : Nat} (h : c < b) : tl s v c (b + 1) = tl s v c b + gD s b * gD v b := by
  unfold tl
  rw [dvN_succ]
  show _ + (if c < b then gD s b else 0) * gD v b = _
  rw [if_pos h]
theorem back_sum {n c : Nat} {s v : List Int} (cn : c < n) (z : ∀ i, i < c → gD s i = 0) (k : dvN (n + 1) (gD s) (fun z => if z < n then gD v z else -12) = 0) : 12 * gD s n - tl s v c n = gD v c * gD s c := by
  rw [dvN_succ] at k
  have k : dvN n (gD s) (fun z => if z < n then gD v z else -12) + gD s n * (if n < n then gD v n else -12) = 0 := k
  rw [if_neg (Nat.lt_irrefl n), dvN_congr (p := gD s) (u := gD v) fun z hz => by show gD s z * (if z < n then gD v z else -12) = _; rw [if_pos hz]] at k
  rw [dvN_congr (f := gD s) (w := gD v) (p := fun i => (if i = c then gD s i else 0) + (if c < i then gD s i else 0)) (u := gD v) fun i _ => by
    show gD s i * gD v i = ((if i = c then gD s i else 0) + (if c < i then gD s i else 0)) * gD v i
    by_cases e : i = c
    · rw [if_pos e, if_neg (by omega), Int.add_zero]
    · rw [if_neg e, Int.zero_add]
      by_cases l : c < i
      · rw [if_pos l]
      · rw [if_neg l, z i (by omega)], dvN_add, dvN_one (f := fun i => if i = c then gD s i else 0) (a := c) cn fun i _ ne => by
    show (if i = c then gD s i else 0) * gD v i = 0
    rw [if_neg ne, Int.zero_mul]] at k
  have k : (if c = c then gD s c else 0) * gD v c + tl s v c n + gD s n * -12 = 0 := k
  rw [if_pos rfl] at k
  grind
theorem at_m1 {s : List Int} {n : Nat} (h : s.length = n + 1) : atI (s.map V.int) (-1) = some (V.int (gD s n)) := by
  obtain ⟨r, a, rfl⟩ : ∃ r a, s = r ++ [a] := by
    rcases List.eq_nil_or_concat s with e | ⟨r, a, e⟩
    · rw [e] at h
      cases h
    · exact ⟨r, a, by rw [e]; simp⟩
  have rl : r.length = n := by simpa using h
  have e : gD (r ++ [a]) n = a := by
    unfold gD
    rw [List.getD_eq_getElem?_getD, List.getElem?_append_right (by omega), rl, Nat.sub_self]
    rfl
  rw [e, List.map_append]
  exact atI_last _ _
end Vf

namespace Vf
open PySem L2
/-! ### the determinant of rows of fractions -/
def prodI : List Int → Int
  | [] => 1
  | d :: t => d * prodI t
theorem prodI_bd : ∀ {Ds : List Int}, (∀ d ∈ Ds, 0 < d ∧ d ≤ 18) → 0 < prodI Ds ∧ prodI Ds ≤ 18 ^ Ds.length
  | [], _ => by decide
  | d :: t, h => by
    obtain ⟨p, l⟩ := prodI_bd (Ds := t) fun x hx => h x (List.mem_cons_of_mem _ hx)
    obtain ⟨d0, d1⟩ := h d (List.mem_cons_self ..)
    refine ⟨Int.mul_pos d0 p, ?_⟩
    show d * prodI t ≤ 18 ^ (t.length + 1)
    rw [Int.pow_succ]
    calc d * prodI t ≤ 18 * prodI t := Int.mul_le_mul_of_nonneg_right d1 (Int.le_of_lt p)
      _ ≤ 18 * 18 ^ t.length := Int.mul_le_mul_of_nonneg_left l (by decide)
      _ = 18 ^ t.length * 18 := Int.mul_comm _ _
structure FdRows (c : Nat) (zss : List (List (Int × Int))) (W : List (List Int)) (Ds : List Int) : Prop where
  lw : W.length = zss.length
  ld : Ds.length = zss.length
  dd : ∀ d ∈ Ds, 0 < d ∧ d ≤ 18
  row : ∀ (i : Nat) (zs : List (Int × Int)) (w : List Int) (d : Int), zss[i]? = some zs → W[i]? = some w → Ds[i]? = some d → zs.length = c ∧ w.length = c ∧ ∀ (j : Nat) (z : Int × Int), zs[j]? = some z → Fw z (gD w j) d ∧ (gD w j).natAbs ≤ 36
theorem FdRows.minor {c k : Nat} {zs0 : List (Int × Int)} {Z : List (List (Int × Int))} {w0 : List Int} {B : List (List Int)} {d0 : Int} {T : List Int} (h : FdRows (c + 1) (zs0 :: Z) (w0 :: B) (d0 :: T)) (hk : k < c + 1) : FdRows c (Z.map fun zs => zs.eraseIdx k) (B.map fun w => w.eraseIdx k) T := by
  refine ⟨by rw [List.length_map, List.length_map]; exact Nat.succ.inj h.lw, by rw [List.length_map]; exact Nat.succ.inj h.ld, fun d hd => h.dd d (List.mem_cons_of_mem _ hd), fun i zs w d hz hw hd => ?_⟩
  rw [List.getElem?_map] at hz hw
  obtain ⟨zs', ez, rfl⟩ := Option.map_eq_some_iff.mp hz
  obtain ⟨w', ew, rfl⟩ := Option.map_eq_some_iff.mp hw
  obtain ⟨l1, l2, f⟩ := h.row (i + 1) zs' w' d ez ew hd
  refine ⟨by rw [List.length_eraseIdx_of_lt (by omega), l1]; rfl, by rw [List.length_eraseIdx_of_lt (by omega), l2]; rfl, fun j z hj => ?_⟩
  rw [gD_erase]
  rw [List.getElem?_eraseIdx] at hj
  unfold skp
  split at hj
  · rename_i c1
    rw [if_pos c1]
    exact f j z hj
  · rename_i c1
    rw [if_neg c1]
    exact f (j + 1) z hj
theorem tups_erase {H : Hp} {ys : List V} {zs : List (Int × Int)} (h : Tups pFr H ys zs) (k : Nat) : Tups pFr H (ys.eraseIdx k) (zs.eraseIdx k) := by
  refine ⟨by rw [List.length_eraseIdx, List.length_eraseIdx, h.1], fun i z hz => ?_⟩
  rw [List.getElem?_eraseIdx] at hz ⊢
  split at hz
  · rename_i c
    rw [if_pos c]
    exact h.2 i z hz
  · rename_i c
    rw [if_neg c]
    exact h.2 (i + 1) z hz
theorem FrRows.tail {H : Hp} {x : V} {xs : List V} {zs0 : List (Int × Int)} {Z : List (List (Int × Int))} (h : FrRows H (x :: xs) (zs0 :: Z)) : FrRows H xs Z := ⟨Nat.succ.inj h.1, fun i zs e => h.2 (i + 1) zs e⟩
theorem FrRows.snoc {H : Hp} {xs ys : List V} {zss : List (List (Int × Int))} {zs : List (Int × Int)} {t : Addr} (h : FrRows H xs zss) (ht : H t = some (.lst ys)) (ty : Tups pFr H ys zs) : FrRows H (xs ++ [.ref t]) (zss ++ [zs]) := by
  refine ⟨by rw [List.length_append, List.length_append, h.1]; rfl, fun i u hu => ?_⟩
  by_cases il : i < zss.length
  · rw [List.getElem?_append_left il] at hu
    rw [List.getElem?_append_left (by rw [h.1]; exact il)]
    exact h.2 i u hu
  · rw [List.getElem?_append_right (by omega)] at hu
    rw [List.getElem?_append_right (by rw [h.1]; omega), h.1]
    have i0 : i - zss.length = 0 := by
      have := (List.getElem?_eq_some_iff.mp hu).1
      simpa using this
    rw [i0] at hu ⊢
    obtain rfl : zs = u := Option.some.inj hu
    exact ⟨t, ys, rfl, ht, ty⟩
theorem FrRows.mono {H H' : Hp} {xs : List V} {zss : List (List (Int × Int))} (h : FrRows H xs zss) (k : ∀ t ys, V.ref t ∈ xs → H t = some (.lst ys) → H' t = some (.lst ys)) (kt : ∀ t ys, H t = some (.tup ys) → H' t = some (.tup ys)) : FrRows H' xs zss := ⟨h.1, fun i zs e => by
  obtain ⟨t, ys, h1, h2, h3⟩ := h.2 i zs e
  refine ⟨t, ys, h1, k t ys (List.mem_of_getElem? h1) h2, h3.1, fun j z hj => ?_⟩
  obtain ⟨u, a, b⟩ := h3.2 j z hj
  exact ⟨u, a, kt _ _ b⟩⟩
theorem FrRows.upd {H : Hp} {C : Addr} {o : List V} {ls : List V} {xs : List V} {zss : List (List (Int × Int))} (h : FrRows H xs zss) (hC : H C = some (.lst ls)) (n : ∀ t, V.ref t ∈ xs → t ≠ C) : FrRows (L2.upd H C (.lst o)) xs zss := h.mono (fun t ys m g => by rw [upd_ne (n t m)]; exact g) fun t ys g => by
  rw [upd_ne (fun e => by rw [e, hC] at g; cases g)]
  exact g
theorem sl_listK {X : Cx} {K : PySem.W.Frag} (h : X.K = K) : SlR X (rSlL K) := by
  subst h
  exact sl_list
end Vf

namespace Vf
open PySem L2
/-! ### the rows that are handed on -/
theorem snoc_at {α : Type} {l : List α} {a x : α} {i : Nat} (h : (l ++ [a])[i]? = some x) : (l[i]? = some x) ∨ (i = l.length ∧ a = x) := by
  by_cases il : i < l.length
  · rw [List.getElem?_append_left il] at h
    exact .inl h
  · rw [List.getElem?_append_right (by omega)] at h
    have i0 : i - l.length = 0 := by
      have := (List.getElem?_eq_some_iff.mp h).1
      simpa using this
    rw [i0] at h
    exact .inr ⟨by omega, Option.some.inj h⟩
theorem at_len {α : Type} {l : List α} {i : Nat} {x : α} (h : l[i]? = some x) : i < l.length := (List.getElem?_eq_some_iff.mp h).1
theorem tups_upd {α : Type} {enc : α → List V} {H : Hp} {C : Addr} {ls o : List V} {xs : List V} {l : List α} (hC : H C = some (.lst ls)) (t : Tups enc H xs l) : Tups enc (L2.upd H C (.lst o)) xs l := ⟨t.1, fun i a e => by
  obtain ⟨u, h1, h2⟩ := t.2 i a e
  exact ⟨u, h1, by rw [upd_ne (fun x => by rw [x, hC] at h2; cases h2)]; exact h2⟩⟩
theorem tups_snoc {α : Type} {enc : α → List V} {H : Hp} {xs : List V} {l : List α} {a : α} {u : Addr} (t : Tups enc H xs l) (h : H u = some (.tup (enc a))) : Tups enc H (xs ++ [.ref u]) (l ++ [a]) := by
  refine ⟨by rw [List.length_append, List.length_append, t.1]; rfl, fun i b e => ?_⟩
  rcases snoc_at e with e1 | ⟨e1, rfl⟩
  · obtain ⟨v, h1, h2⟩ := t.2 i b e1
    exact ⟨v, by rw [List.getElem?_append_left (at_len h1)]; exact h1, h2⟩
  · refine ⟨u, ?_, h⟩
    rw [e1, ← t.1, List.getElem?_append_right (Nat.le_refl _), Nat.sub_self]
    rfl
theorem FdRows.nil (c : Nat) : FdRows c [] [] [] := ⟨rfl, rfl, fun d h => (by cases h), fun i zs w d h => by simp at h⟩
theorem FdRows.snoc {c : Nat} {zss : List (List (Int × Int))} {W : List (List Int)} {Ds : List Int} {zs : List (Int × Int)} {w : List Int} {d : Int} (h : FdRows c zss W Ds) (d0 : 0 < d ∧ d ≤ 18) (zl : zs.length = c) (wl : w.length = c) (f : ∀ (j : Nat) (z : Int × Int), zs[j]? = some z → Fw z (gD w j) d ∧ (gD w j).natAbs ≤ 36) : FdRows c (zss ++ [zs]) (W ++ [w]) (Ds ++ [d]) := by
  have l1 := h.lw
  have l2 := h.ld
  refine ⟨by rw [List.length_append, List.length_append, l1]; rfl, by rw [List.length_append, List.length_append, l2]; rfl, fun e he => ?_, fun i zs' w' d' e1 e2 e3 => ?_⟩
  · rcases List.mem_append.mp he with he | he
    · exact h.dd e he
    · rw [List.mem_singleton.mp he]
      exact d0
  · rcases snoc_at e1 with a1 | ⟨a1, rfl⟩
    · have i1 := at_len a1
      rcases snoc_at e2 with a2 | ⟨a2, _⟩
      · rcases snoc_at e3 with a3 | ⟨a3, _⟩
        · exact h.row i zs' w' d' a1 a2 a3
        · omega
      · omega
    · rcases snoc_at e2 with a2 | ⟨_, rfl⟩
      · have := at_len a2
        omega
      · rcases snoc_at e3 with a3 | ⟨_, rfl⟩
        · have := at_len a3
          omega
        · exact ⟨zl, wl, f⟩
theorem set_get {α : Type} {l : List α} {i j : Nat} {a x : α} (h : (l.set i a)[j]? = some x) : (j ≠ i ∧ l[j]? = some x) ∨ (j = i ∧ a = x) := by
  rw [List.getElem?_set] at h
  by_cases e : i = j
  · rw [if_pos e] at h
    split at h
    · exact .inr ⟨e.symm, Option.some.inj h⟩
    · cases h
  · rw [if_neg e] at h
    exact .inl ⟨fun x => e x.symm, h⟩
theorem FdRows.set {c : Nat} {zss : List (List (Int × Int))} {W : List (List Int)} {Ds : List Int} {zs : List (Int × Int)} {w : List Int} {d : Int} (h : FdRows c zss W Ds) (i : Nat) (d0 : 0 < d ∧ d ≤ 18) (zl : zs.length = c) (wl : w.length = c) (f : ∀ (j : Nat) (z : Int × Int), zs[j]? = some z → Fw z (gD w j) d ∧ (gD w j).natAbs ≤ 36) : FdRows c (zss.set i zs) (W.set i w) (Ds.set i d) := by
  refine ⟨by rw [List.length_set, List.length_set, h.lw], by rw [List.length_set, List.length_set, h.ld], fun e he => ?_, fun j zs' w' d' e1 e2 e3 => ?_⟩
  · rcases List.mem_or_eq_of_mem_set he with he | rfl
    · exact h.dd e he
    · exact d0
  · rcases set_get e1 with ⟨n1, a1⟩ | ⟨n1, rfl⟩
    · rcases set_get e2 with ⟨_, a2⟩ | ⟨n2, _⟩
      · rcases set_get e3 with ⟨_, a3⟩ | ⟨n3, _⟩
        · exact h.row j zs' w' d' a1 a2 a3
        · exact absurd n3 n1
      · exact absurd n2 n1
    · rcases set_get e2 with ⟨n2, _⟩ | ⟨_, rfl⟩
      · exact absurd n1 n2
      · rcases set_get e3 with ⟨n3, _⟩ | ⟨_, rfl⟩
        · exact absurd n1 n3
        · exact ⟨zl, wl, f⟩
theorem FrRows.set {H : Hp} {xs ys : List V} {zss : List (List (Int × Int))} {zs : List (Int × Int)} {t : Addr} (h : FrRows H xs zss) (i : Nat) (ht : H t = some (.lst ys)) (ty : Tups pFr H ys zs) : FrRows H (xs.set i (.ref t)) (zss.set i zs) := by
  refine ⟨by rw [List.length_set, List.length_set, h.1], fun j u hu => ?_⟩
  rcases set_get hu with ⟨n1, a1⟩ | ⟨n1, rfl⟩
  · obtain ⟨v, ws, h1, h2, h3⟩ := h.2 j u a1
    exact ⟨v, ws, by rw [List.getElem?_set, if_neg (fun e => n1 e.symm)]; exact h1, h2, h3⟩
  · have jl := at_len hu
    rw [List.length_set] at jl
    exact ⟨t, ys, by rw [n1, List.getElem?_set, if_pos rfl, if_pos (by rw [h.1, ← n1]; exact jl)], ht, ty⟩
/-- a row and its right side, over one number -/
def ext (v : List Int) (n : Nat) (w : List Int) : List Int := (w.map fun x => x * 12) ++ [sumN n fun i => gD w i * gD v i]
theorem ext_lo {v w : List Int} {n j : Nat} (wl : w.length = n) (hj : j < n) : gD (ext v n w) j = gD w j * 12 := by
  unfold gD ext
  rw [List.getD_eq_getElem?_getD, List.getElem?_append_left (by rw [List.length_map]; omega), List.getElem?_map, List.getD_eq_getElem?_getD, List.getElem?_eq_getElem (by omega)]
  rfl
theorem ext_hi {v w : List Int} {n : Nat} (wl : w.length = n) : gD (ext v n w) n = sumN n fun i => gD w i * gD v i := by
  show (ext v n w).getD n 0 = _
  unfold ext
  rw [List.getD_eq_getElem?_getD, List.getElem?_append_right (by rw [List.length_map]; omega), List.length_map, wl, Nat.sub_self]
  rfl
theorem ext_dv {v w : List Int} {n : Nat} (wl : w.length = n) (x : Nat → Int) : dvN (n + 1) (gD (ext v n w)) x = 12 * dvN n (gD w) x + gD (ext v n w) n * x n := by
  rw [dvN_succ, dvN_congr (f := gD (ext v n w)) (w := x) (p := fun z => 12 * gD w z) (u := x) fun z hz => by rw [ext_lo wl hz]; show gD w z * 12 * x z = 12 * gD w z * x z; grind]
  congr 1
  have := dvN_lin (g := 1) (k := 12) (t := 0) (n := n) (f := gD w) (p := fun _ => 0) (q := fun z => 12 * gD w z) (fun z _ => by show 1 * (12 * gD w z) = 12 * gD w z - 0 * 0; omega) x
  omega
theorem ext_kap {v w : List Int} {n : Nat} (wl : w.length = n) : dvN (n + 1) (gD (ext v n w)) (fun z => if z < n then gD v z else -12) = 0 := by
  rw [ext_dv wl, ext_hi wl]
  show 12 * dvN n (gD w) (fun z => if z < n then gD v z else -12) + sumN n (fun i => gD w i * gD v i) * (if n < n then gD v n else -12) = 0
  rw [if_neg (Nat.lt_irrefl n), dvN_congr (f := gD w) (p := gD w) (u := gD v) fun z hz => by show gD w z * (if z < n then gD v z else -12) = _; rw [if_pos hz], ← dvN_sum]
  omega
theorem sum_bd36 {w v : List Int} (hw : ∀ j, (gD w j).natAbs ≤ 36) (hv : ∀ j, (gD v j).natAbs ≤ 48) : ∀ n : Nat, (sumN n fun i => gD w i * gD v i).natAbs ≤ n * 1728
  | 0 => Nat.le_refl _
  | n + 1 => by
    rw [sumN_succ]
    have ih := sum_bd36 hw hv n
    have m : (gD w n * gD v n).natAbs ≤ 36 * 48 := by
      rw [Int.natAbs_mul]
      exact Nat.mul_le_mul (hw n) (hv n)
    omega
theorem FwRows.snoc {N : Nat} {zss : List (List (Int × Int))} {W : List (List Int)} {zs : List (Int × Int)} {w : List Int} {D : Nat} (h : FwRows N zss W) (zl : zs.length = N) (wl : w.length = N) (D0 : 0 < D) (D1 : D ≤ 1000) (f : ∀ (j : Nat) (z : Int × Int), zs[j]? = some z → Fw z (gD w j) (D : Int) ∧ (gD w j).natAbs < 2 ^ 13) : FwRows N (zss ++ [zs]) (W ++ [w]) := by
  have l1 := h.len
  refine ⟨by rw [List.length_append, List.length_append, l1]; rfl, fun i zs' w' e1 e2 => ?_⟩
  rcases snoc_at e1 with a1 | ⟨a1, rfl⟩
  · have i1 := at_len a1
    rcases snoc_at e2 with a2 | ⟨a2, _⟩
    · exact h.row i zs' w' a1 a2
    · omega
  · rcases snoc_at e2 with a2 | ⟨_, rfl⟩
    · have := at_len a2
      omega
    · exact ⟨zl, wl, D, D0, D1, f⟩
theorem six_over {n d : Int} (d1 : 1 ≤ d) (d3 : d ≤ 3) (n3 : n.natAbs ≤ 3) : Fw (fr n d) (n * (6 / d)) 6 ∧ (n * (6 / d)).natAbs ≤ 18 := by
  have : d = 1 ∨ d = 2 ∨ d = 3 := by omega
  rcases this with rfl | rfl | rfl
  · exact ⟨fw_fr (by decide) (by show n * 6 = n * 6 * 1; omega), by show (n * 6).natAbs ≤ 18; omega⟩
  · exact ⟨fw_fr (by decide) (by show n * 6 = n * 3 * 2; omega), by show (n * 3).natAbs ≤ 18; omega⟩
  · exact ⟨fw_fr (by decide) (by show n * 6 = n * 2 * 3; omega), by show (n * 2).natAbs ≤ 18; omega⟩
theorem twelve_over {n d : Int} (d1 : 1 ≤ d) (d3 : d ≤ 4) (n3 : n.natAbs ≤ 4) : Fw (fr n d) (n * (12 / d)) 12 ∧ (n * (12 / d)).natAbs ≤ 48 := by
  have : d = 1 ∨ d = 2 ∨ d = 3 ∨ d = 4 := by omega
  rcases this with rfl | rfl | rfl | rfl
  · exact ⟨fw_fr (by decide) (by show n * 12 = n * 12 * 1; omega), by show (n * 12).natAbs ≤ 48; omega⟩
  · exact ⟨fw_fr (by decide) (by show n * 12 = n * 6 * 2; omega), by show (n * 6).natAbs ≤ 48; omega⟩
  · exact ⟨fw_fr (by decide) (by show n * 12 = n * 4 * 3; omega), by show (n * 4).natAbs ≤ 48; omega⟩
  · exact ⟨fw_fr (by decide) (by show n * 12 = n * 3 * 4; omega), by show (n * 3).natAbs ≤ 48; omega⟩
theorem gD_snoc {w : List Int} {x : Int} {j : Nat} : gD (w ++ [x]) j = if j = w.length then x else gD w j := by
  unfold gD
  rw [List.getD_eq_getElem?_getD, List.getD_eq_getElem?_getD]
  by_cases c : j = w.length
  · rw [if_pos c, c, List.getElem?_append_right (Nat.le_refl _), Nat.sub_self]
    rfl
  · rw [if_neg c]
    by_cases l : j < w.length
    · rw [List.getElem?_append_left l]
    · rw [List.getElem?_eq_none (by rw [List.length_append]; show w.length + 1 ≤ j; omega), List.getElem?_eq_none (by omega : w.length ≤ j)]
theorem gD_map {w : List Int} {c : Int} {j : Nat} : gD (w.map fun x => x * c) j = gD w j * c := by
  unfold gD
  rw [List.getD_eq_getElem?_getD, List.getElem?_map, List.getD_eq_getElem?_getD]
  cases w[j]? with
  | none => show (0 : Int) = 0 * c; omega
  | some x => rfl
theorem frac_six {x y : Int} : Fw (fr (x % 7 - 3) (1 + y % 3)) ((x % 7 - 3) * (6 / (1 + y % 3))) 6 ∧ ((x % 7 - 3) * (6 / (1 + y % 3))).natAbs ≤ 18 := six_over (by omega) (by omega) (by omega)
theorem frac_twelve {x y : Int} : Fw (fr (x % 9 - 4) (1 + y % 4)) ((x % 9 - 4) * (12 / (1 + y % 4))) 12 ∧ ((x % 9 - 4) * (12 / (1 + y % 4))).natAbs ≤ 48 := twelve_over (by omega) (by omega) (by omega)
theorem rep_snoc (k : Nat) (d : Int) : List.replicate (k + 1) d = List.replicate k d ++ [d] := List.replicate_succ'
theorem fw_23 : Fw (2, 3) 2 3 := ⟨⟨by show (0 : Int) < 3; decide, by decide⟩, rfl⟩
theorem FdRows.at' {c : Nat} {zss : List (List (Int × Int))} {W : List (List Int)} {Ds : List Int} (h : FdRows c zss W Ds) {i : Nat} (hi : i < zss.length) : ∃ zs w d, zss[i]? = some zs ∧ W[i]? = some w ∧ Ds[i]? = some d ∧ (0 < d ∧ d ≤ 18) ∧ zs.length = c ∧ w.length = c ∧ ∀ (j : Nat) (z : Int × Int), zs[j]? = some z → Fw z (gD w j) d ∧ (gD w j).natAbs ≤ 36 := by
  have e1 := List.getElem?_eq_getElem hi
  have e2 := List.getElem?_eq_getElem (show i < W.length by rw [h.lw]; exact hi)
  have e3 := List.getElem?_eq_getElem (show i < Ds.length by rw [h.ld]; exact hi)
  exact ⟨_, _, _, e1, e2, e3, h.dd _ (List.mem_of_getElem? e3), h.row i _ _ _ e1 e2 e3⟩
end Vf

namespace Pf
open PySem L2
def top (i : Nat) : Stmt := PySem.Challenge.pw_mingle_k54_solved_equations.main.body.getD i (.Pass ⟨0, 0, 0, 0⟩)
abbrev s__law_draws : Stmt := (top 14)
abbrev s__law_cell : Stmt := (top 13)
abbrev s__law_divisor : Stmt := (top 18)
abbrev s__law_frac : Stmt := (top 19)
abbrev s__law_mul : Stmt := (top 21)
abbrev s__law_add : Stmt := (top 20)
abbrev s__lowered : Stmt := (top 6)
abbrev s__whole : Stmt := (top 7)
abbrev s__pivot_at : Stmt := (top 9)
abbrev s__without : Stmt := (top 8)
abbrev s__stairs : Stmt := (top 10)
abbrev s_fraction : Stmt := (top 2)
abbrev s_minus : Stmt := (top 3)
abbrev s_times : Stmt := (top 4)
abbrev s_over : Stmt := (top 5)
abbrev s_solve : Stmt := (top 11)
abbrev s__law_det : Stmt := (top 23)
abbrev s__law_is_int : Stmt := (top 15)
abbrev s__law_ints : Stmt := (top 16)
abbrev s__law_is_tuple : Stmt := (top 17)
abbrev s__law_is_frac : Stmt := (top 22)
abbrev s_law : Stmt := (top 24)
structure Ad where
  f__law_draws : Addr
  d__law_draws : FuncData
  f__law_cell : Addr
  d__law_cell : FuncData
  f__law_divisor : Addr
  d__law_divisor : FuncData
  f__law_frac : Addr
  d__law_frac : FuncData
  f__law_mul : Addr
  d__law_mul : FuncData
  f__law_add : Addr
  d__law_add : FuncData
  f__lowered : Addr
  d__lowered : FuncData
  f__whole : Addr
  d__whole : FuncData
  f__pivot_at : Addr
  d__pivot_at : FuncData
  f__without : Addr
  d__without : FuncData
  f__stairs : Addr
  d__stairs : FuncData
  f_fraction : Addr
  d_fraction : FuncData
  f_minus : Addr
  d_minus : FuncData
  f_times : Addr
  d_times : FuncData
  f_over : Addr
  d_over : FuncData
  f_solve : Addr
  d_solve : FuncData
  f__law_det : Addr
  d__law_det : FuncData
  f__law_is_int : Addr
  d__law_is_int : FuncData
  f__law_ints : Addr
  d__law_ints : FuncData
  f__law_is_tuple : Addr
  d__law_is_tuple : FuncData
  f__law_is_frac : Addr
  d__law_is_frac : FuncData
  f_law : Addr
  d_law : FuncData
structure Txt (K : PySem.W.Frag) (mg : Str → Option Value) (A : Ad) : Prop where
  F__law_draws : Fun K "_law_draws" "_law_draws" s__law_draws A.f__law_draws A.d__law_draws
  B__law_draws : Binds K A.d__law_draws ["cell", "count"] []
  G__law_draws : mg "_law_draws" = some (.ref A.f__law_draws)
  F__law_cell : Fun K "_law_cell" "_law_cell" s__law_cell A.f__law_cell A.d__law_cell
  B__law_cell : Binds K A.d__law_cell ["script", "k"] []
  G__law_cell : mg "_law_cell" = some (.ref A.f__law_cell)
  F__law_divisor : Fun K "_law_divisor" "_law_divisor" s__law_divisor A.f__law_divisor A.d__law_divisor
  B__law_divisor : Binds K A.d__law_divisor ["first", "second"] []
  G__law_divisor : mg "_law_divisor" = some (.ref A.f__law_divisor)
  F__law_frac : Fun K "_law_frac" "_law_frac" s__law_frac A.f__law_frac A.d__law_frac
  B__law_frac : Binds K A.d__law_frac ["numerator", "denominator"] []
  G__law_frac : mg "_law_frac" = some (.ref A.f__law_frac)
  F__law_mul : Fun K "_law_mul" "_law_mul" s__law_mul A.f__law_mul A.d__law_mul
  B__law_mul : Binds K A.d__law_mul ["first", "second"] []
  G__law_mul : mg "_law_mul" = some (.ref A.f__law_mul)
  F__law_add : Fun K "_law_add" "_law_add" s__law_add A.f__law_add A.d__law_add
  B__law_add : Binds K A.d__law_add ["first", "second"] []
  G__law_add : mg "_law_add" = some (.ref A.f__law_add)
  F__lowered : Fun K "_lowered" "_lowered" s__lowered A.f__lowered A.d__lowered
  B__lowered : Binds K A.d__lowered ["row"] []
  G__lowered : mg "_lowered" = some (.ref A.f__lowered)
  F__whole : Fun K "_whole" "_whole" s__whole A.f__whole A.d__whole
  B__whole : Binds K A.d__whole ["row"] []
  G__whole : mg "_whole" = some (.ref A.f__whole)
  F__pivot_at : Fun K "_pivot_at" "_pivot_at" s__pivot_at A.f__pivot_at A.d__pivot_at
  B__pivot_at : Binds K A.d__pivot_at ["rows", "column"] []
  G__pivot_at : mg "_pivot_at" = some (.ref A.f__pivot_at)
  F__without : Fun K "_without" "_without" s__without A.f__without A.d__without
  B__without : Binds K A.d__without ["row", "pivot", "column"] []
  G__without : mg "_without" = some (.ref A.f__without)
  F__stairs : Fun K "_stairs" "_stairs" s__stairs A.f__stairs A.d__stairs
  B__stairs : Binds K A.d__stairs ["rows"] []
  G__stairs : mg "_stairs" = some (.ref A.f__stairs)
  F_fraction : Fun K "fraction" "fraction" s_fraction A.f_fraction A.d_fraction
  B_fraction : Binds K A.d_fraction ["numerator", "denominator"] []
  G_fraction : mg "fraction" = some (.ref A.f_fraction)
  F_minus : Fun K "minus" "minus" s_minus A.f_minus A.d_minus
  B_minus : Binds K A.d_minus ["first", "second"] []
  G_minus : mg "minus" = some (.ref A.f_minus)
  F_times : Fun K "times" "times" s_times A.f_times A.d_times
  B_times : Binds K A.d_times ["first", "second"] []
  G_times : mg "times" = some (.ref A.f_times)
  F_over : Fun K "over" "over" s_over A.f_over A.d_over
  B_over : Binds K A.d_over ["first", "second"] []
  G_over : mg "over" = some (.ref A.f_over)
  F_solve : Fun K "solve" "solve" s_solve A.f_solve A.d_solve
  B_solve : Binds K A.d_solve ["rows"] []
  G_solve : mg "solve" = some (.ref A.f_solve)
  F__law_det : Fun K "_law_det" "_law_det" s__law_det A.f__law_det A.d__law_det
  B__law_det : Binds K A.d__law_det ["rows"] []
  G__law_det : mg "_law_det" = some (.ref A.f__law_det)
  F__law_is_int : Fun K "_law_is_int" "_law_is_int" s__law_is_int A.f__law_is_int A.d__law_is_int
  B__law_is_int : Binds K A.d__law_is_int ["x"] []
  G__law_is_int : mg "_law_is_int" = some (.ref A.f__law_is_int)
  F__law_ints : Fun K "_law_ints" "_law_ints" s__law_ints A.f__law_ints A.d__law_ints
  B__law_ints : Binds K A.d__law_ints ["x", "kind"] []
  G__law_ints : mg "_law_ints" = some (.ref A.f__law_ints)
  F__law_is_tuple : Fun K "_law_is_tuple" "_law_is_tuple" s__law_is_tuple A.f__law_is_tuple A.d__law_is_tuple
  B__law_is_tuple : Binds K A.d__law_is_tuple ["x", "due"] []
  G__law_is_tuple : mg "_law_is_tuple" = some (.ref A.f__law_is_tuple)
  F__law_is_frac : Fun K "_law_is_frac" "_law_is_frac" s__law_is_frac A.f__law_is_frac A.d__law_is_frac
  B__law_is_frac : Binds K A.d__law_is_frac ["x", "due"] []
  G__law_is_frac : mg "_law_is_frac" = some (.ref A.f__law_is_frac)
  F_law : Fun K "law" "law" s_law A.f_law A.d_law
  G_law : mg "law" = some (.ref A.f_law)
  N_abs : mg "abs" = none
  N_bool : mg "bool" = none
  N_enumerate : mg "enumerate" = none
  N_int : mg "int" = none
  N_isinstance : mg "isinstance" = none
  N_len : mg "len" = none
  N_list : mg "list" = none
  N_range : mg "range" = none
  N_reversed : mg "reversed" = none
  N_str : mg "str" = none
  N_tuple : mg "tuple" = none
  N_zip : mg "zip" = none
  Q_gcd : mg "gcd" = some (.builtin "math.gcd")
  Q_lcm : mg "lcm" = some (.builtin "math.lcm")
section
variable {P : Program} {w : World} {K : PySem.W.Frag} {mg : Str → Option Value} {base : Heap}
theorem sc__law_draws : FnScope ["cell", "count", "rows", "left", "k", "mixed"] ["cell", "count"] (defScope s__law_draws) := ⟨rfl, rfl, rfl, by decide +kernel, rfl, by decide +kernel, by decide +kernel⟩
theorem sc__law_cell : FnScope ["script", "k"] ["script", "k"] (defScope s__law_cell) := ⟨rfl, rfl, rfl, by decide +kernel, rfl, by decide +kernel, by decide +kernel⟩
theorem sc__law_divisor : FnScope ["first", "second", "k", "third"] ["first", "second"] (defScope s__law_divisor) := ⟨rfl, rfl, rfl, by decide +kernel, rfl, by decide +kernel, by decide +kernel⟩
theorem sc__law_frac : FnScope ["numerator", "denominator", "shared"] ["numerator", "denominator"] (defScope s__law_frac) := ⟨rfl, rfl, rfl, by decide +kernel, rfl, by decide +kernel, by decide +kernel⟩
theorem sc__law_mul : FnScope ["first", "second"] ["first", "second"] (defScope s__law_mul) := ⟨rfl, rfl, rfl, by decide +kernel, rfl, by decide +kernel, by decide +kernel⟩
theorem sc__law_add : FnScope ["first", "second"] ["first", "second"] (defScope s__law_add) := ⟨rfl, rfl, rfl, by decide +kernel, rfl, by decide +kernel, by decide +kernel⟩
theorem sc__lowered : FnScope ["row", "shared", "number"] ["row"] (defScope s__lowered) := ⟨rfl, rfl, rfl, by decide +kernel, rfl, by decide +kernel, by decide +kernel⟩
theorem sc__whole : FnScope ["row", "shared", "_", "denominator", "numerator"] ["row"] (defScope s__whole) := ⟨rfl, rfl, rfl, by decide +kernel, rfl, by decide +kernel, by decide +kernel⟩
theorem sc__pivot_at : FnScope ["rows", "column", "index", "row"] ["rows", "column"] (defScope s__pivot_at) := ⟨rfl, rfl, rfl, by decide +kernel, rfl, by decide +kernel, by decide +kernel⟩
theorem sc__without : FnScope ["row", "pivot", "column", "shared", "keep", "take", "here", "there"] ["row", "pivot", "column"] (defScope s__without) := ⟨rfl, rfl, rfl, by decide +kernel, rfl, by decide +kernel, by decide +kernel⟩
theorem sc__stairs : FnScope ["rows", "waiting", "found", "column", "index", "pivot", "row"] ["rows"] (defScope s__stairs) := ⟨rfl, rfl, rfl, by decide +kernel, rfl, by decide +kernel, by decide +kernel⟩
theorem sc_fraction : FnScope ["numerator", "denominator", "shared"] ["numerator", "denominator"] (defScope s_fraction) := ⟨rfl, rfl, rfl, by decide +kernel, rfl, by decide +kernel, by decide +kernel⟩
theorem sc_minus : FnScope ["first", "second"] ["first", "second"] (defScope s_minus) := ⟨rfl, rfl, rfl, by decide +kernel, rfl, by decide +kernel, by decide +kernel⟩
theorem sc_times : FnScope ["first", "second"] ["first", "second"] (defScope s_times) := ⟨rfl, rfl, rfl, by decide +kernel, rfl, by decide +kernel, by decide +kernel⟩
theorem sc_over : FnScope ["first", "second"] ["first", "second"] (defScope s_over) := ⟨rfl, rfl, rfl, by decide +kernel, rfl, by decide +kernel, by decide +kernel⟩
theorem sc_solve : FnScope ["rows", "stairs", "solution", "column", "row", "left", "behind"] ["rows"] (defScope s_solve) := ⟨rfl, rfl, rfl, by decide +kernel, rfl, by decide +kernel, by decide +kernel⟩
theorem sc__law_det : FnScope ["rows", "total", "k", "minor", "part", "row"] ["rows"] (defScope s__law_det) := ⟨rfl, rfl, rfl, by decide +kernel, rfl, by decide +kernel, by decide +kernel⟩
theorem sc__law_is_int : FnScope ["x"] ["x"] (defScope s__law_is_int) := ⟨rfl, rfl, rfl, by decide +kernel, rfl, by decide +kernel, by decide +kernel⟩
theorem sc__law_ints : FnScope ["x", "kind", "k"] ["x", "kind"] (defScope s__law_ints) := ⟨rfl, rfl, rfl, by decide +kernel, rfl, by decide +kernel, by decide +kernel⟩
theorem sc__law_is_tuple : FnScope ["x", "due"] ["x", "due"] (defScope s__law_is_tuple) := ⟨rfl, rfl, rfl, by decide +kernel, rfl, by decide +kernel, by decide +kernel⟩
theorem sc__law_is_frac : FnScope ["x", "due"] ["x", "due"] (defScope s__law_is_frac) := ⟨rfl, rfl, rfl, by decide +kernel, rfl, by decide +kernel, by decide +kernel⟩
theorem sc_law : FnScope ["script", "draws", "count", "rows", "k", "row", "known", "handed", "right", "found", "j", "factor"] ["script"] (defScope s_law) := ⟨rfl, rfl, rfl, by decide +kernel, rfl, by decide +kernel, by decide +kernel⟩
end
local macro_rules | `(tactic| walk_at "hp") => `(tactic| ((try dsimp only); repeat (first | exact upd_same | assumption | (rw [upd_ne] <;> first | (show _ ≠ _; first | assumption | exact Ne.symm (by assumption)) | skip))))
local macro_rules | `(tactic| walk_at "sm") => `(tactic| first | with_reducible assumption | (with_reducible refine Vf.sm_num ?_; first | with_reducible assumption | decide +kernel) | (with_reducible refine Vf.sm_lit ?_; decide +kernel))
local macro_rules | `(tactic| walk_at "fit") => `(tactic| first | (with_reducible refine Vf.fit1 ?_ <;> walk_at "sm") | (with_reducible refine Vf.fit2 ?_ ?_ <;> walk_at "sm") | (with_reducible refine Vf.fit3 ?_ ?_ ?_ <;> walk_at "sm") | (with_reducible refine Vf.fit4 ?_ ?_ ?_ ?_ <;> walk_at "sm") | (with_reducible refine Vf.fit5 ?_ ?_ ?_ ?_ ?_ <;> walk_at "sm") | (with_reducible refine Vf.fit6 ?_ ?_ ?_ ?_ ?_ ?_ <;> walk_at "sm") | (with_reducible refine Vf.fit7 ?_ ?_ ?_ ?_ ?_ ?_ ?_ <;> walk_at "sm") | (with_reducible refine Vf.fit8 ?_ ?_ ?_ ?_ ?_ ?_ ?_ ?_ <;> walk_at "sm") | (with_reducible refine Vf.fit9 ?_ ?_ ?_ ?_ ?_ ?_ ?_ ?_ ?_ <;> walk_at "sm") | (with_reducible refine Vf.fit10 ?_ ?_ ?_ ?_ ?_ ?_ ?_ ?_ ?_ ?_ <;> walk_at "sm"))
def sp__law_draws (K : PySem.W.Frag) (A : Ad) : Sp := fun vs H Q _ => ∃ (cell count : Int), vs = [.int cell, .int count] ∧ 0 ≤ count ∧ count ≤ 10000 ∧ Vf.NewInts H Q fun ds => (ds.length : Int) = count ∧ ∀ d ∈ ds, 0 ≤ d ∧ d < 4096
theorem len__law_draws {K : PySem.W.Frag} {A : Ad} (vs : List V) (H : Hp) (Q : VK) (E : XK) (h : sp__law_draws K A vs H Q E) : vs.length = ["cell", "count"].length := by
  obtain ⟨a, b, rfl, _⟩ := h
  rfl

section
variable {P : Program} {w : World} {K : PySem.W.Frag} {mg : Str → Option Value} {base : Heap}
set_option maxHeartbeats 4000000 in
theorem ok__law_draws {A : Ad} (T : Txt K mg A) : FnOk P w K mg base CX0 1 A.f__law_draws A.d__law_draws ["cell", "count"] (sp__law_draws K A) := by
  refine T.F__law_draws.ok sc__law_draws len__law_draws (fun cdv Ar outer s H vs Q E hr h => ?_)
  have hu := hu_of hr
  obtain ⟨cell, count, rfl, h0, h1, q⟩ := h
  refine ⟨_, (pss_cons (ps_set (i := 2) sc__law_draws.nd rfl (Or.inl rfl) (pe_lst pa_nil))
      (pss_cons (ps_set (i := 3) sc__law_draws.nd rfl (Or.inl rfl) (pv 0))
      (pss_cons (ps_for PassesOwn.never rfl (pi_range1 rfl T.N_range (pa_cons (pv 1) pa_nil)) (pg_name (i := 4) sc__law_draws.nd rfl (Or.inl rfl))
        (pss_one (ps_if (PW.pt (pw_and (pt_cmpR op_ge (pv 0) (pe_op op_pow pe_int pe_int) (nomark _)) (pw_and1 (pt_cmpR op_gt (pv 3) pe_int (nomark _))))) (pss_cons (ps_expr (pe_bm PySem.F.plainAttrs_list PySem.F.slot_list_append PySem.F.type_list_append mt_append (pv 2) (pa_cons (pe_op op_mod (pe_callTy call_int1 (by rfl) T.N_int (by decide +kernel) (pa_cons (pv 3) pa_nil)) pe_int) pa_nil)))
      (pss_one (ps_set (i := 3) sc__law_draws.nd rfl (Or.inl rfl) (pe_op op_fdiv (pv 3) pe_int)))) (pss_cons (ps_set (i := 5) sc__law_draws.nd rfl (Or.inl rfl) (pe_op op_mod (pe_callTy call_int1 (by rfl) T.N_int (by decide +kernel) (pa_cons (pe_op op_add (pe_op op_mul (pv 0) pe_int) (pe_op op_mul (pe_op op_add (pv 4) pe_int) pe_int)) pa_nil)) pe_int))
      (pss_cons (ps_set (i := 5) sc__law_draws.nd rfl (Or.inl rfl) (pe_op op_mod (pe_callTy call_int1 (by rfl) T.N_int (by decide +kernel) (pa_cons (pe_op op_add (pe_op op_add (pe_op op_mul (pv 5) (pv 5)) (pe_op op_mul (pv 5) pe_int)) (pe_op op_mul (pv 4) pe_int)) pa_nil)) pe_int))
      (pss_cons (ps_set (i := 5) sc__law_draws.nd rfl (Or.inl rfl) (pe_op op_mod (pe_callTy call_int1 (by rfl) T.N_int (by decide +kernel) (pa_cons (pe_op op_add (pe_op op_add (pe_op op_mul (pv 5) (pv 5)) (pv 0)) (pe_op op_mul pe_int (pv 4))) pa_nil)) pe_int))
      (pss_one (ps_expr (pe_bm PySem.F.plainAttrs_list PySem.F.slot_list_append PySem.F.type_list_append mt_append (pv 2) (pa_cons (pe_op op_mod (pe_op op_fdiv (pv 5) pe_int) pe_int) pa_nil))))))))))
      (pss_one (ps_ret (pv 2)))))), ?_⟩
  refine ⟨(by show 0 ≤ sizeLine; decide), fun p hp => ?_⟩
  refine ⟨_, rfl, _, rfl, count, rfl, by omega, by omega, for_range (lo := 0) (n := count.toNat) (fun i σ H' => ∃ (ds : List Int) (left : Int) (k m : Option V), σ = [some (.int cell), some (.int count), some (.ref p), some (.int left), k, m] ∧ Same H H' ∧ H' p = some (.lst (ds.map V.int)) ∧ ds.length = i ∧ ∀ d ∈ ds, 0 ≤ d ∧ d < 4096) ?_ ?_ ?_⟩
  · exact ⟨[], cell, none, none, rfl, Vf.Same.new (Same.refl H) hp, upd_same, rfl, fun d hd => nomatch hd⟩
  · rintro i σ H' hi ⟨ds, left, k, m, rfl, s1, hl, rfl, hr1⟩
    -- the word again, with one more
    have fin : ∀ (z left' : Int) (m' : Option V), 0 ≤ z → z < 4096 → ∃ (ds' : List Int) (l' : Int) (k' m'' : Option V), [some (V.int cell), some (.int count), some (.ref p), some (.int left'), some (.int (0 + (ds.length : Int))), m'] = [some (.int cell), some (.int count), some (.ref p), some (.int l'), k', m''] ∧
        Same H (upd H' p (.lst (ds.map V.int ++ [V.int z]))) ∧ (upd H' p (.lst (ds.map V.int ++ [V.int z]))) p = some (.lst (ds'.map V.int)) ∧ ds'.length = ds.length + 1 ∧ ∀ d ∈ ds', 0 ≤ d ∧ d < 4096 := by
      intro z left' m' z0 z1
      refine ⟨ds ++ [z], left', _, m', rfl, Vf.Same.chg s1 hp, by rw [upd_same, List.map_append]; rfl, by simp, fun d hd => ?_⟩
      rcases List.mem_append.mp hd with hd | hd
      · exact hr1 d hd
      · obtain rfl : d = z := by simpa using hd
        exact ⟨z0, z1⟩
    have big : (ds.map V.int).length < sizeLine := by rw [List.length_map]; exact Nat.lt_of_lt_of_le (show ds.length < 10000 by omega) (by decide)
    refine Vf.st_if (b := decide ((10 : Int) ^ (18 : Int).toNat ≤ cell) && decide ((0 : Int) < left)) (ans_and2 (fun Q q => ⟨_, rfl, _, _, rfl, rfl, ⟨by decide, by decide, by decide⟩, _, _, rfl, rfl, _, rfl, q⟩) (fun Q q => ⟨_, rfl, _, _, rfl, rfl, _, rfl, q⟩)) (fun hb => ?_) (fun hb => ?_)
    · refine ⟨_, rfl, .inl ⟨rfl, _, SqL.of hl⟩, _, rfl, .inl ⟨_, rfl, _, _, rfl, rfl, (by show (0 : Int) < 4096; decide), p, _, _, rfl, rfl, hl, big, ?_⟩⟩
      refine ⟨_, rfl, _, _, rfl, rfl, ⟨by decide, by decide⟩, ?_⟩
      exact fin _ _ _ (Int.emod_nonneg _ (by decide)) (Int.emod_lt_of_pos _ (by decide))
    · refine ⟨_, rfl, _, _, rfl, rfl, .inr ⟨by decide, by decide⟩, _, rfl, _, _, rfl, rfl, _, _, rfl, rfl, .inr ⟨by decide, by decide⟩, _, _, rfl, rfl, .inl ⟨_, rfl, _, _, rfl, rfl, (by show (0 : Int) < 2147483647; decide), ?_⟩⟩
      refine ⟨_, rfl, _, rfl, _, _, rfl, rfl, .inl (Vf.mod_w (by decide) (by decide)), _, rfl, _, _, rfl, rfl, .inl (Vf.mod_w (by decide) (by decide)), _, _, rfl, rfl, _, rfl, _, _, rfl, rfl, .inr ⟨by decide, by decide⟩, _, _, rfl, rfl, .inl ⟨_, rfl, _, _, rfl, rfl, (by show (0 : Int) < 2147483629; decide), ?_⟩⟩
      refine ⟨_, rfl, _, rfl, _, _, rfl, rfl, .inl (Vf.mod_w (by decide) (by decide)), _, rfl, _, _, rfl, rfl, _, rfl, _, _, rfl, rfl, .inl ⟨by decide, by decide⟩, _, _, rfl, rfl, .inl ⟨_, rfl, _, _, rfl, rfl, (by show (0 : Int) < 2147483587; decide), ?_⟩⟩
      refine ⟨_, rfl, .inl ⟨rfl, _, SqL.of hl⟩, _, rfl, _, _, rfl, rfl, ⟨by decide, by decide⟩, _, _, rfl, rfl, (by show (0 : Int) < 4096; decide), p, _, _, rfl, rfl, hl, big, ?_⟩
      exact fin _ _ _ (Int.emod_nonneg _ (by decide)) (Int.emod_lt_of_pos _ (by decide))
  · rintro σ H' ⟨ds, left, k, m, rfl, s1, hl, hn, hr1⟩
    exact ⟨_, rfl, q p H' ds hp s1 hl ⟨by omega, hr1⟩⟩
end

def sp__law_cell (K : PySem.W.Frag) (A : Ad) : Sp := fun vs H Q _ => ∃ (a : Addr) (ns : List Int) (k : Int), vs = [.ref a, .int k] ∧ SqL K H a (ns.map V.int) ∧ 0 ≤ k ∧ Q (.int (ns.getD k.toNat 0)) H
theorem len__law_cell {K : PySem.W.Frag} {A : Ad} (vs : List V) (H : Hp) (Q : VK) (E : XK) (h : sp__law_cell K A vs H Q E) : vs.length = ["script", "k"].length := by
  obtain ⟨a, ns, k, rfl, _⟩ := h
  rfl

section
variable {P : Program} {w : World} {K : PySem.W.Frag} {mg : Str → Option Value} {base : Heap}
set_option maxHeartbeats 4000000 in
theorem ok__law_cell {A : Ad} (T : Txt K mg A) : FnOk P w K mg base CX0 1 A.f__law_cell A.d__law_cell ["script", "k"] (sp__law_cell K A) := by
  refine T.F__law_cell.ok sc__law_cell len__law_cell (fun cdv Ar outer s H vs Q E hr h => ?_)
  have hu := hu_of hr
  obtain ⟨a, ns, k, rfl, hS, h0, q⟩ := h
  refine ⟨_, (pss_cons (ps_if (pt_cmpR op_lt (pv 1) (pe_callB call_len_seq (by rfl) T.N_len PySem.boot_len (pa_cons (pv 0) pa_nil)) (nomark _)) (pss_one (ps_ret (pe_ix ix_list (pv 0) (pv 1) (fun _ _ => rfl)))) pss_nil)
      (pss_one (ps_ret pe_int))), ?_⟩
  refine ⟨_, rfl, _, rfl, a, _, rfl, .inl hS, _, _, rfl, rfl, _, rfl, ?_⟩
  refine Vf.ite_d (fun h1 => ?_) (fun h1 => ?_)
  · rw [List.length_map] at h1
    exact ⟨_, rfl, _, rfl, a, _, _, _, rfl, rfl, hS, Vf.int_at h0 h1, q⟩
  · rw [List.length_map] at h1
    have e : ns.getD k.toNat 0 = 0 := by
      rw [List.getD_eq_getElem?_getD, List.getElem?_eq_none (by omega)]
      rfl
    rw [e] at q
    exact q
end

def sp__law_divisor (K : PySem.W.Frag) (A : Ad) : Sp := fun vs H Q _ => ∃ (x y : Int), vs = [.int x, .int y] ∧ Vf.Bt 199 y ∧ Q (.int ((Nat.gcd x.natAbs y.natAbs : Nat) : Int)) H
theorem len__law_divisor {K : PySem.W.Frag} {A : Ad} (vs : List V) (H : Hp) (Q : VK) (E : XK) (h : sp__law_divisor K A vs H Q E) : vs.length = ["first", "second"].length := by
  obtain ⟨x, y, rfl, _⟩ := h
  rfl

section
variable {P : Program} {w : World} {K : PySem.W.Frag} {mg : Str → Option Value} {base : Heap}
set_option maxHeartbeats 4000000 in
theorem ok__law_divisor {A : Ad} (T : Txt K mg A) : FnOk P w K mg base CX0 1 A.f__law_divisor A.d__law_divisor ["first", "second"] (sp__law_divisor K A) := by
  refine T.F__law_divisor.ok sc__law_divisor len__law_divisor (fun cdv Ar outer s H vs Q E hr h => ?_)
  have hu := hu_of hr
  obtain ⟨x, y, rfl, yb, q⟩ := h
  refine ⟨_, (pss_cons (ps_set (i := 0) sc__law_divisor.nd rfl (Or.inl rfl) (pe_callB call_abs (by rfl) T.N_abs (by decide +kernel) (pa_cons (pv 0) pa_nil)))
      (pss_cons (ps_set (i := 1) sc__law_divisor.nd rfl (Or.inl rfl) (pe_callB call_abs (by rfl) T.N_abs (by decide +kernel) (pa_cons (pv 1) pa_nil)))
      (pss_cons (ps_for PassesOwn.never rfl (pi_range1 rfl T.N_range (pa_cons pe_int pa_nil)) (pg_name (i := 2) sc__law_divisor.nd rfl (Or.inl rfl))
        (pss_cons (ps_if (pt_cmpR op_eq (pv 1) pe_int (nomark _)) (pss_one ps_break) pss_nil)
      (pss_cons (ps_set (i := 3) sc__law_divisor.nd rfl (Or.inl rfl) (pe_op op_mod (pe_callTy call_int1 (by rfl) T.N_int (by decide +kernel) (pa_cons (pv 0) pa_nil)) (pv 1)))
      (pss_cons (ps_set (i := 0) sc__law_divisor.nd rfl (Or.inl rfl) (pv 1))
      (pss_one (ps_set (i := 1) sc__law_divisor.nd rfl (Or.inl rfl) (pv 3)))))))
      (pss_one (ps_ret (pv 0)))))), ?_⟩
  have ab : ∀ z : Int, V.int (if z < 0 then -z else z) = V.int (z.natAbs : Int) := fun z => by
    congr 1
    split <;> omega
  refine ⟨_, rfl, x, rfl, ?_⟩
  rw [ab x]
  refine ⟨_, rfl, y, rfl, ?_⟩
  rw [ab y]
  refine ⟨400, rfl, by decide, by decide, for_range (lo := 0) (n := ((400 : Int)).toNat) (fun k σ H' => H' = H ∧ ∃ (f s : Nat) (v2 v3 : Option V), σ = [some (.int (f : Int)), some (.int (s : Int)), v2, v3] ∧ Vf.GcInv (Nat.gcd x.natAbs y.natAbs) 199 k f s) ⟨rfl, _, _, _, _, rfl, rfl, .inl ⟨rfl, yb⟩⟩ ?_ ?_⟩
  · rintro k σ H' hk ⟨rfl, f, s, v2, v3, rfl, inv⟩
    refine ⟨_, rfl, rfl, _, rfl, Vf.ite_d (fun c => ?_) (fun c => ?_)⟩
    · have s0 : s = 0 := by have := V.int.inj c; omega
      have fg : f = Nat.gcd x.natAbs y.natAbs := by
        have := inv.1
        rw [s0, Nat.gcd_zero_right] at this
        exact this
      rw [← fg] at q
      exact ⟨_, rfl, q⟩
    · have s0 : 0 < s := by
        rcases Nat.eq_zero_or_pos s with e | e
        · exact absurd (by rw [e]; rfl) c
        · exact e
      refine ⟨_, rfl, .inl ⟨_, rfl, _, rfl, _, _, rfl, rfl, (by show (0 : Int) < (s : Int); omega), ?_⟩⟩
      exact ⟨_, rfl, _, rfl, rfl, s, f % s, _, _, rfl, inv.step s0⟩
  rintro σ H' ⟨rfl, f, s, v2, v3, rfl, inv⟩
  have s0 := Vf.GcInv.last inv (by decide)
  have fg : f = Nat.gcd x.natAbs y.natAbs := by
    have := inv.1
    rw [s0, Nat.gcd_zero_right] at this
    exact this
  rw [← fg] at q
  exact ⟨_, rfl, q⟩
end

def sp__law_frac (K : PySem.W.Frag) (A : Ad) : Sp := fun vs H Q _ => ∃ (n d : Int), vs = [.int n, .int d] ∧ d ≠ 0 ∧ Vf.Bt 199 d ∧ ∀ (t : Addr) (H' : Hp), H t = none → Same H H' → H' t = some (.tup (Vf.pFr (Vf.fr n d))) → Q (.ref t) H'
theorem len__law_frac {K : PySem.W.Frag} {A : Ad} (vs : List V) (H : Hp) (Q : VK) (E : XK) (h : sp__law_frac K A vs H Q E) : vs.length = ["numerator", "denominator"].length := by
  obtain ⟨a, b, rfl, _⟩ := h
  rfl

section
variable {P : Program} {w : World} {K : PySem.W.Frag} {mg : Str → Option Value} {base : Heap}
set_option maxHeartbeats 4000000 in
theorem ok__law_frac {A : Ad} (T : Txt K mg A) : FnOk P w K mg base CX0 2 A.f__law_frac A.d__law_frac ["numerator", "denominator"] (sp__law_frac K A) := by
  have G__law_divisor := ok__law_divisor (P := P) (w := w) (base := base) T
  refine T.F__law_frac.ok sc__law_frac len__law_frac (fun cdv Ar outer s H vs Q E hr h => ?_)
  have hu := hu_of hr
  obtain ⟨n, d, rfl, d0, bd, q⟩ := h
  refine ⟨_, (pss_cons (ps_set (i := 2) sc__law_frac.nd rfl (Or.inl rfl) (pe_call G__law_divisor hr (by rfl) T.G__law_divisor T.F__law_divisor.kp T.B__law_divisor .nil pass0 (pa_cons (pv 0) (pa_cons (pv 1) pa_nil))))
      (pss_cons (ps_if (pt_cmpR op_lt (pv 1) pe_int (nomark _)) (pss_one (ps_set (i := 2) sc__law_frac.nd rfl (Or.inl rfl) (pe_un un_neg (pv 2)))) pss_nil)
      (pss_one (ps_ret (pe_tup (pa_cons (pe_op Vf.op_fdivWN (pv 0) (pv 2)) (pa_cons (pe_op Vf.op_fdivWN (pv 1) (pv 2)) pa_nil))))))), ?_⟩
  obtain ⟨x, y, s0, sl, _⟩ := Vf.fr_ex (n := n) d0
  have lg := (bd.le sl).log (by decide) (by decide)
  refine ⟨_, rfl, _, rfl, n, d, rfl, bd, ?_⟩
  dsimp only [gName]
  refine Vf.seq_join (fun σ' H' => σ' = [some (.int n), some (.int d), some (.int (Vf.shOf n d))] ∧ H' = H) (fun nx hn => ?_) ?_
  · refine ⟨_, rfl, _, _, rfl, rfl, _, rfl, Vf.ite_d (fun c => ?_) (fun c => ?_)⟩
    · refine ⟨_, rfl, _, rfl, hn _ _ ⟨?_, rfl⟩⟩
      unfold Vf.shOf
      rw [if_pos c]
      rfl
    · refine hn _ _ ⟨?_, rfl⟩
      unfold Vf.shOf
      rw [if_neg c]
      rfl
  rintro _ H9 ⟨rfl, rfl⟩
  refine ⟨_, rfl, _, rfl, _, _, rfl, rfl, ⟨s0, lg⟩, _, rfl, _, rfl, _, _, rfl, rfl, ⟨s0, lg⟩, (by show 2 ≤ sizeLine; decide), fun t nt => ?_⟩
  exact q t _ nt (Vf.Same.new (Same.refl _) nt) upd_same
end

def sp__law_mul (K : PySem.W.Frag) (A : Ad) : Sp := fun vs H Q _ => ∃ (a b : Addr) (p r : Int × Int), vs = [.ref a, .ref b] ∧ SqT K H a (Vf.pFr p) ∧ SqT K H b (Vf.pFr r) ∧ p.1.natAbs ≤ 1000000000 ∧ 0 < p.2 ∧ p.2 ≤ 1000000000 ∧ 0 < r.2 ∧ r.2 ≤ 1000000000 ∧ ∀ (t : Addr) (H' : Hp), H t = none → Same H H' → H' t = some (.tup (Vf.pFr (Vf.fr (p.1 * r.1) (p.2 * r.2)))) → Q (.ref t) H'
theorem len__law_mul {K : PySem.W.Frag} {A : Ad} (vs : List V) (H : Hp) (Q : VK) (E : XK) (h : sp__law_mul K A vs H Q E) : vs.length = ["first", "second"].length := by
  obtain ⟨a, b, c, d, rfl, _⟩ := h
  rfl

section
variable {P : Program} {w : World} {K : PySem.W.Frag} {mg : Str → Option Value} {base : Heap}
set_option maxHeartbeats 4000000 in
theorem ok__law_mul {A : Ad} (T : Txt K mg A) : FnOk P w K mg base CX0 3 A.f__law_mul A.d__law_mul ["first", "second"] (sp__law_mul K A) := by
  have G__law_frac := ok__law_frac (P := P) (w := w) (base := base) T
  refine T.F__law_mul.ok sc__law_mul len__law_mul (fun cdv Ar outer s H vs Q E hr h => ?_)
  have hu := hu_of hr
  obtain ⟨a, b, p, r, rfl, ha, hb, pn, p0, p1, r0, r1, q⟩ := h
  refine ⟨_, (pss_one (ps_ret (pe_call G__law_frac hr (by rfl) T.G__law_frac T.F__law_frac.kp T.B__law_frac .nil pass0 (pa_cons (pe_op op_mul (pe_ix ix_tup (pv 0) pe_int (fun _ _ => rfl)) (pe_ix ix_tup (pv 1) pe_int (fun _ _ => rfl))) (pa_cons (pe_op op_mul (pe_ix ix_tup (pv 0) pe_int (fun _ _ => rfl)) (pe_ix ix_tup (pv 1) pe_int (fun _ _ => rfl))) pa_nil))))), ?_⟩
  have bd : Vf.Bt 199 (p.2 * r.2) := by
    have b1 : Vf.Bt 30 p.2 := by unfold Vf.Bt; omega
    have b2 : Vf.Bt 30 r.2 := by unfold Vf.Bt; omega
    exact (b1.mul b2).mono (by decide)
  refine ⟨_, rfl, a, _, 0, _, rfl, rfl, ha, atI_nat (j := 0) rfl, _, rfl, b, _, 0, _, rfl, rfl, hb, atI_nat (j := 0) rfl, _, _, rfl, rfl, .inl ⟨by omega, by omega⟩, ?_⟩
  refine ⟨_, rfl, a, _, 1, _, rfl, rfl, ha, atI_nat (j := 1) rfl, _, rfl, b, _, 1, _, rfl, rfl, hb, atI_nat (j := 1) rfl, _, _, rfl, rfl, .inl ⟨by omega, by omega⟩, ?_⟩
  exact ⟨_, _, rfl, Int.ne_of_gt (Int.mul_pos p0 r0), bd, q⟩
end

def sp__law_add (K : PySem.W.Frag) (A : Ad) : Sp := fun vs H Q _ => ∃ (a b : Addr) (p r : Int × Int), vs = [.ref a, .ref b] ∧ SqT K H a (Vf.pFr p) ∧ SqT K H b (Vf.pFr r) ∧ 0 < p.2 ∧ p.2 ≤ 1000000000 ∧ 0 < r.2 ∧ r.2 ≤ 1000000000 ∧ ∀ (t : Addr) (H' : Hp), H t = none → Same H H' → H' t = some (.tup (Vf.pFr (Vf.fr (p.1 * r.2 + r.1 * p.2) (p.2 * r.2)))) → Q (.ref t) H'
theorem len__law_add {K : PySem.W.Frag} {A : Ad} (vs : List V) (H : Hp) (Q : VK) (E : XK) (h : sp__law_add K A vs H Q E) : vs.length = ["first", "second"].length := by
  obtain ⟨a, b, c, d, rfl, _⟩ := h
  rfl

section
variable {P : Program} {w : World} {K : PySem.W.Frag} {mg : Str → Option Value} {base : Heap}
set_option maxHeartbeats 4000000 in
theorem ok__law_add {A : Ad} (T : Txt K mg A) : FnOk P w K mg base CX0 3 A.f__law_add A.d__law_add ["first", "second"] (sp__law_add K A) := by
  have G__law_frac := ok__law_frac (P := P) (w := w) (base := base) T
  refine T.F__law_add.ok sc__law_add len__law_add (fun cdv Ar outer s H vs Q E hr h => ?_)
  have hu := hu_of hr
  obtain ⟨a, b, p, r, rfl, ha, hb, p0, p1, r0, r1, q⟩ := h
  refine ⟨_, (pss_one (ps_ret (pe_call G__law_frac hr (by rfl) T.G__law_frac T.F__law_frac.kp T.B__law_frac .nil pass0 (pa_cons (pe_op op_add (pe_op op_mul (pe_ix ix_tup (pv 0) pe_int (fun _ _ => rfl)) (pe_ix ix_tup (pv 1) pe_int (fun _ _ => rfl))) (pe_op op_mul (pe_ix ix_tup (pv 1) pe_int (fun _ _ => rfl)) (pe_ix ix_tup (pv 0) pe_int (fun _ _ => rfl)))) (pa_cons (pe_op op_mul (pe_ix ix_tup (pv 0) pe_int (fun _ _ => rfl)) (pe_ix ix_tup (pv 1) pe_int (fun _ _ => rfl))) pa_nil))))), ?_⟩
  have bd : Vf.Bt 199 (p.2 * r.2) := by
    have b1 : Vf.Bt 30 p.2 := by unfold Vf.Bt; omega
    have b2 : Vf.Bt 30 r.2 := by unfold Vf.Bt; omega
    exact (b1.mul b2).mono (by decide)
  refine ⟨_, rfl, a, _, 0, _, rfl, rfl, ha, atI_nat (j := 0) rfl, _, rfl, b, _, 1, _, rfl, rfl, hb, atI_nat (j := 1) rfl, _, _, rfl, rfl, .inr ⟨by omega, by omega⟩, ?_⟩
  refine ⟨_, rfl, b, _, 0, _, rfl, rfl, hb, atI_nat (j := 0) rfl, _, rfl, a, _, 1, _, rfl, rfl, ha, atI_nat (j := 1) rfl, _, _, rfl, rfl, .inr ⟨by omega, by omega⟩, _, _, rfl, rfl, ?_⟩
  refine ⟨_, rfl, a, _, 1, _, rfl, rfl, ha, atI_nat (j := 1) rfl, _, rfl, b, _, 1, _, rfl, rfl, hb, atI_nat (j := 1) rfl, _, _, rfl, rfl, .inr ⟨by omega, by omega⟩, ?_⟩
  exact ⟨_, _, rfl, Int.ne_of_gt (Int.mul_pos p0 r0), bd, q⟩
end

def sp__lowered (K : PySem.W.Frag) (A : Ad) : Sp := fun vs H Q _ => ∃ (l : Addr) (ns : List Int), vs = [.ref l] ∧ H l = some (.lst (ns.map V.int)) ∧ ns.length ≤ 100 ∧ (∀ i : Nat, (ns.getD i 0).natAbs < 2 ^ 1000) ∧ ∀ (m : Addr) (ms : List Int) (H' : Hp), Same H H' → H' m = some (.lst (ms.map V.int)) → (m = l ∨ H m = none) → Vf.RedOk ns ms → Q (.ref m) H'
theorem len__lowered {K : PySem.W.Frag} {A : Ad} (vs : List V) (H : Hp) (Q : VK) (E : XK) (h : sp__lowered K A vs H Q E) : vs.length = ["row"].length := by
  obtain ⟨a, b, rfl, _⟩ := h
  rfl

section
variable {P : Program} {w : World} {K : PySem.W.Frag} {mg : Str → Option Value} {base : Heap}
set_option maxHeartbeats 4000000 in
theorem ok__lowered {A : Ad} (T : Txt K mg A) : FnOk P w K mg base CX0 1 A.f__lowered A.d__lowered ["row"] (sp__lowered K A) := by
  refine T.F__lowered.ok sc__lowered len__lowered (fun cdv Ar outer s H vs Q E hr h => ?_)
  have hu := hu_of hr
  obtain ⟨l, ns, rfl, hl, n1, nb, q⟩ := h
  refine ⟨_, (pss_cons (ps_set (i := 1) sc__lowered.nd rfl (Or.inr rfl) pe_int)
      (pss_cons (ps_for PassesOwn.never rfl (pi_list (pv 0)) (pg_name (i := 2) sc__lowered.nd rfl (Or.inl rfl))
        (pss_cons (ps_set (i := 1) sc__lowered.nd rfl (Or.inr rfl) (pe_callBfun cr_gcd (by rfl) T.Q_gcd (pa_cons (pv 1) (pa_cons (pv 2) pa_nil))))
      (pss_one (ps_if (pt_cmpR op_eq (pv 1) pe_int (nomark _)) (pss_one (ps_ret (pv 0))) pss_nil))))
      (pss_one (ps_ret (pe_ifExp (pt_truth (pv 1) (by intro _; rfl)) (pe_lc (own := [("number", 2)]) (g := (gName 2)) (tt := tYes) rfl sc__lowered.nd (pi_list (pv 0)) (blkOk_by (N := ["row", "shared", "number"]) (sc := defScope s__lowered) (by decide +kernel)) (fun _ _ _ _ _ => (pg_name (i := 2) sc__lowered.nd rfl (Or.inl rfl))) (fun _ _ _ _ _ => pts_nil) (fun _ _ _ _ _ => (pe_op Vf.op_fdivWN (pv 2) (pv 1)))) (pv 0)))))), ?_⟩
  refine ⟨_, rfl, l, rfl, ⟨_, SqL.of hl⟩, ?_⟩
  refine for_list (K := K) (a := l) (xs := ns.map V.int) (fun i σ H' => (∃ v2 : Option V, σ = [some (.ref l), some (.int (Vf.gcdR (ns.take i) : Nat)), v2]) ∧ H' = H) ⟨⟨_, rfl⟩, rfl⟩ (fun i σ H' _ h => by rw [h.2]; exact SqL.of hl) ?_ ?_
  · rintro i x σ H1 hx ⟨⟨v2, rfl⟩, rfl⟩
    obtain ⟨y, hy, rfl⟩ := Vf.map_get hx
    have et : Vf.gcdR (ns.take (i + 1)) = Int.gcd (Vf.gcdR (ns.take i) : Int) y := by
      rw [Vf.take_snoc hy]
      exact Vf.gcdR_snoc _ _
    dsimp only [gName]
    refine ⟨_, rfl, _, rfl, _, _, rfl, ?_⟩
    rw [show Nat.gcd ((Vf.gcdR (ns.take i) : Nat) : Int).natAbs y.natAbs = Vf.gcdR (ns.take (i + 1)) from et.symm]
    dsimp only [gName]
    refine ⟨_, rfl, rfl, _, rfl, Vf.ite_d (fun _ => ?_) fun _ => ⟨⟨_, rfl⟩, rfl⟩⟩
    exact ⟨_, rfl, q l ns H1 (Same.refl H1) hl (.inl rfl) (Vf.RedOk.self ns)⟩
  rintro σ H1 ⟨⟨v2, rfl⟩, rfl⟩
  rw [List.length_map, List.take_length]
  dsimp only
  refine ⟨_, rfl, _, rfl, Vf.ite_b (fun c => ?_) fun c => ?_⟩
  rotate_left
  · exact ⟨_, rfl, q l ns H1 (Same.refl H1) hl (.inl rfl) (Vf.RedOk.self ns)⟩
  have g0 : 0 < Vf.gcdR ns := Nat.pos_of_ne_zero fun e => by rw [e] at c; simp at c
  have gb : Vf.gcdR ns < 2 ^ 1000 := Vf.gcdR_lt g0 nb
  have cd : ∀ x : Int, Vf.CDivWN x (Vf.gcdR ns : Nat) := fun _ => Vf.cdiv_ok (b := 1000) (by omega) (by decide) (by rw [Int.natAbs_natCast]; exact gb)
  refine ⟨_, rfl, l, rfl, ⟨_, SqL.of hl⟩, fun C nC => Vf.lc_val (walk_list (K := K) (a := l) (xs := ns.map V.int)) (fun i => .int ((ns.map fun x => x.fdiv (Vf.gcdR ns : Int)).getD i 0)) nC (by rw [List.length_map]; omega) (fun H' s => SqL.of (s _ _ hl)) ?_ ?_⟩
  · rintro i x Ha Hb hi sa ⟨rfl, hx⟩ Q' q'
    obtain ⟨y, hy, rfl⟩ := Vf.map_get hx
    have e : (ns.map fun x => x.fdiv (Vf.gcdR ns : Int)).getD i 0 = y.fdiv (Vf.gcdR ns : Int) := by rw [List.getD_eq_getElem?_getD, List.getElem?_map, hy]; rfl
    rw [e] at q'
    exact ⟨rfl, _, rfl, _, rfl, _, _, rfl, rfl, cd _, q' _ (Same.refl _)⟩
  intro H2 s2 h2
  rw [Vf.range_map (ns.map fun x => x.fdiv (Vf.gcdR ns : Int)) V.int 0 _ (by rw [List.length_map, List.length_map])] at h2
  exact q C _ H2 s2 h2 (.inr nC) (Vf.red_ok g0)
end

def sp__whole (K : PySem.W.Frag) (A : Ad) : Sp := fun vs H Q _ => ∃ (l : Addr) (xs : List V) (zs : List (Int × Int)) (D : Nat), vs = [.ref l] ∧ H l = some (.lst xs) ∧ Vf.Tups Vf.pFr H xs zs ∧ zs.length ≤ 10 ∧ 0 < D ∧ D ≤ 1000 ∧ (∀ z ∈ zs, 0 < z.2 ∧ z.2.natAbs ∣ D ∧ z.1.natAbs < 2 ^ 13) ∧ ∀ (m : Addr) (ms : List Int) (H' : Hp), Same H H' → H' m = some (.lst (ms.map V.int)) → H m = none → ms.length = zs.length → (∀ i : Nat, (ms.getD i 0).natAbs < 2 ^ 24) → (∃ g k : Int, g ≠ 0 ∧ k ≠ 0 ∧ ∀ (i : Nat) (z : Int × Int), zs[i]? = some z → g * ms.getD i 0 * z.2 = k * z.1) → Q (.ref m) H'
theorem len__whole {K : PySem.W.Frag} {A : Ad} (vs : List V) (H : Hp) (Q : VK) (E : XK) (h : sp__whole K A vs H Q E) : vs.length = ["row"].length := by
  obtain ⟨a, b, c, d, rfl, _⟩ := h
  rfl

section
variable {P : Program} {w : World} {K : PySem.W.Frag} {mg : Str → Option Value} {base : Heap}
set_option maxHeartbeats 4000000 in
theorem ok__whole {A : Ad} (T : Txt K mg A) : FnOk P w K mg base CX0 2 A.f__whole A.d__whole ["row"] (sp__whole K A) := by
  have G__lowered := ok__lowered (P := P) (w := w) (base := base) T
  refine T.F__whole.ok sc__whole len__whole (fun cdv Ar outer s H vs Q E hr h => ?_)
  have hu := hu_of hr
  obtain ⟨l, xs, zs, D, rfl, hl, ts, z10, D0, D1, zok, q⟩ := h
  refine ⟨_, (pss_cons (ps_set (i := 1) sc__whole.nd rfl (Or.inr rfl) pe_int)
      (pss_cons (ps_for PassesOwn.never rfl (pi_list (pv 0)) (pg_tup (by rfl) (pgs_cons (pg_name (i := 2) sc__whole.nd rfl (Or.inl rfl)) (pgs_cons (pg_name (i := 3) sc__whole.nd rfl (Or.inl rfl)) pgs_nil)))
        (pss_one (ps_set (i := 1) sc__whole.nd rfl (Or.inr rfl) (pe_callBfun Vf.cr_lcm (by rfl) T.Q_lcm (pa_cons (pv 1) (pa_cons (pv 3) pa_nil))))))
      (pss_one (ps_ret (pe_call G__lowered hr (by rfl) T.G__lowered T.F__lowered.kp T.B__lowered .nil pass0 (pa_cons (pe_lc (own := [("numerator", 4), ("denominator", 3)]) (g := (gTup K 2 (gCons (gName 4) (gCons (gName 3) gNil)))) (tt := tYes) rfl sc__whole.nd (pi_list (pv 0)) (blkOk_by (N := ["row", "shared", "_", "denominator", "numerator"]) (sc := defScope s__whole) (by decide +kernel)) (fun _ _ _ _ _ => (pg_tup (by rfl) (pgs_cons (pg_name (i := 4) sc__whole.nd rfl (Or.inl rfl)) (pgs_cons (pg_name (i := 3) sc__whole.nd rfl (Or.inl rfl)) pgs_nil)))) (fun _ _ _ _ _ => pts_nil) (fun _ _ _ _ _ => (pe_op op_mulW (pv 4) (pe_op Vf.op_fdivWN (pv 1) (pv 3))))) pa_nil)))))), ?_⟩
  have xl : xs.length = zs.length := ts.1
  refine ⟨_, rfl, l, rfl, ⟨_, SqL.of hl⟩, ?_⟩
  refine for_list (K := K) (a := l) (xs := xs) (fun i σ H' => ∃ S : Nat, (∃ v2 v3 v4 : Option V, σ = [some (.ref l), some (.int (S : Nat)), v2, v3, v4]) ∧ H' = H ∧ 0 < S ∧ S ∣ D ∧ ∀ (j : Nat) (z : Int × Int), j < i → zs[j]? = some z → z.2.natAbs ∣ S) ⟨1, ⟨_, _, _, rfl⟩, rfl, by decide, Nat.one_dvd D, fun j z h => absurd h (Nat.not_lt_zero j)⟩ (fun i σ H' _ ⟨_, _, h, _⟩ => by rw [h]; exact SqL.of hl) ?_ ?_
  · rintro i x σ H1 hx ⟨S, ⟨v2, v3, v4, rfl⟩, rfl, S0, SD, Sd⟩
    obtain ⟨z, t, ez, rfl, ht⟩ := ts.get hx
    obtain ⟨zp, zd, zn⟩ := zok z (List.mem_of_getElem? ez)
    have zl : z.2.natAbs ≤ 1000 := Nat.le_trans (Nat.le_of_dvd D0 zd) D1
    have Sl : S ≤ 1000 := Nat.le_trans (Nat.le_of_dvd D0 SD) D1
    have big : ∀ {n : Nat}, n ≤ 1000 → n < 2 ^ 13000 := fun h => Nat.lt_of_le_of_lt h (Nat.lt_of_lt_of_le (show 1000 < 2 ^ 10 by decide) (Nat.pow_le_pow_right (by decide) (by decide)))
    refine ⟨t, _, rfl, SqT.of ht, rfl, _, _, rfl, _, _, rfl, rfl, ?_⟩
    refine ⟨_, rfl, _, rfl, _, _, rfl, by rw [Int.natAbs_natCast]; exact big Sl, big zl, ?_⟩
    rw [Int.natAbs_natCast]
    dsimp only [gName]
    refine ⟨Nat.lcm S z.2.natAbs, ⟨_, _, _, rfl⟩, rfl, Nat.lcm_pos S0 (by omega), Nat.lcm_dvd SD zd, fun j u hj hu => ?_⟩
    by_cases ji : j = i
    · rw [ji, ez] at hu
      rw [← Option.some.inj hu]
      exact Nat.dvd_lcm_right ..
    · exact Nat.dvd_trans (Sd j u (by omega) hu) (Nat.dvd_lcm_left ..)
  rintro σ H1 ⟨S, ⟨v2, v3, v4, rfl⟩, rfl, S0, SD, Sd⟩
  have Sl : S ≤ 1000 := Nat.le_trans (Nat.le_of_dvd D0 SD) D1
  obtain ⟨vs', evs⟩ : ∃ vs' : List Int, vs' = zs.map fun z => z.1 * (S : Int).fdiv z.2 := ⟨_, rfl⟩
  have vat : ∀ (i : Nat) (z : Int × Int), zs[i]? = some z → vs'.getD i 0 = z.1 * (S : Int).fdiv z.2 ∧ vs'.getD i 0 * z.2 = z.1 * (S : Int) ∧ ((S : Int).fdiv z.2).natAbs ≤ 1000 := fun i z hz => by
    have e : vs'.getD i 0 = z.1 * (S : Int).fdiv z.2 := by rw [evs, List.getD_eq_getElem?_getD, List.getElem?_map, hz]; rfl
    have zp := (zok z (List.mem_of_getElem? hz)).1
    have d := Sd i z (by rw [xl]; exact (List.getElem?_eq_some_iff.mp hz).1) hz
    obtain ⟨w, hw⟩ : z.2 ∣ (S : Int) := Int.natAbs_dvd_natAbs.mp (by rw [Int.natAbs_natCast]; exact d)
    have e2 : (S : Int).fdiv z.2 = w := by rw [hw]; exact Int.mul_fdiv_cancel_left w (by omega)
    refine ⟨e, by rw [e, e2, hw]; grind, Nat.le_trans (Vf.fdiv_le _ _) (by rw [Int.natAbs_natCast]; exact Sl)⟩
  have vl : vs'.length = zs.length := by rw [evs, List.length_map]
  dsimp only
  refine ⟨_, rfl, l, rfl, ⟨_, SqL.of hl⟩, fun C nC => Vf.lc_val (walk_list (K := K) (a := l) (xs := xs)) (fun i => .int (vs'.getD i 0)) nC (by omega) (fun H' s => SqL.of (s _ _ hl)) ?_ ?_⟩
  · rintro i x Ha Hb hi sa ⟨rfl, hx⟩ Q' q'
    obtain ⟨z, t, ez, rfl, ht⟩ := (ts.same sa).get hx
    obtain ⟨e1, e2, e3⟩ := vat i z ez
    obtain ⟨zp, zd, zn⟩ := zok z (List.mem_of_getElem? ez)
    have zl : z.2.natAbs ≤ 1000 := Nat.le_trans (Nat.le_of_dvd D0 zd) D1
    rw [e1] at q'
    refine ⟨t, _, rfl, SqT.of ht, rfl, _, _, rfl, _, _, rfl, rfl, rfl, ?_⟩
    refine ⟨_, rfl, _, rfl, _, rfl, _, _, rfl, rfl, Vf.cdiv_ok (b := 10) (by omega) (by decide) (Nat.lt_of_le_of_lt zl (by decide)), _, _, rfl, rfl, Vf.cmul_ok (a := 13) (b := 10) zn (Nat.lt_of_le_of_lt e3 (by decide)) (by decide) (by decide), ?_⟩
    exact q' _ (Same.refl _)
  intro H2 s2 h2
  rw [Vf.range_map vs' V.int 0 _ (by rw [vl, xl])] at h2
  have vb : ∀ i : Nat, (vs'.getD i 0).natAbs < 2 ^ 23 := fun i => by
    cases hz : zs[i]? with
    | none =>
      rw [List.getD_eq_getElem?_getD, List.getElem?_eq_none (by rw [vl]; exact List.getElem?_eq_none_iff.mp hz)]
      decide
    | some z =>
      obtain ⟨e1, e2, e3⟩ := vat i z hz
      rw [e1]
      exact wide_lt (a := 13) (b := 10) (zok z (List.mem_of_getElem? hz)).2.2 (Nat.lt_of_le_of_lt e3 (by decide))
  refine ⟨C, vs', rfl, h2, by omega, fun i => Nat.lt_of_lt_of_le (vb i) (Nat.pow_le_pow_right (by decide) (by decide)), fun m ms H3 s3 hm fm rd => ?_⟩
  have nm : H1 m = none := by
    rcases fm with rfl | fm
    · exact nC
    · exact s2.free fm
  obtain ⟨g, g0, hg⟩ := rd.lin
  refine q m ms H3 (s2.trans s3) hm nm (rd.len.trans vl) (fun i => Nat.lt_of_le_of_lt (rd.le i) (Nat.lt_of_lt_of_le (vb i) (Nat.pow_le_pow_right (by decide) (by decide)))) ⟨g, (S : Int), g0, by omega, fun i z hz => ?_⟩
  rw [← hg i, (vat i z hz).2.1, Int.mul_comm]
end

def sp__pivot_at (K : PySem.W.Frag) (A : Ad) : Sp := fun vs H Q _ => ∃ (l : Addr) (c : Nat) (xs : List V) (rs : List (List Int)), vs = [.ref l, .int (c : Int)] ∧ H l = some (.lst xs) ∧ Vf.Lsts H xs rs ∧ (∀ r ∈ rs, c < r.length) ∧ rs.length ≤ 1000 ∧ ((∀ r ∈ rs, r.getD c 0 = 0) → ∀ H', Same H H' → Q .non H') ∧ ∀ (j : Nat) (r : List Int), rs[j]? = some r → r.getD c 0 ≠ 0 → ∀ H', Same H H' → Q (.int (j : Nat)) H'
theorem len__pivot_at {K : PySem.W.Frag} {A : Ad} (vs : List V) (H : Hp) (Q : VK) (E : XK) (h : sp__pivot_at K A vs H Q E) : vs.length = ["rows", "column"].length := by
  obtain ⟨a, b, c, d, rfl, _⟩ := h
  rfl

section
variable {P : Program} {w : World} {K : PySem.W.Frag} {mg : Str → Option Value} {base : Heap}
set_option maxHeartbeats 4000000 in
theorem ok__pivot_at {A : Ad} (T : Txt K mg A) : FnOk P w K mg base CX0 1 A.f__pivot_at A.d__pivot_at ["rows", "column"] (sp__pivot_at K A) := by
  refine T.F__pivot_at.ok sc__pivot_at len__pivot_at (fun cdv Ar outer s H vs Q E hr h => ?_)
  have hu := hu_of hr
  obtain ⟨l, c, xs, rs, rfl, hl, tR, cl, r1, qn, qs⟩ := h
  refine ⟨_, (pss_cons (ps_for PassesOwn.never rfl (pi_enum (by rfl) T.N_enumerate (pa_cons (pv 0) pa_nil)) (pg_tup (by rfl) (pgs_cons (pg_name (i := 2) sc__pivot_at.nd rfl (Or.inl rfl)) (pgs_cons (pg_name (i := 3) sc__pivot_at.nd rfl (Or.inl rfl)) pgs_nil)))
        (pss_one (ps_if (pt_cmpR op_ne (pe_ix ix_list (pv 3) (pv 1) (fun _ _ => rfl)) pe_int (nomark _)) (pss_one (ps_ret (pv 2))) pss_nil)))
      (pss_one (ps_ret pe_non))), ?_⟩
  refine ⟨_, rfl, l, _, rfl, SqL.of hl, ?_⟩
  refine for_it (walk_enum (K := K) (a := l) (xs := xs)) (fun i σ H' => (∃ v2 v3 : Option V, σ = [some (.ref l), some (.int (c : Int)), v2, v3]) ∧ Same H H' ∧ ∀ (j : Nat) (r : List Int), j < i → rs[j]? = some r → r.getD c 0 = 0) ⟨⟨_, _, rfl⟩, Same.refl H, fun j r h => absurd h (Nat.not_lt_zero j)⟩ (fun i σ H' _ h => SqL.of (h.2.1 _ _ hl)) ?_ ?_
  rotate_left
  · rintro σ H1 ⟨⟨v2, v3, rfl⟩, s1, z⟩
    refine qn (fun r hr => ?_) H1 s1
    obtain ⟨j, hj⟩ := List.mem_iff_getElem?.mp hr
    exact z j r (by rw [tR.1]; exact (List.getElem?_eq_some_iff.mp hj).1) hj
  rintro i x σ H1 H2 hi ⟨⟨v2, v3, rfl⟩, s1, z⟩ ⟨T0, x1, x2, rfl, nT, rfl, e1, e2⟩
  have e1 : x1 = .int (i : Nat) := (Option.some.inj e1).symm
  subst e1
  obtain ⟨r, t, er, rfl, ht⟩ := (tR.same s1).get e2
  have rm := List.mem_of_getElem? er
  have s2 := Vf.Same.new (o := .tup [.int (i : Nat), .ref t]) s1 nT
  have s3 := Vf.Same.new (o := .tup [.int (i : Nat), .ref t]) (Same.refl H1) nT
  have ht2 := s3 _ _ ht
  refine ⟨T0, _, rfl, SqT.of upd_same, rfl, _, _, rfl, _, _, rfl, rfl, ?_⟩
  refine ⟨_, rfl, _, rfl, t, _, _, _, rfl, rfl, SqL.of ht2, Vf.int_at (by omega) (by have := cl r rm; omega), ?_⟩
  rw [Int.toNat_natCast]
  refine ⟨rfl, _, rfl, Vf.ite_b (fun e => ?_) fun e => ?_⟩
  · rw [Bool.not_eq_true', decide_eq_false_iff_not] at e
    exact ⟨_, rfl, qs i r er (fun z => e (congrArg V.int z)) _ s2⟩
  · have e0 : r.getD c 0 = 0 := by
      have e : decide (V.int (r.getD c 0) = V.int 0) = true := by simpa using e
      exact V.int.inj (of_decide_eq_true e)
    refine ⟨⟨_, _, rfl⟩, s2, fun j u hj hu => ?_⟩
    by_cases ji : j = i
    · rw [ji, er] at hu
      rw [← Option.some.inj hu]
      exact e0
    · exact z j u (by omega) hu
end

def sp__without (K : PySem.W.Frag) (A : Ad) : Sp := fun vs H Q _ => ∃ (l p : Addr) (ns ps : List Int) (c a : Nat), vs = [.ref l, .ref p, .int (c : Int)] ∧ H l = some (.lst (ns.map V.int)) ∧ H p = some (.lst (ps.map V.int)) ∧ ps.length = ns.length ∧ c < ns.length ∧ ns.length ≤ 100 ∧ 1 ≤ a ∧ a ≤ 400 ∧ (∀ i : Nat, (ns.getD i 0).natAbs < 2 ^ a) ∧ (∀ i : Nat, (ps.getD i 0).natAbs < 2 ^ a) ∧ ps.getD c 0 ≠ 0 ∧ ∀ (m : Addr) (ms : List Int) (H' : Hp), Same H H' → H' m = some (.lst (ms.map V.int)) → (m = l ∨ H m = none) → Vf.WoOk ns ps c ms → Q (.ref m) H'
theorem len__without {K : PySem.W.Frag} {A : Ad} (vs : List V) (H : Hp) (Q : VK) (E : XK) (h : sp__without K A vs H Q E) : vs.length = ["row", "pivot", "column"].length := by
  obtain ⟨a, b, c, d, e, f, rfl, _⟩ := h
  rfl

section
variable {P : Program} {w : World} {K : PySem.W.Frag} {mg : Str → Option Value} {base : Heap}
set_option maxHeartbeats 4000000 in
theorem ok__without {A : Ad} (T : Txt K mg A) : FnOk P w K mg base CX0 2 A.f__without A.d__without ["row", "pivot", "column"] (sp__without K A) := by
  have G__lowered := ok__lowered (P := P) (w := w) (base := base) T
  refine T.F__without.ok sc__without len__without (fun cdv Ar outer s H vs Q E hr h => ?_)
  have hu := hu_of hr
  obtain ⟨l, p, ns, ps, c, a, rfl, hl, hp, ll, cl, n1, a1, a4, nb, pb, pz, q⟩ := h
  refine ⟨_, (pss_cons (ps_if (pt_cmpR op_eq (pe_ix ix_list (pv 0) (pv 2) (fun _ _ => rfl)) pe_int (nomark _)) (pss_one (ps_ret (pv 0))) pss_nil)
      (pss_cons (ps_set (i := 3) sc__without.nd rfl (Or.inl rfl) (pe_callBfun cr_gcd (by rfl) T.Q_gcd (pa_cons (pe_ix ix_list (pv 0) (pv 2) (fun _ _ => rfl)) (pa_cons (pe_ix ix_list (pv 1) (pv 2) (fun _ _ => rfl)) pa_nil))))
      (pss_cons (ps_set (i := 4) sc__without.nd rfl (Or.inr rfl) (pe_op Vf.op_fdivWN (pe_ix ix_list (pv 1) (pv 2) (fun _ _ => rfl)) (pv 3)))
      (pss_cons (ps_set (i := 5) sc__without.nd rfl (Or.inr rfl) (pe_op Vf.op_fdivWN (pe_ix ix_list (pv 0) (pv 2) (fun _ _ => rfl)) (pv 3)))
      (pss_one (ps_ret (pe_call G__lowered hr (by rfl) T.G__lowered T.F__lowered.kp T.B__lowered .nil pass0 (pa_cons (pe_lc (own := [("here", 6), ("there", 7)]) (g := (gTup K 2 (gCons (gName 6) (gCons (gName 7) gNil)))) (tt := tYes) rfl sc__without.nd (pi_zip (by rfl) T.N_zip (pa_cons (pv 0) (pa_cons (pv 1) pa_nil))) (blkOk_by (N := ["row", "pivot", "column", "shared", "keep", "take", "here", "there"]) (sc := defScope s__without) (by decide +kernel)) (fun _ _ _ _ _ => (pg_tup (by rfl) (pgs_cons (pg_name (i := 6) sc__without.nd rfl (Or.inl rfl)) (pgs_cons (pg_name (i := 7) sc__without.nd rfl (Or.inl rfl)) pgs_nil)))) (fun _ _ _ _ _ => pts_nil) (fun _ _ _ _ _ => (pe_op op_sub (pe_op op_mulW (pv 4) (pv 6)) (pe_op op_mulW (pv 5) (pv 7))))) pa_nil)))))))), ?_⟩
  have cp : c < ps.length := by omega
  refine ⟨_, rfl, _, rfl, l, _, _, _, rfl, rfl, SqL.of hl, Vf.int_at (by omega) (by omega), ?_⟩
  rw [Int.toNat_natCast]
  refine ⟨rfl, _, rfl, Vf.ite_d (fun z => ?_) fun z => ?_⟩
  · exact ⟨_, rfl, q l ns H (Same.refl H) hl (.inl rfl) (Vf.wo_self (V.int.inj z))⟩
  have nz : ns.getD c 0 ≠ 0 := fun e => z (by rw [e])
  obtain ⟨g, g0, eg, kn, kp, k0, zz, gl⟩ := Vf.gcd_cut nz pz
  have cd : ∀ x : Int, Vf.CDivWN x (g : Nat) := fun _ => Vf.cdiv_ok (b := a) (by omega) (by omega) (by rw [Int.natAbs_natCast]; exact Nat.lt_of_le_of_lt gl (nb c))
  refine ⟨_, rfl, _, rfl, l, _, _, _, rfl, rfl, SqL.of hl, Vf.int_at (by omega) (by omega), _, rfl, _, rfl, p, _, _, _, rfl, rfl, SqL.of hp, Vf.int_at (by omega) (by omega), _, _, rfl, ?_⟩
  rw [Int.toNat_natCast, show (ns.getD c 0).natAbs.gcd (ps.getD c 0).natAbs = g from eg.symm]
  dsimp only [gName]
  refine ⟨_, rfl, _, rfl, p, _, _, _, rfl, rfl, SqL.of hp, Vf.int_at (by omega) (by omega), _, rfl, _, _, rfl, rfl, cd _, ?_⟩
  rw [Int.toNat_natCast]
  dsimp only [gName]
  refine ⟨_, rfl, _, rfl, l, _, _, _, rfl, rfl, SqL.of hl, Vf.int_at (by omega) (by omega), _, rfl, _, _, rfl, rfl, cd _, ?_⟩
  rw [Int.toNat_natCast]
  dsimp only [gName]
  generalize (ps.getD c 0).fdiv (g : Int) = k at kp k0 zz ⊢
  generalize (ns.getD c 0).fdiv (g : Int) = t at kn zz ⊢
  have kb : k.natAbs < 2 ^ a := Nat.lt_of_le_of_lt kp (pb c)
  have tb : t.natAbs < 2 ^ a := Nat.lt_of_le_of_lt kn (nb c)
  have cgl : (Vf.crossG ns ps k t).length = ns.length := by
    unfold Vf.crossG
    rw [List.length_map, List.length_zip, ll, Nat.min_self]
  refine ⟨_, rfl, _, rfl, l, p, _, _, rfl, SqL.of hl, SqL.of hp, fun C nC => Vf.lc_val (walk_zip (K := K) (a := l) (b := p) (xs := ns.map V.int) (ys := ps.map V.int) (n := ns.length) (by rw [List.length_map, List.length_map, ll, Nat.min_self])) (fun i => .int ((Vf.crossG ns ps k t).getD i 0)) nC (by omega) (fun H' s => ⟨SqL.of (s _ _ hl), SqL.of (s _ _ hp)⟩) ?_ ?_⟩
  · rintro i x Ha Hb hi sa ⟨u, x', y', rfl, hu1, rfl, hx, hy⟩ Q' q'
    obtain ⟨o, ho, rfl⟩ := Vf.map_get hx
    obtain ⟨y, hy', rfl⟩ := Vf.map_get hy
    have e : (Vf.crossG ns ps k t).getD i 0 = k * o - t * y := by
      rw [Vf.crossG_at ll, List.getD_eq_getElem?_getD, List.getD_eq_getElem?_getD, ho, hy']
      rfl
    have ob := nb i
    have yb := pb i
    rw [List.getD_eq_getElem?_getD, ho] at ob
    rw [List.getD_eq_getElem?_getD, hy'] at yb
    rw [e] at q'
    refine ⟨u, _, rfl, SqT.of upd_same, rfl, _, _, rfl, _, _, rfl, rfl, rfl, ?_⟩
    refine ⟨_, rfl, _, rfl, _, _, rfl, rfl, Vf.cmul_ok kb ob (by omega) (by omega), _, rfl, _, rfl, _, _, rfl, rfl, Vf.cmul_ok tb yb (by omega) (by omega), _, _, rfl, rfl, ?_⟩
    exact q' _ (Vf.Same.new (Same.refl Ha) hu1)
  intro H1 s1 h1
  rw [Vf.range_map (Vf.crossG ns ps k t) V.int 0 _ cgl.symm] at h1
  refine ⟨C, Vf.crossG ns ps k t, rfl, h1, by omega, fun i => ?_, fun m ms H2 s2 hm fm rd => ?_⟩
  · rw [Vf.crossG_at ll]
    have m1 := wide_lt kb (nb i)
    have m2 := wide_lt tb (pb i)
    have l2 : 2 ^ (a + a) + 2 ^ (a + a) ≤ 2 ^ 1000 := by
      rw [← Nat.two_mul, ← Nat.pow_succ']
      exact Nat.pow_le_pow_right (by decide) (by omega)
    omega
  · refine q m ms H2 (s1.trans s2) hm ?_ (Vf.wo_gcd ll kp kn k0 zz rd)
    rcases fm with rfl | fm
    · exact .inr nC
    · exact .inr (s1.free fm)
end

def sp__stairs (K : PySem.W.Frag) (A : Ad) : Sp := fun vs H Q _ => ∃ (l : Addr) (n : Nat) (xs : List V) (zss : List (List (Int × Int))) (W : List (List Int)), vs = [.ref l] ∧ H l = some (.lst xs) ∧ Vf.FrRows H xs zss ∧ Vf.FwRows (n + 1) zss W ∧ zss.length = n ∧ 1 ≤ n ∧ n ≤ 4 ∧
  ((∃ x : Nat → Int, (∃ j, j < n ∧ x j ≠ 0) ∧ (∀ j, n ≤ j → x j = 0) ∧ ∀ w ∈ W, Vf.dvN (n + 1) (Vf.gD w) x = 0) → ∀ H', Same H H' → Q .non H') ∧
  ∀ (m : Addr) (ys : List V) (S : List (List Int)) (H' : Hp), Same H H' → H m = none → H' m = some (.lst ys) → Vf.Lsts H' ys S → S.length = n → (∀ r ∈ S, r.length = n + 1 ∧ ∀ i : Nat, (r.getD i 0).natAbs < 2 ^ 399) → (∀ (k : Nat) (r : List Int), S[k]? = some r → (∀ i, i < k → Vf.gD r i = 0) ∧ Vf.gD r k ≠ 0) → (∀ v : Nat → Int, (∀ w ∈ W, Vf.dvN (n + 1) (Vf.gD w) v = 0) → ∀ r ∈ S, Vf.dvN (n + 1) (Vf.gD r) v = 0) → Q (.ref m) H'
theorem len__stairs {K : PySem.W.Frag} {A : Ad} (vs : List V) (H : Hp) (Q : VK) (E : XK) (h : sp__stairs K A vs H Q E) : vs.length = ["rows"].length := by
  obtain ⟨a, b, c, d, e, rfl, _⟩ := h
  rfl

section
variable {P : Program} {w : World} {K : PySem.W.Frag} {mg : Str → Option Value} {base : Heap}
set_option maxHeartbeats 4000000 in
theorem ok__stairs {A : Ad} (T : Txt K mg A) : FnOk P w K mg base CX0 3 A.f__stairs A.d__stairs ["rows"] (sp__stairs K A) := by
  have G__whole := ok__whole (P := P) (w := w) (base := base) T
  have G__pivot_at := ok__pivot_at (P := P) (w := w) (base := base) T
  have G__without := ok__without (P := P) (w := w) (base := base) T
  refine T.F__stairs.ok sc__stairs len__stairs (fun cdv Ar outer s H vs Q E hr h => ?_)
  have hu := hu_of hr
  obtain ⟨l, n, xs, zss, W, rfl, hl, FR, FW, zn, n1, n4, qn, qs⟩ := h
  refine ⟨_, (pss_cons (ps_setLc (i := 1) (own := [("row", 6)]) (g := (gName 6)) (tt := tYes) rfl sc__stairs.nd rfl rfl (sw_true rfl rfl rfl (by decide +kernel)) (pi_list (pv 0)) (blkOk_by (N := ["rows", "waiting", "found", "column", "index", "pivot", "row"]) (sc := defScope s__stairs) (by decide +kernel)) (fun _ _ _ _ _ => (pg_name (i := 6) sc__stairs.nd rfl (Or.inl rfl))) (fun _ _ _ _ _ => pts_nil) (fun _ _ _ _ _ => (pe_call G__whole hr (by rfl) T.G__whole T.F__whole.kp T.B__whole .nil pass0 (pa_cons (pv 6) pa_nil))))
      (pss_cons (ps_set (i := 2) sc__stairs.nd rfl (Or.inl rfl) (pe_lst pa_nil))
      (pss_cons (ps_for PassesOwn.never rfl (pi_range1 rfl T.N_range (pa_cons (pe_callB call_len_seq (by rfl) T.N_len PySem.boot_len (pa_cons (pv 0) pa_nil)) pa_nil)) (pg_name (i := 3) sc__stairs.nd rfl (Or.inr rfl))
        (pss_cons (ps_set (i := 4) sc__stairs.nd rfl (Or.inl rfl) (pe_call G__pivot_at (hr.mono (by decide)) (by rfl) T.G__pivot_at T.F__pivot_at.kp T.B__pivot_at .nil pass0 (pa_cons (pv 1) (pa_cons (pv 3) pa_nil))))
      (pss_cons (ps_if (pt_cmpR op_isN (pv 4) pe_non (nomark _)) (pss_one (ps_ret pe_non)) pss_nil)
      (pss_cons (ps_set (i := 5) sc__stairs.nd rfl (Or.inr rfl) (pe_bm PySem.F.plainAttrs_list PySem.F.slot_list_pop PySem.F.type_list_pop mt_popAt (pv 1) (pa_cons (pv 4) pa_nil)))
      (pss_cons (ps_expr (pe_bm PySem.F.plainAttrs_list PySem.F.slot_list_append PySem.F.type_list_append mt_append (pv 2) (pa_cons (pv 5) pa_nil)))
      (pss_one (ps_setLc (i := 1) (own := [("row", 6)]) (g := (gName 6)) (tt := tYes) rfl sc__stairs.nd rfl rfl (sw_true rfl rfl rfl (by decide +kernel)) (pi_list (pv 1)) (blkOk_by (N := ["rows", "waiting", "found", "column", "index", "pivot", "row"]) (sc := defScope s__stairs) (by decide +kernel)) (fun _ _ _ _ _ => (pg_name (i := 6) sc__stairs.nd rfl (Or.inl rfl))) (fun _ _ _ _ _ => pts_nil) (fun _ _ _ _ _ => (pe_call G__without hr (by rfl) T.G__without T.F__without.kp T.B__without .nil pass0 (pa_cons (pv 6) (pa_cons (pv 5) (pa_cons (pv 3) pa_nil))))))))))))
      (pss_one (ps_ret (pv 2)))))), ?_⟩
  have xl : xs.length = n := FR.1.trans zn
  refine ⟨_, rfl, l, rfl, ⟨_, SqL.of hl⟩, fun C nC => lc_it (walk_list (K := K) (a := l) (xs := xs)) (fun i H' => ∃ (acc : List V) (U : List (List Int)), H' C = some (.lst acc) ∧ Same H H' ∧ Vf.Lsts H' acc U ∧ U.length = i ∧ (∀ (j : Nat) (u : List Int), U[j]? = some u → u.length = n + 1 ∧ (∀ i : Nat, (u.getD i 0).natAbs < 2 ^ 24) ∧ ∃ w, W[j]? = some w ∧ ∀ v : Nat → Int, Vf.dvN (n + 1) (Vf.gD u) v = 0 ↔ Vf.dvN (n + 1) (Vf.gD w) v = 0) ∧ ∀ t, V.ref t ∈ acc → H t = none ∧ t ≠ C) ⟨[], [], upd_same, Vf.Same.new (Same.refl H) nC, ⟨rfl, fun i r h => by simp at h⟩, rfl, fun j u h => (by simp at h), fun t h => (by cases h)⟩ (fun i H' _ ⟨_, _, _, s, _⟩ => SqL.of (s _ _ hl)) ?_ ?_⟩
  · rintro i x Ha Hb hi ⟨acc, U, hC, sa, ta, Ul, Uk, fr⟩ ⟨rfl, hx⟩
    obtain ⟨zs, t, ys, ez, rfl, ht, ty⟩ := (FR.same sa).get hx
    have il := (List.getElem?_eq_some_iff.mp ez).1
    have ew := List.getElem?_eq_getElem (show i < W.length by rw [FW.len]; exact il)
    obtain ⟨zl, wl, D, D0, D1, fw⟩ := FW.row i zs _ ez ew
    refine ⟨rfl, Vf.tyes ⟨_, rfl, t, ys, zs, D, rfl, ht, ty, by omega, D0, D1, fun z hz => ?_, fun m ms H' s' hm nm ml mb ⟨g, k, g0, k0, hg⟩ => ?_⟩⟩
    · obtain ⟨j, hj⟩ := List.mem_iff_getElem?.mp hz
      obtain ⟨F, wb⟩ := fw j z hj
      have le := F.le (show (0 : Int) < (D : Int) by omega)
      refine ⟨F.low.pos, ?_, Nat.lt_of_le_of_lt le.2 wb⟩
      have := Int.natAbs_dvd_natAbs.mpr F.dvd
      rw [Int.natAbs_natCast] at this
      exact this
    have hCm := s' _ _ hC
    have mC : m ≠ C := fun e => by rw [e, hC] at nm; cases nm
    refine ⟨acc, hCm, Nat.lt_of_le_of_lt (show acc.length ≤ 4 by rw [ta.1, Ul]; omega) (by decide), acc ++ [.ref m], U ++ [ms], upd_same, Vf.Same.chg (sa.trans s') nC, ((ta.same s').upd fun t h => (fr t h).2).snoc (by rw [upd_ne mC]; exact hm), by rw [List.length_append, Ul]; rfl, fun j u hu => ?_, fun t' h => ?_⟩
    · by_cases jl : j < U.length
      · rw [List.getElem?_append_left jl] at hu
        exact Uk j u hu
      · rw [List.getElem?_append_right (by omega)] at hu
        have j0 : j - U.length = 0 := by
          have := (List.getElem?_eq_some_iff.mp hu).1
          simpa using this
        rw [j0] at hu
        obtain rfl : ms = u := Option.some.inj hu
        rw [show j = i by omega]
        exact ⟨ml.trans zl, mb, _, ew, Vf.whole_ker D0 zl g0 k0 hg fun j z hz => (fw j z hz).1⟩
    · rcases List.mem_append.mp h with h | h
      · exact fr t' h
      · obtain rfl := V.ref.inj (List.mem_singleton.mp h)
        exact ⟨sa.free nm, mC⟩
  rintro H1 ⟨acc, U, hC, s1, ta, Ul, Uk, fr⟩
  rw [xl] at Ul
  have K0 : Vf.StK n 0 W U [] := by
    have mem : ∀ r ∈ U, ∃ j, U[j]? = some r := fun r hr => List.mem_iff_getElem?.mp hr
    refine ⟨fun r hr => ?_, fun r hr => (by cases hr), Ul, rfl, fun r hr => ?_, fun r hr => (by cases hr), fun r hr i hi => absurd hi (Nat.not_lt_zero i), fun k r h => (by simp at h), fun v => ⟨fun h => ⟨fun r hr => ?_, fun r hr => (by cases hr)⟩, fun h w hw => ?_⟩⟩
    · obtain ⟨j, hj⟩ := mem r hr
      exact (Uk j r hj).1
    · obtain ⟨j, hj⟩ := mem r hr
      exact (Uk j r hj).2.1
    · obtain ⟨j, hj⟩ := mem r hr
      obtain ⟨_, _, w, hw, e⟩ := Uk j r hj
      exact (e v).mpr (h w (List.mem_of_getElem? hw))
    · obtain ⟨j, hj⟩ := List.mem_iff_getElem?.mp hw
      have jl := (List.getElem?_eq_some_iff.mp hj).1
      have hu := List.getElem?_eq_getElem (show j < U.length by rw [Ul, ← zn, ← FW.len]; exact jl)
      obtain ⟨_, _, w', hw', e⟩ := Uk j _ hu
      rw [hj] at hw'
      rw [Option.some.inj hw']
      exact (e v).mp (h.1 _ (List.mem_of_getElem? hu))
  dsimp only [gName]
  refine ⟨(by show 0 ≤ sizeLine; decide), fun F nF => ?_⟩
  have s2 := Vf.Same.new (o := .lst []) (Same.refl H1) nF
  have hF := upd_same (H := H1) (a := F) (o := .lst [])
  generalize upd H1 F (.lst []) = H2 at s2 hF ⊢
  have CF : C ≠ F := fun e => by rw [← e, hC] at nF; cases nF
  have EA : Vf.StAt H H2 C F U [] := by
    refine ⟨s1.trans s2, nC, s1.free nF, ⟨acc, s2 _ _ hC, ta.same s2, fun t h => ⟨(fr t h).2, fun e => ?_⟩⟩, ⟨[], hF, ⟨rfl, fun i r h => by simp at h⟩, fun t h => (by cases h)⟩, CF⟩
    obtain ⟨j, hj⟩ := List.mem_iff_getElem?.mp h
    obtain ⟨r, t', _, et, ht⟩ := ta.get hj
    obtain rfl := V.ref.inj et
    rw [e, nF] at ht
    cases ht
  dsimp only [gName]
  clear hC ta fr hF Uk
  refine ⟨_, rfl, l, _, rfl, .inl (SqL.of ((s1.trans s2) _ _ hl)), _, rfl, by rw [xl]; omega, by rw [xl]; omega, for_range (lo := 0) (n := _) (fun c σ H' => ∃ (L : Addr) (waiting found : List (List Int)), (∃ v3 v4 v5 : Option V, σ = [some (.ref l), some (.ref L), some (.ref F), v3, v4, v5, none]) ∧ Vf.StAt H H' L F waiting found ∧ Vf.StK n c W waiting found) ⟨C, U, [], ⟨_, _, _, rfl⟩, EA, K0⟩ ?_ ?_⟩
  rotate_left
  · rintro σ H3 ⟨L, waiting, found, ⟨v3, v4, v5, rfl⟩, EA3, K3⟩
    rw [Int.toNat_natCast, xl] at K3
    obtain ⟨ys, f1, f2, _⟩ := EA3.f
    have w0 : waiting = [] := List.eq_nil_of_length_eq_zero (by have := K3.cnt; omega)
    refine ⟨_, rfl, qs F ys found H3 EA3.s EA3.nF f1 f2 K3.fc (fun r hr => ⟨K3.fl r hr, fun i => Nat.lt_of_lt_of_le (K3.fb r hr i) (Nat.pow_le_pow_right (by decide) (Vf.bS_le n4).2.1)⟩) K3.st fun v h => ((K3.ker v).mp h).2⟩
  rintro c σ H3 hc ⟨L, waiting, found, ⟨v3, v4, v5, rfl⟩, EA3, K3⟩
  have hc : c < n := by rw [xl] at hc; omega
  rw [show (0 : Int) + (c : Int) = (c : Int) from Int.zero_add _]
  obtain ⟨xw, l1, l2, l3⟩ := EA3.l
  have wcnt := K3.cnt
  dsimp only [gName]
  refine ⟨_, rfl, _, rfl, L, c, xw, waiting, rfl, l1, l2, fun r hr => by rw [K3.wl r hr]; omega, by omega, fun all H4 s4 => ?_, fun j p hj pz H4 s4 => ?_⟩
  · dsimp only [gName]
    refine ⟨_, rfl, rfl, _, rfl, Vf.ite_d (fun _ => ?_) fun c => absurd rfl c⟩
    exact qn (K3.none hc all) H4 (EA3.s.trans s4)
  dsimp only [gName]
  refine ⟨_, rfl, rfl, _, rfl, Vf.ite_d (fun c => by cases c) fun _ => ?_⟩
  unfold tNext
  dsimp only
  clear l1 l2 l3
  have EA4 := EA3.same s4
  obtain ⟨xw4, l1, l2, l3⟩ := EA4.l
  obtain ⟨xf4, f1, f2, f3⟩ := EA4.f
  have xwl : xw4.length = waiting.length := l2.1
  have xfl : xf4.length = found.length := f2.1
  have fcl := K3.fc
  have jl := (List.getElem?_eq_some_iff.mp hj).1
  obtain ⟨u, eu, hu⟩ := l2.2 j p hj
  have um := l3 u (List.mem_of_getElem? eu)
  have pm := List.mem_of_getElem? hj
  have pl := K3.wl p pm
  have pb := K3.wb p pm
  obtain ⟨b1, b4, b3⟩ := Vf.bS_le (show c ≤ 4 by omega)
  have b2 := b3 (by omega)
  refine ⟨_, rfl, Vf.tyL l1, _, rfl, L, xw4, (j : Int), j, .ref u, rfl, rfl, l1, by omega, by omega, (ixN_seq (Vf.ixNq (by omega))).1, eu, ?_⟩
  dsimp only [gName]
  have hL5 := upd_same (H := H4) (a := L) (o := .lst (xw4.eraseIdx j))
  have t5 : Vf.Lsts (upd H4 L (.lst (xw4.eraseIdx j))) (xw4.eraseIdx j) (waiting.eraseIdx j) := (l2.er j).upd fun t h => (l3 t (List.mem_of_mem_eraseIdx h)).1
  have hu5 : (upd H4 L (.lst (xw4.eraseIdx j))) u = some (.lst (p.map V.int)) := by rw [upd_ne um.1]; exact hu
  have hF5 : (upd H4 L (.lst (xw4.eraseIdx j))) F = some (.lst xf4) := by rw [upd_ne (Ne.symm EA4.ne)]; exact f1
  have tf5 := f2.upd (o := .lst (xw4.eraseIdx j)) fun t h => (f3 t h).1
  have s05 : Same H (upd H4 L (.lst (xw4.eraseIdx j))) := Vf.Same.chg EA4.s EA4.nL
  generalize upd H4 L (.lst (xw4.eraseIdx j)) = H5 at hL5 t5 hu5 hF5 tf5 s05 ⊢
  refine ⟨_, rfl, Vf.tyL hF5, _, rfl, F, xf4, _, rfl, rfl, hF5, Nat.lt_of_le_of_lt (show xf4.length ≤ 4 by omega) (by decide), ?_⟩
  have hF6 := upd_same (H := H5) (a := F) (o := .lst (xf4 ++ [.ref u]))
  have hL6 : (upd H5 F (.lst (xf4 ++ [.ref u]))) L = some (.lst (xw4.eraseIdx j)) := by rw [upd_ne EA4.ne]; exact hL5
  have t6 := t5.upd (o := .lst (xf4 ++ [.ref u])) (a := F) fun t h => (l3 t (List.mem_of_mem_eraseIdx h)).2
  have hu6 : (upd H5 F (.lst (xf4 ++ [.ref u]))) u = some (.lst (p.map V.int)) := by rw [upd_ne um.2]; exact hu5
  have tf6 := (tf5.upd (o := .lst (xf4 ++ [.ref u])) (a := F) fun t h => (f3 t h).2).snoc hu6
  have s06 : Same H (upd H5 F (.lst (xf4 ++ [.ref u]))) := Vf.Same.chg s05 EA4.nF
  generalize upd H5 F (.lst (xf4 ++ [.ref u])) = H6 at hF6 hL6 t6 hu6 tf6 s06 ⊢
  have sr6 : Same H6 H6 := Same.refl H6
  have hsz : (xw4.eraseIdx j).length ≤ 4 := by rw [List.length_eraseIdx]; split <;> omega
  refine ⟨_, rfl, L, rfl, ⟨_, SqL.of hL6⟩, fun C' nC' => lc_it (walk_list (K := K) (a := L) (xs := (xw4.eraseIdx j))) (fun i H' => ∃ (acc : List V) (ys : List (List Int)), H' C' = some (.lst acc) ∧ Same H6 H' ∧ Vf.Lsts H' acc ys ∧ ys.length = i ∧ (∀ (k : Nat) (r : List Int), k < i → (waiting.eraseIdx j)[k]? = some r → ∃ r', ys[k]? = some r' ∧ Vf.WoOk r p c r') ∧ ∀ t, V.ref t ∈ acc → t ≠ C' ∧ (V.ref t ∈ (xw4.eraseIdx j) ∨ H6 t = none)) ⟨[], [], upd_same, Vf.Same.new (Same.refl H6) nC', ⟨rfl, fun i r h => by simp at h⟩, rfl, fun k r h => absurd h (Nat.not_lt_zero k), fun t h => (by cases h)⟩ (fun i H' _ ⟨_, _, _, s, _⟩ => SqL.of (s _ _ hL6)) ?_ ?_⟩
  · rintro i x Ha Hb' hi ⟨acc, ys, hC, sa, ta, yl, yw, fr⟩ ⟨rfl, hx⟩
    obtain ⟨r, t, er, rfl, ht⟩ := (t6.same sa).get hx
    have rm := List.mem_of_mem_eraseIdx (List.mem_of_getElem? er)
    have rl := K3.wl r rm
    refine ⟨rfl, Vf.tyes ⟨_, rfl, _, rfl, _, rfl, t, u, r, p, c, Vf.bS c, rfl, ht, sa _ _ hu6, by rw [pl, rl], by rw [rl]; omega, by rw [rl]; omega, b1, by omega, K3.wb r rm, pb, pz, fun m ms Hm sm' hm fm wm => ?_⟩⟩
    obtain ⟨t', et', ht'⟩ := t6.2 i r er
    rw [hx] at et'
    obtain rfl := V.ref.inj (Option.some.inj et')
    have hCm := sm' _ _ hC
    have mC : m ≠ C' := by
      rcases fm with rfl | fm
      · exact fun e => by rw [e, nC'] at ht'; cases ht'
      · exact fun e => by rw [e, hC] at fm; cases fm
    refine ⟨acc, hCm, Nat.lt_of_le_of_lt (show acc.length ≤ 4 by rw [ta.1, yl]; omega) (by decide), acc ++ [.ref m], ys ++ [ms], upd_same, Vf.Same.chg (sa.trans sm') nC', ((ta.same sm').upd fun t h => (fr t h).1).snoc (by rw [upd_ne mC]; exact hm), by rw [List.length_append, yl]; rfl, fun k r' hk er' => ?_, fun t' h => ?_⟩
    · by_cases ek : k = i
      · subst ek
        rw [er] at er'
        obtain rfl := Option.some.inj er'
        exact ⟨ms, by rw [List.getElem?_append_right (by omega), yl, Nat.sub_self]; rfl, wm⟩
      · obtain ⟨w, h1, h2⟩ := yw k r' (by omega) er'
        exact ⟨w, by rw [List.getElem?_append_left (by omega)]; exact h1, h2⟩
    · rcases List.mem_append.mp h with h | h
      · exact fr t' h
      · obtain rfl := V.ref.inj (List.mem_singleton.mp h)
        refine ⟨mC, ?_⟩
        rcases fm with rfl | fm
        · exact .inl (List.mem_of_getElem? hx)
        · exact .inr (sa.free fm)
  rintro H7 ⟨acc, ys, hC, s7, ta, yl, yw, fr'⟩
  have mw : Vf.MapW (waiting.eraseIdx j) p c ys := ⟨yl.trans t6.1, fun i r er => yw i r (by rw [t6.1]; exact (List.getElem?_eq_some_iff.mp er).1) er⟩
  dsimp only [gName]
  have CF' : C' ≠ F := fun e => by rw [e, hF6] at nC'; cases nC'
  have uC : u ≠ C' := fun e => by rw [e, nC'] at hu6; cases hu6
  have ne6 : ∀ {t : Addr}, H6 t = none → t ≠ F := fun h e => by rw [e, hF6] at h; cases h
  refine ⟨C', ys, found ++ [p], ⟨_, _, _, rfl⟩, ⟨s06.trans s7, s06.free nC', EA4.nF, ⟨acc, hC, ta, fun t h => ⟨(fr' t h).1, (fr' t h).2.elim (fun m => (l3 t (List.mem_of_mem_eraseIdx m)).2) ne6⟩⟩, ⟨xf4 ++ [.ref u], s7 _ _ hF6, tf6.same s7, fun t h => ?_⟩, CF'⟩, K3.step hj pz mw⟩
  rcases List.mem_append.mp h with h | h
  · refine ⟨fun e => ?_, (f3 t h).2⟩
    obtain ⟨k, hk⟩ := List.mem_iff_getElem?.mp h
    obtain ⟨r, t', _, et, ht⟩ := tf5.get hk
    obtain rfl := V.ref.inj et
    have hk6 : (xf4 ++ [V.ref u])[k]? = some (.ref t) := by rw [List.getElem?_append_left (List.getElem?_eq_some_iff.mp hk).1]; exact hk
    obtain ⟨r2, t2, _, et2, ht2⟩ := tf6.get hk6
    obtain rfl := V.ref.inj et2
    rw [e, nC'] at ht2
    cases ht2
  · obtain rfl := V.ref.inj (List.mem_singleton.mp h)
    exact ⟨uC, um.2⟩
end

def sp_fraction (K : PySem.W.Frag) (A : Ad) : Sp := fun vs H Q _ => ∃ (n d : Int), vs = [.int n, .int d] ∧ d ≠ 0 ∧ Vf.Bt 8900 d ∧ ∀ (t : Addr) (H' : Hp), H t = none → Same H H' → H' t = some (.tup (Vf.pFr (Vf.fr n d))) → Q (.ref t) H'
theorem len_fraction {K : PySem.W.Frag} {A : Ad} (vs : List V) (H : Hp) (Q : VK) (E : XK) (h : sp_fraction K A vs H Q E) : vs.length = ["numerator", "denominator"].length := by
  obtain ⟨n, d, rfl, _⟩ := h
  rfl

section
variable {P : Program} {w : World} {K : PySem.W.Frag} {mg : Str → Option Value} {base : Heap}
set_option maxHeartbeats 4000000 in
theorem ok_fraction {A : Ad} (T : Txt K mg A) : FnOk P w K mg base CX0 1 A.f_fraction A.d_fraction ["numerator", "denominator"] (sp_fraction K A) := by
  refine T.F_fraction.ok sc_fraction len_fraction (fun cdv Ar outer s H vs Q E hr h => ?_)
  have hu := hu_of hr
  obtain ⟨n, d, rfl, d0, dS, q⟩ := h
  refine ⟨_, (pss_cons (ps_set (i := 2) sc_fraction.nd rfl (Or.inl rfl) (pe_callBfun cr_gcd (by rfl) T.Q_gcd (pa_cons (pv 0) (pa_cons (pv 1) pa_nil))))
      (pss_cons (ps_if (pt_cmpR op_lt (pv 1) pe_int (nomark _)) (pss_one (ps_set (i := 2) sc_fraction.nd rfl (Or.inl rfl) (pe_un un_neg (pv 2)))) pss_nil)
      (pss_one (ps_ret (pe_tup (pa_cons (pe_op Vf.op_fdivWN (pv 0) (pv 2)) (pa_cons (pe_op Vf.op_fdivWN (pv 1) (pv 2)) pa_nil))))))), ?_⟩
  obtain ⟨x, y, s0, sl, _⟩ := Vf.fr_ex (n := n) d0
  have lg := (dS.le sl).log (by decide) (by decide)
  refine ⟨_, rfl, _, rfl, n, d, rfl, ?_⟩
  dsimp only [gName]
  refine Vf.seq_join (fun σ' H' => σ' = [some (.int n), some (.int d), some (.int (Vf.shOf n d))] ∧ H' = H) (fun nx hn => ?_) ?_
  · refine ⟨_, rfl, _, _, rfl, rfl, _, rfl, Vf.ite_d (fun c => ?_) (fun c => ?_)⟩
    · refine ⟨_, rfl, _, rfl, hn _ _ ⟨?_, rfl⟩⟩
      unfold Vf.shOf
      rw [if_pos c]
      rfl
    · refine hn _ _ ⟨?_, rfl⟩
      unfold Vf.shOf
      rw [if_neg c]
      rfl
  rintro _ H9 ⟨rfl, rfl⟩
  refine ⟨_, rfl, _, rfl, _, _, rfl, rfl, ⟨s0, lg⟩, _, rfl, _, rfl, _, _, rfl, rfl, ⟨s0, lg⟩, (by show 2 ≤ sizeLine; decide), fun t nt => ?_⟩
  exact q t _ nt (Vf.Same.new (Same.refl _) nt) upd_same
end

def sp_minus (K : PySem.W.Frag) (A : Ad) : Sp := fun vs H Q _ => ∃ (a b : Addr) (x y : Int × Int), vs = [.ref a, .ref b] ∧ SqT K H a (Vf.pFr x) ∧ SqT K H b (Vf.pFr y) ∧ (Vf.Bt 4000 x.1 ∧ Vf.Bt 4000 x.2) ∧ (Vf.Bt 4000 y.1 ∧ Vf.Bt 4000 y.2) ∧ x.2 ≠ 0 ∧ y.2 ≠ 0 ∧ ∀ (t : Addr) (H' : Hp), H t = none → Same H H' → H' t = some (.tup (Vf.pFr (Vf.fr (x.1 * y.2 - y.1 * x.2) (x.2 * y.2)))) → Q (.ref t) H'
theorem len_minus {K : PySem.W.Frag} {A : Ad} (vs : List V) (H : Hp) (Q : VK) (E : XK) (h : sp_minus K A vs H Q E) : vs.length = ["first", "second"].length := by
  obtain ⟨a, b, x, y, rfl, _⟩ := h
  rfl

section
variable {P : Program} {w : World} {K : PySem.W.Frag} {mg : Str → Option Value} {base : Heap}
set_option maxHeartbeats 4000000 in
theorem ok_minus {A : Ad} (T : Txt K mg A) : FnOk P w K mg base CX0 2 A.f_minus A.d_minus ["first", "second"] (sp_minus K A) := by
  have G_fraction := ok_fraction (P := P) (w := w) (base := base) T
  refine T.F_minus.ok sc_minus len_minus (fun cdv Ar outer s H vs Q E hr h => ?_)
  have hu := hu_of hr
  obtain ⟨a, b, x, y, rfl, ha, hb, ⟨x1, x2⟩, ⟨y1, y2⟩, x0, y0, q⟩ := h
  refine ⟨_, (pss_one (ps_ret (pe_call G_fraction hr (by rfl) T.G_fraction T.F_fraction.kp T.B_fraction .nil pass0 (pa_cons (pe_op op_sub (pe_op op_mulW (pe_ix ix_tup (pv 0) pe_int (fun _ _ => rfl)) (pe_ix ix_tup (pv 1) pe_int (fun _ _ => rfl))) (pe_op op_mulW (pe_ix ix_tup (pv 1) pe_int (fun _ _ => rfl)) (pe_ix ix_tup (pv 0) pe_int (fun _ _ => rfl)))) (pa_cons (pe_op op_mulW (pe_ix ix_tup (pv 0) pe_int (fun _ _ => rfl)) (pe_ix ix_tup (pv 1) pe_int (fun _ _ => rfl))) pa_nil))))), ?_⟩
  refine ⟨_, rfl, a, _, 0, .int x.1, rfl, rfl, ha, atI_nat (j := 0) rfl, _, rfl, b, _, 1, .int y.2, rfl, rfl, hb, atI_nat (j := 1) rfl, _, _, rfl, rfl, x1.logs y2 (by decide) (by decide), _, rfl, b, _, 0, .int y.1, rfl, rfl, hb, atI_nat (j := 0) rfl, _, rfl, a, _, 1, .int x.2, rfl, rfl, ha, atI_nat (j := 1) rfl, _, _, rfl, rfl, y1.logs x2 (by decide) (by decide), _, _, rfl, rfl, _, rfl, a, _, 1, .int x.2, rfl, rfl, ha, atI_nat (j := 1) rfl, _, rfl, b, _, 1, .int y.2, rfl, rfl, hb, atI_nat (j := 1) rfl, _, _, rfl, rfl, x2.logs y2 (by decide) (by decide), _, _, rfl, Int.mul_ne_zero x0 y0, (x2.mul y2).mono (by decide), fun t H' nt s ht => q t H' nt s ht⟩
end

def sp_times (K : PySem.W.Frag) (A : Ad) : Sp := fun vs H Q _ => ∃ (a b : Addr) (x y : Int × Int), vs = [.ref a, .ref b] ∧ SqT K H a (Vf.pFr x) ∧ SqT K H b (Vf.pFr y) ∧ (Vf.Bt 4000 x.1 ∧ Vf.Bt 4000 x.2) ∧ (Vf.Bt 4000 y.1 ∧ Vf.Bt 4000 y.2) ∧ x.2 ≠ 0 ∧ y.2 ≠ 0 ∧ ∀ (t : Addr) (H' : Hp), H t = none → Same H H' → H' t = some (.tup (Vf.pFr (Vf.fr (x.1 * y.1) (x.2 * y.2)))) → Q (.ref t) H'
theorem len_times {K : PySem.W.Frag} {A : Ad} (vs : List V) (H : Hp) (Q : VK) (E : XK) (h : sp_times K A vs H Q E) : vs.length = ["first", "second"].length := by
  obtain ⟨a, b, x, y, rfl, _⟩ := h
  rfl

section
variable {P : Program} {w : World} {K : PySem.W.Frag} {mg : Str → Option Value} {base : Heap}
set_option maxHeartbeats 4000000 in
theorem ok_times {A : Ad} (T : Txt K mg A) : FnOk P w K mg base CX0 2 A.f_times A.d_times ["first", "second"] (sp_times K A) := by
  have G_fraction := ok_fraction (P := P) (w := w) (base := base) T
  refine T.F_times.ok sc_times len_times (fun cdv Ar outer s H vs Q E hr h => ?_)
  have hu := hu_of hr
  obtain ⟨a, b, x, y, rfl, ha, hb, ⟨x1, x2⟩, ⟨y1, y2⟩, x0, y0, q⟩ := h
  refine ⟨_, (pss_one (ps_ret (pe_call G_fraction hr (by rfl) T.G_fraction T.F_fraction.kp T.B_fraction .nil pass0 (pa_cons (pe_op op_mulW (pe_ix ix_tup (pv 0) pe_int (fun _ _ => rfl)) (pe_ix ix_tup (pv 1) pe_int (fun _ _ => rfl))) (pa_cons (pe_op op_mulW (pe_ix ix_tup (pv 0) pe_int (fun _ _ => rfl)) (pe_ix ix_tup (pv 1) pe_int (fun _ _ => rfl))) pa_nil))))), ?_⟩
  refine ⟨_, rfl, a, _, 0, .int x.1, rfl, rfl, ha, atI_nat (j := 0) rfl, _, rfl, b, _, 0, .int y.1, rfl, rfl, hb, atI_nat (j := 0) rfl, _, _, rfl, rfl, x1.logs y1 (by decide) (by decide), _, rfl, a, _, 1, .int x.2, rfl, rfl, ha, atI_nat (j := 1) rfl, _, rfl, b, _, 1, .int y.2, rfl, rfl, hb, atI_nat (j := 1) rfl, _, _, rfl, rfl, x2.logs y2 (by decide) (by decide), _, _, rfl, Int.mul_ne_zero x0 y0, (x2.mul y2).mono (by decide), fun t H' nt s ht => q t H' nt s ht⟩
end

def sp_over (K : PySem.W.Frag) (A : Ad) : Sp := fun vs H Q _ => ∃ (a b : Addr) (x y : Int × Int), vs = [.ref a, .ref b] ∧ SqT K H a (Vf.pFr x) ∧ SqT K H b (Vf.pFr y) ∧ (Vf.Bt 4000 x.1 ∧ Vf.Bt 4000 x.2) ∧ (Vf.Bt 4000 y.1 ∧ Vf.Bt 4000 y.2) ∧ x.2 ≠ 0 ∧ y.1 ≠ 0 ∧ ∀ (t : Addr) (H' : Hp), H t = none → Same H H' → H' t = some (.tup (Vf.pFr (Vf.fr (x.1 * y.2) (x.2 * y.1)))) → Q (.ref t) H'
theorem len_over {K : PySem.W.Frag} {A : Ad} (vs : List V) (H : Hp) (Q : VK) (E : XK) (h : sp_over K A vs H Q E) : vs.length = ["first", "second"].length := by
  obtain ⟨a, b, x, y, rfl, _⟩ := h
  rfl

section
variable {P : Program} {w : World} {K : PySem.W.Frag} {mg : Str → Option Value} {base : Heap}
set_option maxHeartbeats 4000000 in
theorem ok_over {A : Ad} (T : Txt K mg A) : FnOk P w K mg base CX0 2 A.f_over A.d_over ["first", "second"] (sp_over K A) := by
  have G_fraction := ok_fraction (P := P) (w := w) (base := base) T
  refine T.F_over.ok sc_over len_over (fun cdv Ar outer s H vs Q E hr h => ?_)
  have hu := hu_of hr
  obtain ⟨a, b, x, y, rfl, ha, hb, ⟨x1, x2⟩, ⟨y1, y2⟩, x0, y0, q⟩ := h
  refine ⟨_, (pss_one (ps_ret (pe_call G_fraction hr (by rfl) T.G_fraction T.F_fraction.kp T.B_fraction .nil pass0 (pa_cons (pe_op op_mulW (pe_ix ix_tup (pv 0) pe_int (fun _ _ => rfl)) (pe_ix ix_tup (pv 1) pe_int (fun _ _ => rfl))) (pa_cons (pe_op op_mulW (pe_ix ix_tup (pv 0) pe_int (fun _ _ => rfl)) (pe_ix ix_tup (pv 1) pe_int (fun _ _ => rfl))) pa_nil))))), ?_⟩
  refine ⟨_, rfl, a, _, 0, .int x.1, rfl, rfl, ha, atI_nat (j := 0) rfl, _, rfl, b, _, 1, .int y.2, rfl, rfl, hb, atI_nat (j := 1) rfl, _, _, rfl, rfl, x1.logs y2 (by decide) (by decide), _, rfl, a, _, 1, .int x.2, rfl, rfl, ha, atI_nat (j := 1) rfl, _, rfl, b, _, 0, .int y.1, rfl, rfl, hb, atI_nat (j := 0) rfl, _, _, rfl, rfl, x2.logs y1 (by decide) (by decide), _, _, rfl, Int.mul_ne_zero x0 y0, (x2.mul y1).mono (by decide), fun t H' nt s ht => q t H' nt s ht⟩
end

def sp_solve (K : PySem.W.Frag) (A : Ad) : Sp := fun vs H Q _ => ∃ (l : Addr) (n : Nat) (xs : List V) (zss : List (List (Int × Int))) (W : List (List Int)) (ks : List (Int × Int)) (v : List Int), vs = [.ref l] ∧ H l = some (.lst xs) ∧ Vf.FrRows H xs zss ∧ Vf.FwRows (n + 1) zss W ∧ zss.length = n ∧ 1 ≤ n ∧ n ≤ 4 ∧ ks.length = n ∧ (∀ (j : Nat) (z : Int × Int), ks[j]? = some z → Vf.Fw z (Vf.gD v j) 12 ∧ (Vf.gD v j).natAbs < 2 ^ 6) ∧ (∀ w ∈ W, Vf.dvN (n + 1) (Vf.gD w) (fun z => if z < n then Vf.gD v z else -12) = 0) ∧
  ((∃ x : Nat → Int, (∃ j, j < n ∧ x j ≠ 0) ∧ (∀ j, n ≤ j → x j = 0) ∧ ∀ w ∈ W, Vf.dvN (n + 1) (Vf.gD w) x = 0) → ∀ H', Same H H' → Q .non H') ∧
  ∀ (m : Addr) (ys : List V) (H' : Hp), Same H H' → H m = none → H' m = some (.lst ys) → Vf.Tups Vf.pFr H' ys ks → (∀ x : Nat → Int, (∀ j, n ≤ j → x j = 0) → (∀ w ∈ W, Vf.dvN (n + 1) (Vf.gD w) x = 0) → ∀ j, x j = 0) → Q (.ref m) H'
theorem len_solve {K : PySem.W.Frag} {A : Ad} (vs : List V) (H : Hp) (Q : VK) (E : XK) (h : sp_solve K A vs H Q E) : vs.length = ["rows"].length := by
  obtain ⟨a, b, c, d, e, f, g, rfl, _⟩ := h
  rfl

section
variable {P : Program} {w : World} {K : PySem.W.Frag} {mg : Str → Option Value} {base : Heap}
set_option maxHeartbeats 4000000 in
theorem ok_solve {A : Ad} (T : Txt K mg A) : FnOk P w K mg base CX0 4 A.f_solve A.d_solve ["rows"] (sp_solve K A) := by
  have G__stairs := ok__stairs (P := P) (w := w) (base := base) T
  have G_minus := ok_minus (P := P) (w := w) (base := base) T
  have G_times := ok_times (P := P) (w := w) (base := base) T
  have G_over := ok_over (P := P) (w := w) (base := base) T
  refine T.F_solve.ok sc_solve len_solve (fun cdv Ar outer s H vs Q E hr h => ?_)
  have hu := hu_of hr
  obtain ⟨l, n, xs, zss, W, ks, v, rfl, hl, FR, FW, zn, n1, n4, kl, kf, kap, qn, qs⟩ := h
  refine ⟨_, (pss_cons (ps_set (i := 1) sc_solve.nd rfl (Or.inl rfl) (pe_call G__stairs hr (by rfl) T.G__stairs T.F__stairs.kp T.B__stairs .nil pass0 (pa_cons (pv 0) pa_nil)))
      (pss_cons (ps_if (pt_cmpR op_isN (pv 1) pe_non (nomark _)) (pss_one (ps_ret pe_non)) pss_nil)
      (pss_cons (ps_set (i := 2) sc_solve.nd rfl (Or.inl rfl) (pe_op op_rep (pe_lst (pa_cons pe_non pa_nil)) (pe_callB call_len_seq (by rfl) T.N_len PySem.boot_len (pa_cons (pv 0) pa_nil))))
      (pss_cons (ps_for PassesOwn.never rfl (pi_revR (by rfl) T.N_reversed (prg_1 (by rfl) T.N_range (pe_callB call_len_seq (by rfl) T.N_len PySem.boot_len (pa_cons (pv 0) pa_nil)))) (pg_name (i := 3) sc_solve.nd rfl (Or.inl rfl))
        (pss_cons (ps_set (i := 4) sc_solve.nd rfl (Or.inl rfl) (pe_ix ix_list (pv 1) (pv 3) (fun _ _ => rfl)))
      (pss_cons (ps_set (i := 5) sc_solve.nd rfl (Or.inl rfl) (pe_tup (pa_cons (pe_ix ix_list (pv 4) (pe_un un_neg pe_int) (fun _ _ => rfl)) (pa_cons pe_int pa_nil))))
      (pss_cons (ps_for PassesOwn.never rfl (pi_range2 (by rfl) T.N_range (pa_cons (pe_op op_add (pv 3) pe_int) (pa_cons (pe_callB call_len_seq (by rfl) T.N_len PySem.boot_len (pa_cons (pv 0) pa_nil)) pa_nil))) (pg_name (i := 6) sc_solve.nd rfl (Or.inl rfl))
        (pss_one (ps_if (pt_cmpR op_ne (pe_ix ix_list (pv 4) (pv 6) (fun _ _ => rfl)) pe_int (nomark _)) (pss_one (ps_set (i := 5) sc_solve.nd rfl (Or.inl rfl) (pe_call G_minus (hr.mono (by decide)) (by rfl) T.G_minus T.F_minus.kp T.B_minus .nil pass0 (pa_cons (pv 5) (pa_cons (pe_call G_times (hr.mono (by decide)) (by rfl) T.G_times T.F_times.kp T.B_times .nil pass0 (pa_cons (pe_tup (pa_cons (pe_ix ix_list (pv 4) (pv 6) (fun _ _ => rfl)) (pa_cons pe_int pa_nil))) (pa_cons (pe_ix ix_list (pv 2) (pv 6) (fun _ _ => rfl)) pa_nil))) pa_nil))))) pss_nil)))
      (pss_one (ps_asg (pe_call G_over (hr.mono (by decide)) (by rfl) T.G_over T.F_over.kp T.B_over .nil pass0 (pa_cons (pv 5) (pa_cons (pe_tup (pa_cons (pe_ix ix_list (pv 4) (pv 3) (fun _ _ => rfl)) (pa_cons pe_int pa_nil))) pa_nil))) (pg_sub (pv 2) (pv 3) set_list)))))))
      (pss_one (ps_ret (pv 2))))))), ?_⟩
  have xl : xs.length = n := FR.1.trans zn
  refine ⟨_, rfl, l, n, xs, zss, W, rfl, hl, FR, FW, zn, n1, n4, fun ex H1 s1 => ?_, fun m ys S H1 s1 nm hm tS Sn Sb st Sk => ?_⟩
  · dsimp only [gName]
    refine ⟨_, rfl, rfl, _, rfl, Vf.ite_d (fun _ => ?_) fun c => absurd rfl c⟩
    exact qn ex H1 s1
  dsimp only [gName]
  refine ⟨_, rfl, rfl, _, rfl, Vf.ite_d (fun c => by cases c) fun _ => ?_⟩
  unfold tNext
  dsimp only
  refine ⟨(by show 1 ≤ sizeLine; decide), fun u nu => ?_⟩
  have e1 := Vf.Same.new (o := .lst [.non]) (Same.refl H1) nu
  have hu := upd_same (H := H1) (a := u) (o := .lst [.non])
  generalize upd H1 u (.lst [.non]) = H2 at e1 hu ⊢
  have s2 := s1.trans e1
  refine ⟨_, rfl, l, _, rfl, .inl (SqL.of (s2 _ _ hl)), ?_⟩
  rw [xl]
  refine ⟨u, n, _, rfl, rfl, hu, by omega, by omega, ?_, fun R nR => ?_⟩
  · rw [Int.toNat_natCast]
    exact Nat.le_trans (show [V.non].length * n ≤ 4 by show 1 * n ≤ 4; omega) (by decide)
  have rl : (List.replicate ((n : Int)).toNat [V.non]).flatten.length = n := by
    rw [Int.toNat_natCast, List.length_flatten, List.map_replicate, List.sum_replicate_nat]
    show n * 1 = n
    omega
  have e2 := Vf.Same.new (o := .lst (List.replicate ((n : Int)).toNat [V.non]).flatten) (Same.refl H2) nR
  have hR := upd_same (H := H2) (a := R) (o := .lst (List.replicate ((n : Int)).toNat [V.non]).flatten)
  generalize (List.replicate ((n : Int)).toNat [V.non]).flatten = y0 at e2 hR rl ⊢
  generalize upd H2 R (.lst y0) = H3 at e2 hR ⊢
  have s3 := s2.trans e2
  have nR0 : H R = none := s2.free nR
  have nR1 : H1 R = none := e1.free nR
  have s13 := e1.trans e2
  dsimp only [gName]
  have hm3 := s13 _ _ hm
  have tS3 := tS.same s13
  have hl3 := s3 _ _ hl
  have mR : m ≠ R := fun e => by rw [e, nR1] at hm; cases hm
  have lR : l ≠ R := fun e => by rw [e, nR0] at hl; cases hl
  have Rs : ∀ t, V.ref t ∈ ys → t ≠ R := fun t ht e => by
    obtain ⟨k, hk⟩ := List.mem_iff_getElem?.mp ht
    obtain ⟨r, t', _, et, h⟩ := tS.get hk
    rw [← V.ref.inj et, e, nR1] at h
    cases h
  refine ⟨_, rfl, l, _, rfl, .inl (SqL.of hl3), ?_⟩
  rw [xl]
  refine ⟨_, rfl, by omega, by omega, by omega, by omega, ?_⟩
  rw [show (((n : Nat) : Int) - 0).toNat = n by omega, show (0 : Int) + ((n : Nat) : Int) - 1 = (n : Int) - 1 by omega]
  refine for_it (walk_rangeC (lo := (n : Int) - 1) (c := -1) (n := n)) (fun i σ H' => ∃ zs : List V, (∃ v3 v4 v5 v6 : Option V, σ = [some (.ref l), some (.ref m), some (.ref R), v3, v4, v5, v6]) ∧ Vf.Keep [R] H3 H' ∧ H' R = some (.lst zs) ∧ zs.length = n ∧ ∀ (j : Nat) (z : Int × Int), n - i ≤ j → ks[j]? = some z → ∃ t, zs[j]? = some (.ref t) ∧ H' t = some (.tup (Vf.pFr z)) ∧ t ≠ R) ⟨y0, ⟨_, _, _, _, rfl⟩, Vf.Keep.refl H3, hR, rl, fun j z h hj => by have := (List.getElem?_eq_some_iff.mp hj).1; omega⟩ (fun _ _ _ _ _ => trivial) ?_ ?_
  rotate_left
  · rintro σ H4 ⟨zs, ⟨v3, v4, v5, v6, rfl⟩, k4, h4, zl, al⟩
    refine ⟨_, rfl, qs R zs H4 (fun a o h => ?_) nR0 h4 ⟨by rw [zl, kl], fun j z hj => ?_⟩ fun x out h => ?_⟩
    · exact k4 a o (fun mm => by rw [List.mem_singleton.mp mm, nR0] at h; cases h) (s3 a o h)
    · obtain ⟨t, h1, h2, _⟩ := al j z (by omega) hj
      exact ⟨t, h1, h2⟩
    · exact Vf.stair_zero (N := n + 1) st (by omega) (fun j hj => out j (by omega)) (Sk x h)
  rintro i y σ H4 H5 hi ⟨zs, ⟨v3, v4, v5, v6, rfl⟩, k4, h4, zl, al⟩ ⟨rfl, rfl⟩
  obtain ⟨c, hc⟩ : ∃ c : Nat, c = n - 1 - i := ⟨_, rfl⟩
  have cn : c < n := by omega
  have ey : (n : Int) - 1 + (i : Nat) * -1 = (c : Int) := by omega
  dsimp only at *
  rw [ey]
  obtain ⟨s, es⟩ : ∃ s, S[c]? = some s := ⟨_, List.getElem?_eq_getElem (by omega)⟩
  have smem := List.mem_of_getElem? es
  obtain ⟨sl, sbd⟩ := Sb s smem
  obtain ⟨sz, snz⟩ := st c s es
  obtain ⟨t, et, ht⟩ := tS.2 c s es
  have tR := Rs t (List.mem_of_getElem? et)
  have k14 : ∀ {a : Addr} {o : HO}, a ≠ R → H1 a = some o → H5 a = some o := fun n h => k4 _ _ (by simpa using n) (s13 _ _ h)
  have hm5 := k14 mR hm
  have ht5 := k14 tR ht
  have hl5 := k4 _ _ (by simpa using lR) hl3
  dsimp only [gName]
  refine ⟨_, rfl, _, rfl, m, _, _, .ref t, rfl, rfl, SqL.of hm5, atI_nat et, ?_⟩
  dsimp only [gName]
  refine ⟨_, rfl, 1, rfl, t, _, -1, _, rfl, rfl, SqL.of ht5, Vf.at_m1 sl, (by show 2 ≤ sizeLine; decide), fun L0 nL0 => ?_⟩
  have e6 := Vf.Same.new (o := .tup (Vf.pFr (Vf.gD s n, 1))) (Same.refl H5) nL0
  have h6 : (upd H5 L0 (.tup [.int (Vf.gD s n), .int 1])) L0 = some (.tup (Vf.pFr (Vf.gD s n, 1))) := upd_same
  rw [show HO.tup (Vf.pFr (Vf.gD s n, 1)) = HO.tup [V.int (Vf.gD s n), V.int 1] from rfl] at e6
  generalize upd H5 L0 (.tup [.int (Vf.gD s n), .int 1]) = H6 at e6 h6 ⊢
  dsimp only [gName]
  refine ⟨_, rfl, _, _, rfl, rfl, _, rfl, l, _, rfl, .inl (SqL.of (e6 _ _ hl5)), ?_⟩
  rw [xl]
  have sbn : (Vf.gD s n).natAbs < 2 ^ 399 := sbd n
  have F0 : Vf.Fw (Vf.gD s n, 1) (12 * Vf.gD s n - Vf.tl s v c (c + 1 + 0)) 12 := by
    rw [Vf.tl_zero (Nat.le_refl _), Int.sub_zero, Int.mul_comm]
    exact Vf.fw_scale (Vf.fw_int (Vf.gD s n)) 12
  have B0 : (12 * Vf.gD s n - Vf.tl s v c (c + 1 + 0)).natAbs < 2 ^ (406 + 0) := by
    rw [Vf.tl_zero (Nat.le_refl _), Int.sub_zero]
    exact Nat.lt_of_lt_of_le (wide_lt (a := 4) (show (12 : Int).natAbs < 2 ^ 4 by decide) sbn) (Nat.pow_le_pow_right (by decide) (by decide))
  have vb : ∀ j, j < n → (Vf.gD v j).natAbs < 2 ^ 6 := fun j hj => (kf j _ (List.getElem?_eq_getElem (by omega))).2
  refine ⟨_, _, rfl, ⟨by omega, by omega, by omega, by omega⟩, for_range (lo := (c : Int) + 1) (n := _) (fun k σ H' => ∃ (lf : Addr) (z : Int × Int), (∃ v6 : Option V, σ = [some (.ref l), some (.ref m), some (.ref R), some (.int (c : Int)), some (.ref t), some (.ref lf), v6]) ∧ Same H5 H' ∧ H' lf = some (.tup (Vf.pFr z)) ∧ Vf.Fw z (12 * Vf.gD s n - Vf.tl s v c (c + 1 + k)) 12 ∧ (12 * Vf.gD s n - Vf.tl s v c (c + 1 + k)).natAbs < 2 ^ (406 + k)) ⟨L0, _, ⟨_, rfl⟩, e6, h6, F0, B0⟩ ?_ ?_⟩
  · rintro k σ H7 hk ⟨lf, z, ⟨v6', rfl⟩, s7, hlf, Fz, Bz⟩
    obtain ⟨b, eb⟩ : ∃ b : Nat, b = c + 1 + k := ⟨_, rfl⟩
    have bn : b < n := by omega
    have ebi : (c : Int) + 1 + (k : Int) = (b : Int) := by omega
    rw [ebi]
    have ts := Vf.tl_succ (s := s) (v := v) (c := c) (b := b) (by omega)
    rw [← eb] at Fz Bz
    dsimp only [gName]
    refine ⟨_, rfl, _, rfl, t, _, _, _, rfl, rfl, SqL.of (s7 _ _ ht5), Vf.int_at (by omega) (by omega), ?_⟩
    rw [Int.toNat_natCast]
    refine ⟨rfl, _, rfl, Vf.ite_b (fun e => ?_) fun e => ?_⟩
    rotate_left
    · have e0 : Vf.gD s b = 0 := by
        have e : decide (V.int (s.getD b 0) = V.int 0) = true := by simpa using e
        exact V.int.inj (of_decide_eq_true e)
      refine ⟨lf, z, ⟨_, rfl⟩, s7, hlf, ?_, ?_⟩
      · rw [show c + 1 + (k + 1) = b + 1 by omega, ts, e0, Int.zero_mul, Int.add_zero]
        exact Fz
      · rw [show c + 1 + (k + 1) = b + 1 by omega, ts, e0, Int.zero_mul, Int.add_zero]
        exact Nat.lt_of_lt_of_le Bz (Nat.pow_le_pow_right (by decide) (by omega))
    obtain ⟨kb, ekb⟩ : ∃ kb, ks[b]? = some kb := ⟨_, List.getElem?_eq_getElem (by omega)⟩
    obtain ⟨tk, etk, htk, tkR⟩ := al b kb (by omega) ekb
    obtain ⟨Fk, vkb⟩ := kf b kb ekb
    have sbb : (Vf.gD s b).natAbs < 2 ^ 399 := sbd b
    refine ⟨_, rfl, _, rfl, _, rfl, t, _, _, _, rfl, rfl, SqL.of (s7 _ _ ht5), Vf.int_at (by omega) (by omega), (by show 2 ≤ sizeLine; decide), fun T nT => ?_⟩
    rw [Int.toNat_natCast]
    have e8 := Vf.Same.new (o := .tup [.int (s.getD b 0), .int 1]) (Same.refl H7) nT
    have h8 : (upd H7 T (.tup [.int (s.getD b 0), .int 1])) T = some (.tup (Vf.pFr (Vf.gD s b, 1))) := upd_same
    generalize upd H7 T (.tup [.int (s.getD b 0), .int 1]) = H8 at e8 h8 ⊢
    have s8 := s7.trans e8
    refine ⟨_, rfl, _, rfl, R, _, _, .ref tk, rfl, rfl, SqL.of (s8 _ _ h4), atI_nat etk, ?_⟩
    obtain ⟨kb1, kb2⟩ := Fk.bt (a := 6) (b := 4) (by decide) vkb (by decide)
    refine ⟨T, tk, (Vf.gD s b, 1), kb, rfl, SqT.of h8, SqT.of (s8 _ _ htk), ⟨Vf.Bt.mono (k := 399) sbb (by decide), Vf.Bt.mono (k := 1) (show (1 : Int).natAbs < 2 ^ 1 by decide) (by decide)⟩, ⟨kb1.mono (by decide), kb2.mono (by decide)⟩, by show (1 : Int) ≠ 0; decide, Fk.nz, fun T2 H9 nT2 s9 h9 => ?_⟩
    have Fm : Vf.Fw (Vf.fr ((Vf.gD s b, (1 : Int)).1 * kb.1) ((Vf.gD s b, (1 : Int)).2 * kb.2)) (Vf.gD s b * Vf.gD v b) 12 := by
      have h := Vf.fw_mul (Vf.fw_int (Vf.gD s b)) Fk
      rwa [show (1 : Int) * 12 = 12 from rfl] at h
    have wm := wide_lt sbb vkb
    obtain ⟨m1, m2⟩ := Fm.bt (b := 4) (by decide) wm (by decide)
    obtain ⟨z1, z2⟩ := Fz.bt (b := 4) (by decide) Bz (by decide)
    refine ⟨lf, T2, z, _, rfl, SqT.of (s9 _ _ (e8 _ _ hlf)), SqT.of h9, ⟨z1.mono (by omega), z2.mono (by decide)⟩, ⟨m1.mono (by decide), m2.mono (by decide)⟩, Fz.nz, Fm.nz, fun T3 H10 nT3 s10 h10 => ?_⟩
    have Fs := Vf.fw_sub Fz Fm
    dsimp only [gName]
    refine ⟨T3, _, ⟨_, rfl⟩, s8.trans (s9.trans s10), h10, ?_, ?_⟩
    · rw [show c + 1 + (k + 1) = b + 1 by omega, ts, show 12 * Vf.gD s n - (Vf.tl s v c b + Vf.gD s b * Vf.gD v b) = 12 * Vf.gD s n - Vf.tl s v c b - Vf.gD s b * Vf.gD v b by omega]
      exact Fs
    · rw [show c + 1 + (k + 1) = b + 1 by omega, ts]
      have l1 : 2 ^ (399 + 6) ≤ 2 ^ (406 + k) := Nat.pow_le_pow_right (by decide) (by omega)
      have l2 : 2 ^ (406 + (k + 1)) = 2 ^ (406 + k) + 2 ^ (406 + k) := by rw [show 406 + (k + 1) = 406 + k + 1 by omega, Nat.pow_succ]; omega
      omega
  rintro σ H7 ⟨lf, z, ⟨v6', rfl⟩, s7, hlf, Fz, Bz⟩
  have eN : c + 1 + ((n : Int) - ((c : Int) + 1)).toNat = n := by omega
  rw [eN] at Fz
  have Bz : (12 * Vf.gD s n - Vf.tl s v c n).natAbs < 2 ^ 500 := by
    rw [eN] at Bz
    exact Nat.lt_of_lt_of_le Bz (Nat.pow_le_pow_right (by decide) (by omega))
  have bs := Vf.back_sum cn sz (Sk _ kap s smem)
  obtain ⟨kc, ekc⟩ : ∃ kc, ks[c]? = some kc := ⟨_, List.getElem?_eq_getElem (by omega)⟩
  obtain ⟨Fk, vkc⟩ := kf c kc ekc
  have scb : (Vf.gD s c).natAbs < 2 ^ 399 := sbd c
  dsimp only
  refine ⟨_, rfl, _, rfl, _, rfl, t, _, _, _, rfl, rfl, SqL.of (s7 _ _ ht5), Vf.int_at (by omega) (by omega), (by show 2 ≤ sizeLine; decide), fun T nT => ?_⟩
  rw [Int.toNat_natCast]
  have e8 := Vf.Same.new (o := .tup [.int (s.getD c 0), .int 1]) (Same.refl H7) nT
  have h8 : (upd H7 T (.tup [.int (s.getD c 0), .int 1])) T = some (.tup (Vf.pFr (Vf.gD s c, 1))) := upd_same
  generalize upd H7 T (.tup [.int (s.getD c 0), .int 1]) = H8 at e8 h8 ⊢
  obtain ⟨z1, z2⟩ := Fz.bt (b := 4) (by decide) Bz (by decide)
  refine ⟨lf, T, z, (Vf.gD s c, 1), rfl, SqT.of (e8 _ _ hlf), SqT.of h8, ⟨z1.mono (by decide), z2.mono (by decide)⟩, ⟨Vf.Bt.mono (k := 399) scb (by decide), Vf.Bt.mono (k := 1) (show (1 : Int).natAbs < 2 ^ 1 by decide) (by decide)⟩, Fz.nz, snz, fun T2 H9 nT2 s9 h9 => ?_⟩
  have Fo := Vf.fw_over Fz snz bs
  have ek : Vf.fr (z.1 * 1) (z.2 * Vf.gD s c) = kc := Vf.fw_uniq Fo Fk (by decide) (by decide) rfl
  have h9k : H9 T2 = some (.tup (Vf.pFr kc)) := by rw [← ek]; exact h9
  clear h9
  have s59 := s7.trans (e8.trans s9)
  have h49 := s59 _ _ h4
  have T2R : T2 ≠ R := fun e => by rw [e, (s7.trans e8) _ _ h4] at nT2; cases nT2
  refine ⟨_, rfl, _, rfl, R, _, _, _, rfl, rfl, h49, (by rw [zl]; exact Vf.ixNq cn), ?_⟩
  refine ⟨zs.set c (.ref T2), ⟨_, _, _, _, rfl⟩, fun a o nm h => ?_, upd_same, by rw [List.length_set]; exact zl, fun j q hj hq => ?_⟩
  · rw [upd_ne (by simpa using nm)]
    exact s59 _ _ (k4 a o nm h)
  · by_cases jc : j = c
    · subst jc
      rw [ekc] at hq
      rw [← Option.some.inj hq]
      refine ⟨T2, ?_, by rw [upd_ne T2R]; exact h9k, T2R⟩
      rw [List.getElem?_set, if_pos rfl, if_pos (by omega)]
    · obtain ⟨t', h1, h2, h3⟩ := al j q (by omega) hq
      refine ⟨t', ?_, by rw [upd_ne h3]; exact s59 _ _ h2, h3⟩
      rw [List.getElem?_set, if_neg (fun e => jc e.symm)]
      exact h1
end

def sp__law_det (K : PySem.W.Frag) (A : Ad) (n : Nat) : Sp := fun vs H Q _ => ∃ (l : Addr) (xs : List V) (zss : List (List (Int × Int))) (W : List (List Int)) (Ds : List Int) (m : Nat), vs = [.ref l] ∧ H l = some (.lst xs) ∧ Vf.FrRows H xs zss ∧ Vf.FdRows m zss W Ds ∧ zss.length = m ∧ m + 1 ≤ n ∧ m ≤ 4 ∧ ∀ (t : Addr) (z : Int × Int) (H' : Hp), Same H H' → H t = none → H' t = some (.tup (Vf.pFr z)) → Vf.Fw z (Vf.detN m W) (Vf.prodI Ds) → Q (.ref t) H'
theorem len__law_det {K : PySem.W.Frag} {A : Ad} {n : Nat} (vs : List V) (H : Hp) (Q : VK) (E : XK) (h : sp__law_det K A n vs H Q E) : vs.length = ["rows"].length := by
  obtain ⟨a, b, c, d, e, f, rfl, _⟩ := h
  rfl
theorem no__law_det {K : PySem.W.Frag} {A : Ad} {vs : List V} {H : Hp} {Q : VK} {E : XK} (h : sp__law_det K A 0 vs H Q E) : False := by
  obtain ⟨_, _, _, _, _, m, _, _, _, _, _, d, _⟩ := h
  omega

section
variable {P : Program} {w : World} {K : PySem.W.Frag} {mg : Str → Option Value} {base : Heap}
set_option maxHeartbeats 4000000 in
theorem ok__law_det {A : Ad} (T : Txt K mg A) (n : Nat) : FnOk P w K mg base CX0 (3 + n) A.f__law_det A.d__law_det ["rows"] (sp__law_det K A n) := by
  have G__law_mul := ok__law_mul (P := P) (w := w) (base := base) T
  have G__law_add := ok__law_add (P := P) (w := w) (base := base) T
  induction n with
  | zero => exact ⟨fun _ _ _ _ h => (no__law_det h).elim, fun _ _ _ _ _ _ _ _ _ _ _ _ _ h => (no__law_det h).elim⟩
  | succ n G__law_det =>
  refine T.F__law_det.ok sc__law_det len__law_det (fun cdv Ar outer s H vs Q E hr h => ?_)
  have hu := hu_of hr
  obtain ⟨l, xs, zss, W, Ds, m, rfl, hl, FR, FD, zm, dn, m4, q⟩ := h
  refine ⟨_, (pss_cons (ps_if (pt_cmpR op_eq (pe_callB call_len_seq (by rfl) T.N_len PySem.boot_len (pa_cons (pv 0) pa_nil)) pe_int (nomark _)) (pss_one (ps_ret (pe_tup (pa_cons pe_int (pa_cons pe_int pa_nil))))) pss_nil)
      (pss_cons (ps_set (i := 1) sc__law_det.nd rfl (Or.inl rfl) (pe_tup (pa_cons pe_int (pa_cons pe_int pa_nil))))
      (pss_cons (ps_for PassesOwn.never rfl (pi_range1 rfl T.N_range (pa_cons (pe_callB call_len_seq (by rfl) T.N_len PySem.boot_len (pa_cons (pv 0) pa_nil)) pa_nil)) (pg_name (i := 2) sc__law_det.nd rfl (Or.inr rfl))
        (pss_cons (ps_setLc (i := 3) (own := [("row", 5)]) (g := (gName 5)) (tt := tYes) rfl sc__law_det.nd rfl rfl (sw_true rfl rfl rfl (by decide +kernel)) (pi_list (pe_slice sl_list (pv 0) (po_some pe_int) po_none)) (blkOk_by (N := ["rows", "total", "k", "minor", "part", "row"]) (sc := defScope s__law_det) (by decide +kernel)) (fun _ _ _ _ _ => (pg_name (i := 5) sc__law_det.nd rfl (Or.inl rfl))) (fun _ _ _ _ _ => pts_nil) (fun _ _ _ _ _ => (pe_op op_cat (pe_slice (Vf.sl_listK (K := K) rfl) (pv 5) po_none (po_some (pv 2))) (pe_slice (Vf.sl_listK (K := K) rfl) (pv 5) (po_some (pe_op op_add (pv 2) pe_int)) po_none))))
      (pss_cons (ps_set (i := 4) sc__law_det.nd rfl (Or.inl rfl) (pe_call G__law_mul (hr.mono (j := 3) (Nat.le_trans (by decide) (Nat.le_add_right 3 n))) (by rfl) T.G__law_mul T.F__law_mul.kp T.B__law_mul .nil pass0 (pa_cons (pe_ix ix_list (pe_ix ix_list (pv 0) pe_int (fun _ _ => rfl)) (pv 2) (fun _ _ => rfl)) (pa_cons (pe_call G__law_det hr (by rfl) T.G__law_det T.F__law_det.kp T.B__law_det .nil pass0 (pa_cons (pv 3) pa_nil)) pa_nil))))
      (pss_cons (ps_if (pt_cmpR op_eq (pe_op op_mod (pv 2) pe_int) pe_int (nomark _)) (pss_one (ps_set (i := 4) sc__law_det.nd rfl (Or.inl rfl) (pe_tup (pa_cons (pe_un un_neg (pe_ix ix_tup (pv 4) pe_int (fun _ _ => rfl))) (pa_cons (pe_ix ix_tup (pv 4) pe_int (fun _ _ => rfl)) pa_nil))))) pss_nil)
      (pss_one (ps_set (i := 1) sc__law_det.nd rfl (Or.inl rfl) (pe_call G__law_add (hr.mono (j := 3) (Nat.le_trans (by decide) (Nat.le_add_right 3 n))) (by rfl) T.G__law_add T.F__law_add.kp T.B__law_add .nil pass0 (pa_cons (pv 1) (pa_cons (pv 4) pa_nil)))))))))
      (pss_one (ps_ret (pv 1)))))), ?_⟩
  have xl : xs.length = m := FR.1.trans zm
  refine ⟨_, rfl, l, _, rfl, .inl (SqL.of hl), rfl, _, rfl, Vf.ite_d (fun ze => ?_) fun ze => ?_⟩
  · have m0 : m = 0 := by
      have := V.int.inj ze
      omega
    subst m0
    have D0 : Ds = [] := List.eq_nil_of_length_eq_zero (by rw [FD.ld, zm])
    refine ⟨(by show 2 ≤ sizeLine; decide), fun t nt => ?_⟩
    refine q t (1, 1) _ (Vf.Same.new (Same.refl H) nt) nt upd_same ?_
    rw [D0]
    exact ⟨⟨by show (0 : Int) < 1; decide, rfl⟩, rfl⟩
  obtain ⟨c, rfl⟩ : ∃ c, m = c + 1 := ⟨m - 1, by
    have : m ≠ 0 := fun e => ze (by rw [xl, e]; rfl)
    omega⟩
  obtain ⟨zs0, Z, rfl⟩ : ∃ zs0 Z, zss = zs0 :: Z := by
    cases zss with
    | nil => cases zm
    | cons a b => exact ⟨a, b, rfl⟩
  obtain ⟨w0, B, rfl⟩ : ∃ w0 B, W = w0 :: B := by
    cases W with
    | nil => have := FD.lw; cases this
    | cons a b => exact ⟨a, b, rfl⟩
  obtain ⟨d0, T0, rfl⟩ : ∃ d0 T0, Ds = d0 :: T0 := by
    cases Ds with
    | nil => have := FD.ld; cases this
    | cons a b => exact ⟨a, b, rfl⟩
  obtain ⟨x0, xt, rfl⟩ : ∃ x0 xt, xs = x0 :: xt := by
    cases xs with
    | nil => cases xl
    | cons a b => exact ⟨a, b, rfl⟩
  have Zc : Z.length = c := Nat.succ.inj zm
  obtain ⟨zl0, wl0, f0⟩ := FD.row 0 zs0 w0 d0 rfl rfl rfl
  obtain ⟨dd0, dd1⟩ := FD.dd d0 (List.mem_cons_self ..)
  obtain ⟨pp, pl⟩ := Vf.prodI_bd FD.dd
  obtain ⟨tp, tl'⟩ := Vf.prodI_bd (Ds := T0) fun d hd => FD.dd d (List.mem_cons_of_mem _ hd)
  have Tl : T0.length = c := by have := FD.ld; simpa using this.trans zm
  have pb : Vf.prodI (d0 :: T0) ≤ 1000000000 := by
    refine Int.le_trans pl ?_
    rw [show (d0 :: T0).length = c + 1 by rw [List.length_cons, Tl]]
    have : c + 1 = 1 ∨ c + 1 = 2 ∨ c + 1 = 3 ∨ c + 1 = 4 := by omega
    rcases this with h | h | h | h <;> rw [h] <;> decide
  have tb : Vf.prodI T0 ≤ 1000000000 := by
    refine Int.le_trans tl' ?_
    rw [Tl]
    have : c = 0 ∨ c = 1 ∨ c = 2 ∨ c = 3 := by omega
    rcases this with h | h | h | h <;> rw [h] <;> decide
  obtain ⟨P, eP⟩ : ∃ P, P = Vf.prodI (d0 :: T0) := ⟨_, rfl⟩
  rw [← eP] at pp pb
  unfold tNext
  dsimp only
  refine ⟨(by show 2 ≤ sizeLine; decide), fun t0 nt0 => ?_⟩
  have e1 := Vf.Same.new (o := .tup [.int 0, .int 1]) (Same.refl H) nt0
  have h1 : (upd H t0 (.tup [.int 0, .int 1])) t0 = some (.tup (Vf.pFr (0, 1))) := upd_same
  generalize upd H t0 (.tup [.int 0, .int 1]) = H1 at e1 h1 ⊢
  dsimp only [gName]
  have Fz0 : Vf.Fw (0, 1) (Vf.sumN 0 fun k => Vf.sg k * w0.getD k 0 * Vf.detN c (Vf.minr k (w0 :: B))) P := ⟨⟨by show (0 : Int) < 1; decide, rfl⟩, by show (0 : Int) * P = 0 * 1; omega⟩
  refine ⟨_, rfl, l, _, rfl, .inl (SqL.of (e1 _ _ hl)), ?_⟩
  rw [xl]
  refine ⟨_, rfl, by omega, by omega, for_range (lo := 0) (n := _) (fun k σ H' => ∃ (tt : Addr) (z : Int × Int), (∃ v2 v3 v4 : Option V, σ = [some (.ref l), some (.ref tt), v2, v3, v4, none]) ∧ Same H H' ∧ H tt = none ∧ H' tt = some (.tup (Vf.pFr z)) ∧ Vf.Fw z (Vf.sumN k fun k => Vf.sg k * w0.getD k 0 * Vf.detN c (Vf.minr k (w0 :: B))) P) ⟨t0, _, ⟨_, _, _, rfl⟩, e1, nt0, h1, Fz0⟩ ?_ ?_⟩
  rotate_left
  · rintro σ H2 ⟨tt, z, ⟨v2, v3, v4, rfl⟩, s2, nt, ht, Fz⟩
    rw [show ((c + 1 : Nat) : Int).toNat = c + 1 by omega] at Fz
    refine ⟨_, rfl, q tt z H2 s2 nt ht ?_⟩
    rw [← eP]
    exact Fz
  rintro k σ H2 hk ⟨tt, z, ⟨v2, v3, v4, rfl⟩, s2, nt, ht, Fz⟩
  have hk : k < c + 1 := by omega
  rw [show (0 : Int) + (k : Int) = (k : Int) from Int.zero_add _]
  have hl2 := s2 _ _ hl
  have FR2 := FR.same s2
  dsimp only [gName]
  refine ⟨_, rfl, _, rfl, l, _, rfl, SqL.of hl2, fun S nS => ?_⟩
  have ec : cutV (x0 :: xt) (some 1) none = xt := by
    rw [show (1 : Int) = ((1 : Nat) : Int) from rfl, Vf.cut_lo]
    rfl
  rw [ec]
  have e3 := Vf.Same.new (o := .lst xt) (Same.refl H2) nS
  have hS := upd_same (H := H2) (a := S) (o := .lst xt)
  generalize upd H2 S (.lst xt) = H3 at e3 hS ⊢
  have FRt := (FR2.same e3).tail
  have xtl : xt.length = Z.length := FRt.1
  refine ⟨S, rfl, ⟨_, SqL.of hS⟩, fun C nC => lc_it (walk_list (K := K) (a := S) (xs := xt)) (fun i H' => ∃ acc : List V, H' C = some (.lst acc) ∧ Same H3 H' ∧ Vf.FrRows H' acc ((Z.take i).map fun zs => zs.eraseIdx k) ∧ ∀ t, V.ref t ∈ acc → t ≠ C) ⟨[], upd_same, Vf.Same.new (Same.refl H3) nC, ⟨rfl, fun i r h => by simp at h⟩, fun t h => (by cases h)⟩ (fun i H' _ ⟨_, _, s, _⟩ => SqL.of (s _ _ hS)) ?_ ?_⟩
  · rintro i x Ha Hb hi ⟨acc, hC, sa, FRa, fr⟩ ⟨rfl, hx⟩
    obtain ⟨zs, t, ys, ez, rfl, ht, ty⟩ := (FRt.same sa).get hx
    have al : acc.length ≤ 4 := by
      rw [FRa.1, List.length_map, List.length_take]
      omega
    have zsl : zs.length = c + 1 := by
      have ez' : (zs0 :: Z)[i + 1]? = some zs := ez
      have il := (List.getElem?_eq_some_iff.mp ez').1
      exact (FD.row (i + 1) zs _ _ ez' (List.getElem?_eq_getElem (by rw [FD.lw]; exact il)) (List.getElem?_eq_getElem (by rw [FD.ld]; exact il))).1
    have yl : ys.length = c + 1 := ty.1.trans zsl
    refine ⟨rfl, Vf.tyes ⟨_, rfl, _, rfl, _, rfl, t, ys, rfl, SqL.of ht, fun p1 n1 => ?_⟩⟩
    rw [Vf.cut_hi]
    have a1 := Vf.Same.new (o := .lst (ys.take k)) (Same.refl Hb) n1
    have g1 := upd_same (H := Hb) (a := p1) (o := .lst (ys.take k))
    generalize upd Hb p1 (.lst (ys.take k)) = J1 at a1 g1 ⊢
    refine ⟨_, rfl, _, rfl, _, _, rfl, rfl, _, rfl, t, ys, rfl, SqL.of (a1 _ _ ht), fun p2 n2 => ?_⟩
    rw [show ((k : Int) + 1) = ((k + 1 : Nat) : Int) by omega, Vf.cut_lo]
    have a2 := Vf.Same.new (o := .lst (ys.drop (k + 1))) (Same.refl J1) n2
    have g2 := upd_same (H := J1) (a := p2) (o := .lst (ys.drop (k + 1)))
    generalize upd J1 p2 (.lst (ys.drop (k + 1))) = J2 at a2 g2 ⊢
    refine ⟨p1, p2, _, _, rfl, rfl, a2 _ _ g1, g2, Nat.le_trans (Nat.add_le_add (show (ys.take k).length ≤ 4 by rw [List.length_take]; omega) (show (ys.drop (k + 1)).length ≤ 4 by rw [List.length_drop]; omega)) (by show 4 + 4 ≤ sizeLine; decide), fun p3 n3 => ?_⟩
    rw [← List.eraseIdx_eq_take_drop_succ]
    have a3 := Vf.Same.new (o := .lst (ys.eraseIdx k)) (Same.refl J2) n3
    have g3 := upd_same (H := J2) (a := p3) (o := .lst (ys.eraseIdx k))
    generalize upd J2 p3 (.lst (ys.eraseIdx k)) = J3 at a3 g3 ⊢
    have a13 := a1.trans (a2.trans a3)
    have hC3 := a13 _ _ hC
    have p3C : p3 ≠ C := fun e => by rw [e, (a1.trans a2) _ _ hC] at n3; cases n3
    refine ⟨acc, hC3, Nat.lt_of_le_of_lt al (by decide), acc ++ [.ref p3], upd_same, Vf.Same.chg (sa.trans a13) nC, ?_, fun u hu => ?_⟩
    · rw [Vf.take_snoc ez, List.map_append]
      refine Vf.FrRows.snoc ((FRa.same a13).upd hC3 fr) (by rw [upd_ne p3C]; exact g3) (Vf.tups_erase ?_ k)
      refine ⟨ty.1, fun j z hz => ?_⟩
      obtain ⟨v, h1, h2⟩ := (ty.same a13).2 j z hz
      refine ⟨v, h1, ?_⟩
      rw [upd_ne (fun e => by rw [e, hC3] at h2; cases h2)]
      exact h2
    · rcases List.mem_append.mp hu with h | h
      · exact fr u h
      · obtain rfl := V.ref.inj (List.mem_singleton.mp h)
        exact p3C
  rintro H4 ⟨acc, hC, s4, FRm, fr⟩
  rw [xtl, List.take_length] at FRm
  dsimp only [gName]
  have s34 := e3.trans s4
  have FR4 := FR2.same s34
  have hl4 := s34 _ _ hl2
  have ht4 := s34 _ _ ht
  obtain ⟨t00, ys0, ex0, h00, ty0⟩ := FR4.2 0 zs0 rfl
  obtain rfl : x0 = .ref t00 := Option.some.inj ex0
  obtain ⟨zk, ezk⟩ : ∃ zk, zs0[k]? = some zk := ⟨_, List.getElem?_eq_getElem (by omega)⟩
  obtain ⟨tk, etk, htk⟩ := ty0.2 k zk ezk
  obtain ⟨Fk, wkb⟩ := f0 k zk ezk
  have lk := Fk.le dd0
  refine ⟨_, rfl, l, _, 0, _, rfl, rfl, SqL.of hl4, atI_nat (j := 0) rfl, _, rfl, t00, ys0, _, .ref tk, rfl, rfl, SqL.of h00, atI_nat etk, ?_⟩
  refine ⟨_, rfl, C, acc, Z.map fun zs => zs.eraseIdx k, B.map fun w => w.eraseIdx k, T0, c, rfl, hC, FRm, FD.minor hk, by rw [List.length_map]; exact Zc, by omega, by omega, fun td zd H5 s5 nd hd Fd => ?_⟩
  have ld := Fd.le tp
  refine ⟨tk, td, zk, zd, rfl, SqT.of (s5 _ _ htk), SqT.of hd, by omega, Fk.low.pos, by omega, Fd.low.pos, by omega, fun tm H6 nm s6 hm => ?_⟩
  have Fm := Vf.fw_mul Fk Fd
  have eP' : d0 * Vf.prodI T0 = P := eP.symm
  rw [eP'] at Fm
  obtain ⟨zm', ezm⟩ : ∃ zm', zm' = Vf.fr (zk.1 * zd.1) (zk.2 * zd.2) := ⟨_, rfl⟩
  rw [← ezm] at hm Fm
  have s46 := s5.trans s6
  have ht6 := s46 _ _ ht4
  have s06 := s2.trans (s34.trans s46)
  dsimp only [gName]
  have term : Vf.sumN (k + 1) (fun k => Vf.sg k * w0.getD k 0 * Vf.detN c (Vf.minr k (w0 :: B))) = Vf.sumN k (fun k => Vf.sg k * w0.getD k 0 * Vf.detN c (Vf.minr k (w0 :: B))) + Vf.sg k * (Vf.gD w0 k * Vf.detN c (B.map fun w => w.eraseIdx k)) := by
    rw [Vf.sumN_succ, Int.mul_assoc]
    rfl
  have lz := Fz.le pp
  refine Vf.seq_join (fun σ' H' => ∃ (t4 : Addr) (z4 : Int × Int), (∃ v3 : Option V, σ' = [some (.ref l), some (.ref tt), some (.int (k : Int)), v3, some (.ref t4), none]) ∧ Same H6 H' ∧ H' t4 = some (.tup (Vf.pFr z4)) ∧ Vf.Fw z4 (Vf.sg k * (Vf.gD w0 k * Vf.detN c (B.map fun w => w.eraseIdx k))) P) (fun nx hn => ?_) ?_
  · refine ⟨_, rfl, _, _, rfl, rfl, (by show (0 : Int) < 2; decide), rfl, _, rfl, Vf.ite_d (fun e => ?_) fun e => ?_⟩
    · have ko : k % 2 = 1 := by
        have := V.int.inj e
        omega
      refine ⟨_, rfl, tm, _, 0, _, rfl, rfl, SqT.of hm, atI_nat (j := 0) rfl, _, rfl, _, rfl, tm, _, 1, _, rfl, rfl, SqT.of hm, atI_nat (j := 1) rfl, (by show 2 ≤ sizeLine; decide), fun t4 n4 => ?_⟩
      refine hn _ _ ⟨t4, (-zm'.1, zm'.2), ⟨_, rfl⟩, Vf.Same.new (Same.refl H6) n4, upd_same, ?_⟩
      unfold Vf.sg
      rw [if_pos ko, Int.neg_one_mul]
      exact Vf.fw_neg Fm
    · have ko : ¬ k % 2 = 1 := fun h => e (by
        have : ((k : Nat) : Int) % 2 = 1 := by omega
        show V.int ((k : Int) % 2) = V.int 1
        rw [this])
      refine hn _ _ ⟨tm, zm', ⟨_, rfl⟩, Same.refl H6, hm, ?_⟩
      unfold Vf.sg
      rw [if_neg ko, Int.one_mul]
      exact Fm
  rintro σ' H7 ⟨t4, z4, ⟨v3', rfl⟩, s7, h4, F4⟩
  have l4 := F4.le pp
  refine ⟨_, rfl, _, rfl, tt, t4, z, z4, rfl, SqT.of (s7 _ _ ht6), SqT.of h4, Fz.low.pos, by omega, F4.low.pos, by omega, fun t5 H8 n5 s8 h5 => ?_⟩
  have Fa := Vf.fw_add Fz F4
  dsimp only [gName]
  refine ⟨t5, _, ⟨_, _, _, rfl⟩, s06.trans (s7.trans s8), (s06.trans s7).free n5, h5, ?_⟩
  rw [term]
  exact Fa
end

def sp__law_is_int (K : PySem.W.Frag) (A : Ad) : Sp := fun vs H Q _ => ∃ i : Int, vs = [.int i] ∧ Q (.bl true) H
theorem len__law_is_int {K : PySem.W.Frag} {A : Ad} (vs : List V) (H : Hp) (Q : VK) (E : XK) (h : sp__law_is_int K A vs H Q E) : vs.length = ["x"].length := by
  obtain ⟨a, rfl, _⟩ := h
  rfl

section
variable {P : Program} {w : World} {K : PySem.W.Frag} {mg : Str → Option Value} {base : Heap}
set_option maxHeartbeats 4000000 in
theorem ok__law_is_int {A : Ad} (T : Txt K mg A) : FnOk P w K mg base CX0 1 A.f__law_is_int A.d__law_is_int ["x"] (sp__law_is_int K A) := by
  refine T.F__law_is_int.ok sc__law_is_int len__law_is_int (fun cdv Ar outer s H vs Q E hr h => ?_)
  have hu := hu_of hr
  obtain ⟨i, rfl, q⟩ := h
  refine ⟨_, (pss_one (ps_ret (pe_and (pe_callB call_isi (by rfl) T.N_isinstance (by decide +kernel) (pa_cons (pv 0) (pa_cons (pe_bltn (v := .ty "int") (u := .type "int") (by rfl) T.N_int (by decide +kernel) rfl) pa_nil))) (pe_one (pe_not (pe_callB call_isi (by rfl) T.N_isinstance (by decide +kernel) (pa_cons (pv 0) (pa_cons (pe_bltn (v := .ty "bool") (u := .type "bool") (by rfl) T.N_bool (by decide +kernel) rfl) pa_nil)))))))), ?_⟩
  refine ⟨_, rfl, _, _, .type "int", .type "int", true, rfl, ClsV.ty _, TyX.base (TyOf.int i), rfl, _, rfl, ?_⟩
  refine iteT ⟨_, rfl, _, _, .type "int", .type "bool", false, rfl, ClsV.ty _, TyX.base (TyOf.int i), rfl, _, rfl, ?_⟩
  exact q
end

def sp__law_ints (K : PySem.W.Frag) (A : Ad) : Sp := fun vs H Q _ => ∃ (a : Addr) (ns : List Int), (vs = [.ref a, .str "tuple"] ∧ H a = some (.tup (ns.map V.int)) ∨ vs = [.ref a, .str "list"] ∧ H a = some (.lst (ns.map V.int))) ∧ ns.length ≤ 1000000 ∧ Q (.bl true) H
theorem len__law_ints {K : PySem.W.Frag} {A : Ad} (vs : List V) (H : Hp) (Q : VK) (E : XK) (h : sp__law_ints K A vs H Q E) : vs.length = ["x", "kind"].length := by
  obtain ⟨a, ns, ⟨rfl, _⟩ | ⟨rfl, _⟩, _⟩ := h
  · rfl
  · rfl

section
variable {P : Program} {w : World} {K : PySem.W.Frag} {mg : Str → Option Value} {base : Heap}
set_option maxHeartbeats 4000000 in
theorem ok__law_ints {A : Ad} (T : Txt K mg A) : FnOk P w K mg base CX0 2 A.f__law_ints A.d__law_ints ["x", "kind"] (sp__law_ints K A) := by
  have G__law_is_int := ok__law_is_int (P := P) (w := w) (base := base) T
  refine T.F__law_ints.ok sc__law_ints len__law_ints (fun cdv Ar outer s H vs Q E hr h => ?_)
  have hu := hu_of hr
  obtain ⟨a, ns, h2, small, q⟩ := h
  refine ⟨_, (pss_cons (ps_if (pt_cmpR op_eq (pv 1) pe_str (nomark _)) (pss_one (ps_if (pt_not (pt_val (pe_callB call_isi (by rfl) T.N_isinstance (by decide +kernel) (pa_cons (pv 0) (pa_cons (pe_bltn (v := .ty "list") (u := .type "list") (by rfl) T.N_list (by decide +kernel) rfl) pa_nil))))) (pss_one (ps_ret pe_bl)) pss_nil)) (pss_one (ps_if (pt_not (pt_val (pe_callB call_isi (by rfl) T.N_isinstance (by decide +kernel) (pa_cons (pv 0) (pa_cons (pe_bltn (v := .ty "tuple") (u := .type "tuple") (by rfl) T.N_tuple (by decide +kernel) rfl) pa_nil))))) (pss_one (ps_ret pe_bl)) pss_nil)))
      (pss_cons (ps_for PassesOwn.never rfl (pi_range1 rfl T.N_range (pa_cons (pe_callB call_len_seq (by rfl) T.N_len PySem.boot_len (pa_cons (pv 0) pa_nil)) pa_nil)) (pg_name (i := 2) sc__law_ints.nd rfl (Or.inl rfl))
        (pss_one (ps_if (pt_not (pt_val (pe_call G__law_is_int hr (by rfl) T.G__law_is_int T.F__law_is_int.kp T.B__law_is_int .nil pass0 (pa_cons (pe_ix Vf.ix_seq (pv 0) (pv 2) (fun _ _ => rfl)) pa_nil)))) (pss_one (ps_ret pe_bl)) pss_nil)))
      (pss_one (ps_ret pe_bl)))), ?_⟩
  rcases h2 with ⟨rfl, h2⟩ | ⟨rfl, h2⟩
  · refine ⟨_, rfl, rfl, _, rfl, Vf.ite_d (fun c => absurd c (by decide +kernel)) fun _ => ?_⟩
    refine ⟨_, rfl, _, _, .type "tuple", .type "tuple", true, rfl, ClsV.ty _, TyX.base (TyOf.tup h2), rfl, _, rfl, Vf.ite_b (fun c => absurd c (by decide)) fun _ => ?_⟩
    refine ⟨_, rfl, a, _, rfl, .inr (SqT.of h2), _, rfl, Int.natCast_nonneg _, ?_, for_range (lo := 0) (n := ((ns.map V.int).length : Int).toNat) (fun i σ H' => (∃ k, σ = [some (.ref a), some (.str "tuple"), k]) ∧ H' = H) ⟨⟨none, rfl⟩, rfl⟩ ?_ ?_⟩
    · rw [List.length_map]
      omega
    · rintro i σ H' hi ⟨⟨k, rfl⟩, rfl⟩
      rw [List.length_map, Int.toNat_natCast] at hi
      have hx : ns[i]? = some ns[i] := List.getElem?_eq_getElem hi
      refine ⟨_, rfl, _, rfl, a, _, _, .int ns[i], rfl, rfl, .inr (SqT.of h2), ?_, ?_⟩
      · rw [show (0 : Int) + (i : Int) = (i : Int) by omega]
        refine atI_nat ?_
        rw [List.getElem?_map, hx]
        rfl
      · exact ⟨_, rfl, _, rfl, Vf.ite_b (fun c => absurd c (by decide)) fun _ => ⟨⟨_, rfl⟩, rfl⟩⟩
    · rintro σ H' ⟨⟨k, rfl⟩, rfl⟩
      exact q
  · refine ⟨_, rfl, rfl, _, rfl, Vf.ite_d (fun _ => ?_) fun c => absurd rfl c⟩
    refine ⟨_, rfl, _, _, .type "list", .type "list", true, rfl, ClsV.ty _, TyX.base (TyOf.lst h2), rfl, _, rfl, Vf.ite_b (fun c => absurd c (by decide)) fun _ => ?_⟩
    refine ⟨_, rfl, a, _, rfl, .inl (SqL.of h2), _, rfl, Int.natCast_nonneg _, ?_, for_range (lo := 0) (n := ((ns.map V.int).length : Int).toNat) (fun i σ H' => (∃ k, σ = [some (.ref a), some (.str "list"), k]) ∧ H' = H) ⟨⟨none, rfl⟩, rfl⟩ ?_ ?_⟩
    · rw [List.length_map]
      omega
    · rintro i σ H' hi ⟨⟨k, rfl⟩, rfl⟩
      rw [List.length_map, Int.toNat_natCast] at hi
      have hx : ns[i]? = some ns[i] := List.getElem?_eq_getElem hi
      refine ⟨_, rfl, _, rfl, a, _, _, .int ns[i], rfl, rfl, .inl (SqL.of h2), ?_, ?_⟩
      · rw [show (0 : Int) + (i : Int) = (i : Int) by omega]
        refine atI_nat ?_
        rw [List.getElem?_map, hx]
        rfl
      · exact ⟨_, rfl, _, rfl, Vf.ite_b (fun c => absurd c (by decide)) fun _ => ⟨⟨_, rfl⟩, rfl⟩⟩
    · rintro σ H' ⟨⟨k, rfl⟩, rfl⟩
      exact q
end

def sp__law_is_tuple (K : PySem.W.Frag) (A : Ad) : Sp := fun vs H Q _ => ∃ (a b : Addr) (ns ms : List Int), vs = [.ref a, .ref b] ∧ H a = some (.tup (ns.map V.int)) ∧ H b = some (.tup (ms.map V.int)) ∧ ns.length ≤ 1000000 ∧ Q (.bl (decide (ns = ms))) H
theorem len__law_is_tuple {K : PySem.W.Frag} {A : Ad} (vs : List V) (H : Hp) (Q : VK) (E : XK) (h : sp__law_is_tuple K A vs H Q E) : vs.length = ["x", "due"].length := by
  obtain ⟨a, b, ns, ms, rfl, _⟩ := h
  rfl

section
variable {P : Program} {w : World} {K : PySem.W.Frag} {mg : Str → Option Value} {base : Heap}
set_option maxHeartbeats 4000000 in
theorem ok__law_is_tuple {A : Ad} (T : Txt K mg A) : FnOk P w K mg base CX0 3 A.f__law_is_tuple A.d__law_is_tuple ["x", "due"] (sp__law_is_tuple K A) := by
  have G__law_ints := ok__law_ints (P := P) (w := w) (base := base) T
  refine T.F__law_is_tuple.ok sc__law_is_tuple len__law_is_tuple (fun cdv Ar outer s H vs Q E hr h => ?_)
  have hu := hu_of hr
  obtain ⟨a, b, ns, ms, rfl, h1, h2, small, q⟩ := h
  refine ⟨_, (pss_one (ps_ret (pe_and (pe_call G__law_ints hr (by rfl) T.G__law_ints T.F__law_ints.kp T.B__law_ints .nil pass0 (pa_cons (pv 0) (pa_cons pe_str pa_nil))) (pe_one (pe_cmpR (Vf.op_eqIs hr.units) (pv 0) (pv 1) (nomark _)))))), ?_⟩
  refine ⟨_, rfl, a, ns, .inl ⟨rfl, h1⟩, small, _, rfl, iteT ⟨_, rfl, _, rfl, ns, ms, ⟨a, b, rfl, rfl, .inr ⟨SqT.of h1, SqT.of h2⟩⟩, q⟩⟩
end

def sp__law_is_frac (K : PySem.W.Frag) (A : Ad) : Sp := fun vs H Q _ => ∃ (a b : Addr) (ns ms : List Int), vs = [.ref a, .ref b] ∧ H a = some (.tup (ns.map V.int)) ∧ H b = some (.tup (ms.map V.int)) ∧ ns.length ≤ 1000000 ∧ Q (.bl (decide (ns = ms))) H
theorem len__law_is_frac {K : PySem.W.Frag} {A : Ad} (vs : List V) (H : Hp) (Q : VK) (E : XK) (h : sp__law_is_frac K A vs H Q E) : vs.length = ["x", "due"].length := by
  obtain ⟨a, b, ns, ms, rfl, _⟩ := h
  rfl

section
variable {P : Program} {w : World} {K : PySem.W.Frag} {mg : Str → Option Value} {base : Heap}
set_option maxHeartbeats 4000000 in
theorem ok__law_is_frac {A : Ad} (T : Txt K mg A) : FnOk P w K mg base CX0 4 A.f__law_is_frac A.d__law_is_frac ["x", "due"] (sp__law_is_frac K A) := by
  have G__law_is_tuple := ok__law_is_tuple (P := P) (w := w) (base := base) T
  refine T.F__law_is_frac.ok sc__law_is_frac len__law_is_frac (fun cdv Ar outer s H vs Q E hr h => ?_)
  have hu := hu_of hr
  obtain ⟨a, b, ns, ms, rfl, h1, h2, small, q⟩ := h
  refine ⟨_, (pss_one (ps_ret (pe_call G__law_is_tuple hr (by rfl) T.G__law_is_tuple T.F__law_is_tuple.kp T.B__law_is_tuple .nil pass0 (pa_cons (pv 0) (pa_cons (pv 1) pa_nil))))), ?_⟩
  exact ⟨_, rfl, _, rfl, a, b, ns, ms, rfl, h1, h2, small, q⟩
end

def sp_law (K : PySem.W.Frag) (_ : Ad) : Sp := Vf.spLaw K
theorem len_law {K : PySem.W.Frag} {A : Ad} (vs : List V) (H : Hp) (Q : VK) (E : XK) (h : sp_law K A vs H Q E) : vs.length = ["script"].length := by
  obtain ⟨a, ns, rfl, _⟩ := h
  rfl

section
variable {P : Program} {w : World} {K : PySem.W.Frag} {mg : Str → Option Value} {base : Heap}
set_option maxHeartbeats 4000000 in
theorem ok_law {A : Ad} (T : Txt K mg A) : FnOk P w K mg base CX0 10 A.f_law A.d_law ["script"] (sp_law K A) := by
  have G__law_draws := ok__law_draws (P := P) (w := w) (base := base) T
  have G__law_cell := ok__law_cell (P := P) (w := w) (base := base) T
  have G__law_frac := ok__law_frac (P := P) (w := w) (base := base) T
  have G__law_mul := ok__law_mul (P := P) (w := w) (base := base) T
  have G__law_add := ok__law_add (P := P) (w := w) (base := base) T
  have G_solve := ok_solve (P := P) (w := w) (base := base) T
  have G__law_det := ok__law_det (P := P) (w := w) (base := base) T 6
  have G__law_is_frac := ok__law_is_frac (P := P) (w := w) (base := base) T
  refine T.F_law.ok sc_law len_law (fun cdv Ar outer s H vs Q E hr h => ?_)
  have hu := hu_of hr
  obtain ⟨a, ns, rfl, hS, hn63, q⟩ := h
  refine ⟨_, (pss_cons (ps_set (i := 1) sc_law.nd rfl (Or.inr rfl) (pe_call G__law_draws (hr.mono (by decide)) (by rfl) T.G__law_draws T.F__law_draws.kp T.B__law_draws .nil pass0 (pa_cons (pe_call G__law_cell (hr.mono (by decide)) (by rfl) T.G__law_cell T.F__law_cell.kp T.B__law_cell .nil pass0 (pa_cons (pv 0) (pa_cons pe_int pa_nil))) (pa_cons pe_int pa_nil))))
      (pss_cons (ps_set (i := 2) sc_law.nd rfl (Or.inl rfl) (pe_op op_add pe_int (pe_op op_mod (pe_ix ix_list (pv 1) pe_int (fun _ _ => rfl)) pe_int)))
      (pss_cons (ps_set (i := 3) sc_law.nd rfl (Or.inl rfl) (pe_lst pa_nil))
      (pss_cons (ps_for PassesOwn.never rfl (pi_range1 rfl T.N_range (pa_cons (pv 2) pa_nil)) (pg_name (i := 4) sc_law.nd rfl (Or.inr rfl))
        (pss_cons (ps_setLc (i := 5) (own := [("j", 10)]) (g := (gName 10)) (tt := tYes) rfl sc_law.nd rfl rfl (sw_true rfl rfl rfl (by decide +kernel)) (pi_range1 rfl T.N_range (pa_cons (pv 2) pa_nil)) (blkOk_by (N := ["script", "draws", "count", "rows", "k", "row", "known", "handed", "right", "found", "j", "factor"]) (sc := defScope s_law) (by decide +kernel)) (fun _ _ _ _ _ => (pg_name (i := 10) sc_law.nd rfl (Or.inl rfl))) (fun _ _ _ _ _ => pts_nil) (fun _ _ _ _ _ => (pe_call G__law_frac (hr.mono (by decide)) (by rfl) T.G__law_frac T.F__law_frac.kp T.B__law_frac .nil pass0 (pa_cons (pe_op op_sub (pe_op op_mod (pe_ix (Vf.ix_listK (K := K) rfl) (pv 1) (pe_op op_add (pe_op op_add pe_int (pe_op op_mul pe_int (pv 4))) (pv 10)) (fun _ _ => rfl)) pe_int) pe_int) (pa_cons (pe_op op_add pe_int (pe_op op_mod (pe_ix (Vf.ix_listK (K := K) rfl) (pv 1) (pe_op op_add (pe_op op_add pe_int (pe_op op_mul pe_int (pv 4))) (pv 10)) (fun _ _ => rfl)) pe_int)) pa_nil)))))
      (pss_one (ps_expr (pe_bm PySem.F.plainAttrs_list PySem.F.slot_list_append PySem.F.type_list_append mt_append (pv 3) (pa_cons (pv 5) pa_nil))))))
      (pss_cons (ps_if (PW.pt (pw_and (pt_cmpR op_eq (pe_op op_mod (pe_ix ix_list (pv 1) pe_int (fun _ _ => rfl)) pe_int) pe_int (nomark _)) (pw_and1 (pt_cmpR op_gt (pv 2) pe_int (nomark _))))) (pss_one (ps_asg (pe_lc (own := [("factor", 11)]) (g := (gName 11)) (tt := tYes) rfl sc_law.nd (pi_list (pe_ix ix_list (pv 3) pe_int (fun _ _ => rfl))) (blkOk_by (N := ["script", "draws", "count", "rows", "k", "row", "known", "handed", "right", "found", "j", "factor"]) (sc := defScope s_law) (by decide +kernel)) (fun _ _ _ _ _ => (pg_name (i := 11) sc_law.nd rfl (Or.inl rfl))) (fun _ _ _ _ _ => pts_nil) (fun _ _ _ _ _ => (pe_call G__law_mul (hr.mono (by decide)) (by rfl) T.G__law_mul T.F__law_mul.kp T.B__law_mul .nil pass0 (pa_cons (pv 11) (pa_cons (pe_tup (pa_cons pe_int (pa_cons pe_int pa_nil))) pa_nil))))) (pg_sub (pv 3) (pe_op op_sub (pv 2) pe_int) set_list))) pss_nil)
      (pss_cons (ps_setLc (i := 6) (own := [("k", 4)]) (g := (gName 4)) (tt := tYes) rfl sc_law.nd rfl rfl (sw_true rfl rfl rfl (by decide +kernel)) (pi_range1 rfl T.N_range (pa_cons (pv 2) pa_nil)) (blkOk_by (N := ["script", "draws", "count", "rows", "k", "row", "known", "handed", "right", "found", "j", "factor"]) (sc := defScope s_law) (by decide +kernel)) (fun _ _ _ _ _ => (pg_name (i := 4) sc_law.nd rfl (Or.inl rfl))) (fun _ _ _ _ _ => pts_nil) (fun _ _ _ _ _ => (pe_call G__law_frac (hr.mono (by decide)) (by rfl) T.G__law_frac T.F__law_frac.kp T.B__law_frac .nil pass0 (pa_cons (pe_op op_sub (pe_op op_mod (pe_ix (Vf.ix_listK (K := K) rfl) (pv 1) (pe_op op_add pe_int (pv 4)) (fun _ _ => rfl)) pe_int) pe_int) (pa_cons (pe_op op_add pe_int (pe_op op_mod (pe_ix (Vf.ix_listK (K := K) rfl) (pv 1) (pe_op op_add pe_int (pv 4)) (fun _ _ => rfl)) pe_int)) pa_nil)))))
      (pss_cons (ps_set (i := 7) sc_law.nd rfl (Or.inl rfl) (pe_lst pa_nil))
      (pss_cons (ps_for PassesOwn.never rfl (pi_list (pv 3)) (pg_name (i := 5) sc_law.nd rfl (Or.inl rfl))
        (pss_cons (ps_set (i := 8) sc_law.nd rfl (Or.inl rfl) (pe_tup (pa_cons pe_int (pa_cons pe_int pa_nil))))
      (pss_cons (ps_for PassesOwn.never rfl (pi_range1 rfl T.N_range (pa_cons (pv 2) pa_nil)) (pg_name (i := 4) sc_law.nd rfl (Or.inr rfl))
        (pss_one (ps_set (i := 8) sc_law.nd rfl (Or.inl rfl) (pe_call G__law_add (hr.mono (by decide)) (by rfl) T.G__law_add T.F__law_add.kp T.B__law_add .nil pass0 (pa_cons (pv 8) (pa_cons (pe_call G__law_mul (hr.mono (by decide)) (by rfl) T.G__law_mul T.F__law_mul.kp T.B__law_mul .nil pass0 (pa_cons (pe_ix ix_list (pv 5) (pv 4) (fun _ _ => rfl)) (pa_cons (pe_ix ix_list (pv 6) (pv 4) (fun _ _ => rfl)) pa_nil))) pa_nil))))))
      (pss_one (ps_expr (pe_bm PySem.F.plainAttrs_list PySem.F.slot_list_append PySem.F.type_list_append mt_append (pv 7) (pa_cons (pe_op op_cat (pv 5) (pe_lst (pa_cons (pv 8) pa_nil))) pa_nil)))))))
      (pss_cons (ps_set (i := 9) sc_law.nd rfl (Or.inl rfl) (pe_call G_solve (hr.mono (by decide)) (by rfl) T.G_solve T.F_solve.kp T.B_solve .nil pass0 (pa_cons (pe_lc (own := [("row", 5)]) (g := (gName 5)) (tt := tYes) rfl sc_law.nd (pi_list (pv 7)) (blkOk_by (N := ["script", "draws", "count", "rows", "k", "row", "known", "handed", "right", "found", "j", "factor"]) (sc := defScope s_law) (by decide +kernel)) (fun _ _ _ _ _ => (pg_name (i := 5) sc_law.nd rfl (Or.inl rfl))) (fun _ _ _ _ _ => pts_nil) (fun _ _ _ _ _ => (pe_callTy (Vf.call_list_ofK (K := K) rfl) (by rfl) T.N_list (by decide +kernel) (pa_cons (pv 5) pa_nil)))) pa_nil)))
      (pss_cons (ps_if (pt_cmpR op_eq (pe_ix ix_tup (pe_call G__law_det hr (by rfl) T.G__law_det T.F__law_det.kp T.B__law_det .nil pass0 (pa_cons (pv 3) pa_nil)) pe_int (fun _ _ => rfl)) pe_int (nomark _)) (pss_one (ps_ret (pe_cmpR op_isN (pv 9) pe_non (nomark _)))) pss_nil)
      (pss_cons (ps_if (PW.pt (pw_or (pt_not (pt_val (pe_callB call_isi (by rfl) T.N_isinstance (by decide +kernel) (pa_cons (pv 9) (pa_cons (pe_bltn (v := .ty "list") (u := .type "list") (by rfl) T.N_list (by decide +kernel) rfl) pa_nil))))) (pw_or1 (pt_cmpR op_ne (pe_callB call_len_seq (by rfl) T.N_len PySem.boot_len (pa_cons (pv 9) pa_nil)) (pv 2) (nomark _))))) (pss_one (ps_ret pe_bl)) pss_nil)
      (pss_cons (ps_for PassesOwn.never rfl (pi_range1 rfl T.N_range (pa_cons (pv 2) pa_nil)) (pg_name (i := 4) sc_law.nd rfl (Or.inr rfl))
        (pss_one (ps_if (pt_not (pt_val (pe_call G__law_is_frac (hr.mono (by decide)) (by rfl) T.G__law_is_frac T.F__law_is_frac.kp T.B__law_is_frac .nil pass0 (pa_cons (pe_ix ix_list (pv 9) (pv 4) (fun _ _ => rfl)) (pa_cons (pe_ix ix_list (pv 6) (pv 4) (fun _ _ => rfl)) pa_nil))))) (pss_one (ps_ret pe_bl)) pss_nil)))
      (pss_one (ps_ret pe_bl)))))))))))))), ?_⟩
  refine ⟨_, rfl, a, ns, 0, rfl, hS, by decide, _, 60, rfl, by decide, by decide, fun D H1 ds nd s1 hD ⟨dl', hr⟩ => ?_⟩
  have dl : ds.length = 60 := by omega
  have dat : ∀ k : Nat, k < 60 → 0 ≤ ds.getD k 0 ∧ ds.getD k 0 < 4096 := fun k hk => hr _ (by rw [List.getD_eq_getElem?_getD, List.getElem?_eq_getElem (by omega)]; exact List.getElem_mem _)
  dsimp only [gName]
  have d0 := dat 0 (by decide)
  refine ⟨_, rfl, D, _, 0, _, rfl, rfl, SqL.of hD, Vf.int_at (by omega) (by omega), _, _, rfl, rfl, (by show (0 : Int) < 4; decide), _, _, rfl, rfl, ?_⟩
  dsimp only
  obtain ⟨n, en⟩ : ∃ n : Nat, (1 : Int) + ds.getD ((0 : Int)).toNat 0 % 4 = (n : Int) := ⟨(1 + ds.getD 0 0 % 4).toNat, by
    show (1 : Int) + ds.getD 0 0 % 4 = _
    omega⟩
  have n1 : 1 ≤ n ∧ n ≤ 4 := by
    have : (1 : Int) + ds.getD 0 0 % 4 = (n : Int) := en
    omega
  rw [en]
  clear en
  refine ⟨(by show 0 ≤ sizeLine; decide), fun R nR => ?_⟩
  have e2 := Vf.Same.new (o := .lst []) (Same.refl H1) nR
  have hR := upd_same (H := H1) (a := R) (o := .lst [])
  generalize upd H1 R (.lst []) = H2 at e2 hR ⊢
  have nR0 : H R = none := s1.free nR
  have s2 := s1.trans e2
  have DR : D ≠ R := fun e => by rw [e, nR] at hD; cases hD
  dsimp only [gName]
  refine ⟨_, rfl, _, rfl, by omega, by omega, for_range (lo := 0) (n := _) (fun k σ H' => ∃ (xr : List V) (zss : List (List (Int × Int))) (W : List (List Int)), (∃ v4 v5 : Option V, σ = [some (.ref a), some (.ref D), some (.int (n : Int)), some (.ref R), v4, v5, none, none, none, none, none, none]) ∧ Same H1 H' ∧ H' R = some (.lst xr) ∧ Vf.FrRows H' xr zss ∧ Vf.FdRows n zss W (List.replicate k 6) ∧ zss.length = k ∧ (∀ w ∈ W, ∀ j, (Vf.gD w j).natAbs ≤ 18) ∧ ∀ t, V.ref t ∈ xr → t ≠ R) ⟨[], [], [], ⟨_, _, rfl⟩, e2, hR, ⟨rfl, fun i r h => by simp at h⟩, Vf.FdRows.nil n, rfl, fun w h => (by cases h), fun t h => (by cases h)⟩ ?_ ?_⟩
  · rintro k σ H3 hk ⟨xr, zss, W, ⟨v4, v5, rfl⟩, s3, hR3, FR, FD, zk, w18, nt⟩
    have hk : k < n := by omega
    rw [show (0 : Int) + (k : Int) = (k : Int) from Int.zero_add _]
    have hD3 := s3 _ _ hD
    dsimp only [gName]
    refine ⟨_, rfl, _, rfl, by omega, by omega, fun C nC => lc_it (walk_range (lo := 0) (n := _)) (fun i H' => ∃ (acc : List V) (zs : List (Int × Int)) (w : List Int), H' C = some (.lst acc) ∧ Same H3 H' ∧ Vf.Tups Vf.pFr H' acc zs ∧ zs.length = i ∧ w.length = i ∧ (∀ (j : Nat) (z : Int × Int), zs[j]? = some z → Vf.Fw z (Vf.gD w j) 6) ∧ ∀ j, (Vf.gD w j).natAbs ≤ 18) ⟨[], [], [], upd_same, Vf.Same.new (Same.refl H3) nC, Vf.Tups.nil, rfl, rfl, fun j z h => by simp at h, fun j => by show (0 : Int).natAbs ≤ 18; decide⟩ (fun _ _ _ _ => trivial) ?_ ?_⟩
    · rintro i x Ha Hb hi ⟨acc, zs, w, hC, sa, ta, zl, wl, fw, w18'⟩ ⟨rfl, rfl⟩
      have hi : i < n := by omega
      have hDb := sa _ _ hD3
      have i1 : 1 + 5 * k + i < 60 := by omega
      have i2 : 25 + 5 * k + i < 60 := by omega
      refine ⟨rfl, Vf.tyes ?_⟩
      refine ⟨_, rfl, _, rfl, _, _, rfl, rfl, .inl (by decide), _, _, rfl, rfl, _, rfl, _, _, rfl, rfl, D, _, _, _, rfl, rfl, SqL.of hDb, Vf.int_at (by omega) (by omega), _, _, rfl, rfl, (by show (0 : Int) < 7; decide), _, _, rfl, rfl, ?_⟩
      refine ⟨_, rfl, _, rfl, _, _, rfl, rfl, .inl (by decide), _, _, rfl, rfl, _, rfl, _, _, rfl, rfl, D, _, _, _, rfl, rfl, SqL.of hDb, Vf.int_at (by omega) (by omega), _, _, rfl, rfl, (by show (0 : Int) < 3; decide), _, _, rfl, rfl, ?_⟩
      refine ⟨_, _, rfl, by omega, Nat.lt_of_le_of_lt (show _ ≤ 3 by omega) (by decide), fun t H' nt' s' h => ?_⟩
      obtain ⟨z, hz, v, Fv, bv⟩ : ∃ z, H' t = some (.tup (Vf.pFr z)) ∧ ∃ v, Vf.Fw z v 6 ∧ v.natAbs ≤ 18 := ⟨_, h, _, Vf.frac_six.1, Vf.frac_six.2⟩
      have hC' := s' _ _ hC
      have tC : t ≠ C := fun e => by rw [e, hC] at nt'; cases nt'
      refine ⟨acc, hC', Nat.lt_of_le_of_lt (show acc.length ≤ 4 by rw [ta.1]; omega) (by decide), acc ++ [.ref t], zs ++ [z], w ++ [v], upd_same, Vf.Same.chg (sa.trans s') nC, Vf.tups_snoc (Vf.tups_upd hC' (ta.same s')) (by rw [upd_ne tC]; exact hz), by rw [List.length_append, zl]; rfl, by rw [List.length_append, wl]; rfl, fun j u hu => ?_, fun j => ?_⟩
      · rcases Vf.snoc_at hu with hu | ⟨e, rfl⟩
        · rw [Vf.gD_snoc, if_neg (by have := Vf.at_len hu; omega)]
          exact fw j u hu
        · rw [Vf.gD_snoc, if_pos (by omega)]
          exact Fv
      · rw [Vf.gD_snoc]
        split
        · exact bv
        · exact w18' j
    rintro H4 ⟨acc, zs, w, hC, s4, ta, zl, wl, fw, w18'⟩
    rw [Int.toNat_natCast] at zl wl
    have hR4 := s4 _ _ hR3
    have CR : C ≠ R := fun e => by rw [e, hR3] at nC; cases nC
    dsimp only [gName]
    refine ⟨_, rfl, Vf.tyL hR4, _, rfl, R, xr, _, rfl, rfl, hR4, Nat.lt_of_le_of_lt (show xr.length ≤ 4 by rw [FR.1]; omega) (by decide), ?_⟩
    refine ⟨xr ++ [.ref C], zss ++ [zs], W ++ [w], ⟨_, _, rfl⟩, Vf.Same.chg (s3.trans s4) nR, upd_same, Vf.FrRows.snoc ((FR.same s4).upd hR4 nt) (by rw [upd_ne CR]; exact hC) (Vf.tups_upd hR4 ta), ?_, by rw [List.length_append, zk]; rfl, fun u hu => ?_, fun t ht => ?_⟩
    · rw [Vf.rep_snoc]
      exact FD.snoc (by decide) zl wl fun j z hz => ⟨fw j z hz, Nat.le_trans (w18' j) (by decide)⟩
    · rcases List.mem_append.mp hu with hu | hu
      · exact w18 u hu
      · rw [List.mem_singleton.mp hu]
        exact w18'
    · rcases List.mem_append.mp ht with ht | ht
      · exact nt t ht
      · obtain rfl := V.ref.inj (List.mem_singleton.mp ht)
        exact CR
  rintro σ H3 ⟨xr, zss, W, ⟨v4, v5, rfl⟩, s3, hR3, FR, FD, zk, w18, nt⟩
  rw [Int.toNat_natCast] at FD zk
  dsimp only
  have hD3 := s3 _ _ hD
  refine Vf.seq_join (fun σ' H' => ∃ (xr : List V) (zss : List (List (Int × Int))) (W : List (List Int)) (Ds : List Int), (∃ u4 u5 : Option V, σ' = [some (.ref a), some (.ref D), some (.int (n : Int)), some (.ref R), u4, u5, none, none, none, none, none, none]) ∧ Same H1 H' ∧ H' R = some (.lst xr) ∧ Vf.FrRows H' xr zss ∧ Vf.FdRows n zss W Ds ∧ zss.length = n ∧ ∀ t, V.ref t ∈ xr → t ≠ R) (fun nx hn => ?_) ?_
  · refine ⟨_, rfl, D, _, 50, _, rfl, rfl, SqL.of hD3, Vf.int_at (by omega) (by omega), _, _, rfl, rfl, (by show (0 : Int) < 3; decide), rfl, _, rfl, Vf.ite_d (fun _ => ?_) fun _ => ?_⟩
    rotate_left
    · refine Vf.ite_b (fun c => absurd c (by decide)) fun _ => ?_
      exact hn _ _ ⟨xr, zss, W, _, ⟨_, _, rfl⟩, s3, hR3, FR, FD, zk, nt⟩
    refine ⟨_, rfl, _, _, rfl, rfl, _, rfl, Vf.ite_b (fun c => ?_) fun _ => ?_⟩
    rotate_left
    · exact hn _ _ ⟨xr, zss, W, _, ⟨_, _, rfl⟩, s3, hR3, FR, FD, zk, nt⟩
    have n2 : 2 ≤ n := by
      have : (1 : Int) < (n : Int) := by simpa using c
      omega
    obtain ⟨zs0, w0, d6, ez0, ew0, ed0, _, zl0, wl0, f0⟩ := FD.at' (i := 0) (by omega)
    obtain rfl : d6 = 6 := by
      have := List.mem_of_getElem? ed0
      exact List.eq_of_mem_replicate this
    have w180 := w18 w0 (List.mem_of_getElem? ew0)
    obtain ⟨t0, ys0, ex0, h0, ty0⟩ := FR.2 0 zs0 ez0
    have yl0 : ys0.length = n := ty0.1.trans zl0
    refine ⟨_, rfl, R, xr, 0, .ref t0, rfl, rfl, SqL.of hR3, atI_nat (j := 0) ex0, t0, rfl, ⟨_, SqL.of h0⟩, fun C nC => lc_it (walk_list (K := K) (a := t0) (xs := ys0)) (fun i H' => ∃ (acc : List V) (zs : List (Int × Int)), H' C = some (.lst acc) ∧ Same H3 H' ∧ Vf.Tups Vf.pFr H' acc zs ∧ zs.length = i ∧ ∀ (j : Nat) (z : Int × Int), zs[j]? = some z → Vf.Fw z (Vf.gD w0 j * 2) 18) ⟨[], [], upd_same, Vf.Same.new (Same.refl H3) nC, Vf.Tups.nil, rfl, fun j z h => (by simp at h)⟩ (fun i H' _ ⟨_, _, _, s, _⟩ => SqL.of (s _ _ h0)) ?_ ?_⟩
    · rintro i x Ha Hb hi ⟨acc, zs, hC, sa, ta, zl, fw⟩ ⟨rfl, hx⟩
      obtain ⟨z, tz, ez, rfl, htz⟩ := (ty0.same sa).get hx
      obtain ⟨Fz, _⟩ := f0 i z ez
      have lz := Fz.le (by decide)
      have wz := w180 i
      refine ⟨rfl, Vf.tyes ⟨_, rfl, (by show 2 ≤ sizeLine; decide), fun T nT => ?_⟩⟩
      have s1' := Vf.Same.new (o := .tup [.int 2, .int 3]) (Same.refl Hb) nT
      have hT : (upd Hb T (.tup [.int 2, .int 3])) T = some (.tup (Vf.pFr (2, 3))) := upd_same
      generalize upd Hb T (.tup [.int 2, .int 3]) = Hc at s1' hT ⊢
      refine ⟨tz, T, z, (2, 3), rfl, SqT.of (s1' _ _ htz), SqT.of hT, by omega, Fz.low.pos, by omega, by decide, by decide, fun t H' nt' s' h => ?_⟩
      have s2' := s1'.trans s'
      have hC' := s2' _ _ hC
      have tC : t ≠ C := fun e => by rw [e, s1' _ _ hC] at nt'; cases nt'
      have Fm := Vf.fw_mul Fz Vf.fw_23
      refine ⟨acc, hC', Nat.lt_of_le_of_lt (show acc.length ≤ 4 by rw [ta.1, zl]; omega) (by decide), acc ++ [.ref t], zs ++ [_], upd_same, Vf.Same.chg (sa.trans s2') nC, Vf.tups_snoc (Vf.tups_upd hC' (ta.same s2')) (by rw [upd_ne tC]; exact h), by rw [List.length_append, zl]; rfl, fun j u hu => ?_⟩
      rcases Vf.snoc_at hu with hu | ⟨e, rfl⟩
      · exact fw j u hu
      · rw [e, zl]
        exact Fm
    rintro H4 ⟨acc, zs, hC, s4, ta, zl, fw⟩
    rw [yl0] at zl
    have hR4 := s4 _ _ hR3
    have CR : C ≠ R := fun e => by rw [e, hR3] at nC; cases nC
    have xrl : xr.length = n := FR.1.trans zk
    refine ⟨_, rfl, _, rfl, _, _, rfl, rfl, R, _, _, n - 1, rfl, rfl, hR4, ?_, ?_⟩
    · rw [show ((n : Int) - 1) = ((n - 1 : Nat) : Int) by omega]
      exact Vf.ixNq (by omega)
    refine hn _ _ ⟨xr.set (n - 1) (.ref C), zss.set (n - 1) zs, W.set (n - 1) (w0.map fun x => x * 2), _, ⟨_, _, rfl⟩, Vf.Same.chg (s3.trans s4) nR, upd_same, Vf.FrRows.set ((FR.same s4).upd hR4 nt) (n - 1) (by rw [upd_ne CR]; exact hC) (Vf.tups_upd hR4 ta), FD.set (d := 18) (n - 1) (by decide) zl (by rw [List.length_map]; exact wl0) (fun j z hz => ?_), by rw [List.length_set]; exact zk, fun t ht => ?_⟩
    · rw [Vf.gD_map]
      have := w180 j
      exact ⟨fw j z hz, by rw [Int.natAbs_mul]; show _ * 2 ≤ 36; omega⟩
    · rcases List.mem_or_eq_of_mem_set ht with ht | ht
      · exact nt t ht
      · obtain rfl := V.ref.inj ht
        exact CR
  rintro σ' H4 ⟨xr4, zss4, W4, Ds, ⟨u4, u5, rfl⟩, s4, hR4, FR4, FD4, zk4, nt4⟩
  clear FR FD zk w18 nt hR3 hD3 s3 zss W xr
  have hD4 := s4 _ _ hD
  refine ⟨_, rfl, _, rfl, by omega, by omega, fun N nN => lc_it (walk_range (lo := 0) (n := _)) (fun i H' => ∃ (acc : List V) (ks : List (Int × Int)) (v : List Int), H' N = some (.lst acc) ∧ Same H4 H' ∧ Vf.Tups Vf.pFr H' acc ks ∧ ks.length = i ∧ v.length = i ∧ (∀ (j : Nat) (z : Int × Int), ks[j]? = some z → Vf.Fw z (Vf.gD v j) 12) ∧ ∀ j, (Vf.gD v j).natAbs ≤ 48) ⟨[], [], [], upd_same, Vf.Same.new (Same.refl H4) nN, Vf.Tups.nil, rfl, rfl, fun j z h => (by simp at h), fun j => (by show (0 : Int).natAbs ≤ 48; decide)⟩ (fun _ _ _ _ => trivial) ?_ ?_⟩
  · rintro i x Ha Hb hi ⟨acc, ks, v, hC, sa, ta, kl, vl, fw, v48⟩ ⟨rfl, rfl⟩
    have hi : i < n := by omega
    have hDb := sa _ _ hD4
    refine ⟨rfl, Vf.tyes ?_⟩
    refine ⟨_, rfl, _, rfl, _, _, rfl, rfl, D, _, _, _, rfl, rfl, SqL.of hDb, Vf.int_at (by omega) (by omega), _, _, rfl, rfl, (by show (0 : Int) < 9; decide), _, _, rfl, rfl, ?_⟩
    refine ⟨_, rfl, _, rfl, _, _, rfl, rfl, D, _, _, _, rfl, rfl, SqL.of hDb, Vf.int_at (by omega) (by omega), _, _, rfl, rfl, (by show (0 : Int) < 4; decide), _, _, rfl, rfl, ?_⟩
    refine ⟨_, _, rfl, by omega, Nat.lt_of_le_of_lt (show _ ≤ 4 by omega) (by decide), fun t H' nt' s' h => ?_⟩
    obtain ⟨z, hz, w, Fv, bv⟩ : ∃ z, H' t = some (.tup (Vf.pFr z)) ∧ ∃ w, Vf.Fw z w 12 ∧ w.natAbs ≤ 48 := ⟨_, h, _, Vf.frac_twelve.1, Vf.frac_twelve.2⟩
    have hC' := s' _ _ hC
    have tC : t ≠ N := fun e => by rw [e, hC] at nt'; cases nt'
    refine ⟨acc, hC', Nat.lt_of_le_of_lt (show acc.length ≤ 4 by rw [ta.1]; omega) (by decide), acc ++ [.ref t], ks ++ [z], v ++ [w], upd_same, Vf.Same.chg (sa.trans s') nN, Vf.tups_snoc (Vf.tups_upd hC' (ta.same s')) (by rw [upd_ne tC]; exact hz), by rw [List.length_append, kl]; rfl, by rw [List.length_append, vl]; rfl, fun j u hu => ?_, fun j => ?_⟩
    · rcases Vf.snoc_at hu with hu | ⟨e, rfl⟩
      · rw [Vf.gD_snoc, if_neg (by have := Vf.at_len hu; omega)]
        exact fw j u hu
      · rw [Vf.gD_snoc, if_pos (by omega)]
        exact Fv
    · rw [Vf.gD_snoc]
      split
      · exact bv
      · exact v48 j
  rintro H5 ⟨xk, ks, v, hN, s5, tk, kl, vl, fk, v48⟩
  rw [Int.toNat_natCast] at kl vl
  dsimp only [gName]
  have hR5 := s5 _ _ hR4
  have FR5 := FR4.same s5
  have s15 := s4.trans s5
  refine ⟨(by show 0 ≤ sizeLine; decide), fun Hd nHd => ?_⟩
  have e6 := Vf.Same.new (o := .lst []) (Same.refl H5) nHd
  have hHd := upd_same (H := H5) (a := Hd) (o := .lst [])
  generalize upd H5 Hd (.lst []) = H6 at e6 hHd ⊢
  have hR6 := e6 _ _ hR5
  have FR6 := FR5.same e6
  have hN6 := e6 _ _ hN
  have tk6 := tk.same e6
  have xrl4 : xr4.length = n := FR4.1.trans zk4
  dsimp only [gName]
  refine ⟨_, rfl, R, rfl, ⟨_, SqL.of hR6⟩, ?_⟩
  refine for_list (K := K) (a := R) (xs := xr4) (fun i σ H' => ∃ (xh : List V) (hss : List (List (Int × Int))), (∃ v4 v5 v8 : Option V, σ = [some (.ref a), some (.ref D), some (.int (n : Int)), some (.ref R), v4, v5, some (.ref N), some (.ref Hd), v8, none, none, none]) ∧ Same H5 H' ∧ H' Hd = some (.lst xh) ∧ Vf.FrRows H' xh hss ∧ Vf.FwRows (n + 1) hss ((W4.take i).map (Vf.ext v n)) ∧ hss.length = i ∧ ∀ t, V.ref t ∈ xh → t ≠ Hd) ⟨[], [], ⟨_, _, _, rfl⟩, e6, hHd, ⟨rfl, fun i r h => (by simp at h)⟩, ⟨rfl, fun i zs w h => (by simp at h)⟩, rfl, fun t h => (by cases h)⟩ (fun i σ H' _ ⟨_, _, _, s, _⟩ => SqL.of (s _ _ hR5)) ?_ ?_
  · rintro i x σ H7 hx ⟨xh, hss, ⟨v4', v5', v8', rfl⟩, s7, hH7, FRh, FWh, hl, nth⟩
    have i4 : i < n := by
      have := Vf.at_len hx
      omega
    obtain ⟨zs, w, d, ez, ew, ed, dd, zl, wl, fz⟩ := FD4.at' (i := i) (by omega)
    obtain ⟨t, ys, ex, ht, ty⟩ := (FR5.same s7).2 i zs ez
    obtain rfl : x = .ref t := Option.some.inj (hx.symm.trans ex)
    have yl : ys.length = n := ty.1.trans zl
    have w36 : ∀ j, (Vf.gD w j).natAbs ≤ 36 := fun j => by
      cases hz : zs[j]? with
      | some z => exact (fz j z hz).2
      | none =>
        have : n ≤ j := by rw [← zl]; exact List.getElem?_eq_none_iff.mp hz
        unfold Vf.gD
        rw [List.getD_eq_getElem?_getD, List.getElem?_eq_none (by omega)]
        decide
    have hN7 := s7 _ _ hN
    have tk7 := tk.same s7
    dsimp only [gName]
    refine ⟨(by show 2 ≤ sizeLine; decide), fun r0 nr0 => ?_⟩
    have e8 := Vf.Same.new (o := .tup [.int 0, .int 1]) (Same.refl H7) nr0
    have h8 : (upd H7 r0 (.tup [.int 0, .int 1])) r0 = some (.tup (Vf.pFr (0, 1))) := upd_same
    generalize upd H7 r0 (.tup [.int 0, .int 1]) = H8 at e8 h8 ⊢
    dsimp only [gName]
    have d12 : 0 < d * 12 ∧ d * 12 ≤ 216 := by omega
    have F00 : Vf.Fw (0, 1) (Vf.sumN 0 fun i => Vf.gD w i * Vf.gD v i) (d * 12) := ⟨⟨by show (0 : Int) < 1; decide, rfl⟩, by show (0 : Int) * (d * 12) = 0 * 1; omega⟩
    refine ⟨_, rfl, _, rfl, by omega, by omega, for_range (lo := 0) (n := _) (fun k σ H' => ∃ (tr : Addr) (z : Int × Int), (∃ v4 : Option V, σ = [some (.ref a), some (.ref D), some (.int (n : Int)), some (.ref R), v4, some (.ref t), some (.ref N), some (.ref Hd), some (.ref tr), none, none, none]) ∧ Same H7 H' ∧ H' tr = some (.tup (Vf.pFr z)) ∧ Vf.Fw z (Vf.sumN k fun i => Vf.gD w i * Vf.gD v i) (d * 12)) ⟨r0, _, ⟨_, rfl⟩, e8, h8, F00⟩ ?_ ?_⟩
    · rintro k σ H9 hk ⟨tr, zr, ⟨v4k, rfl⟩, s9, hr9, Fr⟩
      have hk : k < n := by omega
      rw [show (0 : Int) + (k : Int) = (k : Int) from Int.zero_add _]
      obtain ⟨z, ezk⟩ : ∃ z, zs[k]? = some z := ⟨_, List.getElem?_eq_getElem (by omega)⟩
      obtain ⟨tz, etz, htz⟩ := ty.2 k z ezk
      obtain ⟨kz, ekz⟩ : ∃ kz, ks[k]? = some kz := ⟨_, List.getElem?_eq_getElem (by omega)⟩
      obtain ⟨tkk, etk, htk⟩ := tk7.2 k kz ekz
      obtain ⟨Fz, wz⟩ := fz k z ezk
      have Fk := fk k kz ekz
      have lz := Fz.le dd.1
      have lk := Fk.le (by decide)
      have lr := Fr.le d12.1
      dsimp only [gName]
      refine ⟨_, rfl, _, rfl, _, rfl, t, ys, _, .ref tz, rfl, rfl, SqL.of (s9 _ _ ht), atI_nat etz, _, rfl, _, rfl, N, xk, _, .ref tkk, rfl, rfl, SqL.of (s9 _ _ hN7), atI_nat etk, ?_⟩
      refine ⟨tz, tkk, z, kz, rfl, SqT.of (s9 _ _ htz), SqT.of (s9 _ _ htk), by omega, Fz.low.pos, by omega, Fk.low.pos, by omega, fun tm Ha nm sa hm => ?_⟩
      have Fm := Vf.fw_mul Fz Fk
      have lm := Fm.le d12.1
      refine ⟨tr, tm, zr, _, rfl, SqT.of (sa _ _ hr9), SqT.of hm, Fr.low.pos, by omega, Fm.low.pos, by omega, fun t5 Hb n5 sb h5 => ?_⟩
      have Fa := Vf.fw_add Fr Fm
      dsimp only [gName]
      refine ⟨t5, _, ⟨_, rfl⟩, s9.trans (sa.trans sb), h5, ?_⟩
      rw [Vf.sumN_succ]
      exact Fa
    rintro σ H9 ⟨tr, zr, ⟨v4k, rfl⟩, s9, hr9, Fr⟩
    rw [Int.toNat_natCast] at Fr
    have hH9 := s9 _ _ hH7
    have ht9 := s9 _ _ ht
    dsimp only
    refine ⟨_, rfl, Vf.tyL hH9, _, rfl, _, rfl, (by show 1 ≤ sizeLine; decide), fun u nu => ?_⟩
    have ea := Vf.Same.new (o := .lst [.ref tr]) (Same.refl H9) nu
    have hu := upd_same (H := H9) (a := u) (o := .lst [.ref tr])
    generalize upd H9 u (.lst [.ref tr]) = Ha at ea hu ⊢
    refine ⟨t, u, ys, _, rfl, rfl, ea _ _ ht9, hu, Nat.le_trans (show ys.length + 1 ≤ 5 by omega) (by decide), fun pn npn => ?_⟩
    have eb := Vf.Same.new (o := .lst (ys ++ [.ref tr])) (Same.refl Ha) npn
    have hpn := upd_same (H := Ha) (a := pn) (o := .lst (ys ++ [.ref tr]))
    generalize upd Ha pn (.lst (ys ++ [.ref tr])) = Hb at eb hpn ⊢
    have eab := ea.trans eb
    have hHb := eab _ _ hH9
    have pnH : pn ≠ Hd := fun e => by rw [e, ea _ _ hH9] at npn; cases npn
    have s7b := s9.trans eab
    have tys := Vf.tups_snoc (ty.same s7b) (eab _ _ hr9)
    refine ⟨Hd, xh, _, rfl, rfl, hHb, Nat.lt_of_le_of_lt (show xh.length ≤ 4 by rw [FRh.1]; omega) (by decide), ?_⟩
    refine ⟨xh ++ [.ref pn], hss ++ [zs ++ [zr]], ⟨_, _, _, rfl⟩, Vf.Same.chg (s7.trans s7b) nHd, upd_same, Vf.FrRows.snoc ((FRh.same s7b).upd hHb nth) (by rw [upd_ne pnH]; exact hpn) (Vf.tups_upd hHb tys), ?_, by rw [List.length_append, hl]; rfl, fun t' ht' => ?_⟩
    · rw [Vf.take_snoc ew, List.map_append]
      refine FWh.snoc (D := (d * 12).toNat) (by rw [List.length_append, zl]; rfl) (by unfold Vf.ext; rw [List.length_append, List.length_map, wl]; rfl) (by omega) (by omega) fun j z hz => ?_
      rw [show (((d * 12).toNat : Nat) : Int) = d * 12 by omega]
      rcases Vf.snoc_at hz with hz | ⟨e, rfl⟩
      · have jn : j < n := by rw [← zl]; exact Vf.at_len hz
        rw [Vf.ext_lo wl jn]
        obtain ⟨Fj, bj⟩ := fz j z hz
        refine ⟨Vf.fw_scale Fj 12, ?_⟩
        rw [Int.natAbs_mul]
        show (Vf.gD w j).natAbs * 12 < 8192
        omega
      · rw [e, zl, Vf.ext_hi wl]
        refine ⟨Fr, Nat.lt_of_le_of_lt (Vf.sum_bd36 w36 v48 n) ?_⟩
        show n * 1728 < 8192
        omega
    · rcases List.mem_append.mp ht' with h | h
      · exact nth t' h
      · obtain rfl := V.ref.inj (List.mem_singleton.mp h)
        exact pnH
  rintro σ H7 ⟨xh, hss, ⟨v4', v5', v8', rfl⟩, s7, hH7, FRh, FWh, hl, nth⟩
  have W4l : W4.length = n := FD4.lw.trans zk4
  rw [xrl4, List.take_of_length_le (by omega)] at FWh
  rw [xrl4] at hl
  have wln : ∀ w ∈ W4, w.length = n := fun w hw => by
    obtain ⟨i, hi⟩ := List.mem_iff_getElem?.mp hw
    obtain ⟨zs, w', d, _, ew, _, _, _, wl, _⟩ := FD4.at' (i := i) (by have := Vf.at_len hi; omega)
    rw [hi] at ew
    rw [Option.some.inj ew]
    exact wl
  have xhl : xh.length = n := FRh.1.trans hl
  dsimp only
  refine ⟨_, rfl, Hd, rfl, ⟨_, SqL.of hH7⟩, fun C nC => lc_it (walk_list (K := K) (a := Hd) (xs := xh)) (fun i H' => ∃ acc : List V, H' C = some (.lst acc) ∧ Same H7 H' ∧ Vf.FrRows H' acc (hss.take i) ∧ ∀ t, V.ref t ∈ acc → t ≠ C) ⟨[], upd_same, Vf.Same.new (Same.refl H7) nC, ⟨rfl, fun i r h => (by simp at h)⟩, fun t h => (by cases h)⟩ (fun i H' _ ⟨_, _, s, _⟩ => SqL.of (s _ _ hH7)) ?_ ?_⟩
  · rintro i x Ha Hb hi ⟨acc, hC, sa, FRa, fr⟩ ⟨rfl, hx⟩
    obtain ⟨zs, t, ys, ez, rfl, ht, ty⟩ := (FRh.same sa).get hx
    have al : acc.length ≤ 4 := by rw [FRa.1, List.length_take]; omega
    refine ⟨rfl, Vf.tyes ⟨_, rfl, t, ys, rfl, .inl (SqL.of ht), fun u nu => ?_⟩⟩
    have e1 := Vf.Same.new (o := .lst ys) (Same.refl Hb) nu
    have hu := upd_same (H := Hb) (a := u) (o := .lst ys)
    generalize upd Hb u (.lst ys) = Hc at e1 hu ⊢
    have hC' := e1 _ _ hC
    have uC : u ≠ C := fun e => by rw [e, hC] at nu; cases nu
    refine ⟨acc, hC', Nat.lt_of_le_of_lt al (by decide), acc ++ [.ref u], upd_same, Vf.Same.chg (sa.trans e1) nC, ?_, fun t' ht' => ?_⟩
    · rw [Vf.take_snoc ez]
      exact Vf.FrRows.snoc ((FRa.same e1).upd hC' fr) (by rw [upd_ne uC]; exact hu) (Vf.tups_upd hC' (ty.same e1))
    · rcases List.mem_append.mp ht' with h | h
      · exact fr t' h
      · obtain rfl := V.ref.inj (List.mem_singleton.mp h)
        exact uC
  rintro H8 ⟨acc, hC, s8, FRa, fr⟩
  rw [xhl, List.take_of_length_le (by omega)] at FRa
  dsimp only [tNil, List.append_nil]
  have s58 := s7.trans s8
  have hR8 := s58 _ _ hR5
  have FR8 := FR5.same s58
  have tk8 := tk.same s58
  have hN8 := s58 _ _ hN
  obtain ⟨pp, _⟩ := Vf.prodI_bd FD4.dd
  refine ⟨C, n, acc, hss, W4.map (Vf.ext v n), ks, v, rfl, hC, FRa, FWh, hl, n1.1, n1.2, kl, fun j z hz => ⟨fk j z hz, Nat.lt_of_le_of_lt (v48 j) (by decide)⟩, fun w hw => ?_, fun ⟨x, nzx, out, van⟩ H9 s9 => ?_, fun m ys H9 s9 nm hm tys inj => ?_⟩
  · obtain ⟨w', hw', rfl⟩ := List.mem_map.mp hw
    exact Vf.ext_kap (wln w' hw')
  · dsimp only [gName]
    refine ⟨_, rfl, R, xr4, zss4, W4, Ds, n, rfl, s9 _ _ hR8, FR8.same s9, FD4, zk4, by omega, n1.2, fun td zd H10 s10 ntd hd Fd => ?_⟩
    obtain ⟨j, hj, nzj⟩ := nzx
    have det0 : Vf.detN n W4 = 0 := Vf.cramer n1.2 W4l wln (fun w hw => by
      have e := van _ (List.mem_map_of_mem hw)
      rw [Vf.ext_dv (wln w hw), out n (Nat.le_refl _), Int.mul_zero, Int.add_zero] at e
      omega) hj nzj
    have zd0 : zd.1 = 0 := (Vf.fw_zero Fd (Int.ne_of_gt pp)).mpr det0
    refine ⟨td, _, 0, _, rfl, rfl, SqT.of hd, atI_nat (j := 0) rfl, rfl, _, rfl, Vf.ite_d (fun _ => ?_) fun e => absurd (by rw [zd0]) e⟩
    refine ⟨_, rfl, rfl, ?_⟩
    rw [decide_eq_true rfl]
    exact q H10
  dsimp only [gName]
  refine ⟨_, rfl, R, xr4, zss4, W4, Ds, n, rfl, s9 _ _ hR8, FR8.same s9, FD4, zk4, by omega, n1.2, fun td zd H10 s10 ntd hd Fd => ?_⟩
  have det1 : Vf.detN n W4 ≠ 0 := fun e => by
    obtain ⟨x, ⟨j, hj, nz⟩, van⟩ := Vf.depend n1.2 W4l wln e
    have := inj (fun z => if z < n then x z else 0) (fun z hz => if_neg (by omega)) (fun w hw => by
      obtain ⟨w', hw', rfl⟩ := List.mem_map.mp hw
      rw [Vf.ext_dv (wln w' hw')]
      show 12 * Vf.dvN n (Vf.gD w') (fun z => if z < n then x z else 0) + Vf.gD (Vf.ext v n w') n * (if n < n then x n else 0) = 0
      rw [if_neg (Nat.lt_irrefl n), Int.mul_zero, Int.add_zero, Vf.dvN_congr (f := Vf.gD w') (p := Vf.gD w') (u := x) fun z hz => by show _ * (if z < n then x z else 0) = _; rw [if_pos hz], van w' hw']
      rfl) j
    have this : (if j < n then x j else 0) = 0 := this
    rw [if_pos hj] at this
    exact nz this
  have zd1 : zd.1 ≠ 0 := fun e => det1 ((Vf.fw_zero Fd (Int.ne_of_gt pp)).mp e)
  refine ⟨td, _, 0, _, rfl, rfl, SqT.of hd, atI_nat (j := 0) rfl, rfl, _, rfl, Vf.ite_d (fun e => absurd (V.int.inj e) zd1) fun _ => ?_⟩
  have hm10 := s10 _ _ hm
  have tys10 := tys.same s10
  have yl : ys.length = n := tys.1.trans kl
  have s810 := s9.trans s10
  have tk10 := tk8.same s810
  have hN10 := s810 _ _ hN8
  unfold tNext
  dsimp only
  refine ⟨_, rfl, _, _, .type "list", .type "list", true, rfl, ClsV.ty _, TyX.base (TyOf.lst hm10), rfl, _, rfl, Vf.ite_b (fun c => absurd c (by decide)) fun _ => ?_⟩
  refine ⟨_, rfl, m, _, rfl, .inl (SqL.of hm10), _, rfl, rfl, _, rfl, Vf.ite_b (fun c => absurd c (by rw [yl]; simp)) fun _ => ?_⟩
  refine ⟨_, rfl, _, rfl, by omega, by omega, for_range (lo := 0) (n := _) (fun k σ H' => (∃ v4 : Option V, σ = [some (.ref a), some (.ref D), some (.int (n : Int)), some (.ref R), v4, v5', some (.ref N), some (.ref Hd), v8', some (.ref m), none, none]) ∧ Same H10 H') ⟨⟨_, rfl⟩, Same.refl H10⟩ ?_ ?_⟩
  rotate_left
  · rintro σ Hz ⟨⟨v4, rfl⟩, sz⟩
    exact q Hz
  rintro k σ Hz hk ⟨⟨v4, rfl⟩, sz⟩
  have hk : k < n := by omega
  rw [show (0 : Int) + (k : Int) = (k : Int) from Int.zero_add _]
  obtain ⟨kz, ekz⟩ : ∃ kz, ks[k]? = some kz := ⟨_, List.getElem?_eq_getElem (by omega)⟩
  obtain ⟨x1, ex1, hx1⟩ := tys10.2 k kz ekz
  obtain ⟨x2, ex2, hx2⟩ := tk10.2 k kz ekz
  dsimp only [gName]
  refine ⟨_, rfl, _, rfl, m, ys, _, .ref x1, rfl, rfl, SqL.of (sz _ _ hm10), atI_nat ex1, _, rfl, _, rfl, N, xk, _, .ref x2, rfl, rfl, SqL.of (sz _ _ hN10), atI_nat ex2, ?_⟩
  refine ⟨x1, x2, [kz.1, kz.2], [kz.1, kz.2], rfl, sz _ _ hx1, sz _ _ hx2, by show 2 ≤ 1000000; decide, ?_⟩
  rw [decide_eq_true rfl]
  refine ⟨_, rfl, Vf.ite_b (fun c => absurd c (by decide)) fun _ => ?_⟩
  exact ⟨⟨_, rfl⟩, sz⟩
end

theorem all_mk {P : Program} {w : World} {K : PySem.W.Frag} {h : Heap} {mg : Str → Option Value} {fa : Addr} (X : K.In h) (G : h.Ns mainGlobals mg) (hfa : mg "law" = some (.ref fa))
    {f__law_draws f__law_cell f__law_divisor f__law_frac f__law_mul f__law_add f__lowered f__whole f__pivot_at f__without f__stairs f_fraction f_minus f_times f_over f_solve f__law_det f__law_is_int f__law_ints f__law_is_tuple f__law_is_frac f_law : Addr}
    (a__law_draws : PySem.W.nsIn K mainGlobals "_law_draws" = some (some (.ref f__law_draws)))
    (l__law_draws : Vf.FunAt K "_law_draws" "_law_draws" s__law_draws f__law_draws)
    (a__law_cell : PySem.W.nsIn K mainGlobals "_law_cell" = some (some (.ref f__law_cell)))
    (l__law_cell : Vf.FunAt K "_law_cell" "_law_cell" s__law_cell f__law_cell)
    (a__law_divisor : PySem.W.nsIn K mainGlobals "_law_divisor" = some (some (.ref f__law_divisor)))
    (l__law_divisor : Vf.FunAt K "_law_divisor" "_law_divisor" s__law_divisor f__law_divisor)
    (a__law_frac : PySem.W.nsIn K mainGlobals "_law_frac" = some (some (.ref f__law_frac)))
    (l__law_frac : Vf.FunAt K "_law_frac" "_law_frac" s__law_frac f__law_frac)
    (a__law_mul : PySem.W.nsIn K mainGlobals "_law_mul" = some (some (.ref f__law_mul)))
    (l__law_mul : Vf.FunAt K "_law_mul" "_law_mul" s__law_mul f__law_mul)
    (a__law_add : PySem.W.nsIn K mainGlobals "_law_add" = some (some (.ref f__law_add)))
    (l__law_add : Vf.FunAt K "_law_add" "_law_add" s__law_add f__law_add)
    (a__lowered : PySem.W.nsIn K mainGlobals "_lowered" = some (some (.ref f__lowered)))
    (l__lowered : Vf.FunAt K "_lowered" "_lowered" s__lowered f__lowered)
    (a__whole : PySem.W.nsIn K mainGlobals "_whole" = some (some (.ref f__whole)))
    (l__whole : Vf.FunAt K "_whole" "_whole" s__whole f__whole)
    (a__pivot_at : PySem.W.nsIn K mainGlobals "_pivot_at" = some (some (.ref f__pivot_at)))
    (l__pivot_at : Vf.FunAt K "_pivot_at" "_pivot_at" s__pivot_at f__pivot_at)
    (a__without : PySem.W.nsIn K mainGlobals "_without" = some (some (.ref f__without)))
    (l__without : Vf.FunAt K "_without" "_without" s__without f__without)
    (a__stairs : PySem.W.nsIn K mainGlobals "_stairs" = some (some (.ref f__stairs)))
    (l__stairs : Vf.FunAt K "_stairs" "_stairs" s__stairs f__stairs)
    (a_fraction : PySem.W.nsIn K mainGlobals "fraction" = some (some (.ref f_fraction)))
    (l_fraction : Vf.FunAt K "fraction" "fraction" s_fraction f_fraction)
    (a_minus : PySem.W.nsIn K mainGlobals "minus" = some (some (.ref f_minus)))
    (l_minus : Vf.FunAt K "minus" "minus" s_minus f_minus)
    (a_times : PySem.W.nsIn K mainGlobals "times" = some (some (.ref f_times)))
    (l_times : Vf.FunAt K "times" "times" s_times f_times)
    (a_over : PySem.W.nsIn K mainGlobals "over" = some (some (.ref f_over)))
    (l_over : Vf.FunAt K "over" "over" s_over f_over)
    (a_solve : PySem.W.nsIn K mainGlobals "solve" = some (some (.ref f_solve)))
    (l_solve : Vf.FunAt K "solve" "solve" s_solve f_solve)
    (a__law_det : PySem.W.nsIn K mainGlobals "_law_det" = some (some (.ref f__law_det)))
    (l__law_det : Vf.FunAt K "_law_det" "_law_det" s__law_det f__law_det)
    (a__law_is_int : PySem.W.nsIn K mainGlobals "_law_is_int" = some (some (.ref f__law_is_int)))
    (l__law_is_int : Vf.FunAt K "_law_is_int" "_law_is_int" s__law_is_int f__law_is_int)
    (a__law_ints : PySem.W.nsIn K mainGlobals "_law_ints" = some (some (.ref f__law_ints)))
    (l__law_ints : Vf.FunAt K "_law_ints" "_law_ints" s__law_ints f__law_ints)
    (a__law_is_tuple : PySem.W.nsIn K mainGlobals "_law_is_tuple" = some (some (.ref f__law_is_tuple)))
    (l__law_is_tuple : Vf.FunAt K "_law_is_tuple" "_law_is_tuple" s__law_is_tuple f__law_is_tuple)
    (a__law_is_frac : PySem.W.nsIn K mainGlobals "_law_is_frac" = some (some (.ref f__law_is_frac)))
    (l__law_is_frac : Vf.FunAt K "_law_is_frac" "_law_is_frac" s__law_is_frac f__law_is_frac)
    (a_law : PySem.W.nsIn K mainGlobals "law" = some (some (.ref f_law)))
    (l_law : Vf.FunAt K "law" "law" s_law f_law)
    (z_abs : PySem.W.nsIn K mainGlobals "abs" = some none)
    (z_bool : PySem.W.nsIn K mainGlobals "bool" = some none)
    (z_enumerate : PySem.W.nsIn K mainGlobals "enumerate" = some none)
    (z_int : PySem.W.nsIn K mainGlobals "int" = some none)
    (z_isinstance : PySem.W.nsIn K mainGlobals "isinstance" = some none)
    (z_len : PySem.W.nsIn K mainGlobals "len" = some none)
    (z_list : PySem.W.nsIn K mainGlobals "list" = some none)
    (z_range : PySem.W.nsIn K mainGlobals "range" = some none)
    (z_reversed : PySem.W.nsIn K mainGlobals "reversed" = some none)
    (z_str : PySem.W.nsIn K mainGlobals "str" = some none)
    (z_tuple : PySem.W.nsIn K mainGlobals "tuple" = some none)
    (z_zip : PySem.W.nsIn K mainGlobals "zip" = some none)
    (q_gcd : PySem.W.nsIn K mainGlobals "gcd" = some (some (.builtin "math.gcd")))
    (q_lcm : PySem.W.nsIn K mainGlobals "lcm" = some (some (.builtin "math.lcm"))) :
    ∃ fd : FuncData, (∀ (s : Shared) (u : Value), BindsTo s fd ⟨[u], []⟩ [("script", u)]) ∧ ∀ base : Heap, K.In base → base.Ns mainGlobals mg → FnOk P w K mg base CX0 10 fa fd ["script"] (Vf.spLaw K) := by
  have e := hfa.symm.trans (PySem.W.mg_of X G a_law)
  cases e
  obtain ⟨d__law_draws, F__law_draws⟩ := l__law_draws.get
  have B__law_draws := F__law_draws.binds (ps := ["cell", "count"]) fun _ _ _ _ _ _ us hl => match us, hl with | [_, _], _ => rfl
  obtain ⟨d__law_cell, F__law_cell⟩ := l__law_cell.get
  have B__law_cell := F__law_cell.binds (ps := ["script", "k"]) fun _ _ _ _ _ _ us hl => match us, hl with | [_, _], _ => rfl
  obtain ⟨d__law_divisor, F__law_divisor⟩ := l__law_divisor.get
  have B__law_divisor := F__law_divisor.binds (ps := ["first", "second"]) fun _ _ _ _ _ _ us hl => match us, hl with | [_, _], _ => rfl
  obtain ⟨d__law_frac, F__law_frac⟩ := l__law_frac.get
  have B__law_frac := F__law_frac.binds (ps := ["numerator", "denominator"]) fun _ _ _ _ _ _ us hl => match us, hl with | [_, _], _ => rfl
  obtain ⟨d__law_mul, F__law_mul⟩ := l__law_mul.get
  have B__law_mul := F__law_mul.binds (ps := ["first", "second"]) fun _ _ _ _ _ _ us hl => match us, hl with | [_, _], _ => rfl
  obtain ⟨d__law_add, F__law_add⟩ := l__law_add.get
  have B__law_add := F__law_add.binds (ps := ["first", "second"]) fun _ _ _ _ _ _ us hl => match us, hl with | [_, _], _ => rfl
  obtain ⟨d__lowered, F__lowered⟩ := l__lowered.get
  have B__lowered := F__lowered.binds (ps := ["row"]) fun _ _ _ _ _ _ us hl => match us, hl with | [_], _ => rfl
  obtain ⟨d__whole, F__whole⟩ := l__whole.get
  have B__whole := F__whole.binds (ps := ["row"]) fun _ _ _ _ _ _ us hl => match us, hl with | [_], _ => rfl
  obtain ⟨d__pivot_at, F__pivot_at⟩ := l__pivot_at.get
  have B__pivot_at := F__pivot_at.binds (ps := ["rows", "column"]) fun _ _ _ _ _ _ us hl => match us, hl with | [_, _], _ => rfl
  obtain ⟨d__without, F__without⟩ := l__without.get
  have B__without := F__without.binds (ps := ["row", "pivot", "column"]) fun _ _ _ _ _ _ us hl => match us, hl with | [_, _, _], _ => rfl
  obtain ⟨d__stairs, F__stairs⟩ := l__stairs.get
  have B__stairs := F__stairs.binds (ps := ["rows"]) fun _ _ _ _ _ _ us hl => match us, hl with | [_], _ => rfl
  obtain ⟨d_fraction, F_fraction⟩ := l_fraction.get
  have B_fraction := F_fraction.binds (ps := ["numerator", "denominator"]) fun _ _ _ _ _ _ us hl => match us, hl with | [_, _], _ => rfl
  obtain ⟨d_minus, F_minus⟩ := l_minus.get
  have B_minus := F_minus.binds (ps := ["first", "second"]) fun _ _ _ _ _ _ us hl => match us, hl with | [_, _], _ => rfl
  obtain ⟨d_times, F_times⟩ := l_times.get
  have B_times := F_times.binds (ps := ["first", "second"]) fun _ _ _ _ _ _ us hl => match us, hl with | [_, _], _ => rfl
  obtain ⟨d_over, F_over⟩ := l_over.get
  have B_over := F_over.binds (ps := ["first", "second"]) fun _ _ _ _ _ _ us hl => match us, hl with | [_, _], _ => rfl
  obtain ⟨d_solve, F_solve⟩ := l_solve.get
  have B_solve := F_solve.binds (ps := ["rows"]) fun _ _ _ _ _ _ us hl => match us, hl with | [_], _ => rfl
  obtain ⟨d__law_det, F__law_det⟩ := l__law_det.get
  have B__law_det := F__law_det.binds (ps := ["rows"]) fun _ _ _ _ _ _ us hl => match us, hl with | [_], _ => rfl
  obtain ⟨d__law_is_int, F__law_is_int⟩ := l__law_is_int.get
  have B__law_is_int := F__law_is_int.binds (ps := ["x"]) fun _ _ _ _ _ _ us hl => match us, hl with | [_], _ => rfl
  obtain ⟨d__law_ints, F__law_ints⟩ := l__law_ints.get
  have B__law_ints := F__law_ints.binds (ps := ["x", "kind"]) fun _ _ _ _ _ _ us hl => match us, hl with | [_, _], _ => rfl
  obtain ⟨d__law_is_tuple, F__law_is_tuple⟩ := l__law_is_tuple.get
  have B__law_is_tuple := F__law_is_tuple.binds (ps := ["x", "due"]) fun _ _ _ _ _ _ us hl => match us, hl with | [_, _], _ => rfl
  obtain ⟨d__law_is_frac, F__law_is_frac⟩ := l__law_is_frac.get
  have B__law_is_frac := F__law_is_frac.binds (ps := ["x", "due"]) fun _ _ _ _ _ _ us hl => match us, hl with | [_, _], _ => rfl
  obtain ⟨oc, od, kV, doc, pm, an, cdv, ct, osl, q1, q2, q3⟩ := l_law
  have F_law := fun_mk (st := s_law) q1 q2 q3
  have T : Txt K mg ⟨f__law_draws, d__law_draws, f__law_cell, d__law_cell, f__law_divisor, d__law_divisor, f__law_frac, d__law_frac, f__law_mul, d__law_mul, f__law_add, d__law_add, f__lowered, d__lowered, f__whole, d__whole, f__pivot_at, d__pivot_at, f__without, d__without, f__stairs, d__stairs, f_fraction, d_fraction, f_minus, d_minus, f_times, d_times, f_over, d_over, f_solve, d_solve, f__law_det, d__law_det, f__law_is_int, d__law_is_int, f__law_ints, d__law_ints, f__law_is_tuple, d__law_is_tuple, f__law_is_frac, d__law_is_frac, _, _⟩ := {
    F__law_draws := F__law_draws,
    B__law_draws := B__law_draws,
    G__law_draws := PySem.W.mg_of X G a__law_draws,
    F__law_cell := F__law_cell,
    B__law_cell := B__law_cell,
    G__law_cell := PySem.W.mg_of X G a__law_cell,
    F__law_divisor := F__law_divisor,
    B__law_divisor := B__law_divisor,
    G__law_divisor := PySem.W.mg_of X G a__law_divisor,
    F__law_frac := F__law_frac,
    B__law_frac := B__law_frac,
    G__law_frac := PySem.W.mg_of X G a__law_frac,
    F__law_mul := F__law_mul,
    B__law_mul := B__law_mul,
    G__law_mul := PySem.W.mg_of X G a__law_mul,
    F__law_add := F__law_add,
    B__law_add := B__law_add,
    G__law_add := PySem.W.mg_of X G a__law_add,
    F__lowered := F__lowered,
    B__lowered := B__lowered,
    G__lowered := PySem.W.mg_of X G a__lowered,
    F__whole := F__whole,
    B__whole := B__whole,
    G__whole := PySem.W.mg_of X G a__whole,
    F__pivot_at := F__pivot_at,
    B__pivot_at := B__pivot_at,
    G__pivot_at := PySem.W.mg_of X G a__pivot_at,
    F__without := F__without,
    B__without := B__without,
    G__without := PySem.W.mg_of X G a__without,
    F__stairs := F__stairs,
    B__stairs := B__stairs,
    G__stairs := PySem.W.mg_of X G a__stairs,
    F_fraction := F_fraction,
    B_fraction := B_fraction,
    G_fraction := PySem.W.mg_of X G a_fraction,
    F_minus := F_minus,
    B_minus := B_minus,
    G_minus := PySem.W.mg_of X G a_minus,
    F_times := F_times,
    B_times := B_times,
    G_times := PySem.W.mg_of X G a_times,
    F_over := F_over,
    B_over := B_over,
    G_over := PySem.W.mg_of X G a_over,
    F_solve := F_solve,
    B_solve := B_solve,
    G_solve := PySem.W.mg_of X G a_solve,
    F__law_det := F__law_det,
    B__law_det := B__law_det,
    G__law_det := PySem.W.mg_of X G a__law_det,
    F__law_is_int := F__law_is_int,
    B__law_is_int := B__law_is_int,
    G__law_is_int := PySem.W.mg_of X G a__law_is_int,
    F__law_ints := F__law_ints,
    B__law_ints := B__law_ints,
    G__law_ints := PySem.W.mg_of X G a__law_ints,
    F__law_is_tuple := F__law_is_tuple,
    B__law_is_tuple := B__law_is_tuple,
    G__law_is_tuple := PySem.W.mg_of X G a__law_is_tuple,
    F__law_is_frac := F__law_is_frac,
    B__law_is_frac := B__law_is_frac,
    G__law_is_frac := PySem.W.mg_of X G a__law_is_frac,
    F_law := F_law,
    G_law := PySem.W.mg_of X G a_law,
    N_abs := PySem.W.mg_none_of X G z_abs,
    N_bool := PySem.W.mg_none_of X G z_bool,
    N_enumerate := PySem.W.mg_none_of X G z_enumerate,
    N_int := PySem.W.mg_none_of X G z_int,
    N_isinstance := PySem.W.mg_none_of X G z_isinstance,
    N_len := PySem.W.mg_none_of X G z_len,
    N_list := PySem.W.mg_none_of X G z_list,
    N_range := PySem.W.mg_none_of X G z_range,
    N_reversed := PySem.W.mg_none_of X G z_reversed,
    N_str := PySem.W.mg_none_of X G z_str,
    N_tuple := PySem.W.mg_none_of X G z_tuple,
    N_zip := PySem.W.mg_none_of X G z_zip,
    Q_gcd := PySem.W.mg_of X G q_gcd,
    Q_lcm := PySem.W.mg_of X G q_lcm }
  exact ⟨_, fun s u => .of_eq rfl, fun base _ _ => ok_law T⟩
theorem walk {l : PySem.W.OpenLaw} {q : Program} {loose : List Str} {XP : (Str → Option Value) → Heap → Prop} {YP : World → Heap → Prop} {d : DefRec} {K : Params → PySem.W.Frag} (hn : l.most = some 63) (hdf : d.params.defaults = [])
    (hY : ∀ (w : World) (h : Heap), YP w h → (K w.params).In h)
    (F : ∀ (w : World) (mg : Str → Option Value) (fa : Addr) (h : Heap), (K w.params).In h → h.Ns mainGlobals mg → mg d.name = some (.ref fa) →
      ∃ fd : FuncData, (∀ (s : Shared) (u : Value), BindsTo s fd ⟨[u], []⟩ [("script", u)]) ∧ ∀ base : Heap, (K w.params).In base → base.Ns mainGlobals mg → FnOk l.prog w (K w.params) mg base CX0 10 fa fd ["script"] (Vf.spLaw (K w.params))) :
    PySem.W.WalkO q loose XP YP l.row.toRowW d [] (fun f vs => PySem.call f vs) :=
  L2.walk_of (n := 63) (k := 10) (x := "script") (CX := fun _ => CX0) (sp := fun w => Vf.spLaw (K w.params)) hn (by decide) hdf ⟨rfl, by decide, by decide⟩ hY F (fun _ _ a ns hl _ hS => ⟨a, ns, rfl, hS, hl, fun _ => rfl⟩) fun _ _ _ _ _ z => z
end Pf
open PySem PySem.W PyProof.Rows
set_option maxRecDepth 100000 in
set_option maxHeartbeats 0 in
theorem PySem.Challenge.cw_mingle_k54_solved_equations_holds : PySem.Challenge.rw_mingle_k54_solved_equations.Holds := by
  w_on; o_law; k_head; (case hw => w_witness2)
  k_fill
  refine Pf.walk (l := PySem.Challenge.rw_mingle_k54_solved_equations) rfl rfl (fun w h Y => PySem.W.kIn_of Y) ?F
  case F =>
    intro w mg fa h KX G hmg
    refine' Pf.all_mk KX G hmg ?a__law_draws ?l__law_draws ?a__law_cell ?l__law_cell ?a__law_divisor ?l__law_divisor ?a__law_frac ?l__law_frac ?a__law_mul ?l__law_mul ?a__law_add ?l__law_add ?a__lowered ?l__lowered ?a__whole ?l__whole ?a__pivot_at ?l__pivot_at ?a__without ?l__without ?a__stairs ?l__stairs ?a_fraction ?l_fraction ?a_minus ?l_minus ?a_times ?l_times ?a_over ?l_over ?a_solve ?l_solve ?a__law_det ?l__law_det ?a__law_is_int ?l__law_is_int ?a__law_ints ?l__law_ints ?a__law_is_tuple ?l__law_is_tuple ?a__law_is_frac ?l__law_is_frac ?a_law ?l_law ?z_abs ?z_bool ?z_enumerate ?z_int ?z_isinstance ?z_len ?z_list ?z_range ?z_reversed ?z_str ?z_tuple ?z_zip ?q_gcd ?q_lcm
    (case a__law_draws => k_is)
    (case l__law_draws => exact ⟨_, _, _, _, _, _, _, _, _, by k_is, by k_is, by k_is⟩)
    (case a__law_cell => k_is)
    (case l__law_cell => exact ⟨_, _, _, _, _, _, _, _, _, by k_is, by k_is, by k_is⟩)
    (case a__law_divisor => k_is)
    (case l__law_divisor => exact ⟨_, _, _, _, _, _, _, _, _, by k_is, by k_is, by k_is⟩)
    (case a__law_frac => k_is)
    (case l__law_frac => exact ⟨_, _, _, _, _, _, _, _, _, by k_is, by k_is, by k_is⟩)
    (case a__law_mul => k_is)
    (case l__law_mul => exact ⟨_, _, _, _, _, _, _, _, _, by k_is, by k_is, by k_is⟩)
    (case a__law_add => k_is)
    (case l__law_add => exact ⟨_, _, _, _, _, _, _, _, _, by k_is, by k_is, by k_is⟩)
    (case a__lowered => k_is)
    (case l__lowered => exact ⟨_, _, _, _, _, _, _, _, _, by k_is, by k_is, by k_is⟩)
    (case a__whole => k_is)
    (case l__whole => exact ⟨_, _, _, _, _, _, _, _, _, by k_is, by k_is, by k_is⟩)
    (case a__pivot_at => k_is)
    (case l__pivot_at => exact ⟨_, _, _, _, _, _, _, _, _, by k_is, by k_is, by k_is⟩)
    (case a__without => k_is)
    (case l__without => exact ⟨_, _, _, _, _, _, _, _, _, by k_is, by k_is, by k_is⟩)
    (case a__stairs => k_is)
    (case l__stairs => exact ⟨_, _, _, _, _, _, _, _, _, by k_is, by k_is, by k_is⟩)
    (case a_fraction => k_is)
    (case l_fraction => exact ⟨_, _, _, _, _, _, _, _, _, by k_is, by k_is, by k_is⟩)
    (case a_minus => k_is)
    (case l_minus => exact ⟨_, _, _, _, _, _, _, _, _, by k_is, by k_is, by k_is⟩)
    (case a_times => k_is)
    (case l_times => exact ⟨_, _, _, _, _, _, _, _, _, by k_is, by k_is, by k_is⟩)
    (case a_over => k_is)
    (case l_over => exact ⟨_, _, _, _, _, _, _, _, _, by k_is, by k_is, by k_is⟩)
    (case a_solve => k_is)
    (case l_solve => exact ⟨_, _, _, _, _, _, _, _, _, by k_is, by k_is, by k_is⟩)
    (case a__law_det => k_is)
    (case l__law_det => exact ⟨_, _, _, _, _, _, _, _, _, by k_is, by k_is, by k_is⟩)
    (case a__law_is_int => k_is)
    (case l__law_is_int => exact ⟨_, _, _, _, _, _, _, _, _, by k_is, by k_is, by k_is⟩)
    (case a__law_ints => k_is)
    (case l__law_ints => exact ⟨_, _, _, _, _, _, _, _, _, by k_is, by k_is, by k_is⟩)
    (case a__law_is_tuple => k_is)
    (case l__law_is_tuple => exact ⟨_, _, _, _, _, _, _, _, _, by k_is, by k_is, by k_is⟩)
    (case a__law_is_frac => k_is)
    (case l__law_is_frac => exact ⟨_, _, _, _, _, _, _, _, _, by k_is, by k_is, by k_is⟩)
    (case a_law => k_is)
    (case l_law => exact ⟨_, _, _, _, _, _, _, _, _, by k_is, by k_is, by k_is⟩)
    (case z_abs => k_is)
    (case z_bool => k_is)
    (case z_enumerate => k_is)
    (case z_int => k_is)
    (case z_isinstance => k_is)
    (case z_len => k_is)
    (case z_list => k_is)
    (case z_range => k_is)
    (case z_reversed => k_is)
    (case z_str => k_is)
    (case z_tuple => k_is)
    (case z_zip => k_is)
    (case q_gcd => k_is)
    (case q_lcm => k_is)
