import PyProof.Rows.All
import Wide.All
import OpenK.AllK
import Wide.FinOn
import HandS.ForMost
import HandS.ForExc
import HandS.Wide
import HandS.DictTup
import HandS.Conv
import HandS.SortRule
import HandS.TupLe
import HandS.FStr
import HandS.RaiseMore
import HandS.IsInst
import HandS.NoneIn
import HandS.Style
import HandS.Zip
import HandS.Steps
import HandS.Evl
import HandS.TupLen
import HandS.Walk
import HandS.SortKw
import HandS.TryOnly
import HandS.WordsExc
import KE.DatumOrd
import KE.GoesZip
import KE.GoesMore
import KE.KTupSum
import OpenK.KOps
import HandS.TryMany
import HandS.Deep
import HandS.SortInts
import HandS.Codes
import HandS.SetBool
import HandS.Strs
import KE.DatumMore
import KE.DataEq
import KE.GoesEnumKw
import PyProof.Rows.CallKwBuiltin
import PyProof.StrLawsTight
import HandS.TupAny
import HandS.DictComp
import HandS.Defaults
import HandS.SetTxt0
import KE.SortData
import KE.SortData
import KE.SortData
import HandS.Gcd
import HandS.Star
import KE.KExcSuper
import HandS.ExcInit
import HandS.Nested
import HandS.ExcField
import HandS.HotCalls
import HandS.TupSets
import PySem.Challenge.RW_mingle_k96_whole_questions_tell_the_valu
set_option Elab.async false
set_option linter.all false
set_option maxRecDepth 100000
set_option maxHeartbeats 2000000
namespace Vf
open PySem L2
/-- a def of the text as it stands behind the top -/
def FunAt (K : PySem.W.Frag) (x qual : Str) (st : Stmt) (f : Addr) : Prop :=
  ∃ (oc : Value) (od : Option Addr) (kV doc pm : Value) (an : Option Addr) (cdv ct : Value) (osl : Array (Option Value)),
    K.lookup f = some ⟨oc, od, .func (PySem.W.fnOf x qual (defArgs st) (defBody st) (defScope st) .none kV doc pm an cdv ct), osl⟩ ∧ PySem.W.codeIn K cdv qual = true ∧ PySem.W.keepIn K (.ref f) = true
theorem FunAt.get {K : PySem.W.Frag} {x qual : Str} {st : Stmt} {f : Addr} (h : FunAt K x qual st f) : ∃ fd, Fun K x qual st f fd := by
  obtain ⟨oc, od, kV, doc, pm, an, cdv, ct, osl, q1, q2, q3⟩ := h
  exact ⟨_, fun_mk q1 q2 q3⟩
/-- what a law promises -/
def spLaw (K : PySem.W.Frag) : Sp := fun vs H Q _ => ∃ (a : Addr) (ns : List Int), vs = [.ref a] ∧ SqL K H a (ns.map V.int) ∧ ns.length ≤ 63 ∧ ∀ H', Q (.bl true) H'
end Vf
namespace Vf
open PySem L2
/-- an own exception class is met by its own clause -/
theorem exm_self {K : PySem.W.Frag} {c : Addr} (b : PySem.W.subIn K (.ref c) (.type "BaseException") = some true) (i : PySem.W.isClsIn K c = true) (t : PySem.W.typeIn K (.ref c) = some (.type "type")) (s : PySem.W.subIn K (.ref c) (.ref c) = some true) :
    PySem.W.exmOne K (.ref c) (.ref c) = some true := by
  unfold PySem.W.isClsIn at i
  simp [PySem.W.exmOne, PySem.W.kitCls, b, i, t, s]
end Vf
namespace Vf
open PySem L2
theorem ite_b {b : Bool} {A B : Prop} (h1 : b = true → A) (h2 : b = false → B) : if b = true then A else B := by
  cases b with
  | true => rw [if_pos rfl]; exact h1 rfl
  | false => rw [if_neg Bool.false_ne_true]; exact h2 rfl
/-- one way after a comparison's answer -/
theorem ite_d {c A B : Prop} [Decidable c] (h1 : c → A) (h2 : ¬ c → B) : if decide c = true then A else B :=
  ite_b (fun h => h1 (of_decide_eq_true h)) (fun h => h2 (of_decide_eq_false h))
theorem Same.new {H H' : Hp} {p : Addr} {o : HO} (e : Same H H') (h : H' p = none) : Same H (upd H' p o) := fun a u q => by
  have q' := e a u q
  rw [upd_ne (ne_of_none q' h)]
  exact q'
theorem Same.chg {H H' : Hp} {p : Addr} {o : HO} (e : Same H H') (h : H p = none) : Same H (upd H' p o) := fun a u q => by
  rw [upd_ne (ne_of_none q h)]
  exact e a u q
theorem Same.seqT {K : PySem.W.Frag} {H H' : Hp} {a : Addr} {xs : List V} (e : Same H H') (h : SqT K H a xs) : SqT K H' a xs := by
  rcases h with (h | ⟨o, h⟩) | h
  · exact .inl (.inl (e _ _ h))
  · exact .inl (.inr ⟨o, e _ _ h⟩)
  · exact .inr h
/-- the i-th of a list of ints -/
theorem int_at {ns : List Int} {i : Int} (h0 : 0 ≤ i) (h1 : i < ns.length) : atI (ns.map V.int) i = some (V.int (ns.getD i.toNat 0)) := by
  obtain ⟨j, rfl⟩ : ∃ j : Nat, i = (j : Int) := ⟨i.toNat, by omega⟩
  have hj : j < ns.length := by omega
  refine atI_nat ?_
  rw [List.getElem?_map, List.getElem?_eq_getElem hj]
  simp [List.getD, List.getElem?_eq_getElem hj]
theorem getD_mem {α : Type} {xs : List α} {j : Nat} {d : α} (h : j < xs.length) : xs.getD j d ∈ xs := by
  rw [List.getD_eq_getElem?_getD, List.getElem?_eq_getElem h]
  exact List.getElem_mem h
/-- a new list of ints -/
def NewInts (H : Hp) (Q : VK) (ok : List Int → Prop) : Prop := ∀ (p : Addr) (H' : Hp) (ds : List Int), H p = none → Same H H' → H' p = some (.lst (ds.map V.int)) → ok ds → Q (.ref p) H'
end Vf
namespace Vf
open PySem L2
section
variable {c : TT} {t1 t2 : TS} {D : Ends} {σ : L2.St} {H : Hp}
theorem st_if {b : Bool} (h : Ans c σ H b) (h1 : b = true → t1 D σ H) (h2 : b = false → t2 D σ H) : tIfS c t1 t2 D σ H := h _ (ite_b h1 h2)
end
end Vf
namespace Vf
theorem mod_w {x m : Int} (h : 0 < m) (h2 : m ≤ 2 ^ 64) : -(2 ^ 64) < x % m ∧ x % m < 2 ^ 64 := by
  have a := Int.emod_nonneg x (show m ≠ 0 by omega)
  have b := Int.emod_lt_of_pos x h
  exact ⟨by omega, by omega⟩
end Vf
namespace Vf
open PySem L2
section
variable {J : It} {n : Nat} {G : Hp → Prop} {Y : Nat → Hp → V → Hp → Prop} {g : TG} {te : TE} {vs : List Nat} {σ : L2.St} {H1 : Hp} {D : Addr} {Qd : Hp → Prop}
/-- a comprehension without tests: P of each made item, not of the list itself -/
theorem lc_rel (w : Walk J n G Y) (P : Nat → V → Hp → Prop) (hD : H1 D = none) (hP : ∀ i y H H' acc, H D = some (.lst acc) → (∀ a o, a ≠ D → H a = some o → H' a = some o) → P i y H → P i y H') (hn : n ≤ 1000000)
    (hG : ∀ H, Same H1 H → G H)
    (hs : ∀ i x H H' acc, i < n → Same H1 H → H D = some (.lst acc) → Y i H x H' → ∀ Q' : VK, (∀ y H4, Same H H4 → P i y H4 → Q' y H4) → g x (wipe σ vs) H' fun σ2 H2 => wipe σ2 vs = wipe σ vs ∧ te σ2 H2 Q')
    (hd : ∀ xs H, xs.length = n → Same H1 H → H D = some (.lst xs) → (∀ i y, xs[i]? = some y → P i y H) → Qd H) :
    ∃ W : Nat → Nat → Hp → Prop, (∃ m, W 0 m (upd H1 D (.lst []))) ∧ ∀ i m H, W i m H →
      (J.stop i H ∧ Qd H) ∨ (J.go i H ∧ ∃ Nx : Hp → Prop, (∀ H', Nx H' → ∃ m', m' < m ∧ W (i + 1) m' H') ∧ ∀ x H', J.yld i H x H' → g x (wipe σ vs) H' fun σ2 H2 => wipe σ2 vs = wipe σ vs ∧ tYes σ2 H2 fun b H3 =>
        if b = true then te σ2 H3 fun y H4 => ∃ acc, H4 D = some (.lst acc) ∧ acc.length < sizeLine ∧ Nx (upd H4 D (.lst (acc ++ [y]))) else Nx H3) := by
  refine lc_it w (fun i H => ∃ acc, H D = some (.lst acc) ∧ acc.length = i ∧ Same H1 H ∧ ∀ j y, acc[j]? = some y → P j y H) ⟨[], upd_same, rfl, Vf.Same.new (Same.refl H1) hD, fun j y h => by simp at h⟩ (fun i H _ ⟨_, _, _, s, _⟩ => hG H s) ?_ ?_
  · rintro i x H H' hi ⟨acc, hl, rfl, s, hp⟩ hy
    have key := hs acc.length x H H' acc hi s hl hy (fun y H4 => ∃ acc', H4 D = some (.lst acc') ∧ acc'.length < sizeLine ∧ ∃ a', (upd H4 D (.lst (acc' ++ [y]))) D = some (.lst a') ∧ a'.length = acc.length + 1 ∧ Same H1 (upd H4 D (.lst (acc' ++ [y]))) ∧ ∀ j z, a'[j]? = some z → P j z (upd H4 D (.lst (acc' ++ [y])))) fun y H4 s4 py => ?_
    · exact key
    · have h4 := s4 _ _ hl
      refine ⟨acc, h4, Nat.lt_of_le_of_lt (show acc.length ≤ 1000000 by omega) (by decide), acc ++ [y], upd_same, by simp, Vf.Same.chg (s.trans s4) hD, fun j z hz => ?_⟩
      have up : ∀ a o, a ≠ D → H4 a = some o → (upd H4 D (.lst (acc ++ [y]))) a = some o := fun a o ne e => by rw [upd_ne ne]; exact e
      by_cases hj : j < acc.length
      · rw [List.getElem?_append_left hj] at hz
        exact hP j z _ _ _ h4 up (hP j z _ _ _ hl (fun a o _ e => s4 a o e) (hp j z hz))
      · rw [List.getElem?_append_right (by omega)] at hz
        have e0 : j - acc.length = 0 := by
          cases q : j - acc.length with
          | zero => rfl
          | succ m => rw [q] at hz; simp at hz
        rw [e0] at hz
        have ez : y = z := Option.some.inj hz
        subst ez
        have ej : j = acc.length := by omega
        subst ej
        exact hP _ _ _ _ _ h4 up py
  · rintro H ⟨acc, hl, hn', s, hp⟩
    exact hd acc H hn' s hl hp
/-- .. the items plain values -/
theorem lc_val (w : Walk J n G Y) (f : Nat → V) (hD : H1 D = none) (hn : n ≤ 1000000) (hG : ∀ H, Same H1 H → G H)
    (hs : ∀ i x H H', i < n → Same H1 H → Y i H x H' → ∀ Q' : VK, (∀ H4, Same H H4 → Q' (f i) H4) → g x (wipe σ vs) H' fun σ2 H2 => wipe σ2 vs = wipe σ vs ∧ te σ2 H2 Q')
    (hd : ∀ H, Same H1 H → H D = some (.lst ((List.range n).map f)) → Qd H) :
    ∃ W : Nat → Nat → Hp → Prop, (∃ m, W 0 m (upd H1 D (.lst []))) ∧ ∀ i m H, W i m H →
      (J.stop i H ∧ Qd H) ∨ (J.go i H ∧ ∃ Nx : Hp → Prop, (∀ H', Nx H' → ∃ m', m' < m ∧ W (i + 1) m' H') ∧ ∀ x H', J.yld i H x H' → g x (wipe σ vs) H' fun σ2 H2 => wipe σ2 vs = wipe σ vs ∧ tYes σ2 H2 fun b H3 =>
        if b = true then te σ2 H3 fun y H4 => ∃ acc, H4 D = some (.lst acc) ∧ acc.length < sizeLine ∧ Nx (upd H4 D (.lst (acc ++ [y]))) else Nx H3) := by
  refine lc_rel w (fun i y _ => y = f i) hD (fun i y H H' acc _ _ h => h) hn hG (fun i x H H' acc hi s _ hy Q' q => hs i x H H' hi s hy Q' fun H4 s4 => q _ H4 s4 rfl) fun xs H hl s hx hp => hd H s ?_
  rw [hx]
  congr 2
  apply List.ext_getElem?
  intro i
  cases e : xs[i]? with
  | none =>
    have := List.getElem?_eq_none_iff.mp e
    rw [List.getElem?_eq_none (by simp; omega)]
  | some y =>
    have hi := (List.getElem?_eq_some_iff.mp e).1
    rw [List.getElem?_map, List.getElem?_range (by omega)]
    rw [hp i y e]
    rfl
end
end Vf
namespace Vf
open PySem L2
theorem upd_none {H : Hp} {a b : Addr} {o : HO} (h : upd H a o b = none) : b ≠ a ∧ H b = none := by
  by_cases e : b = a
  · subst e
    rw [upd_same] at h
    cases h
  · rw [upd_ne e] at h
    exact ⟨e, h⟩
end Vf
namespace Vf
open PySem L2
theorem chain_le {tc : TE} {σ : L2.St} {H : Hp} {Q : VK} {lo x hi : Int} (hc : ∀ R : VK, R (.int hi) H → tc σ H R) (h : Q (.bl (decide (lo ≤ x ∧ x ≤ hi))) H) :
    (rI0 fun i j => .bl (decide (i ≤ j))) (.int lo) (.int x) H (fun z H3 => ∃ k, z = .bl k ∧ (if k = true then tc σ H3 fun w' H4 => (rI0 fun i j => .bl (decide (i ≤ j))) (.int x) w' H4 Q else Q (.bl false) H3)) := by
  refine ⟨_, _, rfl, rfl, _, rfl, ?_⟩
  by_cases h1 : lo ≤ x
  · rw [decide_eq_true h1]
    refine iteT (hc _ ⟨_, _, rfl, rfl, ?_⟩)
    have e : decide (lo ≤ x ∧ x ≤ hi) = decide (x ≤ hi) := by simp [h1]
    rw [e] at h
    exact h
  · rw [decide_eq_false h1]
    have e : decide (lo ≤ x ∧ x ≤ hi) = false := by simp [h1]
    rw [e] at h
    exact iteF h
end Vf
namespace Vf
open PySem L2
theorem tyL {K : PySem.W.Frag} {H : Hp} {a : Addr} {xs : List V} (h : H a = some (.lst xs)) : tyV K "list" (.ref a) H := .inl ⟨rfl, _, SqL.of h⟩
end Vf
namespace Vf
open PySem L2
/-! rules whose readings name the written part by a letter (within a comprehension) -/
section
variable {X : Cx} {K : PySem.W.Frag}
theorem ix_listK (h : X.K = K) : IxR X (rIxL K) := by
  subst h
  exact ix_list
theorem ix_tupK (h : X.K = K) : IxR X (rIxT K) := by
  subst h
  exact ix_tup
theorem pe_fldK {e : Expr} {ta : TE} {f : Str} {pos : Pos} (h : X.K = K) (he : PE X e ta) (hb : attributeBase e f X.env (eval e X.env) = eval e X.env) : PE X (.Attribute e f pos) (tFld K ta f) := by
  subst h
  exact pe_fld he hb
theorem call_len_seqK (h : X.K = K) : CallR X (.builtin "len") (fun xs H Q => ∃ p ys, xs = [.ref p] ∧ (SqL K H p ys ∨ SqT K H p ys) ∧ Q (.int ys.length) H) := by
  subst h
  exact call_len_seq
theorem call_tuple_ofK (h : X.K = K) : CallR X (.type "tuple") (fun xs H Q => ∃ p ys, xs = [.ref p] ∧ ((SqL K H p ys ∧ ∀ l, H l = none → Q (.ref l) (upd H l (.tup ys))) ∨ (SqT K H p ys ∧ Q (.ref p) H))) := by
  subst h
  exact call_tuple_of
end
end Vf
namespace Vf
open PySem L2
/-- an f-string's reading, by a name -/
def tJoin (ts : List TE) : TE := fun σ H Q => tJs ts Str.empty σ H fun out H1 => Q (.str out) H1
theorem pe_join {X : Cx} {v1 v2 : Expr} {rest : List Expr} {ts : List TE} {pos : Pos} (h : PJ X (v1 :: v2 :: rest) ts) : PE X (.JoinedStr (v1 :: v2 :: rest) pos) (tJoin ts) := pe_joined h
end Vf

namespace Vf
open PySem L2
/-! ### texts -/
theorem num_len {i : Int} (h : i.natAbs.log2 < 1920) : (Str.ofString (toString i)).length ≤ 2000 := by
  have e := int_text_length_le (k := 1920) (by decide) h
  rw [ofString_length]
  omega
theorem len2 {a b : Str} {m n k : Nat} (ha : a.length ≤ m) (hb : b.length ≤ n) (h : m + n ≤ k) : (a ++ b).length ≤ k := by
  rw [Str.length_append]
  omega
theorem len0 : Str.empty.length ≤ 0 := Nat.le_refl _
theorem line {n : Nat} (h : n ≤ 10000000) : n ≤ sizeLine := Nat.le_trans h (by decide)
theorem fits {s : Str} {n : Nat} (h : s.length ≤ n) (hn : n ≤ 10000000) : s.length ≤ sizeLine := Nat.le_trans h (line hn)
/-- point 3 -/
def lowC (c : Nat) : Bool := decide (97 ≤ c ∧ c ≤ 122)
def digC (c : Nat) : Bool := decide (48 ≤ c ∧ c ≤ 57)
def isNameL (l : List Nat) : Bool := decide (1 ≤ l.length) && decide (l.length ≤ 12) && l.head?.any lowC && l.all fun c => lowC c || digC c
def isName (s : Str) : Bool := isNameL s.cps.toList
theorem isNameL_bad {l : List Nat} (h : (!(decide ((1 : Int) ≤ (l.length : Int)) && decide ((l.length : Int) ≤ 12))) = true) : isNameL l = false := by
  unfold isNameL
  by_cases h1 : 1 ≤ l.length
  · by_cases h2 : l.length ≤ 12
    · exfalso
      rw [decide_eq_true (show (1 : Int) ≤ (l.length : Int) by omega), decide_eq_true (show (l.length : Int) ≤ 12 by omega)] at h
      cases h
    · rw [decide_eq_false h2]
      simp
  · rw [decide_eq_false h1]
    simp
theorem isNameL_ok {l : List Nat} (h : (!(decide ((1 : Int) ≤ (l.length : Int)) && decide ((l.length : Int) ≤ 12))) = false) : ∃ c r, l = c :: r ∧ isNameL l = (lowC c && l.all fun c => lowC c || digC c) := by
  rw [Bool.not_eq_false', Bool.and_eq_true, decide_eq_true_eq, decide_eq_true_eq] at h
  cases l with
  | nil => simp at h
  | cons c r =>
    refine ⟨c, r, rfl, ?_⟩
    unfold isNameL
    rw [decide_eq_true (show 1 ≤ (c :: r).length by simp), decide_eq_true (show (c :: r).length ≤ 12 by omega)]
    simp
theorem name_any (l : List Nat) (n : Nat) (h : n = l.length) : ((List.range n).map fun i => lowC (l.getD i 0) || digC (l.getD i 0)).all id = l.all fun c => lowC c || digC c := by
  subst h
  have e3 : (List.range l.length).map (fun i => l.getD i 0) = l := by
    apply List.ext_getElem?
    intro i
    rw [List.getElem?_map]
    by_cases hi : i < l.length
    · rw [List.getElem?_range hi, List.getElem?_eq_getElem hi]
      simp [List.getD, hi]
    · rw [List.getElem?_eq_none (by simp; omega), List.getElem?_eq_none (by omega)]
      rfl
  rw [show (fun i => lowC (l.getD i 0) || digC (l.getD i 0)) = (fun c => lowC c || digC c) ∘ fun i => l.getD i 0 from rfl, ← List.map_map, e3, List.all_map]
  rfl
def LETTERS : Str := "abcdefghijklmnopqrstuvwxyz"
def DIGITS : Str := "0123456789"
theorem letters_eq : LETTERS.cps.toList = (List.range 26).map (· + 97) := by decide +kernel
theorem digits_eq : DIGITS.cps.toList = (List.range 10).map (· + 48) := by decide +kernel
theorem in_letters (c : Nat) : decide (c ∈ LETTERS.cps.toList) = lowC c := by
  rw [letters_eq, lowC, Bool.eq_iff_iff, decide_eq_true_iff, decide_eq_true_iff, List.mem_map]
  constructor
  · rintro ⟨a, h, rfl⟩
    rw [List.mem_range] at h
    omega
  · intro h
    exact ⟨c - 97, List.mem_range.mpr (by omega), by omega⟩
theorem in_digits (c : Nat) : decide (c ∈ DIGITS.cps.toList) = digC c := by
  rw [digits_eq, digC, Bool.eq_iff_iff, decide_eq_true_iff, decide_eq_true_iff, List.mem_map]
  constructor
  · rintro ⟨a, h, rfl⟩
    rw [List.mem_range] at h
    omega
  · intro h
    exact ⟨c - 48, List.mem_range.mpr (by omega), by omega⟩
theorem name_len {s : Str} (h : isName s = true) : s.length ≤ 12 := by
  unfold isName isNameL at h
  simp only [Bool.and_eq_true, decide_eq_true_eq] at h
  show s.cps.size ≤ 12
  have := h.1.1.2
  simpa using this

/-! ### lists of tuples -/
/-- a list of new tuples of the parts -/
def Tups {α : Type} (enc : α → List V) (H : Hp) (xs : List V) (l : List α) : Prop := xs.length = l.length ∧ ∀ (i : Nat) (a : α), l[i]? = some a → ∃ t, xs[i]? = some (.ref t) ∧ H t = some (.tup (enc a))
section
variable {α : Type} {enc : α → List V} {H H' : Hp} {xs : List V} {l : List α}
theorem Tups.nil : Tups enc H [] [] := ⟨rfl, fun i a h => by simp at h⟩
theorem Tups.mono (h : Tups enc H xs l) (k : ∀ t ys, H t = some (.tup ys) → H' t = some (.tup ys)) : Tups enc H' xs l := ⟨h.1, fun i a e => by
  obtain ⟨t, h1, h2⟩ := h.2 i a e
  exact ⟨t, h1, k _ _ h2⟩⟩
theorem Tups.same (h : Tups enc H xs l) (e : Same H H') : Tups enc H' xs l := h.mono fun t ys => e t _
theorem Tups.snoc (h : Tups enc H xs l) {t : Addr} {a : α} (ht : H t = some (.tup (enc a))) : Tups enc H (xs ++ [.ref t]) (l ++ [a]) := by
  refine ⟨by simp [h.1], fun i b e => ?_⟩
  by_cases hi : i < l.length
  · rw [List.getElem?_append_left hi] at e
    obtain ⟨u, h1, h2⟩ := h.2 i b e
    exact ⟨u, by rw [List.getElem?_append_left (by rw [h.1]; exact hi)]; exact h1, h2⟩
  · rw [List.getElem?_append_right (by omega)] at e
    have z : i - l.length = 0 := by
      cases q : i - l.length with
      | zero => rfl
      | succ n => rw [q] at e; simp at e
    rw [z] at e
    have ea : a = b := Option.some.inj e
    subst ea
    exact ⟨t, by rw [List.getElem?_append_right (by rw [h.1]; omega), h.1, z]; rfl, ht⟩
theorem Tups.get (h : Tups enc H xs l) {i : Nat} {x : V} (e : xs[i]? = some x) : ∃ a t, l[i]? = some a ∧ x = .ref t ∧ H t = some (.tup (enc a)) := by
  have hi := (List.getElem?_eq_some_iff.mp e).1
  have hl : i < l.length := by rw [← h.1]; exact hi
  obtain ⟨t, h1, h2⟩ := h.2 i l[i] (List.getElem?_eq_getElem hl)
  rw [e] at h1
  exact ⟨l[i], t, List.getElem?_eq_getElem hl, Option.some.inj h1, h2⟩
end
abbrev S4 := Str × Str × Str × Str
def enc2 (p : Str × Str) : List V := [.str p.1, .str p.2]
def enc4 (r : S4) : List V := [.str r.1, .str r.2.1, .str r.2.2.1, .str r.2.2.2]

/-! ### names numbered -/
/-- the pairs of the dict of numbers -/
def numK (st : List Str) : List (Key × V) := st.zipIdx.map fun p => (Sum.inr p.1, V.int (p.2 : Int))
theorem numK_snoc (st : List Str) (s : Str) : numK (st ++ [s]) = numK st ++ [(Sum.inr s, V.int (st.length : Int))] := by
  unfold numK
  rw [List.zipIdx_append, List.map_append]
  simp
theorem numK_len (st : List Str) : (numK st).length = st.length := by
  unfold numK
  simp
theorem valV_app {κ : Type} [DecidableEq κ] (k : κ) (b : List (κ × V)) : ∀ a : List (κ × V), valV (a ++ b) k = (valV a k).or (valV b k)
  | [] => by simp [valV]
  | p :: r => by
    by_cases e : p.1 = k
    · rw [List.cons_append, valV_pos e, valV_pos e]
      rfl
    · rw [List.cons_append, valV_neg e, valV_neg e, valV_app k b r]
theorem num_val_from : ∀ (st : List Str) (n : Nat) (s : Str), valV ((st.zipIdx n).map fun p => ((Sum.inr p.1 : Key), V.int (p.2 : Int))) (Sum.inr s) = if s ∈ st then some (V.int ((n + st.idxOf s : Nat) : Int)) else none
  | [], n, s => rfl
  | t :: st, n, s => by
    rw [List.zipIdx_cons, List.map_cons]
    by_cases e : t = s
    · subst e
      rw [valV_pos rfl, if_pos List.mem_cons_self, List.idxOf_cons_self]
      rfl
    · rw [valV_neg (by intro z; exact e (Sum.inr.inj z)), num_val_from st (n + 1) s]
      have e' : (t == s) = false := by simpa using e
      by_cases hm : s ∈ st
      · rw [if_pos hm, if_pos (List.mem_cons_of_mem _ hm), List.idxOf_cons, e']
        simp only [cond_false]
        congr 3
        omega
      · rw [if_neg hm, if_neg (by simp [hm, Ne.symm e])]
theorem num_val (st : List Str) (s : Str) : valV (numK st) (Sum.inr s) = if s ∈ st then some (V.int (st.idxOf s : Int)) else none := by
  have h := num_val_from st 0 s
  simpa [numK] using h
end Vf
namespace Vf
open PySem L2
/-! ### a draft of a protocol -/
structure DA where
  ls : Addr
  li : Addr
  ll : Addr
  lr : Addr
  lo : Addr
  dn : Addr
  dr : Addr
structure DD where
  st : List Str
  ins : List (Str × Str)
  ld : List Str
  ru : List S4
  ou : List Int
def DD.nil : DD := ⟨[], [], [], [], []⟩
def DA.foot (a : DA) : List Addr := [a.ls, a.li, a.ll, a.lr, a.lo, a.dn, a.dr]
def dFs (a : DA) : List (Str × V) := [("states", .ref a.ls), ("inputs", .ref a.li), ("leaders", .ref a.ll), ("rules", .ref a.lr), ("outputs", .ref a.lo), ("numbers", .ref a.dn), ("results", .ref a.dr)]
theorem dFs_new (a : DA) : putF "results" (.ref a.dr) (putF "numbers" (.ref a.dn) (putF "outputs" (.ref a.lo) (putF "rules" (.ref a.lr) (putF "leaders" (.ref a.ll) (putF "inputs" (.ref a.li) (putF "states" (.ref a.ls) [])))))) = dFs a := by rfl
def ix (st : List Str) (s : Str) : Int := (st.idxOf s : Int)
def ruKey (st : List Str) (r : S4) : List Key := [Sum.inl (ix st r.1), Sum.inl (ix st r.2.1)]
def encR (st : List Str) (r : S4) : List V := [.int (ix st r.2.2.1), .int (ix st r.2.2.2)]
/-- the dict of the results of rules -/
structure Res (H : Hp) (st : List Str) (ru : List S4) (kvs : List (List Key × V)) : Prop where
  keys : kvs.map (·.1) = ru.map (ruKey st)
  vals : Tups (encR st) H (kvs.map (·.2)) ru
structure DraftAt (C : Addr) (H : Hp) (p : Addr) (a : DA) (D : DD) : Prop where
  ob : ∃ dx, H p = some (.ins C dx (dFs a))
  ls : H a.ls = some (.lst (D.st.map V.str))
  li : ∃ xs, H a.li = some (.lst xs) ∧ Tups enc2 H xs D.ins
  ll : H a.ll = some (.lst (D.ld.map V.str))
  lr : ∃ xs, H a.lr = some (.lst xs) ∧ Tups enc4 H xs D.ru
  lo : H a.lo = some (.lst (D.ou.map V.int))
  dn : H a.dn = some (.dK (numK D.st))
  dr : ∃ kvs, H a.dr = some (.dT kvs) ∧ Res H D.st D.ru kvs
  nd : [a.ls, a.li, a.ll, a.lr, a.lo].Nodup
/-- all but these objects are as they were -/
def Keep (S : List Addr) (H H' : Hp) : Prop := ∀ b o, b ∉ S → H b = some o → H' b = some o
theorem Keep.refl {S : List Addr} (H : Hp) : Keep S H H := fun _ _ _ h => h
theorem Keep.trans {S : List Addr} {H H1 H2 : Hp} (a : Keep S H H1) (b : Keep S H1 H2) : Keep S H H2 := fun c o n h => b c o n (a c o n h)
theorem Keep.of {S : List Addr} {H H' : Hp} (e : Same H H') : Keep S H H' := fun b o _ h => e b o h
theorem Keep.put {S : List Addr} {H H' : Hp} {p : Addr} {o : HO} (e : Keep S H H') (h : p ∈ S) : Keep S H (upd H' p o) := fun b u n q => by
  have ne : b ≠ p := fun z => n (by rw [z]; exact h)
  rw [upd_ne ne]
  exact e b u n q
theorem Tups.keep {α : Type} {enc : α → List V} {S : List Addr} {H H' : Hp} {xs : List V} {l : List α} (h : Tups enc H xs l) (k : Keep S H H') (n : ∀ t ys, H t = some (.tup ys) → t ∉ S) : Tups enc H' xs l := h.mono fun t ys e => k t _ (n t ys e) e
section
variable {C : Addr} {H H' : Hp} {p : Addr} {a : DA} {D : DD}
theorem DraftAt.notup (S : DraftAt C H p a D) (t : Addr) (ys : List V) (h : H t = some (.tup ys)) : t ∉ a.foot := by
  obtain ⟨_, h1, _⟩ := S.li
  obtain ⟨_, h2, _⟩ := S.lr
  obtain ⟨_, h3, _⟩ := S.dr
  intro m
  simp only [DA.foot, List.mem_cons, List.not_mem_nil, or_false] at m
  rcases m with rfl | rfl | rfl | rfl | rfl | rfl | rfl
  · rw [S.ls] at h; cases h
  · rw [h1] at h; cases h
  · rw [S.ll] at h; cases h
  · rw [h2] at h; cases h
  · rw [S.lo] at h; cases h
  · rw [S.dn] at h; cases h
  · rw [h3] at h; cases h
theorem Res.same {st : List Str} {ru : List S4} {kvs : List (List Key × V)} (h : Res H st ru kvs) (k : ∀ t ys, H t = some (.tup ys) → H' t = some (.tup ys)) : Res H' st ru kvs := ⟨h.keys, h.vals.mono k⟩
theorem DraftAt.same (S : DraftAt C H p a D) (e : Same H H') : DraftAt C H' p a D := by
  obtain ⟨dx, h0⟩ := S.ob
  obtain ⟨_, h1, t1⟩ := S.li
  obtain ⟨_, h2, t2⟩ := S.lr
  obtain ⟨_, h3, t3⟩ := S.dr
  exact ⟨⟨dx, e _ _ h0⟩, e _ _ S.ls, ⟨_, e _ _ h1, t1.same e⟩, e _ _ S.ll, ⟨_, e _ _ h2, t2.same e⟩, e _ _ S.lo, e _ _ S.dn, ⟨_, e _ _ h3, t3.same fun t ys => e t _⟩, S.nd⟩
end
end Vf
namespace Vf
open PySem L2
section
variable {C : Addr} {H H' : Hp} {p : Addr} {a : DA} {D D' : DD}
/-- all of its objects are different ones -/
structure Dist (p : Addr) (a : DA) : Prop where
  pa : p ≠ a.ls
  pb : p ≠ a.li
  pc : p ≠ a.ll
  pd : p ≠ a.lr
  pe : p ≠ a.lo
  pf : p ≠ a.dn
  pg : p ≠ a.dr
  ab : a.ls ≠ a.li
  ac : a.ls ≠ a.ll
  ad : a.ls ≠ a.lr
  ae : a.ls ≠ a.lo
  af : a.ls ≠ a.dn
  ag : a.ls ≠ a.dr
  bc : a.li ≠ a.ll
  bd : a.li ≠ a.lr
  be : a.li ≠ a.lo
  bf : a.li ≠ a.dn
  bg : a.li ≠ a.dr
  cd : a.ll ≠ a.lr
  ce : a.ll ≠ a.lo
  cf : a.ll ≠ a.dn
  cg : a.ll ≠ a.dr
  de : a.lr ≠ a.lo
  df : a.lr ≠ a.dn
  dg : a.lr ≠ a.dr
  ef : a.lo ≠ a.dn
  eg : a.lo ≠ a.dr
  fg : a.dn ≠ a.dr
theorem DraftAt.dist (S : DraftAt C H p a D) : Dist p a := by
  obtain ⟨_, h0⟩ := S.ob
  obtain ⟨_, h1, _⟩ := S.li
  obtain ⟨_, h2, _⟩ := S.lr
  obtain ⟨_, h3, _⟩ := S.dr
  have n := S.nd
  simp only [List.nodup_cons, List.mem_cons, List.not_mem_nil, or_false, not_or, not_false_eq_true, List.nodup_nil, and_true] at n
  obtain ⟨⟨n1, n2, n3, n4⟩, ⟨n5, n6, n7⟩, ⟨n8, n9⟩, n10⟩ := n
  refine ⟨ne_of h0 S.ls ?_, ne_of h0 h1 ?_, ne_of h0 S.ll ?_, ne_of h0 h2 ?_, ne_of h0 S.lo ?_, ne_of h0 S.dn ?_, ne_of h0 h3 ?_, n1, n2, n3, n4, ne_of S.ls S.dn ?_, ne_of S.ls h3 ?_, n5, n6, n7, ne_of h1 S.dn ?_, ne_of h1 h3 ?_, n8, n9, ne_of S.ll S.dn ?_, ne_of S.ll h3 ?_, n10, ne_of h2 S.dn ?_, ne_of h2 h3 ?_, ne_of S.lo S.dn ?_, ne_of S.lo h3 ?_, ne_of S.dn h3 ?_⟩ <;> (intro z; cases z)
theorem Dist.pn (d : Dist p a) : p ∉ a.foot := by
  intro m
  simp only [DA.foot, List.mem_cons, List.not_mem_nil, or_false] at m
  rcases m with m | m | m | m | m | m | m
  · exact d.pa m
  · exact d.pb m
  · exact d.pc m
  · exact d.pd m
  · exact d.pe m
  · exact d.pf m
  · exact d.pg m
theorem DraftAt.next (S : DraftAt C H p a D) (k : Keep a.foot H H') (ls : H' a.ls = some (.lst (D'.st.map V.str))) (li : ∃ xs, H' a.li = some (.lst xs) ∧ Tups enc2 H' xs D'.ins) (ll : H' a.ll = some (.lst (D'.ld.map V.str)))
    (lr : ∃ xs, H' a.lr = some (.lst xs) ∧ Tups enc4 H' xs D'.ru) (lo : H' a.lo = some (.lst (D'.ou.map V.int))) (dn : H' a.dn = some (.dK (numK D'.st))) (dr : ∃ kvs, H' a.dr = some (.dT kvs) ∧ Res H' D'.st D'.ru kvs) : DraftAt C H' p a D' := by
  obtain ⟨dx, h0⟩ := S.ob
  exact ⟨⟨dx, k p _ S.dist.pn h0⟩, ls, li, ll, lr, lo, dn, dr, S.nd⟩
theorem DraftAt.li' (S : DraftAt C H p a D) (k : Keep a.foot H H') (e : H' a.li = H a.li) : ∃ xs, H' a.li = some (.lst xs) ∧ Tups enc2 H' xs D.ins := by
  obtain ⟨xs, h, t⟩ := S.li
  exact ⟨xs, e.trans h, t.keep k S.notup⟩
theorem DraftAt.lr' (S : DraftAt C H p a D) (k : Keep a.foot H H') (e : H' a.lr = H a.lr) : ∃ xs, H' a.lr = some (.lst xs) ∧ Tups enc4 H' xs D.ru := by
  obtain ⟨xs, h, t⟩ := S.lr
  exact ⟨xs, e.trans h, t.keep k S.notup⟩
theorem DraftAt.dr' (S : DraftAt C H p a D) (k : Keep a.foot H H') (e : H' a.dr = H a.dr) : ∃ kvs, H' a.dr = some (.dT kvs) ∧ Res H' D.st D.ru kvs := by
  obtain ⟨xs, h, t⟩ := S.dr
  exact ⟨xs, e.trans h, t.same fun u ys z => k u _ (S.notup u ys z) z⟩
end
theorem cat {a b : Str} {m n : Nat} (ha : a.length ≤ m) (hb : b.length ≤ n) : (a ++ b).length ≤ m + n := len2 ha hb (Nat.le_refl _)
theorem lit {a : Str} (h : decide (a.length ≤ 200) = true) : a.length ≤ 200 := of_decide_eq_true h
/-! ### what may be added (point 4) -/
def DD.okState (D : DD) (name : Str) (output : Int) : Bool := decide (D.st.length < 400) && isName name && decide (name ∉ D.st) && decide (0 ≤ output ∧ output ≤ 9)
def DD.addState (D : DD) (name : Str) (output : Int) : DD := { D with st := D.st ++ [name], ou := D.ou ++ [output] }
def DD.okInput (D : DD) (p : Str × Str) : Bool := decide (D.ins.length < 8) && isName p.1 && decide (p.1 ∉ D.ins.map (·.1)) && decide (p.2 ∈ D.st)
def DD.addInput (D : DD) (p : Str × Str) : DD := { D with ins := D.ins ++ [p] }
def DD.okLeader (D : DD) (s : Str) : Bool := decide (D.ld.length < 10) && decide (s ∈ D.st)
def DD.addLeader (D : DD) (s : Str) : DD := { D with ld := D.ld ++ [s] }
def DD.okRule (D : DD) (r : S4) : Bool := decide (r.1 ∈ D.st) && decide (r.2.1 ∈ D.st) && decide (r.2.2.1 ∈ D.st) && decide (r.2.2.2 ∈ D.st) && decide ((r.1, r.2.1) ∉ D.ru.map fun x => (x.1, x.2.1))
def DD.addRule (D : DD) (r : S4) : DD := { D with ru := D.ru ++ [r] }
end Vf
namespace Vf
open PySem L2
abbrev Sm (s : Str) : Prop := s.length ≤ 1000000
theorem sm_lit {a : Str} (h : decide (a.length ≤ 200) = true) : Sm a := Nat.le_trans (of_decide_eq_true h) (by decide)
theorem sm_num {i : Int} (h : i.natAbs.log2 < 1920) : Sm (Str.ofString (toString i)) := Nat.le_trans (num_len h) (by decide)
theorem fit0 {k : Nat} {s : Str} (h : s.length ≤ k * 1000000) (hk : k ≤ 16) : s.length ≤ sizeLine := Nat.le_trans h (by rw [sizeLine_eq]; omega)
theorem fit1 {a : Str} (ha : Sm a) : (Str.empty ++ a).length ≤ sizeLine := by
  refine fit0 (k := 1) ?_ (by decide)
  simp only [Str.length_append, Sm] at *
  have h0 : Str.empty.length = 0 := rfl
  omega
theorem fit2 {a b : Str} (ha : Sm a) (hb : Sm b) : ((Str.empty ++ a) ++ b).length ≤ sizeLine := by
  refine fit0 (k := 2) ?_ (by decide)
  simp only [Str.length_append, Sm] at *
  have h0 : Str.empty.length = 0 := rfl
  omega
theorem fit3 {a b c : Str} (ha : Sm a) (hb : Sm b) (hc : Sm c) : (((Str.empty ++ a) ++ b) ++ c).length ≤ sizeLine := by
  refine fit0 (k := 3) ?_ (by decide)
  simp only [Str.length_append, Sm] at *
  have h0 : Str.empty.length = 0 := rfl
  omega
theorem fit4 {a b c d : Str} (ha : Sm a) (hb : Sm b) (hc : Sm c) (hd : Sm d) : ((((Str.empty ++ a) ++ b) ++ c) ++ d).length ≤ sizeLine := by
  refine fit0 (k := 4) ?_ (by decide)
  simp only [Str.length_append, Sm] at *
  have h0 : Str.empty.length = 0 := rfl
  omega
theorem fit5 {a b c d e : Str} (ha : Sm a) (hb : Sm b) (hc : Sm c) (hd : Sm d) (he : Sm e) : (((((Str.empty ++ a) ++ b) ++ c) ++ d) ++ e).length ≤ sizeLine := by
  refine fit0 (k := 5) ?_ (by decide)
  simp only [Str.length_append, Sm] at *
  have h0 : Str.empty.length = 0 := rfl
  omega
theorem fit6 {a b c d e f : Str} (ha : Sm a) (hb : Sm b) (hc : Sm c) (hd : Sm d) (he : Sm e) (hf : Sm f) : ((((((Str.empty ++ a) ++ b) ++ c) ++ d) ++ e) ++ f).length ≤ sizeLine := by
  refine fit0 (k := 6) ?_ (by decide)
  simp only [Str.length_append, Sm] at *
  have h0 : Str.empty.length = 0 := rfl
  omega
theorem fit7 {a b c d e f g : Str} (ha : Sm a) (hb : Sm b) (hc : Sm c) (hd : Sm d) (he : Sm e) (hf : Sm f) (hg : Sm g) : (((((((Str.empty ++ a) ++ b) ++ c) ++ d) ++ e) ++ f) ++ g).length ≤ sizeLine := by
  refine fit0 (k := 7) ?_ (by decide)
  simp only [Str.length_append, Sm] at *
  have h0 : Str.empty.length = 0 := rfl
  omega
theorem fit8 {a b c d e f g h : Str} (ha : Sm a) (hb : Sm b) (hc : Sm c) (hd : Sm d) (he : Sm e) (hf : Sm f) (hg : Sm g) (hh : Sm h) : ((((((((Str.empty ++ a) ++ b) ++ c) ++ d) ++ e) ++ f) ++ g) ++ h).length ≤ sizeLine := by
  refine fit0 (k := 8) ?_ (by decide)
  simp only [Str.length_append, Sm] at *
  have h0 : Str.empty.length = 0 := rfl
  omega
theorem fit9 {a b c d e f g h i : Str} (ha : Sm a) (hb : Sm b) (hc : Sm c) (hd : Sm d) (he : Sm e) (hf : Sm f) (hg : Sm g) (hh : Sm h) (hi : Sm i) : (((((((((Str.empty ++ a) ++ b) ++ c) ++ d) ++ e) ++ f) ++ g) ++ h) ++ i).length ≤ sizeLine := by
  refine fit0 (k := 9) ?_ (by decide)
  simp only [Str.length_append, Sm] at *
  have h0 : Str.empty.length = 0 := rfl
  omega
theorem fit10 {a b c d e f g h i j : Str} (ha : Sm a) (hb : Sm b) (hc : Sm c) (hd : Sm d) (he : Sm e) (hf : Sm f) (hg : Sm g) (hh : Sm h) (hi : Sm i) (hj : Sm j) : ((((((((((Str.empty ++ a) ++ b) ++ c) ++ d) ++ e) ++ f) ++ g) ++ h) ++ i) ++ j).length ≤ sizeLine := by
  refine fit0 (k := 10) ?_ (by decide)
  simp only [Str.length_append, Sm] at *
  have h0 : Str.empty.length = 0 := rfl
  omega
end Vf
namespace Vf
open PySem L2
theorem inV_str (s : Str) (l : List Str) : inV (.str s) (l.map V.str) = decide (s ∈ l) := by
  unfold inV
  rw [Bool.eq_iff_iff, List.any_eq_true, decide_eq_true_iff]
  constructor
  · rintro ⟨y, hy, h⟩
    obtain ⟨t, ht, rfl⟩ := List.mem_map.mp hy
    have e : (t == s) = true := h
    rw [beq_iff_eq] at e
    rw [← e]
    exact ht
  · intro h
    exact ⟨.str s, List.mem_map.mpr ⟨s, h, rfl⟩, (beq_self_eq_true s : (s == s) = true)⟩
theorem flat_str (l : List Str) : (l.map V.str).all flatV = true := by
  rw [List.all_eq_true]
  intro x hx
  obtain ⟨t, _, rfl⟩ := List.mem_map.mp hx
  rfl
theorem range_map {α : Type} (l : List α) (f : α → V) (d : α) (n : Nat) (h : n = l.length) : ((List.range n).map fun i => f (l.getD i d)) = l.map f := by
  subst h
  apply List.ext_getElem?
  intro i
  rw [List.getElem?_map, List.getElem?_map]
  by_cases hi : i < l.length
  · rw [List.getElem?_range hi, List.getElem?_eq_getElem hi]
    simp [List.getD, hi]
  · rw [List.getElem?_eq_none (by simp; omega), List.getElem?_eq_none (by omega)]
    rfl
theorem ix_inj {st : List Str} {s t : Str} (hs : s ∈ st) (ht : t ∈ st) (h : ix st s = ix st t) : s = t := by
  have e : st.idxOf s = st.idxOf t := by
    unfold ix at h
    omega
  have a := List.getElem_idxOf (List.idxOf_lt_length_of_mem hs)
  have b := List.getElem_idxOf (List.idxOf_lt_length_of_mem ht)
  rw [← a, ← b]
  congr 1
/-- the four names of a rule -/
def r4 (r : S4) : List Str := [r.1, r.2.1, r.2.2.1, r.2.2.2]
theorem enc4_eq (r : S4) : enc4 r = (r4 r).map V.str := rfl
theorem num_in {st : List Str} {s : Str} (h : s ∈ st) : valV (numK st) (Sum.inr s) = some (V.int (ix st s)) := by
  rw [num_val, if_pos h]
  rfl
theorem key_none {H : Hp} {D : DD} {kvs : List (List Key × V)} (R : Res H D.st D.ru kvs) {r : S4} (h1 : r.1 ∈ D.st) (h2 : r.2.1 ∈ D.st) (hw : ∀ x ∈ D.ru, x.1 ∈ D.st ∧ x.2.1 ∈ D.st) :
    (!(valV kvs (ruKey D.st r)).isSome) = decide ((r.1, r.2.1) ∉ D.ru.map fun x => (x.1, x.2.1)) := by
  have e : (valV kvs (ruKey D.st r)).isSome = true ↔ ruKey D.st r ∈ D.ru.map (ruKey D.st) := by
    rw [← R.keys, ← valV_any, List.any_eq_true, List.mem_map]
    constructor
    · rintro ⟨x, hx, h⟩
      exact ⟨x, hx, of_decide_eq_true h⟩
    · rintro ⟨x, hx, h⟩
      exact ⟨x, hx, decide_eq_true h⟩
  by_cases hm : (r.1, r.2.1) ∈ D.ru.map fun x => (x.1, x.2.1)
  · have hm2 : ruKey D.st r ∈ D.ru.map (ruKey D.st) := by
      obtain ⟨x, hx, ex⟩ := List.mem_map.mp hm
      have e1 : x.1 = r.1 := (Prod.mk.inj ex).1
      have e2 : x.2.1 = r.2.1 := (Prod.mk.inj ex).2
      refine List.mem_map.mpr ⟨x, hx, ?_⟩
      unfold ruKey
      rw [e1, e2]
    rw [e.mpr hm2, decide_eq_false (fun z => z hm)]
    rfl
  · have hm2 : ruKey D.st r ∉ D.ru.map (ruKey D.st) := by
      intro h
      obtain ⟨x, hx, ex⟩ := List.mem_map.mp h
      unfold ruKey at ex
      simp only [List.cons.injEq, Sum.inl.injEq, and_true] at ex
      obtain ⟨w1, w2⟩ := hw x hx
      exact hm (List.mem_map.mpr ⟨x, hx, by rw [ix_inj w1 h1 ex.1, ix_inj w2 h2 ex.2]⟩)
    have e3 : (valV kvs (ruKey D.st r)).isSome = false := by
      cases q : (valV kvs (ruKey D.st r)).isSome with
      | false => rfl
      | true => exact absurd (e.mp q) hm2
    rw [e3, decide_eq_true hm]
    rfl
theorem key_new {H : Hp} {D : DD} {kvs : List (List Key × V)} (R : Res H D.st D.ru kvs) {r : S4} (h1 : r.1 ∈ D.st) (h2 : r.2.1 ∈ D.st) (hw : ∀ x ∈ D.ru, x.1 ∈ D.st ∧ x.2.1 ∈ D.st) (hn : (r.1, r.2.1) ∉ D.ru.map fun x => (x.1, x.2.1)) : valV kvs (ruKey D.st r) = none := by
  have h := key_none R h1 h2 hw
  rw [decide_eq_true hn] at h
  cases e : valV kvs (ruKey D.st r) with
  | none => rfl
  | some v => rw [e] at h; cases h
theorem Res.snoc {H H' : Hp} {st : List Str} {ru : List S4} {kvs : List (List Key × V)} (R : Res H st ru kvs) (k : ∀ t ys, H t = some (.tup ys) → H' t = some (.tup ys)) {r : S4} {t : Addr} (ht : H' t = some (.tup (encR st r))) : Res H' st (ru ++ [r]) (kvs ++ [(ruKey st r, .ref t)]) := by
  have R' := R.same k
  refine ⟨by rw [List.map_append, List.map_append, R'.keys]; rfl, ?_⟩
  rw [List.map_append]
  exact R'.vals.snoc ht
theorem Res.len {H : Hp} {st : List Str} {ru : List S4} {kvs : List (List Key × V)} (R : Res H st ru kvs) : kvs.length = ru.length := by
  have := congrArg List.length R.keys
  simpa using this
end Vf
namespace Vf
open PySem L2
/-- point 4 -/
structure Valid (D : DD) : Prop where
  len : D.ou.length = D.st.length
  st : ∀ i s o, D.st[i]? = some s → D.ou[i]? = some o → DD.okState ⟨D.st.take i, [], [], [], D.ou.take i⟩ s o = true
  ins : ∀ i x, D.ins[i]? = some x → DD.okInput ⟨D.st, D.ins.take i, [], [], D.ou⟩ x = true
  ld : ∀ i x, D.ld[i]? = some x → DD.okLeader ⟨D.st, D.ins, D.ld.take i, [], D.ou⟩ x = true
  ru : ∀ i x, D.ru[i]? = some x → DD.okRule ⟨D.st, D.ins, D.ld, D.ru.take i, D.ou⟩ x = true
/-- texts of a draft are not too long for messages -/
structure Short (D : DD) : Prop where
  st : ∀ s ∈ D.st, s.length ≤ 1000000
  ou : ∀ o ∈ D.ou, o.natAbs.log2 < 1920
  ins : ∀ p ∈ D.ins, p.1.length ≤ 1000000 ∧ p.2.length ≤ 1000000
  ld : ∀ s ∈ D.ld, s.length ≤ 1000000
  ru : ∀ r ∈ D.ru, ∀ x ∈ r4 r, x.length ≤ 1000000
  nru : D.ru.length ≤ 1000000
theorem Same.but {S : List Addr} {H H1 H2 : Hp} (e : Same H H1) (k : Keep S H1 H2) (f : ∀ b ∈ S, H b = none) : Same H H2 := fun b o h => k b o (fun m => by rw [f b m] at h; cases h) (e b o h)
theorem take_snoc {α : Type} : ∀ {l : List α} {i : Nat} {x : α}, l[i]? = some x → l.take (i + 1) = l.take i ++ [x]
  | [], i, x, h => by simp at h
  | a :: l, 0, x, h => by
    have e : a = x := Option.some.inj h
    subst e
    rfl
  | a :: l, i + 1, x, h => by
    have e : l[i]? = some x := h
    rw [List.take_succ_cons, take_snoc e]
    rfl
theorem okRule_in {D : DD} {r : S4} (h : D.okRule r = true) : r.1 ∈ D.st ∧ r.2.1 ∈ D.st := by
  unfold DD.okRule at h
  simp only [Bool.and_eq_true, decide_eq_true_eq] at h
  exact ⟨h.1.1.1.1, h.1.1.1.2⟩
end Vf
namespace Vf
theorem map_get {α β : Type} {f : α → β} {l : List α} {i : Nat} {x : β} (h : (l.map f)[i]? = some x) : ∃ a, l[i]? = some a ∧ x = f a := by
  rw [List.getElem?_map] at h
  cases e : l[i]? with
  | none => rw [e] at h; cases h
  | some a => rw [e] at h; exact ⟨a, rfl, (Option.some.inj h).symm⟩
end Vf
namespace Vf
theorem nodup_ix {α : Type} : ∀ {l : List α} {i j : Nat} {a : α}, l.Nodup → l[i]? = some a → l[j]? = some a → i = j
  | [], i, j, a, _, h, _ => by simp at h
  | x :: l, 0, 0, a, _, _, _ => rfl
  | x :: l, 0, j + 1, a, n, h, h' => by
    have e : x = a := Option.some.inj h
    subst e
    have h2 : l[j]? = some x := h'
    exact absurd (List.mem_of_getElem? h2) (List.nodup_cons.mp n).1
  | x :: l, i + 1, 0, a, n, h, h' => by
    have e : x = a := Option.some.inj h'
    subst e
    have h2 : l[i]? = some x := h
    exact absurd (List.mem_of_getElem? h2) (List.nodup_cons.mp n).1
  | x :: l, i + 1, j + 1, a, n, h, h' => by
    have h1 : l[i]? = some a := h
    have h2 : l[j]? = some a := h'
    rw [nodup_ix (List.nodup_cons.mp n).2 h1 h2]
end Vf
namespace Vf
open PySem L2
theorem tyes {σ : L2.St} {H : Hp} {A B : Hp → Prop} (h : A H) : tYes σ H (fun b H3 => if b = true then A H3 else B H3) := by
  show (if true = true then A H else B H)
  rw [if_pos rfl]
  exact h
end Vf
namespace Vf
theorem Keep.self {S : List PySem.Addr} {H H' : L2.Hp} (_ : Keep S H H') : Keep S H' H' := Keep.refl H'
end Vf
namespace Vf
open PySem L2
theorem list_choose {α β : Type} : ∀ {xs : List α} {R : Nat → α → β → Prop}, (∀ i y, xs[i]? = some y → ∃ a, R i y a) → ∃ l : List β, l.length = xs.length ∧ ∀ i y a, xs[i]? = some y → l[i]? = some a → R i y a
  | [], R, _ => ⟨[], rfl, fun i y a h => by simp at h⟩
  | x :: xs, R, h => by
    obtain ⟨a, ha⟩ := h 0 x rfl
    obtain ⟨l, hl, hr⟩ := list_choose (xs := xs) (R := fun i => R (i + 1)) fun i y e => h (i + 1) y e
    refine ⟨a :: l, by simp [hl], fun i y b e1 e2 => ?_⟩
    cases i with
    | zero =>
      have z1 : x = y := Option.some.inj e1
      have z2 : a = b := Option.some.inj e2
      subst z1
      subst z2
      exact ha
    | succ i => exact hr i y b e1 e2
section
variable {J : It} {n : Nat} {G : Hp → Prop} {Y : Nat → Hp → V → Hp → Prop} {g : TG} {te : TE} {vs : List Nat} {σ : L2.St} {H1 : Hp} {D : Addr} {Qd : Hp → Prop} {α : Type}
/-- a comprehension whose items are values of a kind, each with a property -/
theorem lc_enc (w : Walk J n G Y) (e : α → V) (good : Nat → α → Prop) (hD : H1 D = none) (hn : n ≤ 1000000) (hG : ∀ H, Same H1 H → G H)
    (hs : ∀ i x H H', i < n → Same H1 H → Y i H x H' → ∀ Q' : VK, (∀ a H4, Same H H4 → good i a → Q' (e a) H4) → g x (wipe σ vs) H' fun σ2 H2 => wipe σ2 vs = wipe σ vs ∧ te σ2 H2 Q')
    (hd : ∀ (l : List α) H, l.length = n → Same H1 H → H D = some (.lst (l.map e)) → (∀ i a, l[i]? = some a → good i a) → Qd H) :
    ∃ W : Nat → Nat → Hp → Prop, (∃ m, W 0 m (upd H1 D (.lst []))) ∧ ∀ i m H, W i m H →
      (J.stop i H ∧ Qd H) ∨ (J.go i H ∧ ∃ Nx : Hp → Prop, (∀ H', Nx H' → ∃ m', m' < m ∧ W (i + 1) m' H') ∧ ∀ x H', J.yld i H x H' → g x (wipe σ vs) H' fun σ2 H2 => wipe σ2 vs = wipe σ vs ∧ tYes σ2 H2 fun b H3 =>
        if b = true then te σ2 H3 fun y H4 => ∃ acc, H4 D = some (.lst acc) ∧ acc.length < sizeLine ∧ Nx (upd H4 D (.lst (acc ++ [y]))) else Nx H3) := by
  refine lc_rel w (fun i y _ => ∃ a, y = e a ∧ good i a) hD (fun i y H H' acc _ _ h => h) hn hG (fun i x H H' acc hi s _ hy Q' q => hs i x H H' hi s hy Q' fun a H4 s4 ga => q _ H4 s4 ⟨a, rfl, ga⟩) fun xs H hl s hx hp => ?_
  obtain ⟨l, h1, h2⟩ := list_choose (R := fun i y a => y = e a ∧ good i a) hp
  have ex : xs = l.map e := by
    apply List.ext_getElem?
    intro i
    rw [List.getElem?_map]
    cases h : xs[i]? with
    | none =>
      have := List.getElem?_eq_none_iff.mp h
      rw [List.getElem?_eq_none (by omega)]
      rfl
    | some y =>
      have hi := (List.getElem?_eq_some_iff.mp h).1
      have e1 : l[i]? = some l[i] := List.getElem?_eq_getElem (by omega)
      rw [e1]
      exact congrArg some (h2 i y _ h e1).1
  subst ex
  refine hd l H (by rw [h1]; exact hl) s hx fun i a ha => ?_
  have e2 : (l.map e)[i]? = some (e a) := by rw [List.getElem?_map, ha]; rfl
  exact (h2 i _ a e2 ha).2
/-- .. whose items are new tuples -/
theorem lc_tups (w : Walk J n G Y) (enc : α → List V) (good : Nat → α → Prop) (hD : H1 D = none) (hn : n ≤ 1000000) (hG : ∀ H, Same H1 H → G H)
    (hs : ∀ i x H H', i < n → Same H1 H → Y i H x H' → ∀ Q' : VK, (∀ a t H4, Same H H4 → H4 t = some (.tup (enc a)) → good i a → Q' (.ref t) H4) → g x (wipe σ vs) H' fun σ2 H2 => wipe σ2 vs = wipe σ vs ∧ te σ2 H2 Q')
    (hd : ∀ (l : List α) xs H, l.length = n → Same H1 H → H D = some (.lst xs) → Tups enc H xs l → (∀ i a, l[i]? = some a → good i a) → Qd H) :
    ∃ W : Nat → Nat → Hp → Prop, (∃ m, W 0 m (upd H1 D (.lst []))) ∧ ∀ i m H, W i m H →
      (J.stop i H ∧ Qd H) ∨ (J.go i H ∧ ∃ Nx : Hp → Prop, (∀ H', Nx H' → ∃ m', m' < m ∧ W (i + 1) m' H') ∧ ∀ x H', J.yld i H x H' → g x (wipe σ vs) H' fun σ2 H2 => wipe σ2 vs = wipe σ vs ∧ tYes σ2 H2 fun b H3 =>
        if b = true then te σ2 H3 fun y H4 => ∃ acc, H4 D = some (.lst acc) ∧ acc.length < sizeLine ∧ Nx (upd H4 D (.lst (acc ++ [y]))) else Nx H3) := by
  refine lc_rel w (fun i y H => ∃ a t, y = .ref t ∧ H t = some (.tup (enc a)) ∧ good i a) hD (fun i y H H' acc hacc k ⟨a, t, e1, e2, e3⟩ => ⟨a, t, e1, k t _ (fun z => by rw [z, hacc] at e2; cases e2) e2, e3⟩) hn hG
    (fun i x H H' acc hi s _ hy Q' q => hs i x H H' hi s hy Q' fun a t H4 s4 ht ga => q _ H4 s4 ⟨a, t, rfl, ht, ga⟩) fun xs H hl s hx hp => ?_
  obtain ⟨l, h1, h2⟩ := list_choose (R := fun i y a => ∃ t, y = V.ref t ∧ H t = some (.tup (enc a)) ∧ good i a) hp
  refine hd l xs H (by rw [h1]; exact hl) s hx ⟨h1.symm, fun i a ha => ?_⟩ fun i a ha => ?_
  · have hi := (List.getElem?_eq_some_iff.mp ha).1
    have e1 : xs[i]? = some xs[i] := List.getElem?_eq_getElem (by omega)
    obtain ⟨t, e2, e3, _⟩ := h2 i _ a e1 ha
    exact ⟨t, by rw [e1, e2], e3⟩
  · have hi := (List.getElem?_eq_some_iff.mp ha).1
    have e1 : xs[i]? = some xs[i] := List.getElem?_eq_getElem (by omega)
    obtain ⟨t, _, _, e4⟩ := h2 i _ a e1 ha
    exact e4
end
theorem map_at {α : Type} {f : α → V} {l : List α} {i : Int} {d : α} (h0 : 0 ≤ i) (h1 : i < l.length) : atI (l.map f) i = some (f (l.getD i.toNat d)) := by
  obtain ⟨j, rfl⟩ : ∃ j : Nat, i = (j : Int) := ⟨i.toNat, by omega⟩
  have hj : j < l.length := by omega
  refine atI_nat ?_
  rw [List.getElem?_map, List.getElem?_eq_getElem hj]
  simp [List.getD, List.getElem?_eq_getElem hj]
/-! ### point 4 without an order -/
structure ValidN (D : DD) : Prop where
  len : D.ou.length = D.st.length
  n400 : D.st.length ≤ 400
  nm : ∀ s ∈ D.st, isName s = true
  nd : D.st.Nodup
  ou : ∀ o ∈ D.ou, 0 ≤ o ∧ o ≤ 9
  n8 : D.ins.length ≤ 8
  inm : ∀ p ∈ D.ins, isName p.1 = true ∧ p.2 ∈ D.st
  ind : (D.ins.map (·.1)).Nodup
  n10 : D.ld.length ≤ 10
  ldm : ∀ s ∈ D.ld, s ∈ D.st
  rum : ∀ r ∈ D.ru, r.1 ∈ D.st ∧ r.2.1 ∈ D.st ∧ r.2.2.1 ∈ D.st ∧ r.2.2.2 ∈ D.st
  rnd : (D.ru.map fun x => (x.1, x.2.1)).Nodup
theorem nodup_take {α : Type} {l : List α} (h : l.Nodup) {i : Nat} {x : α} (e : l[i]? = some x) : x ∉ l.take i := by
  intro m
  obtain ⟨j, hj⟩ := List.mem_iff_getElem?.mp m
  have jl : j < i := by
    have := (List.getElem?_eq_some_iff.mp hj).1
    rw [List.length_take] at this
    omega
  rw [List.getElem?_take_of_lt jl] at hj
  have := nodup_ix h hj e
  omega
theorem take_len {α : Type} {l : List α} {i : Nat} {x : α} (e : l[i]? = some x) : (l.take i).length = i := by
  have := (List.getElem?_eq_some_iff.mp e).1
  rw [List.length_take]
  omega
theorem ValidN.valid {D : DD} (v : ValidN D) : Valid D := by
  refine ⟨v.len, fun i s o hs ho => ?_, fun i x hx => ?_, fun i x hx => ?_, fun i x hx => ?_⟩
  · have hi := (List.getElem?_eq_some_iff.mp hs).1
    have n4 := v.n400
    have om := v.ou o (List.mem_of_getElem? ho)
    unfold DD.okState
    simp only [take_len hs, v.nm s (List.mem_of_getElem? hs), Bool.and_true, Bool.and_eq_true, decide_eq_true_eq]
    exact ⟨⟨by omega, nodup_take v.nd hs⟩, om⟩
  · have hi := (List.getElem?_eq_some_iff.mp hx).1
    have n8 := v.n8
    obtain ⟨m1, m2⟩ := v.inm x (List.mem_of_getElem? hx)
    unfold DD.okInput
    simp only [take_len hx, m1, Bool.and_true, Bool.and_eq_true, decide_eq_true_eq]
    refine ⟨⟨by omega, ?_⟩, m2⟩
    rw [List.map_take]
    exact nodup_take v.ind (by rw [List.getElem?_map, hx]; rfl)
  · have hi := (List.getElem?_eq_some_iff.mp hx).1
    have n10 := v.n10
    unfold DD.okLeader
    simp only [take_len hx, Bool.and_eq_true, decide_eq_true_eq]
    exact ⟨by omega, v.ldm x (List.mem_of_getElem? hx)⟩
  · obtain ⟨m1, m2, m3, m4⟩ := v.rum x (List.mem_of_getElem? hx)
    unfold DD.okRule
    simp only [Bool.and_eq_true, decide_eq_true_eq]
    refine ⟨⟨⟨⟨m1, m2⟩, m3⟩, m4⟩, ?_⟩
    rw [List.map_take]
    exact nodup_take v.rnd (by rw [List.getElem?_map, hx]; rfl)
end Vf
namespace Vf
open PySem L2
section
variable {α : Type} {enc : α → List V} {H : Hp} {xs ys : List V} {l m : List α}
theorem Tups.append (h : Tups enc H xs l) (k : Tups enc H ys m) : Tups enc H (xs ++ ys) (l ++ m) := by
  refine ⟨by simp [h.1, k.1], fun i a e => ?_⟩
  by_cases hi : i < l.length
  · rw [List.getElem?_append_left hi] at e
    rw [List.getElem?_append_left (by rw [h.1]; exact hi)]
    exact h.2 i a e
  · rw [List.getElem?_append_right (by omega)] at e
    rw [List.getElem?_append_right (by rw [h.1]; omega), h.1]
    exact k.2 _ a e
theorem Tups.drop (h : Tups enc H xs l) (n : Nat) : Tups enc H (xs.drop n) (l.drop n) := by
  refine ⟨by simp [h.1], fun i a e => ?_⟩
  rw [List.getElem?_drop] at e ⊢
  exact h.2 _ a e
theorem Tups.take (h : Tups enc H xs l) (n : Nat) : Tups enc H (xs.take n) (l.take n) := by
  refine ⟨by simp [h.1], fun i a e => ?_⟩
  by_cases hi : i < n
  · rw [List.getElem?_take_of_lt hi] at e ⊢
    exact h.2 _ a e
  · have := (List.getElem?_eq_some_iff.mp e).1
    rw [List.length_take] at this
    omega
theorem Tups.reverse (h : Tups enc H xs l) : Tups enc H xs.reverse l.reverse := by
  refine ⟨by simp [h.1], fun i a e => ?_⟩
  have hi := (List.getElem?_eq_some_iff.mp e).1
  rw [List.length_reverse] at hi
  rw [List.getElem?_reverse (by omega)] at e
  rw [List.getElem?_reverse (by rw [h.1]; exact hi), h.1]
  exact h.2 _ a e
end
theorem cut_from (xs : List V) (t : Nat) (h : t ≤ xs.length) : cutV xs (some (t : Int)) none = xs.drop t := by
  have e1 : HT.sIx xs.length 0 (some (t : Int)) = t := by rw [HT.sIx_nat, Nat.min_eq_left h]
  have e2 : HT.sIx xs.length xs.length none = xs.length := rfl
  unfold cutV
  rw [e1, e2, List.take_of_length_le (by rw [List.length_drop]; exact Nat.le_refl _)]
theorem cut_to (xs : List V) (t : Nat) (h : t ≤ xs.length) : cutV xs none (some (t : Int)) = xs.take t := by
  have e1 : HT.sIx xs.length xs.length (some (t : Int)) = t := by rw [HT.sIx_nat, Nat.min_eq_left h]
  have e2 : HT.sIx xs.length 0 none = 0 := rfl
  unfold cutV
  rw [e1, e2]
  rfl
end Vf
namespace Vf
open PySem L2
/-! ### drawn parts -/
/-- the tuple of five lists -/
def PartsAt (H : Hp) (p : Addr) (D : DD) : Prop := ∃ (ls li ll lr lo : Addr) (xi xr : List V), H p = some (.tup [.ref ls, .ref li, .ref ll, .ref lr, .ref lo]) ∧ H ls = some (.lst (D.st.map V.str)) ∧ H li = some (.lst xi) ∧ Tups enc2 H xi D.ins ∧
  H ll = some (.lst (D.ld.map V.str)) ∧ H lr = some (.lst xr) ∧ Tups enc4 H xr D.ru ∧ H lo = some (.lst (D.ou.map V.int))
theorem PartsAt.same {H H' : Hp} {p : Addr} {D : DD} (h : PartsAt H p D) (e : Same H H') : PartsAt H' p D := by
  obtain ⟨ls, li, ll, lr, lo, xi, xr, h0, h1, h2, t2, h3, h4, t4, h5⟩ := h
  exact ⟨ls, li, ll, lr, lo, xi, xr, e _ _ h0, e _ _ h1, e _ _ h2, t2.same e, e _ _ h3, e _ _ h4, t4.same e, e _ _ h5⟩
def nmB : List Str := ["a", "b", "c", "d1", "e", "f"]
def nmS : List Str := ["", "x", "q7"]
def goodName (i : Nat) (s : Str) : Prop := ∃ j, j < 3 ∧ s = nmB.getD i Str.empty ++ nmS.getD j Str.empty
structure Small (D : DD) : Prop where
  st0 : 1 ≤ D.st.length
  st6 : D.st.length ≤ 6
  in3 : D.ins.length ≤ 3
  ld2 : D.ld.length ≤ 2
  ru36 : D.ru.length ≤ 36
  gn : ∀ (i : Nat) (s : Str), D.st[i]? = some s → goodName i s
theorem ValidN.short {D : DD} (v : ValidN D) (h : D.ru.length ≤ 1000000) : Short D := by
  have nl : ∀ s, isName s = true → s.length ≤ 1000000 := fun s hs => Nat.le_trans (name_len hs) (by decide)
  refine ⟨fun s hs => nl s (v.nm s hs), fun o ho => ?_, fun p hp => ?_, fun s hs => nl s (v.nm s (v.ldm s hs)), fun r hr x hx => ?_, h⟩
  · obtain ⟨h0, h9⟩ := v.ou o ho
    have hb : o.natAbs < 2 ^ 1920 := Nat.lt_of_le_of_lt (show o.natAbs ≤ 9 by omega) (by decide)
    by_cases hz : o.natAbs = 0
    · rw [hz]
      decide
    · exact (Nat.log2_lt hz).mpr hb
  · obtain ⟨m1, m2⟩ := v.inm p hp
    exact ⟨nl _ m1, nl _ (v.nm _ m2)⟩
  · obtain ⟨m1, m2, m3, m4⟩ := v.rum r hr
    simp only [r4, List.mem_cons, List.not_mem_nil, or_false] at hx
    rcases hx with rfl | rfl | rfl | rfl
    · exact nl _ (v.nm _ m1)
    · exact nl _ (v.nm _ m2)
    · exact nl _ (v.nm _ m3)
    · exact nl _ (v.nm _ m4)
theorem names_all : ((List.range 6).all fun i => (List.range 3).all fun j => isName (nmB.getD i Str.empty ++ nmS.getD j Str.empty) && ((nmB.getD i Str.empty ++ nmS.getD j Str.empty).cps.toList.head? == some (97 + i))) = true := by decide +kernel
theorem goodName_of {i : Nat} {s : Str} (hi : i < 6) (h : goodName i s) : isName s = true ∧ s.cps.toList.head? = some (97 + i) := by
  obtain ⟨j, hj, rfl⟩ := h
  have a := List.all_eq_true.mp names_all i (List.mem_range.mpr hi)
  have b := List.all_eq_true.mp a j (List.mem_range.mpr hj)
  rw [Bool.and_eq_true, beq_iff_eq] at b
  exact b
theorem nodup_by {α β : Type} {l : List α} (f : α → β) (g : Nat → β) (h : ∀ i a, l[i]? = some a → f a = g i) (inj : ∀ i j, i < l.length → j < l.length → g i = g j → i = j) : l.Nodup := by
  rw [List.Nodup, List.pairwise_iff_getElem]
  intro i j hi hj hij e
  have e1 := h i _ (List.getElem?_eq_getElem hi)
  have e2 := h j _ (List.getElem?_eq_getElem hj)
  rw [e, e2] at e1
  have := inj j i hj hi e1
  omega
theorem goodNames_nodup {l : List Str} (h6 : l.length ≤ 6) (h : ∀ i a, l[i]? = some a → goodName i a) : l.Nodup :=
  nodup_by (fun s : Str => s.cps.toList.head?) (fun i => some (97 + i)) (fun i a e => (goodName_of (by have := (List.getElem?_eq_some_iff.mp e).1; omega) (h i a e)).2) fun i j _ _ e => by
    have := Option.some.inj e
    omega
def inB : List Str := ["u", "v", "w"]
theorem inB_all : ((List.range 3).all fun i => isName (inB.getD i Str.empty) && ((inB.getD i Str.empty).cps.toList.head? == some (117 + i))) = true := by decide +kernel
theorem inB_of {i : Nat} (hi : i < 3) : isName (inB.getD i Str.empty) = true ∧ (inB.getD i Str.empty).cps.toList.head? = some (117 + i) := by
  have a := List.all_eq_true.mp inB_all i (List.mem_range.mpr hi)
  rw [Bool.and_eq_true, beq_iff_eq] at a
  exact a
end Vf
namespace Vf
open PySem L2
theorem gN {i : Nat} {v : V} {σ : L2.St} {H : Hp} {nx : L2.St → Hp → Prop} (h : nx (σ.set i (some v)) H) : gName i v σ H nx := h
end Vf
namespace Vf
open PySem L2
theorem names_end : ((List.range 6).all fun i => (List.range 3).all fun j => (nmB.getD i Str.empty ++ nmS.getD j Str.empty).cps.toList.getLast? != some 122) = true := by decide +kernel
/-- no drawn name ends so -/
theorem Small.noName {D : DD} (sm : Small D) {s : Str} (h : s.cps.toList.getLast? = some 122) : s ∉ D.st := fun m => by
  obtain ⟨i, hi⟩ := List.mem_iff_getElem?.mp m
  have il := (List.getElem?_eq_some_iff.mp hi).1
  have := sm.st6
  obtain ⟨j, hj, rfl⟩ := sm.gn i s hi
  have a := List.all_eq_true.mp names_end i (List.mem_range.mpr (by omega))
  have b := List.all_eq_true.mp a j (List.mem_range.mpr hj)
  rw [h] at b
  cases b
theorem end_zz (w : Str) : (w ++ ("9zz" : Str)).cps.toList.getLast? = some 122 := by
  have e : (w ++ ("9zz" : Str)).cps.toList = w.cps.toList ++ [57, 122, 122] := by
    show (w.cps ++ ("9zz" : Str).cps).toList = _
    rw [Array.toList_append]
    rfl
  rw [e, List.getLast?_append]
  rfl
end Vf

namespace Vf
open PySem PySem.Spec PyProof.Rows L2
/-- the pair of ints at an address -/
def prAt (H : Hp) (a : Addr) : Int × Int := match H a with
  | some (.tup [.int i, .int j]) => (i, j)
  | _ => (0, 0)
def prV (H : Hp) : Value → Int × Int
  | .ref a => prAt H a
  | _ => (0, 0)
theorem prAt_of {H : Hp} {a : Addr} {i j : Int} (h : H a = some (.tup [.int i, .int j])) : prAt H a = (i, j) := by
  unfold prAt
  rw [h]
def keyP (k : Int × Int) : List Key := [Sum.inl k.1, Sum.inl k.2]
/-- sorted(d), d a dict whose keys are pairs of ints -/
def rSortedDT : List V → Hp → VK → Prop := fun xs H Q => ∃ (d : Addr) (kvs : List (List Key × V)) (ks : List (Int × Int)), xs = [.ref d] ∧ Rd H d (.dT kvs) ∧ kvs.map (·.1) = ks.map keyP ∧
  ∀ (p : Addr) (bs : List Addr), H p = none → (bs.map (prAt H)).Perm ks → bs.Pairwise (fun x y => SrtO.lexB (prAt H y) (prAt H x) = false) → (∀ b ∈ bs, ∃ i j, H b = some (.tup [.int i, .int j])) → Q (.ref p) (upd H p (.lst (bs.map V.ref)))
theorem refs_out : ∀ (l : List Value), (∀ u ∈ l, ∃ a, u = Value.ref a) → ∃ bs : List Addr, l = bs.map Value.ref
  | [], _ => ⟨[], rfl⟩
  | u :: l, h => by
    obtain ⟨a, rfl⟩ := h u List.mem_cons_self
    obtain ⟨bs, e⟩ := refs_out l fun v hv => h v (List.mem_cons_of_mem _ hv)
    exact ⟨a :: bs, by rw [e]; rfl⟩
theorem pair_get {α β : Type} {R : α → β → Prop} : ∀ {l₁ : List α} {l₂ : List β}, Paired R l₁ l₂ → ∀ {n : Nat} {b : β}, l₂[n]? = some b → ∃ a, l₁[n]? = some a ∧ R a b
  | _, _, .nil, n, b, h => by simp at h
  | _, _, .cons h t, 0, b, e => by
    have e' := Option.some.inj e
    subst e'
    exact ⟨_, rfl, h⟩
  | _, _, .cons h t, n + 1, b, e => pair_get t (n := n) (b := b) e
theorem cr_sortedDT {X : Cx} (hcalm : X.calm = true) : CallR X (.builtin "sorted") rSortedDT := by
  intro pins s σ H xs us Q I r h
  obtain ⟨d, kvs, ks, rfl, hd, hks, q⟩ := h
  obtain ⟨u, rfl, rx⟩ := vals1 r
  cases rx
  obtain ⟨z, hs, xs, pr, o, es, ep, ho, hx, hdt, he, hn⟩ := (show ObjOk X.prog X.w H s.heap d (.dT kvs) from hd.ok I.hok)
  have l1 : es.size = xs.length := size_of_entries he
  have l2 : kvs.length = xs.length := Paired.length pr
  have h16 : es.size ≤ sizeLine := by omega
  refine Calls.call_function_entry PyProof.Rows.kind_sorted PyProof.Rows.plain_sorted PyProof.Rows.entry_sorted (PyProof.Rows.args_sorted1 _) ?_
  unfold Builtin.«sorted»
  refine wpAny_bind (m := checkCount "sorted" 1 1 _) (wpAny_pure ?_)
  refine wpAny_bind (PySem.W.kdu_collect (A := X.A.in1) (kdl_raw hs hx hdt) (I.ok.hd hcalm) ho h16 fun h' tk acc hk hacc => ?_)
  -- what was collected: the tuples of the keys
  have ea : acc.toList = (xs.map fun x => x.2.1).map Value.ref := by
    have hl : acc.toList.length = xs.length := by rw [Array.length_toList, hacc.1, l1]
    apply List.ext_getElem?
    intro j
    rw [List.map_map, List.getElem?_map]
    cases hj : acc.toList[j]? with
    | none =>
      have h1 := List.getElem?_eq_none_iff.mp hj
      rw [List.getElem?_eq_none (by omega)]
      rfl
    | some v =>
      obtain ⟨en, hen, hv⟩ := hacc.2 j v (by rw [← Array.getElem?_toList]; exact hj)
      have qe := entry_at he j
      rw [hen] at qe
      cases hb : xs[j]? with
      | none =>
        rw [hb] at qe
        exact nomatch (show some en = none from qe)
      | some b =>
        rw [hb] at qe
        have e2 : en = entryOfKey (tupleKind (mixKind X.prog X.w)) b := Option.some.inj qe
        rw [hv, e2]
        rfl
  have I1 : Inv X pins σ H { s with heap := h', toks := tk } := I.kept hk
  -- each of them is a pair
  have hat : ∀ a ∈ xs.map (fun x => x.2.1), ∃ i j, H a = some (.tup [.int i, .int j]) := by
    intro a ha
    obtain ⟨x, hxm, rfl⟩ := List.mem_map.mp ha
    obtain ⟨n, hn'⟩ := List.mem_iff_getElem?.mp hxm
    have hnl : n < kvs.length := by rw [l2]; exact (List.getElem?_eq_some_iff.mp hn').1
    obtain ⟨y, hy, p1, p2, _⟩ := pair_get pr hn'
    have hk1 : (kvs.map (·.1))[n]? = some y.1 := by rw [List.getElem?_map, hy]; rfl
    rw [hks] at hk1
    obtain ⟨k, _, ek⟩ : ∃ k, ks[n]? = some k ∧ y.1 = keyP k := by
      rw [List.getElem?_map] at hk1
      cases e : ks[n]? with
      | none => rw [e] at hk1; cases hk1
      | some k => rw [e] at hk1; exact ⟨k, rfl, (Option.some.inj hk1).symm⟩
    rw [ek] at p2
    exact ⟨k.1, k.2, p2⟩
  have hpr : (xs.map fun x => x.2.1).map (prAt H) = ks := by
    apply List.ext_getElem?
    intro n
    rw [List.getElem?_map, List.getElem?_map]
    cases hn' : xs[n]? with
    | none =>
      have h1 := List.getElem?_eq_none_iff.mp hn'
      have h2 := congrArg List.length hks
      rw [List.length_map, List.length_map] at h2
      rw [List.getElem?_eq_none (show ks.length ≤ n by omega)]
      rfl
    | some x =>
      obtain ⟨y, hy, p1, p2, _⟩ := pair_get pr hn'
      have hk1 : (kvs.map (·.1))[n]? = some y.1 := by rw [List.getElem?_map, hy]; rfl
      rw [hks] at hk1
      rw [List.getElem?_map] at hk1
      cases e : ks[n]? with
      | none => rw [e] at hk1; cases hk1
      | some k =>
        rw [e] at hk1
        have ek : y.1 = keyP k := (Option.some.inj hk1).symm
        rw [ek] at p2
        show some (prAt H x.2.1) = some k
        rw [prAt_of p2]
  have hal : acc.toList.length ≤ sizeLine := by
    rw [ea, List.length_map, List.length_map]
    omega
  refine wpAny_bind (wpAny_newList ?_ hal)
  have hoL : (h'.push (seqObj "list" acc.toList.toArray 0)).get? h'.objs.size = some (seqObj "list" acc.toList.toArray 0) := Heap.get?_push_size _ rfl
  show wpAny _ _ _ _ _ { s with heap := h'.push (seqObj "list" acc.toList.toArray 0), toks := tk }
  have hip : ∀ v ∈ acc.toList, Srt.IsPair h' v (prV H v).1 (prV H v).2 := by
    intro v hv
    rw [ea] at hv
    obtain ⟨a, ha, rfl⟩ := List.mem_map.mp hv
    obtain ⟨i, j, hij⟩ := hat a ha
    obtain ⟨_, its2, r2, ob, hob, hc, n, hd2⟩ := I1.hok _ _ hij
    obtain ⟨u1, u2, rfl, ri, rj⟩ := vals2 r2
    obtain ⟨t1, rfl⟩ := ri
    obtain ⟨t2, rfl⟩ := rj
    have e : prV H (.ref a) = (i, j) := prAt_of hij
    rw [e]
    exact ⟨a, ob, t1, t2, n, rfl, hob, hc, hd2⟩
  refine wpAny_bind (wpAny_holding (wpAny_call_entry PyProof.Rows.slot_list_sort ⟨_, hoL, rfl⟩ PyProof.Rows.entry_list_sort
    (SrtO.list_sort_ord (s := { s with heap := h'.push (seqObj "list" acc.toList.toArray 0), toks := tk }) (SrtO.swo_lex (prV H)) hoL hal (fun h2 => SrtO.pairs_sortableO (by omega) (fun v hv => (hip v hv).keeps fun b o e _ => Heap.get?_push_of_some _ e) fun o e c => ?_) fun out hs' hb' => ⟨_, rfl, ?_⟩) (PyProof.Rows.args_list_sort _)))
  · have e' : some o = some (seqObj "list" acc.toList.toArray 0) := e.symm.trans hoL
    cases e'
    exact absurd (Value.type.inj c) (by decide)
  · obtain ⟨e', he'⟩ := PyProof.Rows.sortedHeap_at (vs := acc.toList) (out := out.toArray) hoL
    have hperm : out.Perm acc.toList := hb'.perm
    obtain ⟨bs, rfl⟩ := refs_out out fun u hu => by
      have hm := hperm.mem_iff.mp hu
      rw [ea] at hm
      obtain ⟨a, _, rfl⟩ := List.mem_map.mp hm
      exact ⟨a, rfl⟩
    rw [ea] at hperm
    have hbp : bs.Perm (xs.map fun x => x.2.1) := by
      have hh := hperm.map (fun v : Value => match v with | .ref a => a | _ => 0)
      rw [List.map_map, List.map_map] at hh
      have e1 : bs.map ((fun v : Value => match v with | .ref a => a | _ => 0) ∘ Value.ref) = bs := List.map_id' bs
      have e2 : (xs.map fun x => x.2.1).map ((fun v : Value => match v with | .ref a => a | _ => 0) ∘ Value.ref) = (xs.map fun x => x.2.1) := List.map_id' _
      rw [e1, e2] at hh
      exact hh
    have hlen : (bs.map V.ref).length ≤ sizeLine := by
      rw [List.length_map, hbp.length_eq, List.length_map]
      omega
    refine wpAny_pure ⟨_, rfl, .ref h'.objs.size, upd H h'.objs.size (.lst (bs.map V.ref)), I1.laid (t' := tk) (fun b u e => ?_) (Nat.le_refl _)
      (show ObjOk X.prog X.w _ _ _ (.lst (bs.map V.ref)) from ⟨hlen, bs.map Value.ref, e', vals_refs bs, by rw [he']⟩), rfl, q _ bs (I1.hok.fresh (Nat.le_refl _)) ?_ ?_ ?_⟩
    · have hb : b < h'.objs.size := Heap.lt_size e
      rw [PyProof.Rows.sortedHeap_old (Nat.ne_of_lt hb) (by rw [size_push']; exact Nat.lt_succ_of_lt hb)]
      exact Heap.get?_push_of_some _ e
    · rw [← hpr]
      exact hbp.map _
    · have h1 : List.Pairwise (fun x y => SrtO.lexB (prV H y) (prV H x) = false) (bs.map Value.ref) := hs'
      rw [List.pairwise_map] at h1
      exact h1
    · intro b hb
      exact hat b (hbp.mem_iff.mp hb)
end Vf
namespace Vf
open PySem L2
/-! ### rows of pairs -/
def rowOf (l : List (Int × Int)) (c : Int × Int → Bool) (i : Int) : List Int := (l.filter fun k => decide (k.1 = i) && c k).map Prod.snd
theorem rowOf_snoc (l : List (Int × Int)) (c : Int × Int → Bool) (i : Int) (k : Int × Int) : rowOf (l ++ [k]) c i = rowOf l c i ++ if (decide (k.1 = i) && c k) = true then [k.2] else [] := by
  unfold rowOf
  rw [List.filter_append, List.map_append]
  congr 1
  by_cases h : (decide (k.1 = i) && c k) = true
  · rw [if_pos h, List.filter_cons, if_pos h]
    rfl
  · rw [if_neg h, List.filter_cons, if_neg h]
    rfl
theorem rowOf_mem {l : List (Int × Int)} {c : Int × Int → Bool} {i j : Int} : j ∈ rowOf l c i ↔ (i, j) ∈ l ∧ c (i, j) = true := by
  unfold rowOf
  rw [List.mem_map]
  constructor
  · rintro ⟨⟨a, b⟩, h, rfl⟩
    rw [List.mem_filter, Bool.and_eq_true, decide_eq_true_eq] at h
    obtain ⟨h1, h2, h3⟩ := h
    have e : a = i := h2
    subst e
    exact ⟨h1, h3⟩
  · rintro ⟨h1, h2⟩
    exact ⟨(i, j), List.mem_filter.mpr ⟨h1, by simp [h2]⟩, rfl⟩
theorem rowOf_asc {l : List (Int × Int)} {c : Int × Int → Bool} {i : Int} (h : l.Pairwise fun x y => SrtO.lexB y x = false) (n : l.Nodup) : (rowOf l c i).Pairwise (· < ·) := by
  have hb : l.Pairwise fun x y => SrtO.lexB y x = false ∧ x ≠ y := h.and n
  unfold rowOf
  rw [List.pairwise_map]
  refine List.Pairwise.imp_of_mem (fun {x y} hx hy hh => ?_) (hb.filter _)
  rw [List.mem_filter, Bool.and_eq_true, decide_eq_true_eq] at hx hy
  obtain ⟨h1, h2⟩ := hh
  have h3 := SrtO.lexB_no.mp h1
  obtain ⟨a, b⟩ := x
  obtain ⟨a', b'⟩ := y
  have e1 : a = i := hx.2.1
  have e2 : a' = i := hy.2.1
  subst e1
  subst e2
  have h4 : b ≠ b' := fun z => h2 (by rw [z])
  have h5 : ¬ b' < b := fun z => h3 (Or.inr ⟨rfl, z⟩)
  show b < b'
  omega
theorem valV_at {κ : Type} [DecidableEq κ] : ∀ {kvs : List (κ × V)} {n : Nat} {k : κ} {v : V}, (kvs.map Prod.fst).Nodup → kvs[n]? = some (k, v) → valV kvs k = some v
  | [], n, k, v, _, h => by simp at h
  | p :: r, 0, k, v, _, h => by
    have e : p = (k, v) := Option.some.inj h
    subst e
    exact valV_pos rfl
  | p :: r, n + 1, k, v, hn, h => by
    rw [List.map_cons, List.nodup_cons] at hn
    have h' : r[n]? = some (k, v) := h
    have ne : ¬ p.1 = k := fun z => hn.1 (List.mem_map.mpr ⟨(k, v), List.mem_of_getElem? h', z.symm⟩)
    rw [valV_neg ne]
    exact valV_at hn.2 h'
def encP (v : Int × Int) : List V := [.int v.1, .int v.2]
theorem keyP_inj {a b : Int × Int} (h : keyP a = keyP b) : a = b := by
  unfold keyP at h
  simp only [List.cons.injEq, Sum.inl.injEq, and_true] at h
  exact Prod.ext h.1 h.2
/-- a dict of pairs of ints by pairs of ints -/
structure PP (H : Hp) (kvs : List (List Key × V)) (ks vl : List (Int × Int)) : Prop where
  keys : kvs.map (·.1) = ks.map keyP
  vals : Tups encP H (kvs.map (·.2)) vl
  nd : ks.Nodup
section
variable {H : Hp} {kvs : List (List Key × V)} {ks vl : List (Int × Int)}
theorem PP.len (p : PP H kvs ks vl) : kvs.length = ks.length ∧ vl.length = ks.length := by
  have h1 := congrArg List.length p.keys
  have h2 := p.vals.1
  rw [List.length_map, List.length_map] at h1
  rw [List.length_map] at h2
  omega
theorem PP.at_ (p : PP H kvs ks vl) {n : Nat} {k : Int × Int} (h : ks[n]? = some k) : ∃ v t, vl[n]? = some v ∧ valV kvs (keyP k) = some (.ref t) ∧ H t = some (.tup (encP v)) := by
  obtain ⟨l1, l2⟩ := p.len
  have hn := (List.getElem?_eq_some_iff.mp h).1
  obtain ⟨v, hv⟩ : ∃ v, vl[n]? = some v := ⟨vl[n], List.getElem?_eq_getElem (by omega)⟩
  obtain ⟨t, ht, hT⟩ := p.vals.2 n v hv
  rw [List.getElem?_map] at ht
  obtain ⟨kv, hkv⟩ : ∃ kv, kvs[n]? = some kv := ⟨kvs[n], List.getElem?_eq_getElem (by omega)⟩
  rw [hkv] at ht
  have e2 : kv.2 = .ref t := Option.some.inj ht
  have h1 : (kvs.map (·.1))[n]? = some kv.1 := by rw [List.getElem?_map, hkv]; rfl
  rw [p.keys, List.getElem?_map, h] at h1
  have e1 : keyP k = kv.1 := Option.some.inj h1
  refine ⟨v, t, hv, ?_, hT⟩
  have hnd : (kvs.map Prod.fst).Nodup := by
    have e : kvs.map Prod.fst = ks.map keyP := p.keys
    rw [e]
    exact List.pairwise_map.mpr (p.nd.imp fun h z => h (keyP_inj z))
  refine valV_at (n := n) hnd ?_
  rw [hkv, ← e2, e1]
end
/-- the value of a key, or the key -/
def toP (kvs : List (List Key × V)) (H : Hp) (k : Int × Int) : Int × Int := match valV kvs (keyP k) with
  | some (.ref t) => prAt H t
  | _ => k
theorem toP_at {H : Hp} {kvs : List (List Key × V)} {ks vl : List (Int × Int)} (p : PP H kvs ks vl) {n : Nat} {k v : Int × Int} (h : ks[n]? = some k) (hv : vl[n]? = some v) : toP kvs H k = v := by
  obtain ⟨v', t, h1, h2, h3⟩ := p.at_ h
  rw [hv] at h1
  cases h1
  unfold toP
  rw [h2]
  exact prAt_of h3
end Vf
namespace Vf
theorem rowOf_len (l : List (Int × Int)) (c : Int × Int → Bool) (i : Int) : (rowOf l c i).length ≤ l.length := by
  unfold rowOf
  rw [List.length_map]
  exact List.length_filter_le _ _
end Vf
namespace Vf
open PySem L2
/-! ### a protocol -/
structure RA where
  t1 : Addr
  t2 : Addr
  t3 : Addr
  t4 : Addr
  t5 : Addr
  dn : Addr
  dr : Addr
  rw : Addr
def bFs (a : RA) : List (Str × V) := [("states", .ref a.t1), ("inputs", .ref a.t2), ("leaders", .ref a.t3), ("rules", .ref a.t4), ("outputs", .ref a.t5), ("_numbers", .ref a.dn), ("_results", .ref a.dr), ("_rows", .ref a.rw)]
theorem bFs_new (a : RA) : putF "_rows" (.ref a.rw) (putF "_results" (.ref a.dr) (putF "_numbers" (.ref a.dn) (putF "outputs" (.ref a.t5) (putF "rules" (.ref a.t4) (putF "leaders" (.ref a.t3) (putF "inputs" (.ref a.t2) (putF "states" (.ref a.t1) []))))))) = bFs a := by rfl
/-- the results of rules, as pairs of numbers -/
def rks (D : DD) : List (Int × Int) := D.ru.map fun r => (ix D.st r.1, ix D.st r.2.1)
def rvs (D : DD) : List (Int × Int) := D.ru.map fun r => (ix D.st r.2.2.1, ix D.st r.2.2.2)
structure BookAt (C : Addr) (H : Hp) (p : Addr) (a : RA) (D : DD) : Prop where
  ob : ∃ dx, H p = some (.ins C dx (bFs a))
  st : H a.t1 = some (.tup (D.st.map V.str))
  ins : ∃ xs, H a.t2 = some (.tup xs) ∧ Tups enc2 H xs D.ins
  ld : H a.t3 = some (.tup (D.ld.map V.str))
  ru : ∃ xs, H a.t4 = some (.tup xs) ∧ Tups enc4 H xs D.ru
  ou : H a.t5 = some (.tup (D.ou.map V.int))
  dn : H a.dn = some (.dK (numK D.st))
  dr : ∃ kvs, H a.dr = some (.dT kvs) ∧ Res H D.st D.ru kvs
  rw : ∃ (xs : List V) (rows : Nat → List Int), H a.rw = some (.tup xs) ∧ xs.length = D.st.length ∧ (∀ i x, xs[i]? = some x → ∃ t, x = .ref t ∧ H t = some (.tup ((rows i).map V.int))) ∧ (∀ i, (rows i).Pairwise (· < ·)) ∧
    ∀ (i : Nat) (j : Int), j ∈ rows i ↔ ∃ (n : Nat) (v : Int × Int), (rks D)[n]? = some ((i : Int), j) ∧ (rvs D)[n]? = some v ∧ v ≠ ((i : Int), j)
theorem BookAt.same {C : Addr} {H H' : Hp} {p : Addr} {a : RA} {D : DD} (S : BookAt C H p a D) (e : Same H H') : BookAt C H' p a D := by
  obtain ⟨dx, h0⟩ := S.ob
  obtain ⟨x2, h2, T2⟩ := S.ins
  obtain ⟨x4, h4, T4⟩ := S.ru
  obtain ⟨kvs, hk, R⟩ := S.dr
  obtain ⟨xs, rows, h8, l8, r8, a8, m8⟩ := S.rw
  exact ⟨⟨dx, e _ _ h0⟩, e _ _ S.st, ⟨x2, e _ _ h2, T2.same e⟩, e _ _ S.ld, ⟨x4, e _ _ h4, T4.same e⟩, e _ _ S.ou, e _ _ S.dn, ⟨kvs, e _ _ hk, R.same fun t ys => e t _⟩,
    ⟨xs, rows, e _ _ h8, l8, fun i x hx => by
      obtain ⟨t, e1, e2⟩ := r8 i x hx
      exact ⟨t, e1, e _ _ e2⟩, a8, m8⟩⟩
theorem Keep.new {S : List Addr} {H H' : Hp} {p : Addr} {o : HO} (e : Keep S H H') (h : H' p = none) : Keep S H (upd H' p o) := fun b u n q => by
  have q' := e b u n q
  rw [upd_ne (ne_of_none q' h)]
  exact q'
theorem Keep.same {S : List Addr} {H H1 H2 : Hp} (e : Keep S H H1) (s : Same H1 H2) : Keep S H H2 := fun b u n q => s b u (e b u n q)
theorem Res.pp {H : Hp} {D : DD} {kvs : List (List Key × V)} (R : Res H D.st D.ru kvs) (nd : (rks D).Nodup) : PP H kvs (rks D) (rvs D) := by
  refine ⟨?_, ?_, nd⟩
  · rw [R.keys]
    unfold rks
    rw [List.map_map]
    rfl
  · refine ⟨by rw [R.vals.1]; simp [rvs], fun i v hv => ?_⟩
    unfold rvs at hv
    obtain ⟨r, hr, rfl⟩ := map_get hv
    exact R.vals.2 i r hr
theorem take_all {α : Type} {l : List α} {P : List α → α → Prop} (h : ∀ i x, l[i]? = some x → P (l.take i) x) (x : α) (hx : x ∈ l) : ∃ i, P (l.take i) x := by
  obtain ⟨i, hi⟩ := List.mem_iff_getElem?.mp hx
  exact ⟨i, h i x hi⟩
theorem Valid.rule {D : DD} (v : Valid D) {r : S4} (hr : r ∈ D.ru) : r.1 ∈ D.st ∧ r.2.1 ∈ D.st ∧ r.2.2.1 ∈ D.st ∧ r.2.2.2 ∈ D.st := by
  obtain ⟨i, hi⟩ := List.mem_iff_getElem?.mp hr
  have h := v.ru i r hi
  unfold DD.okRule at h
  simp only [Bool.and_eq_true, decide_eq_true_eq] at h
  exact ⟨h.1.1.1.1, h.1.1.1.2, h.1.1.2, h.1.2⟩
theorem ix_bd {st : List Str} {s : Str} (h : s ∈ st) : 0 ≤ ix st s ∧ ix st s < (st.length : Int) := by
  have := List.idxOf_lt_length_of_mem h
  unfold ix
  omega
theorem Valid.nd {D : DD} (v : Valid D) : (rks D).Nodup := by
  unfold rks List.Nodup
  rw [List.pairwise_map, List.pairwise_iff_getElem]
  intro i j hi hj hij e
  have e1 : D.ru[i]? = some D.ru[i] := List.getElem?_eq_getElem hi
  have e2 : D.ru[j]? = some D.ru[j] := List.getElem?_eq_getElem hj
  have m1 := v.rule (List.getElem_mem hi)
  have m2 := v.rule (List.getElem_mem hj)
  have x := Prod.mk.inj e
  have y1 := ix_inj m1.1 m2.1 x.1
  have y2 := ix_inj m1.2.1 m2.2.1 x.2
  have h := v.ru j _ e2
  unfold DD.okRule at h
  simp only [Bool.and_eq_true, decide_eq_true_eq] at h
  refine h.2 (List.mem_map.mpr ⟨D.ru[i], ?_, by rw [y1, y2]⟩)
  refine List.mem_iff_getElem?.mpr ⟨i, ?_⟩
  rw [List.getElem?_take_of_lt hij]
  exact e1
end Vf
namespace Vf
open PySem L2
theorem walk_zipT {K : PySem.W.Frag} {a b : Addr} {xs ys : List V} {n : Nat} (hx : xs.length = n) (hy : ys.length = n) : Walk (RZ.ItzT K a b) n (fun H => SqT K H a xs ∧ SqT K H b ys) (YPair (fun i => xs[i]?) (fun i => ys[i]?)) where
  goes := fun i H hi q => ⟨xs, ys, xs[i], ys[i], q.1, q.2, List.getElem?_eq_getElem (by omega), List.getElem?_eq_getElem (by omega)⟩
  stops := fun H q => ⟨xs, ys, q.1, q.2, Or.inl (by omega)⟩
  yields := fun i H v H' _ q y => by
    obtain ⟨u, x, z, h1, h2, h3, h4, h5⟩ := y
    exact ⟨u, x, z, h1, h2, h3, h4 xs q.1, h5 ys q.2⟩
/-! ### written protocols -/
def lnSt (p : Str × Int) : Str := Str.ofString "state " ++ p.1 ++ Str.ofString " " ++ Str.ofString (toString p.2)
def lnIn (p : Str × Str) : Str := Str.ofString "input " ++ p.1 ++ Str.ofString " " ++ p.2
def lnLd (s : Str) : Str := Str.ofString "leader " ++ s
def lnRu (r : S4) : Str := Str.ofString "rule " ++ r.1 ++ Str.ofString " " ++ r.2.1 ++ Str.ofString " to " ++ r.2.2.1 ++ Str.ofString " " ++ r.2.2.2
def linesOf (D : DD) : List Str := (D.st.zip D.ou).map lnSt ++ D.ins.map lnIn ++ D.ld.map lnLd ++ D.ru.map lnRu
def textOf (D : DD) : Str := Txt.join (Str.ofString "\n") (linesOf D)
theorem zip_get {α β : Type} {l : List α} {m : List β} {i : Nat} {a : α} {b : β} (h1 : l[i]? = some a) (h2 : m[i]? = some b) : (l.zip m)[i]? = some (a, b) := by
  rw [List.getElem?_zip_eq_some]
  exact ⟨h1, h2⟩
theorem log_of {o : Int} (h : 0 ≤ o ∧ o ≤ 9) : o.natAbs.log2 < 1920 := by
  by_cases hz : o.natAbs = 0
  · rw [hz]
    decide
  · exact (Nat.log2_lt hz).mpr (Nat.lt_of_le_of_lt (show o.natAbs ≤ 9 by omega) (Nat.lt_of_lt_of_le (show 9 < 2 ^ 4 by decide) (Nat.pow_le_pow_right (by decide) (by decide))))
theorem num_len1 {o : Int} (h : 0 ≤ o ∧ o ≤ 9) : (Str.ofString (toString o)).length ≤ 2 := by
  have e := int_text_length_le10 (a := o) (k := 1) (by decide) (by omega)
  rw [ofString_length]
  omega
theorem lits : (Str.ofString "state ").length = 6 ∧ (Str.ofString " ").length = 1 ∧ (Str.ofString "input ").length = 6 ∧ (Str.ofString "leader ").length = 7 ∧ (Str.ofString "rule ").length = 5 ∧ (Str.ofString " to ").length = 4 ∧ (Str.ofString "\n").length = 1 := by decide +kernel
section
variable {D : DD}
theorem ValidN.nl (v : ValidN D) {s : Str} (h : s ∈ D.st) : s.length ≤ 12 := name_len (v.nm s h)
theorem lnSt_len (v : ValidN D) {p : Str × Int} (h1 : p.1 ∈ D.st) (h2 : p.2 ∈ D.ou) : (lnSt p).length ≤ 64 := by
  have a := v.nl h1
  have b := num_len1 (v.ou _ h2)
  obtain ⟨l1, l2, _⟩ := lits
  unfold lnSt
  simp only [Str.length_append]
  omega
theorem lnIn_len (v : ValidN D) {p : Str × Str} (h : p ∈ D.ins) : (lnIn p).length ≤ 64 := by
  obtain ⟨a, b⟩ := v.inm p h
  have a' := name_len a
  have b' := v.nl b
  obtain ⟨_, l2, l3, _⟩ := lits
  unfold lnIn
  simp only [Str.length_append]
  omega
theorem lnLd_len (v : ValidN D) {s : Str} (h : s ∈ D.ld) : (lnLd s).length ≤ 64 := by
  have b' := v.nl (v.ldm s h)
  obtain ⟨_, _, _, l4, _⟩ := lits
  unfold lnLd
  simp only [Str.length_append]
  omega
theorem lnRu_len (v : ValidN D) {r : S4} (h : r ∈ D.ru) : (lnRu r).length ≤ 64 := by
  obtain ⟨m1, m2, m3, m4⟩ := v.rum r h
  have a1 := v.nl m1
  have a2 := v.nl m2
  have a3 := v.nl m3
  have a4 := v.nl m4
  obtain ⟨_, l2, _, _, l5, l6, _⟩ := lits
  unfold lnRu
  simp only [Str.length_append]
  omega
theorem zip_mem {α β : Type} {l : List α} {m : List β} {p : α × β} (h : p ∈ l.zip m) : p.1 ∈ l ∧ p.2 ∈ m := ⟨(List.of_mem_zip (a := p.1) (b := p.2) h).1, (List.of_mem_zip (a := p.1) (b := p.2) h).2⟩
theorem lines_len (v : ValidN D) {y : Str} (h : y ∈ linesOf D) : y.length ≤ 64 := by
  unfold linesOf at h
  simp only [List.mem_append, List.mem_map] at h
  rcases h with ((⟨p, hp, rfl⟩ | ⟨p, hp, rfl⟩) | ⟨s, hs, rfl⟩) | ⟨r, hr, rfl⟩
  · exact lnSt_len v (zip_mem hp).1 (zip_mem hp).2
  · exact lnIn_len v hp
  · exact lnLd_len v hs
  · exact lnRu_len v hr
theorem lines_n (v : ValidN D) : (linesOf D).length ≤ 418 + D.ru.length := by
  unfold linesOf
  simp only [List.length_append, List.length_map, List.length_zip]
  have a := v.n400
  have b := v.n8
  have c := v.n10
  omega
theorem sum_le (l : List Str) (k : Nat) (h : ∀ y ∈ l, y.length ≤ k) : (l.map (·.length)).sum ≤ k * l.length := by
  induction l with
  | nil => simp
  | cons y l ih =>
    have h1 := h y List.mem_cons_self
    have h2 := ih fun z hz => h z (List.mem_cons_of_mem _ hz)
    rw [List.map_cons, List.sum_cons, List.length_cons, Nat.mul_succ]
    omega
theorem join_fits (v : ValidN D) (hr : D.ru.length ≤ 200000) : ((linesOf D).map (·.length)).sum + (linesOf D).length * (Str.ofString "\n").length ≤ 16777216 := by
  have a := sum_le (linesOf D) 64 fun y hy => lines_len v hy
  have b := lines_n v
  obtain ⟨_, _, _, _, _, _, l7⟩ := lits
  rw [l7]
  omega
end
end Vf
namespace Vf
open PySem L2
def DD.rev (D : DD) : DD := ⟨D.st, D.ins.reverse, D.ld.reverse, D.ru.reverse, D.ou⟩
theorem ValidN.rev {D : DD} (v : ValidN D) : ValidN D.rev where
  len := v.len
  n400 := v.n400
  nm := v.nm
  nd := v.nd
  ou := v.ou
  n8 := by
    show D.ins.reverse.length ≤ 8
    rw [List.length_reverse]
    exact v.n8
  inm := fun p hp => v.inm p (List.mem_reverse.mp hp)
  ind := by
    have pm := ((List.reverse_perm D.ins).map (·.1)).nodup_iff
    exact pm.mpr v.ind
  n10 := by
    show D.ld.reverse.length ≤ 10
    rw [List.length_reverse]
    exact v.n10
  ldm := fun s hs => v.ldm s (List.mem_reverse.mp hs)
  rum := fun r hr => v.rum r (List.mem_reverse.mp hr)
  rnd := by
    have pm := ((List.reverse_perm D.ru).map fun x : S4 => (x.1, x.2.1)).nodup_iff
    exact pm.mpr v.rnd
theorem ValidN.nil : ValidN DD.nil where
  len := rfl
  n400 := Nat.zero_le _
  nm := fun s hs => absurd hs List.not_mem_nil
  nd := List.nodup_nil
  ou := fun s hs => absurd hs List.not_mem_nil
  n8 := Nat.zero_le _
  inm := fun s hs => absurd hs List.not_mem_nil
  ind := List.nodup_nil
  n10 := Nat.zero_le _
  ldm := fun s hs => absurd hs List.not_mem_nil
  rum := fun s hs => absurd hs List.not_mem_nil
  rnd := List.nodup_nil
theorem text_nil : textOf DD.nil = Str.ofString "" := by decide +kernel
end Vf
namespace Vf
open PySem L2
theorem none_put {H : Hp} {a x : Addr} {o : HO} (h : H x = none) (ne : x ≠ a) : upd H a o x = none := by
  rw [upd_ne ne]
  exact h
end Vf

namespace Vf
open PySem PySem.W PySem.Spec PyProof.Rows L2
/-! ### min(xs, default=d) of whole numbers -/
theorem least_ok : ∀ (zs : List Int) (z : Int), PySem.W.minOf z zs ∈ z :: zs ∧ ∀ q ∈ z :: zs, PySem.W.minOf z zs ≤ q
  | [], z => ⟨List.mem_singleton.mpr rfl, fun q hq => by
      have e : q = z := by simpa using hq
      rw [e]
      exact Int.le_refl _⟩
  | y :: r, z => by
    have step : PySem.W.minOf z (y :: r) = PySem.W.minOf (if y < z then y else z) r := by
      unfold PySem.W.minOf
      rw [List.foldl_cons]
      congr 1
      by_cases c : y < z
      · simp [DatumOrd.lt, c]
      · simp [DatumOrd.lt, c]
    obtain ⟨m1, m2⟩ := least_ok r (if y < z then y else z)
    rw [step]
    have low := m2 _ (List.mem_cons_self ..)
    refine ⟨?_, fun q hq => ?_⟩
    · rcases List.mem_cons.mp m1 with e | e
      · rw [e]
        by_cases c : y < z
        · rw [if_pos c]; simp
        · rw [if_neg c]; simp
      · exact List.mem_cons_of_mem _ (List.mem_cons_of_mem _ e)
    · rcases List.mem_cons.mp hq with e | e
      · rw [e]
        by_cases c : y < z
        · rw [if_pos c] at low ⊢; omega
        · rw [if_neg c] at low ⊢; omega
      · rcases List.mem_cons.mp e with e | e
        · rw [e]
          by_cases c : y < z
          · rw [if_pos c] at low ⊢; omega
          · rw [if_neg c] at low ⊢; omega
        · exact m2 q (List.mem_cons_of_mem _ e)
def rLeastD (K : PySem.W.Frag) : List V → List V → Hp → VK → Prop := fun vs zs H Q => ∃ (a : Addr) (ns : List Int) (d : Int), vs = [V.ref a] ∧ zs = [V.int d] ∧ (SqL K H a (ns.map V.int) ∨ SqT K H a (ns.map V.int)) ∧
  ∀ m : Int, (ns = [] ∧ m = d ∨ m ∈ ns ∧ ∀ y ∈ ns, m ≤ y) → Q (.int m) H
theorem ints_at : ∀ {its : List Value} {ns : List Int} {i : Nat} {v : Value}, IntsAre its ns → its[i]? = some v → ∃ (n : Int) (t : Tok), v = .int n t
  | _, _, i, v, .nil, e => by simp at e
  | _, _, 0, v, .cons n t _, e => by
    have e' : Value.int n t = v := by simpa using e
    exact ⟨n, t, e'.symm⟩
  | _, _, i + 1, v, .cons n t r, e => ints_at (i := i) r (by simpa using e)
theorem holds_only {h : Heap} {n m : Int} {t : Tok} (q : PySem.W.Holds h (Value.int n t) m) : n = m := by
  obtain ⟨as, r⟩ := q
  cases r
  rfl
theorem cr_leastD {X : Cx} (hu : X.A.units + 64 < cLine) (hc : X.calm = true := by rfl) : CallRK X (.builtin "min") [Str.ofString "default"] (rLeastD X.K) := by
  intro pins s σ H vs zs us ws Q I r rz h
  obtain ⟨a, ns, d, rfl, rfl, both, q⟩ := h
  obtain rfl := Vals.ref1 r
  obtain ⟨w1, rfl, e1⟩ := vals1 rz
  obtain ⟨tk0, rfl⟩ : ∃ tk, w1 = Value.int d tk := e1
  have room : X.A.units + 1 + Datum.depth Int < cLine := by
    show X.A.units + 1 + 0 < cLine
    omega
  have non : ∀ h' tk, ns = [] → (∀ b o, s.heap.get? b = some o → h'.get? b = some o) → EP X pins σ Q (Value.int d tk0) { s with heap := h', toks := tk } := fun h' tk e k =>
    ⟨.int d, H, I.kept (t' := tk) k, ⟨tk0, rfl⟩, q d (.inl ⟨e, rfl⟩)⟩
  have one : ∀ (its : List Value) (y : Int) (ys : List Int) (i : Nat) v h' tk, IntsAre its ns → ns = y :: ys → its.toArray[i]? = some v → PySem.W.Holds h' v (PySem.W.minOf y ys) → (∀ b o, s.heap.get? b = some o → h'.get? b = some o) →
      EP X pins σ Q v { s with heap := h', toks := tk } := fun its y ys i v h' tk ia e hv hh k => by
    obtain ⟨n, t, rfl⟩ := ints_at (i := i) ia (by simpa using hv)
    have en := holds_only hh
    obtain ⟨f1, f2⟩ := least_ok ys y
    refine ⟨.int n, H, I.kept (t' := tk) k, ⟨t, rfl⟩, q n (.inr ?_)⟩
    rw [en, e]
    exact ⟨f1, f2⟩
  rcases both with hs | hs
  · obtain ⟨its, rv, hl, _⟩ := I.list hs
    exact PySem.W.min_list_datum_default (I.ok.hd hc) hl.isList (.of_ints rv.ints) room (fun e h' tk k => non h' tk e k) fun y ys i v h' tk e hv hh k => one its y ys i v h' tk rv.ints e hv hh k
  · obtain ⟨its, rv, hl, _⟩ := I.tuple hs
    exact PySem.W.min_tuple_datum_default (I.ok.hd hc) hl (.of_ints rv.ints) room (fun e h' tk k => non h' tk e k) fun y ys i v h' tk e hv hh k => one its y ys i v h' tk rv.ints e hv hh k
/-! ### the item of a list, for xs[i] += e -/
def rItemL (K : PySem.W.Frag) : V → V → Hp → VK → Prop := fun x y H Q => ∃ (p : Addr) (xs : List V) (i : Int) (z : V), x = V.ref p ∧ y = V.int i ∧ SqL K H p xs ∧ 0 ≤ i ∧ xs[i.toNat]? = some z ∧ Q z H
theorem get_listM {X : Cx} : PGet X (rItemL X.K) := by
  intro pins s σ H o i ov iv Q I ro ri h
  obtain ⟨p, xs, k, z, rfl, rfl, hs, h0, hz, q⟩ := h
  cases ro
  obtain ⟨t, rfl⟩ := ri
  obtain ⟨its, rv, hl, hb⟩ := I.list hs
  obtain ⟨u, hu, ru⟩ := rv.get hz
  have hlt := (List.getElem?_eq_some_iff.mp hz).1
  have big := line63
  exact wpAny_getItem_list hl.isList h0 (by omega) (by simpa using hu) ⟨z, H, I, ru, q⟩
end Vf

/-! ### zip of a tuple and a list -/
namespace Vf
open PySem PySem.Spec PyProof.Rows L2
def ItzM (K : PySem.W.Frag) (a b : Addr) : It where
  go := fun i H => ∃ (xs ys : List V) (x y : V), (SqT K H a xs ∧ SqL K H b ys) ∧ xs[i]? = some x ∧ ys[i]? = some y
  yld := fun i H v H' => ∃ (T : Addr) (x y : V), (v = .ref T ∧ H T = none ∧ H' = upd H T (.tup [x, y])) ∧ (∀ l, SqT K H a l → l[i]? = some x) ∧ (∀ l, SqL K H b l → l[i]? = some y)
  stop := fun i H => ∃ xs ys : List V, (SqT K H a xs ∧ SqL K H b ys) ∧ i ≤ xs.length ∧ i ≤ ys.length ∧ (i = xs.length ∨ i = ys.length)
/-- the iterator's own state -/
def StM (z TI TO i1 i2 a b : Addr) (i : Nat) (h : Heap) : Prop := IsZip h z TI TO .none ∧ IsPair h TI (.ref i1) (.ref i2) ∧ (∃ u v, IsPair h TO u v) ∧ h.IsTupleIter i1 a i ∧ h.IsListIter i2 b i
theorem five {c z TI TO i1 i2 : Addr} (h : c ∈ [z, TI, TO, i1, i2]) : c = z ∨ c = TI ∨ c = TO ∨ c = i1 ∨ c = i2 := by simpa using h
theorem StM.lt {z TI TO i1 i2 a b c : Addr} {i : Nat} {h : Heap} (S : StM z TI TO i1 i2 a b i h) (hc : c ∈ [z, TI, TO, i1, i2]) : c < h.objs.size := by
  obtain ⟨s1, s2, ⟨u, v, s3⟩, ⟨o1, s4, _⟩, ⟨o2, s5, _⟩⟩ := S
  rcases five hc with e | e | e | e | e <;> subst e
  · exact Heap.lt_size s1
  · exact Heap.lt_size s2
  · exact Heap.lt_size s3
  · exact Heap.lt_size s4
  · exact Heap.lt_size s5
section
variable {P : Program} {w : World} {K : PySem.W.Frag} {a b z TI TO i1 i2 : Addr}
theorem sepM (D : ZipApart z TI TO i1 i2 a b) : ZipSep2 z TI TO i1 i2 [i1, a] [i2, b] where
  TIz := D.TIz
  TOz := D.TOz
  TITO := D.TITO
  TIi1 := D.TIi1
  TIi2 := D.TIi2
  mem1 := List.mem_cons_self ..
  mem2 := List.mem_cons_self ..
  zf1 := by simp [Ne.symm D.i1z, Ne.symm D.l1z]
  zf2 := by simp [Ne.symm D.i2z, Ne.symm D.l2z]
  Tf1 := by simp [D.TOi1, Ne.symm D.l1TO]
  Tf2 := by simp [D.TOi2, Ne.symm D.l2TO]
  sep1_2 := by simp [D.i12, Ne.symm D.l2i1]
  sep2_1 := by simp [Ne.symm D.i12, Ne.symm D.l1i2]
theorem turn_zipM {elts : List Expr} {kk : Nat} {tpos : Pos} (D : ZipApart z TI TO i1 i2 a b) : Turn P w K (.Tuple elts kk tpos) (ItzM K a b) [z, TI, TO, i1, i2] z (StM z TI TO i1 i2 a b) where
  mem := List.mem_cons_self ..
  self := fun A i s Q E S q => wpAny_pyIter_zip S.1 q
  keep := by
    rintro i h h' ⟨s1, s2, ⟨u, v, s3⟩, s4, s5⟩ k
    exact ⟨k _ (by simp) _ s1, k _ (by simp) _ s2, ⟨u, v, k _ (by simp) _ s3⟩, s4.at fun o => k _ (by simp) o, s5.at fun o => k _ (by simp) o⟩
  obj := by
    rintro i h ⟨s1, s2, ⟨u, v, s3⟩, ⟨o1, s4, _, t4⟩, ⟨o2, s5, _, t5⟩⟩ c hc
    rcases five hc with e | e | e | e | e <;> subst e
    · exact ⟨_, s1, nofun⟩
    · exact ⟨_, s2, nofun⟩
    · exact ⟨_, s3, nofun⟩
    · refine ⟨o1, s4, fun v' e => ?_⟩
      rw [t4] at e
      cases e
    · refine ⟨o2, s5, fun v' e => ?_⟩
      rw [t5] at e
      cases e
  item := by
    rintro X rfl rfl rfl hc i pins s σ H E I hf S ⟨xs, ys, x, y, ⟨hqx, hqy⟩, hx, hy⟩
    have hlt := fun c hc => StM.lt (c := c) S hc
    obtain ⟨s1, s2, ⟨u0, v0, s3⟩, s4, s5⟩ := S
    obtain ⟨us, rx, px, _⟩ := I.tuple hqx
    obtain ⟨vs, ry, py, _⟩ := I.list hqy
    obtain ⟨u, hu, ru⟩ := rx.get hx
    obtain ⟨v, hv, rv⟩ := ry.get hy
    have nh : X.A.in1.handled = none := I.ok.hd hc
    have lx := (List.getElem?_eq_some_iff.mp hu).1
    have ly := (List.getElem?_eq_some_iff.mp hv).1
    refine wpAny_pyNext_zipD2_item (sepM D) (Draws.tuple nh i1 a D.l1i1 us.toArray) (Draws.list nh i2 b D.l2i2 vs.toArray) s1 s2 s3 ⟨s4, px⟩ ⟨s5, py.isList⟩ (by simpa using lx) (by simpa using ly)
      fun x1 x2 g tk e1 e2 g1 g2 g3 g4 g5 _ gk => ?_
    obtain rfl : u = x1 := by
      have e := e1
      simp only [List.getElem?_toArray] at e
      rw [hu] at e
      exact Option.some.inj e
    obtain rfl : v = x2 := by
      have e := e2
      simp only [List.getElem?_toArray] at e
      rw [hv] at e
      exact Option.some.inj e
    refine ⟨_, rfl, ?_⟩
    refine wpAny_letOwnedTupleGo_zip (s := { s with heap := g, toks := tk }) g1 fun g' z' sb => ?_
    have zlt := hlt z (by simp)
    have got : g'.get? s.heap.objs.size = some { cls := .type "tuple", data := .seq #[u, v] } := (sb.2 _ (Nat.ne_of_gt zlt)).trans g5
    have fresh : H s.heap.objs.size = none := I.hok.fresh (Nat.le_refl _)
    have made : ObjOk X.prog X.w (upd H s.heap.objs.size (.tup [x, y])) g' s.heap.objs.size (.tup [x, y]) := by
      refine ⟨?_, [u, v], .cons ru (.cons rv .nil), ⟨_, got, rfl, _, rfl⟩⟩
      show 2 ≤ sizeLine
      decide
    have stay : ∀ c o, c ∉ [z, TI, TO, i1, i2] → s.heap.get? c = some o → g'.get? c = some o := fun c o n q => by
      have n1 : c ≠ z := fun e => n (by simp [e])
      have n2 : c ≠ TO := fun e => n (by simp [e])
      have n3 : c ≠ i1 := fun e => n (by simp [e])
      have n4 : c ≠ i2 := fun e => n (by simp [e])
      exact (sb.2 c n1).trans (gk c o n1 n2 n3 n4 q)
    refine ⟨.ref s.heap.objs.size, upd H s.heap.objs.size (.tup [x, y]), I.turnedNew (t' := tk) (ch := [z, TI, TO, i1, i2]) stay hf (Nat.le_refl _) made, rfl, ?_, ?_, ?_⟩
    · refine ⟨_, x, y, ⟨rfl, fresh, rfl⟩, fun l hl => ?_, fun l hl => ?_⟩
      · rw [I.tuple_inj hl hqx]; exact hx
      · rw [I.list_inj hl hqy]; exact hy
    · refine ⟨z', ?_, ⟨u, v, (sb.2 _ D.TOz).trans g2⟩, g3.1.at fun o q => (sb.2 _ D.i1z).trans q, g4.1.at fun o q => (sb.2 _ D.i2z).trans q⟩
      exact (sb.2 _ D.TIz).trans (gk _ _ D.TIz D.TITO D.TIi1 D.TIi2 s2)
    · intro c hcm
      rw [upd_ne (Nat.ne_of_lt (hlt c hcm))]
      exact (hf c hcm).1
  done := by
    rintro X rfl rfl rfl hc i pins s σ H E I hf ⟨s1, s2, ⟨u0, v0, s3⟩, s4, s5⟩ ⟨xs, ys, ⟨hqx, hqy⟩, l1, l2, l3⟩
    obtain ⟨us, rx, px, _⟩ := I.tuple hqx
    obtain ⟨vs, ry, py, _⟩ := I.list hqy
    have nh : X.A.in1.handled = none := I.ok.hd hc
    rw [rx.length] at l1 l3
    rw [ry.length] at l2 l3
    refine wpAny_pyNext_zipD2_end (sepM D) (Draws.tuple nh i1 a D.l1i1 us.toArray) (Draws.list nh i2 b D.l2i2 vs.toArray) s1 s2 s3 ⟨s4, px⟩ ⟨s5, py.isList⟩ (by simpa using l1) (by simpa using l2) (by simpa using l3) fun g tk gk => ⟨rfl, ?_⟩
    refine I.turnedL (t' := tk) (ch := [z, TI, TO, i1, i2]) (fun c o n q => ?_) hf
    exact gk c o (fun e => n (by simp [e])) (fun e => n (by simp [e])) (fun e => n (by simp [e])) (fun e => n (by simp [e])) q
end
/-! the making of it -/
def zm1 (h : Heap) (a : Addr) : Heap := h.push { cls := .type "tuple_iterator", data := .fields #[.ref a, .int 0 0] }
def zm2 (h : Heap) (a b : Addr) : Heap := (zm1 h a).push { cls := .type "list_iterator", data := .fields #[.ref b, .int 0 0] }
def zm3 (h : Heap) (a b : Addr) : Heap := (zm2 h a b).push { cls := .type "tuple", data := .seq #[.ref h.objs.size, .ref (zm1 h a).objs.size] }
def zm4 (h : Heap) (a b : Addr) : Heap := (zm3 h a b).push { cls := .type "tuple", data := .seq #[.none, .none] }
def zm5 (h : Heap) (a b : Addr) : Heap := (zm4 h a b).push { cls := .type "zip", data := .fields #[.none, .bool false, .bool false, .ref (zm2 h a b).objs.size, .ref (zm3 h a b).objs.size] }
theorem meets_zipM (a b : Addr) (xs ys : Array Value) : Meets (Builtin.«zip.__new__» ⟨[.type "zip", .ref a, .ref b], []⟩)
    fun _ R s => s.heap.IsTuple a xs ∧ s.heap.IsList b ys ∧ R (.ok (.ret (.ref (zm4 s.heap a b).objs.size))) { s with heap := zm5 s.heap a b } := by
  refine .of_wp fun prog w A R s h => ?_
  obtain ⟨hp, gs, dr, tk, os⟩ := s
  obtain ⟨ha, hb, h⟩ := h
  have sub := sub_zip
  have ita : Heap.IsTuple (Shared.heap ⟨hp, gs, dr, tk, os⟩) a xs := ha
  have itb : Heap.IsList (Shared.heap ⟨hp.push { cls := .type "tuple_iterator", data := .fields #[.ref a, .int 0 0] }, gs, dr, tk, os⟩) b ys := Heap.IsList.push hb _
  wp_walk using wpAny_pyIter_tuple ita, wpAny_pyIter_list itb
  exact ⟨_, rfl, h⟩
theorem call_zipM {prog : Program} {w : World} {A : Around} {E : Value → Shared → Prop} {s : Shared} {a b : Addr} {xs ys : Array Value} {Q : Value → Shared → Prop} (ha : s.heap.IsTuple a xs) (hb : s.heap.IsList b ys)
    (q : ∀ g, StM (s.heap.objs.size + 4) (s.heap.objs.size + 2) (s.heap.objs.size + 3) s.heap.objs.size (s.heap.objs.size + 1) a b 0 g → (∀ c o, s.heap.get? c = some o → g.get? c = some o) → Q (.ref (s.heap.objs.size + 4)) { s with heap := g }) :
    wpAny (model prog w) A (call (.type "zip") [.ref a, .ref b]) Q E s := by
  have n1 : (zm1 s.heap a).objs.size = s.heap.objs.size + 1 := Heap.size_push ..
  have n2 : (zm2 s.heap a b).objs.size = s.heap.objs.size + 2 := (Heap.size_push ..).trans (by rw [n1])
  have n3 : (zm3 s.heap a b).objs.size = s.heap.objs.size + 3 := (Heap.size_push ..).trans (by rw [n2])
  have n4 : (zm4 s.heap a b).objs.size = s.heap.objs.size + 4 := (Heap.size_push ..).trans (by rw [n3])
  have u1 : ∀ {c o}, s.heap.get? c = some o → (zm1 s.heap a).get? c = some o := fun e => Heap.get?_push_of_some _ e
  have u2 : ∀ {c o}, (zm1 s.heap a).get? c = some o → (zm2 s.heap a b).get? c = some o := fun e => Heap.get?_push_of_some _ e
  have u3 : ∀ {c o}, (zm2 s.heap a b).get? c = some o → (zm3 s.heap a b).get? c = some o := fun e => Heap.get?_push_of_some _ e
  have u4 : ∀ {c o}, (zm3 s.heap a b).get? c = some o → (zm4 s.heap a b).get? c = some o := fun e => Heap.get?_push_of_some _ e
  have u5 : ∀ {c o}, (zm4 s.heap a b).get? c = some o → (zm5 s.heap a b).get? c = some o := fun e => Heap.get?_push_of_some _ e
  have k1 : (zm1 s.heap a).get? s.heap.objs.size = some { cls := .type "tuple_iterator", data := .fields #[.ref a, .int 0 0] } := Heap.get?_push_size _ rfl
  have k2 : (zm2 s.heap a b).get? (s.heap.objs.size + 1) = some { cls := .type "list_iterator", data := .fields #[.ref b, .int 0 0] } := by
    rw [← n1]; exact Heap.get?_push_size _ rfl
  have k3 : (zm3 s.heap a b).get? (s.heap.objs.size + 2) = some { cls := .type "tuple", data := .seq #[.ref s.heap.objs.size, .ref (zm1 s.heap a).objs.size] } := by
    rw [← n2]; exact Heap.get?_push_size _ rfl
  have k4 : (zm4 s.heap a b).get? (s.heap.objs.size + 3) = some { cls := .type "tuple", data := .seq #[.none, .none] } := by
    rw [← n3]; exact Heap.get?_push_size _ rfl
  have k5 : (zm5 s.heap a b).get? (s.heap.objs.size + 4) = some { cls := .type "zip", data := .fields #[.none, .bool false, .bool false, .ref (zm2 s.heap a b).objs.size, .ref (zm3 s.heap a b).objs.size] } := by
    rw [← n4]; exact Heap.get?_push_size _ rfl
  rw [n1] at k3
  rw [n2, n3] at k5
  refine callType_new F.called_zip (by decide) (F.typeCall_zip_2 _ _) (F.newCall_zip_2 _ _) (fun obj => F.args_object_init_3 obj _ _) F.entry_zip_new (meets_zipM a b xs ys) ⟨ha, hb, ?_⟩
  show _ ∧ _
  rw [n4]
  exact ⟨⟨_, k5, rfl⟩, q _ ⟨k5, u5 (u4 k3), ⟨_, _, u5 k4⟩, ⟨_, u5 (u4 (u3 (u2 k1))), rfl, rfl⟩, ⟨_, u5 (u4 (u3 k2)), rfl, rfl⟩⟩ fun c o e => u5 (u4 (u3 (u2 (u1 e))))⟩
def iZipM (K : PySem.W.Frag) (ta : TA) : TI := fun σ H R => ta σ H fun vs H1 => ∃ (a b : Addr) (xs ys : List V), vs = [.ref a, .ref b] ∧ (SqT K H1 a xs ∧ SqL K H1 b ys) ∧ R (ItzM K a b) H1
theorem pi_zipM {X : Cx} {e e2 : Expr} {ta : TA} {p pos tpos : Pos} {elts : List Expr} {kk : Nat} (hg : Gl X "zip") (hm : X.mg "zip" = none) (ha : PA X [e, e2] ta)
    (hs : starEach [e, e2] X.env = (false, eval e X.env) :: starEach [e2] X.env := by rfl) (hpl : (backTo pos (starEach [e2] X.env)).any (·.1) = false := by rfl) :
    PI X (.Tuple elts kk tpos) (.Call (.Name "zip" p) [e, e2] [] pos) (iZipM X.K ta) := by
  constructor
  intro pins s σ H R I h
  refine Call_ (ld_blt I hg hm PyProof.Rows.boot_zip (PyProof.Rows.callWith_type1 (thn (ha.run pos pins s σ H _ I h) fun us s1 got => ?_) hs hpl))
  obtain ⟨vs, H1, I1, r1, a, b, xs, ys, rfl, ⟨hqx, hqy⟩, q⟩ := got
  obtain ⟨u1, r2, rfl, e1, r3⟩ : ∃ u r2, us = u :: r2 ∧ RelV (.ref a) u ∧ Vals [.ref b] r2 := by
    cases r1 with
    | cons x y => exact ⟨_, _, rfl, x, y⟩
  obtain rfl := Vals.ref1 r3
  obtain rfl : u1 = Value.ref a := e1
  obtain ⟨its, _, px, _⟩ := I1.tuple hqx
  obtain ⟨its2, _, py, _⟩ := I1.list hqy
  obtain ⟨o1, w1, _⟩ := id px
  refine call_zipM (xs := its.toArray) (ys := its2.toArray) px py.isList fun g S gk => wpAny_pyIter_zip S.1 ?_
  refine ⟨_, [s1.heap.objs.size + 4, s1.heap.objs.size + 2, s1.heap.objs.size + 3, s1.heap.objs.size, s1.heap.objs.size + 1], StM _ _ _ _ _ a b, ItzM X.K a b, H1, rfl, I1.kept (t' := s1.toks) gk,
    turn_zipM (PySem.W.ktu_apart s1.heap.objs.size a b (Heap.lt_size w1) py.lt), S, fun c hc => ?_, q⟩
  have le : s1.heap.objs.size ≤ c := by
    rcases five hc with e | e | e | e | e <;> rw [e]
    · exact Nat.le_add_right _ 4
    · exact Nat.le_add_right _ 2
    · exact Nat.le_add_right _ 3
    · exact Nat.le_refl _
    · exact Nat.le_add_right _ 1
  exact I1.fpOk le (I1.hok.fresh le)
theorem for_zipM {K : PySem.W.Frag} {a b : Addr} {xs ys : List V} {g : TG} {tb : TS} {D : Ends} {σ : L2.St} {H : Hp} (hl : xs.length = ys.length) (Pv : Nat → L2.St → Hp → Prop) (h0 : Pv 0 σ H) (hq : ∀ i σ H, Pv i σ H → SqT K H a xs ∧ SqL K H b ys)
    (hs : ∀ (i : Nat) (x y : V) (T : Addr) (σ : L2.St) (H : Hp), xs[i]? = some x → ys[i]? = some y → Pv i σ H → H T = none → g (.ref T) σ (upd H T (.tup [x, y])) fun σ2 H2 => tb { D with nx := Pv (i + 1), ct := Pv (i + 1), bk := D.nx } σ2 H2)
    (hd : ∀ σ H, Pv xs.length σ H → D.nx σ H) :
    ∃ W : Nat → Nat → L2.St → Hp → Prop, (∃ m, W 0 m σ H) ∧ ∀ i m σ H, W i m σ H →
      ((ItzM K a b).stop i H ∧ D.nx σ H) ∨ ((ItzM K a b).go i H ∧ ∃ N : L2.St → Hp → Prop, (∀ σ' H', N σ' H' → ∃ m', m' < m ∧ W (i + 1) m' σ' H') ∧ ∀ v H', (ItzM K a b).yld i H v H' → g v σ H' fun σ2 H2 => tb { D with nx := N, ct := N, bk := D.nx } σ2 H2) := by
  refine ⟨fun i m σ H => i + m = xs.length ∧ Pv i σ H, ⟨_, Nat.zero_add _, h0⟩, ?_⟩
  rintro i m σ H ⟨e, p⟩
  have both := hq i σ H p
  cases m with
  | zero =>
    have e' : i = xs.length := e
    subst e'
    exact .inl ⟨⟨xs, ys, both, Nat.le_refl _, Nat.le_of_eq hl, .inl rfl⟩, hd σ H p⟩
  | succ m =>
    have l1 : i < xs.length := by omega
    have l2 : i < ys.length := by omega
    refine .inr ⟨⟨xs, ys, _, _, both, List.getElem?_eq_getElem l1, List.getElem?_eq_getElem l2⟩, Pv (i + 1), fun σ' H' p' => ⟨m, Nat.lt_succ_self m, by omega, p'⟩, ?_⟩
    rintro v H' ⟨T, x, y, ⟨rfl, hT, rfl⟩, f1, f2⟩
    exact hs i x y T σ H (f1 xs both.1) (f2 ys both.2) p hT
end Vf

namespace Vf
open PySem PySem.W PySem.Spec PyProof.Rows L2
/-! ### == of lists of ints, and of tuples of ints -/
theorem dpAll_ints {K : PySem.W.Frag} {H : Hp} : ∀ ns : List Int, DpAll K H (ns.map V.int) (ns.map PyData.int)
  | [] => .nil
  | n :: r => .cons (.int n) (dpAll_ints r)
theorem shapedT_ints (ns : List Int) : SeqAt.shaped (.tuple (ns.map PyData.int)) = true := by
  have e : SeqAt.shaped (.tuple (ns.map PyData.int)) = SeqAt.shaped (.list (ns.map PyData.int)) := by
    unfold SeqAt.shaped
    simp only [PyData.canLay0, PyData.depth]
    rfl
  rw [e]
  exact PySem.W.shaped_ints ns
/-- two lists of ints, or two tuples of ints -/
def TwoInts (K : PySem.W.Frag) (H : Hp) (x y : V) (ns ms : List Int) : Prop := ∃ a b : Addr, x = .ref a ∧ y = .ref b ∧ ((SqL K H a (ns.map V.int) ∧ SqL K H b (ms.map V.int)) ∨ (SqT K H a (ns.map V.int) ∧ SqT K H b (ms.map V.int)))
theorem TwoInts.dp {K : PySem.W.Frag} {H : Hp} {x y : V} {ns ms : List Int} (t : TwoInts K H x y ns ms) : ∃ d e, Dp K H x d ∧ Dp K H y e ∧ SeqAt.shaped d = true ∧ SeqAt.shaped e = true ∧ PyData.eqv d e = decide (ns = ms) := by
  obtain ⟨a, b, rfl, rfl, ⟨h1, h2⟩ | ⟨h1, h2⟩⟩ := t
  · exact ⟨_, _, .lst h1 (dpAll_ints ns), .lst h2 (dpAll_ints ms), PySem.W.shaped_ints ns, PySem.W.shaped_ints ms, PySem.W.Datum.eqv (α := List Int) ns ms⟩
  · refine ⟨_, _, .tup h1 (dpAll_ints ns), .tup h2 (dpAll_ints ms), shapedT_ints ns, shapedT_ints ms, ?_⟩
    refine (PySem.W.Datum.eqv (α := PySem.W.Tup Int) ⟨ns⟩ ⟨ms⟩).trans (decide_eq_decide.mpr ⟨fun e => congrArg PySem.W.Tup.items e, fun e => by rw [e]⟩)
def rEqIs (K : PySem.W.Frag) : R2 := fun x y H Q => ∃ ns ms : List Int, TwoInts K H x y ns ms ∧ Q (.bl (decide (ns = ms))) H
def rNeIs (K : PySem.W.Frag) : R2 := fun x y H Q => ∃ ns ms : List Int, TwoInts K H x y ns ms ∧ Q (.bl (!decide (ns = ms))) H
theorem op_eqIs {X : Cx} (hu : X.A.units + 64 < cLine) : OpR X (compareOp .Eq) (rEqIs X.K) := by
  rintro pins s σ H x y v u Q I rx ry ⟨ns, ms, t, q⟩
  obtain ⟨d, e, h1, h2, h3, h4, h5⟩ := t.dp
  exact op_eqD hu pins s σ H x y v u Q I rx ry ⟨d, e, h1, h2, h3, h4, by rw [h5]; exact q⟩
theorem op_neIs {X : Cx} (hu : X.A.units + 64 < cLine) : OpR X (compareOp .NotEq) (rNeIs X.K) := by
  rintro pins s σ H x y v u Q I rx ry ⟨ns, ms, t, q⟩
  obtain ⟨d, e, h1, h2, h3, h4, h5⟩ := t.dp
  exact op_neD hu pins s σ H x y v u Q I rx ry ⟨d, e, h1, h2, h3, h4, by rw [h5]; exact q⟩
/-! ### an item of a list or of a tuple -/
def rIxS (K : PySem.W.Frag) : R2 := fun x y H Q => ∃ (p : Addr) (xs : List V) (i : Int) (z : V), x = .ref p ∧ y = .int i ∧ (SqL K H p xs ∨ SqT K H p xs) ∧ atI xs i = some z ∧ Q z H
theorem ix_seq {X : Cx} : IxR X (rIxS X.K) := by
  rintro value slice pins s σ H x y v u Q I rx ry ⟨p, xs, i, z, e1, e2, hl | ht, hz, q⟩ hs
  · exact ix_list value slice pins s σ H x y v u Q I rx ry ⟨p, xs, i, z, e1, e2, hl, hz, q⟩ hs
  · exact ix_tup value slice pins s σ H x y v u Q I rx ry ⟨p, xs, i, z, e1, e2, ht, hz, q⟩ hs
/-! ### catching -/
theorem takesN {X : Cx} : Takes X (fun _ _ _ _ => False) := takes0
theorem neq_none {H : Hp} {a b : Addr} {o : HO} (h : H a = some o) (n : H b = none) : a ≠ b := fun e => by
  rw [e, n] at h
  cases h
/-! ### a heap without one object -/
def Er (p : Addr) (H : Hp) : Hp := fun a => if a = p then none else H a
theorem er_self {p : Addr} {H : Hp} : Er p H p = none := if_pos rfl
theorem er_ne {p a : Addr} {H : Hp} {o o' : HO} (h : H a = some o) (hp : H p = some o') (n : o ≠ o') : Er p H a = some o := by
  unfold Er
  rw [if_neg fun e => ?_]
  · exact h
  · subst e
    rw [h] at hp
    exact n (Option.some.inj hp)
theorem er_some {p a : Addr} {H : Hp} {o : HO} (h : Er p H a = some o) : a ≠ p ∧ H a = some o := by
  unfold Er at h
  by_cases e : a = p
  · rw [if_pos e] at h; cases h
  · rw [if_neg e] at h; exact ⟨e, h⟩
theorem er_keep {p : Addr} {H H' : Hp} (k : Keep [p] H H') : Same (Er p H) H' := fun a o h => by
  obtain ⟨n, e⟩ := er_some h
  exact k a o (by simpa using n) e
theorem same_keep {p : Addr} {G H H' : Hp} (s : Same G H) (n : G p = none) (k : Keep [p] H H') : Same G H' := fun a o h => k a o (fun m => by
  rw [List.mem_singleton] at m
  rw [m, n] at h
  cases h) (s a o h)
/-! ### the pool of draws: a list of a list of ints and a place in it -/
def PoolX (H : Hp) (p d : Addr) (ds : List Int) (n : Int) : Prop := H p = some (.lst [.ref d, .int n]) ∧ H d = some (.lst (ds.map V.int)) ∧ d ≠ p ∧ ds.length = 160 ∧ ∀ x ∈ ds, 0 ≤ x ∧ x < 4096
def PoolAt (H : Hp) (p : Addr) (n : Int) : Prop := ∃ (d : Addr) (ds : List Int), PoolX H p d ds n
theorem PoolX.same {H H' : Hp} {p d : Addr} {ds : List Int} {n : Int} (P : PoolX H p d ds n) (e : Same H H') : PoolX H' p d ds n := ⟨e _ _ P.1, e _ _ P.2.1, P.2.2⟩
/-- the pool over what stays -/
theorem PoolX.over {G H H' : Hp} {p d : Addr} {ds : List Int} {n m : Int} (P : PoolX H p d ds n) (e : Same (Er p H) H') (h : H' p = some (.lst [.ref d, .int m])) : PoolX H' p d ds m :=
  ⟨h, e _ _ (show Er p H d = _ from (if_neg P.2.2.1).trans P.2.1), P.2.2⟩
section
variable {H : Hp} {p : Addr} {n : Int}
theorem PoolAt.tups {α : Type} {enc : α → List V} {xs : List V} {l : List α} (P : PoolAt H p n) (t : Tups enc H xs l) : Tups enc (Er p H) xs l := by
  obtain ⟨d, ds, h1, _⟩ := P
  exact t.mono fun a ys e => er_ne e h1 (by intro q; cases q)
theorem PoolAt.parts {q : Addr} {D : DD} (P : PoolAt H p n) (S : PartsAt H q D) : PartsAt (Er p H) q D := by
  obtain ⟨ls, li, ll, lr, lo, xi, xr, s0, s1, s2, t2, s3, s4, t4, s5⟩ := S
  have P' := P
  obtain ⟨d, ds, h1, _⟩ := P
  have nS : ∀ l : List Str, HO.lst (l.map V.str) ≠ .lst [.ref d, .int n] := fun l e => by
    cases l with
    | nil => cases e
    | cons a b => injection e with e; injection e with e _; cases e
  have nI : ∀ l : List Int, HO.lst (l.map V.int) ≠ .lst [.ref d, .int n] := fun l e => by
    cases l with
    | nil => cases e
    | cons a b => injection e with e; injection e with e _; cases e
  have nT : ∀ {α : Type} {enc : α → List V} {xs : List V} {l : List α}, Tups enc H xs l → HO.lst xs ≠ .lst [.ref d, .int n] := fun t e => by
    injection e with e
    subst e
    obtain ⟨_, t', _, q, _⟩ := t.get (i := 1) (x := .int n) rfl
    cases q
  exact ⟨ls, li, ll, lr, lo, xi, xr, er_ne s0 h1 (by intro q; cases q), er_ne s1 h1 (nS _), er_ne s2 h1 (nT t2), P'.tups t2, er_ne s3 h1 (nS _), er_ne s4 h1 (nT t4), P'.tups t4, er_ne s5 h1 (nI _)⟩
theorem PoolAt.book {C q : Addr} {a : RA} {D : DD} (P : PoolAt H p n) (S : BookAt C H q a D) : BookAt C (Er p H) q a D := by
  have P' := P
  obtain ⟨d, ds, h1, _⟩ := P
  have tup : ∀ t ys, H t = some (.tup ys) → Er p H t = some (.tup ys) := fun t ys e => er_ne e h1 (by intro q; cases q)
  obtain ⟨dx, h0⟩ := S.ob
  obtain ⟨x2, h2, T2⟩ := S.ins
  obtain ⟨x4, h4, T4⟩ := S.ru
  obtain ⟨kv, hd, R⟩ := S.dr
  obtain ⟨xs, rows, r1, r2, r3, r4, r5⟩ := S.rw
  refine ⟨⟨dx, er_ne h0 h1 (by intro q; cases q)⟩, tup _ _ S.st, ⟨x2, tup _ _ h2, P'.tups T2⟩, tup _ _ S.ld, ⟨x4, tup _ _ h4, P'.tups T4⟩, tup _ _ S.ou, er_ne S.dn h1 (by intro q; cases q), ⟨kv, er_ne hd h1 (by intro q; cases q), R.same tup⟩, ⟨xs, rows, tup _ _ r1, r2, fun i x e => ?_, r4, r5⟩⟩
  obtain ⟨t, e1, e2⟩ := r3 i x e
  exact ⟨t, e1, tup _ _ e2⟩
end
end Vf
namespace Vf
open PySem L2
/-! ### first places -/
def putAt (pl : List Int) (i : Nat) (c : Int) : List Int := pl.set i (pl.getD i 0 + c)
def inPl (D : DD) (n : Nat) (ps : List (Str × Str)) (cs : List Int) : List Int := (ps.zip cs).foldl (fun pl pc => putAt pl (D.st.idxOf pc.1.2) pc.2) (List.replicate n 0)
def ldPl (D : DD) (ls : List Str) (pl : List Int) : List Int := ls.foldl (fun pl s => putAt pl (D.st.idxOf s) 1) pl
def firstPl (D : DD) (cs : List Int) : List Int := ldPl D D.ld (inPl D D.st.length D.ins cs)
theorem putAt_len (pl : List Int) (i : Nat) (c : Int) : (putAt pl i c).length = pl.length := List.length_set ..
theorem fold_len {α : Type} (f : List Int → α → List Int) (h : ∀ pl a, (f pl a).length = pl.length) : ∀ (l : List α) (pl : List Int), (l.foldl f pl).length = pl.length
  | [], _ => rfl
  | a :: r, pl => (fold_len f h r (f pl a)).trans (h pl a)
theorem inPl_len (D : DD) (n : Nat) (ps : List (Str × Str)) (cs : List Int) : (inPl D n ps cs).length = n := (fold_len _ (fun pl a => putAt_len ..) _ _).trans (List.length_replicate ..)
theorem ldPl_len (D : DD) (ls : List Str) (pl : List Int) : (ldPl D ls pl).length = pl.length := fold_len _ (fun pl a => putAt_len ..) _ _
theorem inPl_snoc (D : DD) (n i : Nat) {ps : List (Str × Str)} {cs : List Int} {p : Str × Str} {c : Int} (h1 : ps[i]? = some p) (h2 : cs[i]? = some c) :
    inPl D n (ps.take (i + 1)) (cs.take (i + 1)) = putAt (inPl D n (ps.take i) (cs.take i)) (D.st.idxOf p.2) c := by
  unfold inPl
  rw [take_snoc h1, take_snoc h2, List.zip_append (by rw [take_len h1, take_len h2]), List.foldl_append]
  rfl
theorem ldPl_snoc (D : DD) (i : Nat) {ls : List Str} {s : Str} {pl : List Int} (h : ls[i]? = some s) : ldPl D (ls.take (i + 1)) pl = putAt (ldPl D (ls.take i) pl) (D.st.idxOf s) 1 := by
  unfold ldPl
  rw [take_snoc h, List.foldl_append]
  rfl
theorem zeros (k : Nat) : (List.replicate k [V.int 0]).flatten = (List.replicate k (0 : Int)).map V.int := by
  induction k with
  | zero => rfl
  | succ k ih =>
    rw [List.replicate_succ, List.flatten_cons, ih]
    rfl
theorem putAt_map (pl : List Int) (i : Nat) (c : Int) : (pl.map V.int).set i (V.int (pl.getD i 0 + c)) = (putAt pl i c).map V.int := by
  unfold putAt
  rw [List.map_set]
theorem idx_lt {st : List Str} {s : Str} (h : s ∈ st) : st.idxOf s < st.length := List.idxOf_lt_length_of_mem h
end Vf
namespace Vf
open PySem L2
section
variable {pl : List Int} {st : List Str} {s : Str}
theorem getPl (h : s ∈ st) (hl : pl.length = st.length) : (pl.map V.int)[(ix st s).toNat]? = some (V.int (pl.getD (st.idxOf s) 0)) := by
  have lt : st.idxOf s < pl.length := by rw [hl]; exact idx_lt h
  unfold ix
  rw [Int.toNat_natCast, List.getElem?_map, List.getElem?_eq_getElem lt, List.getD_eq_getElem?_getD, List.getElem?_eq_getElem lt]
  rfl
theorem ixPl (h : s ∈ st) (hl : pl.length = st.length) : ixN (pl.map V.int).length (ix st s) = some (st.idxOf s) := by
  have lt : st.idxOf s < pl.length := by rw [hl]; exact idx_lt h
  unfold ixN ix
  rw [List.length_map, if_pos (Int.natCast_nonneg _), if_pos (by omega), Int.toNat_natCast]
theorem atPl (h : s ∈ st) (hl : pl.length = st.length) : atI (pl.map V.int) (ix st s) = some (V.int (pl.getD (st.idxOf s) 0)) := by
  unfold atI
  rw [ixPl h hl]
  have g := getPl h hl
  unfold ix at g
  rw [Int.toNat_natCast] at g
  exact g
theorem ix_nn : 0 ≤ ix st s := Int.natCast_nonneg _
end
end Vf
namespace Vf
open PySem L2
theorem at0 {xs : List V} {i : Nat} {x : V} (h : xs[i]? = some x) : atI xs (0 + (i : Int)) = some x := by
  rw [Int.zero_add]
  exact atI_nat h
theorem idx_get : ∀ {st : List Str} {s : Str}, s ∈ st → (st.map V.str)[st.idxOf s]? = some (V.str s) ∧ ∀ (m : Nat) (z : V), m < st.idxOf s → (st.map V.str)[m]? = some z → eqV z (.str s) = false
  | [], s, h => nomatch h
  | a :: r, s, h => by
    by_cases e : a = s
    · subst e
      rw [List.idxOf_cons_self]
      exact ⟨rfl, fun m z hm => absurd hm (Nat.not_lt_zero m)⟩
    · have hr : s ∈ r := by
        rcases List.mem_cons.mp h with h | h
        · exact absurd h.symm e
        · exact h
      obtain ⟨g1, g2⟩ := idx_get hr
      have ei : (a :: r).idxOf s = r.idxOf s + 1 := by
        rw [List.idxOf_cons, beq_false_of_ne e]
        rfl
      rw [ei]
      refine ⟨g1, fun m z hm hz => ?_⟩
      cases m with
      | zero =>
        have hz' : V.str a = z := Option.some.inj hz
        subst hz'
        exact beq_false_of_ne e
      | succ m => exact g2 m z (Nat.lt_of_succ_lt_succ hm) hz
end Vf

/-! ### min, max, sum of tuples of whole numbers; len of an own instance -/
namespace Vf
open PySem PySem.W PySem.Spec PyProof.Rows L2
theorem most_ok : ∀ (zs : List Int) (z : Int), PySem.W.maxOf z zs ∈ z :: zs ∧ ∀ q ∈ z :: zs, q ≤ PySem.W.maxOf z zs
  | [], z => ⟨List.mem_singleton.mpr rfl, fun q hq => by
      have e : q = z := by simpa using hq
      rw [e]
      exact Int.le_refl _⟩
  | y :: r, z => by
    have step : PySem.W.maxOf z (y :: r) = PySem.W.maxOf (if z < y then y else z) r := by
      unfold PySem.W.maxOf
      rw [List.foldl_cons]
      congr 1
      by_cases c : z < y
      · simp [DatumOrd.lt, c]
      · simp [DatumOrd.lt, c]
    obtain ⟨m1, m2⟩ := most_ok r (if z < y then y else z)
    rw [step]
    have low := m2 _ (List.mem_cons_self ..)
    refine ⟨?_, fun q hq => ?_⟩
    · rcases List.mem_cons.mp m1 with e | e
      · rw [e]
        by_cases c : z < y
        · rw [if_pos c]; simp
        · rw [if_neg c]; simp
      · exact List.mem_cons_of_mem _ (List.mem_cons_of_mem _ e)
    · rcases List.mem_cons.mp hq with e | e
      · rw [e]
        by_cases c : z < y
        · rw [if_pos c] at low ⊢; omega
        · rw [if_neg c] at low ⊢; omega
      · rcases List.mem_cons.mp e with e | e
        · rw [e]
          by_cases c : z < y
          · rw [if_pos c] at low ⊢; omega
          · rw [if_neg c] at low ⊢; omega
        · exact m2 q (List.mem_cons_of_mem _ e)
def rMinT (K : PySem.W.Frag) : List V → Hp → VK → Prop := fun vs H Q => ∃ (a : Addr) (ns : List Int), vs = [V.ref a] ∧ SqT K H a (ns.map V.int) ∧ 0 < ns.length ∧ ∀ m : Int, m ∈ ns → (∀ y ∈ ns, m ≤ y) → Q (.int m) H
def rMaxT (K : PySem.W.Frag) : List V → Hp → VK → Prop := fun vs H Q => ∃ (a : Addr) (ns : List Int), vs = [V.ref a] ∧ SqT K H a (ns.map V.int) ∧ 0 < ns.length ∧ ∀ m : Int, m ∈ ns → (∀ y ∈ ns, y ≤ m) → Q (.int m) H
def rSumT (K : PySem.W.Frag) : List V → Hp → VK → Prop := fun vs H Q => ∃ (a : Addr) (ns : List Int), vs = [V.ref a] ∧ SqT K H a (ns.map V.int) ∧ Q (.int ns.sum) H
theorem cr_minT {X : Cx} (hu : X.A.units + 64 < cLine) (hc : X.calm = true := by rfl) : CallR X (.builtin "min") (rMinT X.K) := by
  intro pins s σ H vs us Q I r h
  obtain ⟨a, ns, rfl, hs, hne, q⟩ := h
  obtain rfl := Vals.ref1 r
  obtain ⟨its, rv, hl, _⟩ := I.tuple hs
  have room : X.A.units + 1 + Datum.depth Int < cLine := by
    show X.A.units + 1 + 0 < cLine
    omega
  have ia := rv.ints
  cases ns with
  | nil => simp at hne
  | cons y ys =>
    refine PySem.W.min_tuple_datum (I.ok.hd hc) hl (.of_ints ia) room fun i v h' tk hv hh k => ?_
    obtain ⟨n, t, rfl⟩ := ints_at (i := i) ia (by simpa using hv)
    have en := holds_only hh
    obtain ⟨f1, f2⟩ := least_ok ys y
    rw [← en] at f1 f2
    exact ⟨.int n, H, I.kept (t' := tk) k, ⟨t, rfl⟩, q n f1 f2⟩
theorem cr_maxT {X : Cx} (hu : X.A.units + 64 < cLine) (hc : X.calm = true := by rfl) : CallR X (.builtin "max") (rMaxT X.K) := by
  intro pins s σ H vs us Q I r h
  obtain ⟨a, ns, rfl, hs, hne, q⟩ := h
  obtain rfl := Vals.ref1 r
  obtain ⟨its, rv, hl, _⟩ := I.tuple hs
  have room : X.A.units + 1 + Datum.depth Int < cLine := by
    show X.A.units + 1 + 0 < cLine
    omega
  have ia := rv.ints
  cases ns with
  | nil => simp at hne
  | cons y ys =>
    refine PySem.W.max_tuple_datum (I.ok.hd hc) hl (.of_ints ia) room fun i v h' tk hv hh k => ?_
    obtain ⟨n, t, rfl⟩ := ints_at (i := i) ia (by simpa using hv)
    have en := holds_only hh
    obtain ⟨f1, f2⟩ := most_ok ys y
    rw [← en] at f1 f2
    exact ⟨.int n, H, I.kept (t' := tk) k, ⟨t, rfl⟩, q n f1 f2⟩
theorem sumT_raw {prog : Program} {w : World} {A : Around} {E : Value → Shared → Prop} {s : Shared} {l : Addr} {its : List Value} {ns : List Int} {Q : Value → Shared → Prop} (hh : A.handled = none) (hl : s.heap.IsTuple l its.toArray) (hi : IntsAre its ns)
    (h : ∀ h' tk t', (∀ b o, s.heap.get? b = some o → h'.get? b = some o) → Q (.int ns.sum t') { s with heap := h', toks := tk }) : wpAny (model prog w) A (call (.builtin "sum") [.ref l]) Q E s := by
  obtain ⟨xs, e⟩ := hi.allInts.items
  have hn : numsOf (intItems xs).toList = ns := by rw [← e]; exact hi.numsOf
  rw [nums_intItems] at hn
  rw [e] at hl
  refine PySem.W.ktm_sumG hh hl fun h' tk t' hk => ?_
  have := h h' tk t' hk
  rw [preSum_eq, List.take_of_length_le (by simp), hn]; exact this
theorem cr_sumT {X : Cx} (_ : X.A.units + 64 < cLine) (hc : X.calm = true := by rfl) : CallR X (.builtin "sum") (rSumT X.K) := by
  intro pins s σ H vs us Q I r h
  obtain ⟨a, ns, rfl, hs, q⟩ := h
  obtain ⟨its, rv, hl, _⟩ := I.tuple hs
  rw [Vals.ref1 r]
  exact sumT_raw (I.ok.hd hc) hl rv.ints fun h' tk t' hk => ⟨.int _, H, I.kept hk, ⟨_, rfl⟩, q⟩
/-- len(o) of an instance of an own class with an own __len__ -/
def rLenOwn (C : Addr) (sp : Sp) (E : XK) : List V → Hp → VK → Prop := fun xs H Q => ∃ (a dx : Addr) (fs : List (Str × V)), xs = [.ref a] ∧ H a = some (.ins C dx fs) ∧ sp [.ref a] H (fun v H' => ∃ n : Int, v = .int n ∧ 0 ≤ n ∧ n < 2 ^ 63 ∧ Q (.int n) H') E
theorem call_lenOwn {X : Cx} {CX : CXT} {k : Nat} {C f : Addr} {fd : FuncData} {ps : List Str} {sp : Sp} {E : XK} (F : FnOk X.prog X.w X.K X.mg X.base CX k f fd ps sp) (hr : Room (k + 1) X.A)
    (hs : PySem.W.findIn X.K (.ref C) "__len__" = some (some (.ref f))) (hf : PySem.W.isFn X.K (.ref f) = true) (hb : Binds X.K fd ps []) (hx : Passes CX X E) : CallR X (.builtin "len") (rLenOwn C sp E) := by
  intro pins s σ H xs us Q I r h
  obtain ⟨a, dx, fs, rfl, ha, q⟩ := h
  obtain rfl := Vals.ref1 r
  obtain ⟨mA, J, _⟩ := ins_get I.hok ha
  obtain ⟨od, J, _⟩ := J.look
  obtain ⟨m, hF⟩ := I.fr
  refine PySem.W.len_K hF I.ok.mod.kin J hs hf ?_
  have hl := F.len _ _ _ _ q
  have r2 : Vals [V.ref a] [Value.ref a] := .cons rfl .nil
  refine wpAny_call (codeAny_mono (F.run X.A.in1 X.stack s H ⟨[.ref a], []⟩ [.ref a] [.ref a] _ E hr.in1 I.env0.in1 (by
    have := hb s [.ref a] I.kIn (by simpa using hl)
    simpa using this) r2 q) fun r s' hq => ?_)
  cases r with
  | error e => exact hx pins σ H s e s' I hq
  | ok fl =>
    cases fl with
    | ret w =>
      obtain ⟨z, H', I', rz, n, rfl, n0, n1, q'⟩ := I.after hq
      obtain ⟨t, rfl⟩ := rz
      exact ⟨⟨n0, n1⟩, .int n, H', I'.tok _, ⟨_, rfl⟩, q'⟩
    | next => exact False.elim hq
    | brk => exact False.elim hq
    | cont => exact False.elim hq
end Vf

namespace Vf
open PySem PySem.W PySem.Spec PyProof.Rows L2 PySem.Calls
/-! ### super().__init__(..) in an own error's __init__, over ValueError, classes between allowed -/
/-- what the frame of such an __init__ knows -/
structure SupAt (X : Cx) (C : Addr) (nm : Str) : Prop where
  kind : X.env.scope.kind = .function
  ks : X.env.kindOf "super" = some .globalImplicit
  kc : X.env.kindOf "__class__" = some .free
  ka : X.env.kindOf nm = some .local
  fn : ∃ (f : Addr) (oc : Value) (od : Option Addr) (fd : FuncData) (sl : Array (Option Value)) (ar : Arg), X.env.func = some f ∧ X.K.lookup f = some ⟨oc, od, .func fd, sl⟩ ∧ (fd.params.posonlyargs ++ fd.params.args).head? = some ar ∧ ar.arg = nm
  code : ∃ (cda : Addr) (oc : Value) (od : Option Addr) (vs : Array Value) (sl : Array (Option Value)) (file : Str) (tf : Tok), X.env.code = .ref cda ∧ X.K.lookup cda = some ⟨oc, od, .fields vs, sl⟩ ∧ vs[2]? = some (.str file tf) ∧ ((X.prog.main.file : Str) == file) = true
  top : (X.prog.main.scope.names.lookup ("super" : Str)).isSome = false
  cell : ∃ (cc : Addr) (oc : Value) (od : Option Addr) (sl : Array (Option Value)), X.env.cells.lookup ("__class__" : Str) = some cc ∧ X.K.lookup cc = some ⟨oc, od, .cell (some (.ref C)), sl⟩
  mg : X.mg "super" = none
/-- what the written part says of the class -/
structure SupCls (K : PySem.W.Frag) (C : Addr) : Prop where
  sub : mroIn K C (.ref C) = some true
  al : ks_superIn K C C "__init__" = some (some (.builtin "ValueError.__init__"))
  ve : subIn K (.ref C) (.type "ValueError") = some true
  op : nsIn K cStatics "thirdparty.any" = some none
theorem at_sub {α : Type} {M : Model} {A : Around} {c : Code} {t : Sem α} {Q Q' : α → Shared → Prop} {E : Value → Shared → Prop} {s : Shared} (h : PySem.wpAt M A c t Q E s) (f : ∀ v s', Q v s' → Q' v s') : PySem.wpAt M A c t Q' E s :=
  PySem.wpAt_mono h f fun _ _ x => x
section
variable {X : Cx} {pins : List (Addr × Obj)} {σ : L2.St} {H : Hp} {s : Shared} {a C : Addr}
/-- the bound __init__ is called -/
theorem call_bound {u : Addr} {us : List Value} {Q : Value → Shared → Prop} (T : OexC X.K C) (I : Inv X pins σ H s) (e : H a = some (exo a C none)) (hu : s.heap.get? u = some (kxs_mw "ValueError.__init__" a)) (hl : us.length ≤ sizeLine)
    (h : ∀ s', Inv X pins σ H s' → Q .none s') : wpAny (model X.prog X.w) X.A (call (.ref u) us) Q X.xe s := by
  obtain ⟨nm, q, N, bs, bm, sn, sub, ab, col, dd, k0, k1, k2, k3, k5, hC, hbm⟩ := T.cls
  obtain ⟨t1, ho⟩ := exo_at I.hok e
  obtain ⟨hp, g, d, t, os⟩ := s
  refine wpAny_call (codeAny_of_tree ?_)
  show wpAny _ _ (callAny (.ref u) ⟨us, []⟩) _ _ _
  unfold callAny
  refine wpAny_bind (wpAny_load hu ?_)
  have w1 : (Value.type "method-wrapper" == Value.type "method" || Value.type "method-wrapper" == Value.type "builtin_function_or_method" ||
      Value.type "method-wrapper" == Value.type "method-wrapper") = true := by decide +kernel
  have w2 : (Value.type "method-wrapper" != Value.type "method") = true := by decide +kernel
  refine KFB.if_so w1 (KFB.if_so w2 ?_)
  have FB := PySem.F.excBase_ValueError
  refine wpAny_bind (check_bound_init FB.toExcCallFacts (I.kIn _ _ hC) ho rfl (wpAny_pure ⟨plainId_quiet FB.init.plain _, codeAny_builtin FB.initEntry ?_⟩))
  refine exc_init_tree (cls := .ref C) (t0 := t1) (dv := none) (c2 := .none) (c3 := .none) (b4 := .bool false) ho hl fun h' k e' _ => ?_
  have J := I.write (t' := t) (x := a) (e := a) (o := exo a C none) (by rw [e]; exact True.intro) (.inl rfl) k ⟨_, e'⟩ (exo_ok e')
  have same : upd H a (exo a C none) = H := by
    funext b
    by_cases hb : b = a
    · subst hb
      rw [upd_same, e]
    · rw [upd_ne hb]
  rw [same] at J
  exact h _ J
/-- the whole call -/
theorem super_init {body : List Stmt} {nm : Str} {e : Expr} {es : List Expr} {p0 p1 apos pos : Pos} {ta : TA} {i : Nat} {Q : VK} (T : OexC X.K C) (F : SupAt X C nm) (G : SupCls X.K C) (I : Inv X pins σ H s) (hi : X.N[i]? = some nm) (hσ : σ[i]? = some (some (.ref a)))
    (ha : H a = some (exo a C none)) (hargs : PA X (e :: es) ta) (hq : ta σ H fun vs H1 => vs.length ≤ 1000 ∧ H1 a = some (exo a C none) ∧ Q .non H1) {pl : Sem Bool}
    (hev : eval (.Call (.Attribute (.Call (.Name "super" p0) [] [] p1) "__init__" apos) (e :: es) [] pos) X.env = (do
      let ov ← attributeBase (.Call (.Name "super" p0) [] [] p1) "__init__" X.env (eval (.Call (.Name "super" p0) [] [] p1) X.env)
      standAt apos.atName
      let (f, first) ← holding [ov] (getMethod ov "__init__" pl)
      callWith pos f first (backTo pos (starEach (e :: es) X.env)) []) := by rfl)
    (hst : starEach (e :: es) X.env = (false, eval e X.env) :: starEach es X.env := by rfl) (hpl : (backTo pos (starEach es X.env)).any (·.1) = false := by rfl) :
    PySem.wpAt (model X.prog X.w) X.A (.func body X.env) (eval (.Call (.Attribute (.Call (.Name "super" p0) [] [] p1) "__init__" apos) (e :: es) [] pos) X.env) (EP X pins σ Q) X.xe s := by
  obtain ⟨f, oc1, od1, fd, sl1, ar, f1, f2, f3, f4⟩ := F.fn
  obtain ⟨cda, oc2, od2, vs2, sl2, file, tf, c1, c2, c3, c4⟩ := F.code
  obtain ⟨cc, oc3, od3, sl3, d1, d2⟩ := F.cell
  have kin := I.kIn
  subst f4
  refine ks_wpAt_MethodCall ?_ hev
  refine ks_wpAt_super_base F.ks F.kc (by decide +kernel) f1 (kin _ _ f2) rfl f3 c1 (kin _ _ c2) rfl c3 c4 F.top ?_
  obtain ⟨mb, h1, h2⟩ := I.mod.blt
  refine ks_loadName_global F.kind F.ks (loadGlobal_builtin (by rw [I.ok.glob]; exact I.mod.glob.keeps I.bk) F.mg (by rw [I.ok.blt]; exact h1.keeps I.bk) ((h2 _ (by decide)).trans (show bootBuiltins "super" = some (.type "super") by decide +kernel)) ⟨rfl, ?_⟩)
  refine wpAny_loadName_free F.kind F.kc d1 ⟨_, kin _ _ d2, rfl⟩ ?_
  obtain ⟨m, hns, hloc⟩ := I.loc
  obtain ⟨u, ru, hl⟩ := hloc i ar.arg _ hi hσ (.inl F.ka)
  cases ru
  have hm : m ar.arg = some (.ref a) := by
    rcases hl with ⟨_, hm⟩ | ⟨hk, _⟩
    · exact hm
    · rw [F.ka] at hk
      rcases hk with hk | hk <;> cases hk
  refine wpAny_loadName_local F.kind F.ka hns hm ?_
  obtain ⟨nmC, qC, NC, bs, bm, sn, sub, ab, col, dd, k0, k1, k2, k3, k5, hC, hbm⟩ := T.cls
  have hcl : clsIn X.K C = some { name := nmC, bases := bs, mro := .ref C :: bm, ns := NC, qualname := qC, hasDict := true, slotNames := sn, subclasses := sub, abstract := ab, collection := col, hasDel := false } := by
    unfold clsIn
    rw [hC] <;> rfl
  refine ks_wpAny_isType_cls (kin _ _ hC) rfl ⟨rfl, ?_⟩
  obtain ⟨t1, ho⟩ := exo_at I.hok ha
  obtain ⟨hp, g, d, t, os⟩ := s
  refine ks_wpAny_call_super (kin _ _ hC) rfl ho rfl (fun c => nofun) (looks_mroIn kin G.sub) fun h2 hso k2' => ?_
  have I2 : L2.Inv X pins σ H ⟨h2, g, d, t, os⟩ := I.kept (t' := t) k2'
  have ho2 := k2' _ _ ho
  have at2 : InstAt h2 a { cls := .ref C, dict := none, data := .fields #[.ref t1, .none, .none, .none, .bool false, .none] } C none := ⟨ho2, rfl, rfl, trivial⟩
  have al := G.al
  unfold ks_superIn at al
  rw [hcl] at al
  refine kxs_getMethod kxs_ValueError hso (looks_opaque I2.kIn G.op) (l₀ := .ref C :: bm) (fun A Q E s k q => wpAny_bind ((looks_clsIn I2.kIn hcl) A _ E s k (wpAny_pure q))) rfl I2.kIn al (at2.type.andThen (looks_subIn I2.kIn G.ve)) (ks_ne I2.kIn at2 hcl) (by decide +kernel) ?_
  have sz : h2.objs.size ≤ h2.objs.size := Nat.le_refl _
  have gu : (h2.push (kxs_mw "ValueError.__init__" a)).get? h2.objs.size = some (kxs_mw "ValueError.__init__" a) := Heap.get?_push_at rfl rfl
  have I3 : L2.Inv X pins σ H ⟨h2.push (kxs_mw "ValueError.__init__" a), g, d, t + 1, os⟩ := I2.kept (t' := t + 1) fun b o z => Heap.get?_push_of_some _ z
  have hun : H h2.objs.size = none := I2.hok.fresh sz
  have I4 : L2.Inv X ((h2.objs.size, kxs_mw "ValueError.__init__" a) :: pins) σ H ⟨h2.push (kxs_mw "ValueError.__init__" a), g, d, t + 1, os⟩ := I3.pins_of fun p hp => by
    rcases List.mem_cons.mp hp with e1 | hp
    · subst e1
      exact ⟨gu, hun, fun z => Nat.lt_irrefl _ (by have := I2.lt; rw [← z] at this; exact this), I2.nofs sz, nofun⟩
    · exact I3.pin p (List.mem_append_right _ hp)
  rw [hst]
  refine kxs_callWith (i := "ValueError.__init__") (x := a) (hpl : _) ?_
  have run := hargs.run pos _ _ σ H _ I4 hq
  rw [hst] at run
  refine evalArgs_plain (thn run fun us s4 got => ?_)
  obtain ⟨vs, H1, I5, r1, hlen, ha1, q⟩ := got
  have pin := (I5.pin (h2.objs.size, kxs_mw "ValueError.__init__" a) (List.mem_append_right _ (List.mem_cons_self ..))).1
  refine ⟨pin, ?_⟩
  refine call_bound T I5 ha1 pin (by show us.length ≤ sizeLine; rw [← Paired.length r1, sizeLine_eq]; omega) fun s' J => ⟨.non, H1, ?_, rfl, q⟩
  exact J.pins_of fun p hp => J.pin p (List.mem_append_right _ (List.mem_cons_of_mem _ hp))
end
/-! ### such an __init__ as a def -/
/-- how the call reads, and that nothing is swapped -/
def SupEv (env : Env) (e : Expr) (es : List Expr) (p0 p1 apos pos p2 : Pos) : Prop :=
  (∃ pl : Sem Bool, eval (.Call (.Attribute (.Call (.Name "super" p0) [] [] p1) "__init__" apos) (e :: es) [] pos) env = (do
    let ov ← attributeBase (.Call (.Name "super" p0) [] [] p1) "__init__" env (eval (.Call (.Name "super" p0) [] [] p1) env)
    standAt apos.atName
    let (f, first) ← holding [ov] (getMethod ov "__init__" pl)
    callWith pos f first (backTo pos (starEach (e :: es) env)) [])) ∧ starEach (e :: es) env = (false, eval e env) :: starEach es env ∧ (backTo pos (starEach es env)).any (·.1) = false ∧
    swapsWith (.Call (.Attribute (.Call (.Name "super" p0) [] [] p1) "__init__" apos) (e :: es) [] pos) none p2.line env = pure false ∧ interactive env = false
open NdefX in
/-- the object of an __init__ that says super, its cell, its code object -/
def InitAt (P : Program) (K : PySem.W.Frag) (qual : Str) (st : Stmt) (C f : Addr) (cc cda : Addr) (fd : FuncData) : Prop :=
  ∃ (oc oc2 oc3 : Value) (od od2 od3 : Option Addr) (kV doc pm ct : Value) (an : Option Addr) (osl sl2 sl3 : Array (Option Value)) (vs : Array Value) (file : Str) (tf : Tok),
    fd = fnX "__init__" qual (defArgs st) (defBody st) (defScope st) [("__class__", cc)] .none kV doc pm an (.ref cda) ct ∧ K.lookup f = some ⟨oc, od, .func fd, osl⟩ ∧ codeIn K (.ref cda) qual = true ∧
    K.lookup cc = some ⟨oc3, od3, .cell (some (.ref C)), sl3⟩ ∧ K.lookup cda = some ⟨oc2, od2, .fields vs, sl2⟩ ∧ vs[2]? = some (.str file tf) ∧ ((P.main.file : Str) == file) = true ∧ (P.main.scope.names.lookup ("super" : Str)).isSome = false
def initF (qual : Str) (st : Stmt) (cc cda : Addr) : NdefX.NF := ⟨"__init__", qual, defArgs st, defBody st, defScope st, [("__class__", cc)], cda⟩
section
variable {CX : CXT} {P : Program} {w : World} {K : PySem.W.Frag} {mg : Str → Option Value} {base : Heap} {k : Nat} {f C cc cda : Addr} {fd : FuncData} {qual : Str} {st : Stmt} {N ps : List Str} {sp : Sp}
theorem init_of {e : Expr} {es : List Expr} {p0 p1 apos pos p2 : Pos} {rest : List Stmt} {ar : Arg} (D : InitAt P K qual st C f cc cda fd) (S : NdefX.NScope N ps ["__class__"] (defScope st)) (hbd : defBody st = .Expr (.Call (.Attribute (.Call (.Name "super" p0) [] [] p1) "__init__" apos) (e :: es) [] pos) p2 :: rest)
    (hps : ps.head? = some (Str.ofString "self")) (har : ((defArgs st).posonlyargs ++ (defArgs st).args).head? = some ar) (hargn : ar.arg = Str.ofString "self") (hks : (defScope st).names.lookup ("super" : Str) = some .globalImplicit) (hmg : mg "super" = none) (T : OexC K C) (G : SupCls K C)
    (len : ∀ vs H Q E, sp vs H Q E → vs.length = ps.length)
    (hbody : ∀ (A : Around) (outer : List Env) (s : Shared) (H : Hp) (vs : List V) (Q : VK) (E : XK), Room k (A.deeper (NdefX.envF (initF qual st cc cda) f s.heap.objs.size)) → sp vs H Q E →
      ∃ (a : Addr) (ta : TA) (t : TS), SupEv (NdefX.envF (initF qual st cc cda) f s.heap.objs.size) e es p0 p1 apos pos p2 ∧ vs[0]? = some (.ref a) ∧ H a = some (exo a C none) ∧ PA (NdefX.ncx CX P w K mg base N (initF qual st cc cda) f A outer s H E) (e :: es) ta ∧ PSs (NdefX.ncx CX P w K mg base N (initF qual st cc cda) f A outer s H E) rest t ∧
        ta (NdefX.startF N vs [none]) H fun ws H1 => ws.length ≤ 1000 ∧ H1 a = some (exo a C none) ∧ t { nx := fun _ H' => Q .non H', rt := Q } (NdefX.startF N vs [none]) H1) :
    FnOk P w K mg base CX (k + 1) f fd ps sp := by
  obtain ⟨oc, oc2, oc3, od, od2, od3, kV, doc, pm, ct, an, osl, sl2, sl3, vsc, file, tf, rfl, lk, hcd, lc, lcode, hv2, hfile, htop⟩ := D
  refine ⟨len, fun A outer s H args us vs Q E hr e0 hb r hsp => ?_⟩
  have hl := len _ _ _ _ hsp
  have KX : K.In s.heap := e0.mod.kin.keeps fun b o e => (e0.bs b o e).1
  have lim : s.heap.NoLimit := e0.mod.nolimit.keeps fun b o e => (e0.bs b o e).1
  have cells : NdefX.CellsAt [("__class__", cc)] ["__class__"] [none] s.heap H := by
    refine ⟨rfl, fun y c e => ?_, fun x y c e1 e2 => ?_, fun i y e => ?_⟩
    · have ec : c = cc := by
        have := PySem.mem_of_lookup e
        simp at this
        exact this.2
      subst ec
      exact ⟨(e0.bs _ _ (e0.mod.kin _ _ lc)).2, _, ⟨_, KX _ _ lc, rfl⟩⟩
    · have h1 := PySem.mem_of_lookup e1
      have h2 := PySem.mem_of_lookup e2
      simp at h1 h2
      rw [h1.1, h2.1]
    · cases i with
      | zero =>
        have e' : ("__class__" : Str) = y := by simpa using e
        subst e'
        exact ⟨cc, rfl, fun v hv => by simp at hv⟩
      | succ i => simp at e
  refine ks_codeAny_call_defAt hr.depth (KX _ _ lk) rfl lim (codeRec_of KX hcd) rfl hb S.nocell (fun ⟨n, _⟩ hy => S.par n (List.of_mem_zip hy).1) (fun h1 hns kp => ?_) S.co S.gen S.kind
  obtain ⟨a, ta, t, ⟨⟨pl, g1⟩, g2, g3, g4, g5⟩, hv0, ha, PAx, PSx, hq⟩ := hbody A outer s H vs Q E (hr.deeper _) hsp
  have I := NdefX.inv_startN (F := initF qual st cc cda) (f := f) (CX := CX) (E := E) (tk := s.toks + (ps.zip us).length) S hr.hd e0 hl r cells hns kp
  have n0 : N[0]? = some (Str.ofString "self") := by
    have q := congrArg (fun l : List Str => l[0]?) S.pre
    have q2 : (N.take (ps.length + 1))[0]? = (ps ++ [Str.ofString "__class__"])[0]? := q
    rw [List.getElem?_take_of_lt (Nat.succ_pos _)] at q2
    rw [q2]
    cases ps with
    | nil => cases hps
    | cons x y => exact hps
  have s0 : (NdefX.startF N vs [none])[0]? = some (some (.ref a)) := by
    unfold NdefX.startF
    cases vs with
    | nil => cases hv0
    | cons x y =>
      have e' : x = .ref a := Option.some.inj hv0
      subst e'
      rfl
  have self : Str.ofString "self" ∈ ps := by
    cases ps with
    | nil => cases hps
    | cons x y =>
      have e' : x = Str.ofString "self" := Option.some.inj hps
      subst e'
      exact List.mem_cons_self ..
  have sup : SupAt (NdefX.ncx CX P w K mg base N (initF qual st cc cda) f A outer s H E) C "self" := {
    kind := S.kind
    ks := hks
    kc := S.frk _ (List.mem_cons_self ..)
    ka := S.par _ self
    fn := ⟨f, _, _, _, _, ar, rfl, lk, har, hargn⟩
    code := ⟨cda, _, _, _, _, file, tf, rfl, lcode, hv2, hfile⟩
    top := htop
    cell := ⟨cc, _, _, _, rfl, lc⟩
    mg := hmg }
  show PySem.wpAt (model P w) (NdefX.ncx CX P w K mg base N (initF qual st cc cda) f A outer s H E).A (.func (defBody st) (NdefX.ncx CX P w K mg base N (initF qual st cc cda) f A outer s H E).env) (execs (defBody st) (NdefX.ncx CX P w K mg base N (initF qual st cc cda) f A outer s H E).env) _ _ _
  rw [hbd]
  refine ks_wpAt_execs_cons (ks_wpAt_Expr_any (at_sub (super_init (X := NdefX.ncx CX P w K mg base N (initF qual st cc cda) f A outer s H E) (Q := fun _ H1 => t { nx := fun _ H' => Q .non H', rt := Q } (NdefX.startF N vs [none]) H1) T sup G I n0 s0 ha PAx hq (pl := pl) g1 g2 g3) ?_) g5 g4)
  rintro v s' ⟨x, H1, I1, _, q⟩
  show PySem.wpAt _ _ _ (execs rest _) _ _ s'
  refine PySem.wpAt_of_wpAny (wpAny_mono (PSx.run [] s' (NdefX.startF N vs [none]) H1 _ I1 q) (fun fl s2 hs => ?_) fun e s2 hs => hs)
  have fin : ∀ {σ' : L2.St} {H' : Hp} {v : V} {u : Value}, L2.Inv (NdefX.ncx CX P w K mg base N (initF qual st cc cda) f A outer s H E) [] σ' H' s2 → L2.RelV v u → Q v H' → CE outer P w H s Q u s2 :=
    fun {σ' H' v u} J rv q => ⟨v, H', J.os, J.bare, J.base, J.hok, rv, q⟩
  cases fl with
  | brk =>
    obtain ⟨_, _, _, z⟩ := hs
    cases z
  | cont =>
    obtain ⟨_, _, _, z⟩ := hs
    cases z
  | next =>
    obtain ⟨σ', H', J, z⟩ := hs
    exact fin (v := V.non) (u := Value.none) J rfl z
  | ret u =>
    obtain ⟨v, σ', H', J, rv, z⟩ := hs
    exact fin J rv z
end
theorem InitAt.binds {P : Program} {K : PySem.W.Frag} {qual : Str} {st : Stmt} {C f cc cda : Addr} {fd : FuncData} {ps : List Str} (D : InitAt P K qual st C f cc cda fd)
    (h : ∀ (kV doc pm : Value) (an : Option Addr) (ct : Value) (us : List Value), us.length = ps.length → bindArgs (fnX "__init__" qual (defArgs st) (defBody st) (defScope st) [("__class__", cc)] .none kV doc pm an (.ref cda) ct) ⟨us, []⟩ = pure (ps.zip us)) : Binds K fd ps [] := by
  obtain ⟨_, _, _, _, _, _, kV, doc, pm, ct, an, _, _, _, _, _, _, rfl, _⟩ := D
  exact .all (h kV doc pm an ct)
/-! ### a method called in a try, what its errors meet by the slots -/
def tMethW (C : Addr) (m : Str) (sp : Sp) (E : L2.St → XK) (ta : TE) (t : TA) : TE := fun σ H Q => ta σ H fun x H1 => ∃ (a dx : Addr) (fs : List (Str × V)), x = .ref a ∧ H1 a = some (.ins C dx fs) ∧ fs.lookup m = none ∧
  t σ H1 fun vs H2 => sp (x :: vs) H2 Q (E σ)
section
variable {X : Cx} {CX : CXT} {k : Nat} {f C : Addr} {fd : FuncData} {ps : List Str} {sp : Sp} {E : L2.St → XK} {m : Str} {apos pos : Pos} {e o : Expr} {es : List Expr} {ta : TE} {t : TA}
theorem pe_methW {pl : Sem Bool} (he : PE X o ta) (c : Cls X.K C) (hm : Meth X.K C m f) (F : FnOk X.prog X.w X.K X.mg X.base CX k f fd ps sp) (hr : Room k X.A) (hb : Binds X.K fd ps []) (hx : ∀ σ, PassesAt CX X σ (E σ)) (ha : PA X (e :: es) t)
    (hst : starEach (e :: es) X.env = (false, eval e X.env) :: starEach es X.env := by rfl) (hpl : (backTo pos (starEach es X.env)).any (·.1) = false := by rfl)
    (ht : eval (.Call (.Attribute o m apos) (e :: es) [] pos) X.env = (do
      let ov ← eval o X.env
      standAt apos.atName
      let (f, first) ← holding [ov] (getMethod ov m pl)
      callWith pos f first (backTo pos (starEach (e :: es) X.env)) (backToKw pos (keywordEach [] X.env))) := by rfl) :
    PE X (.Call (.Attribute o m apos) (e :: es) [] pos) (tMethW C m sp E ta t) := by
  constructor
  intro pins s σ H Q I h
  refine PySem.W.methodCall_KW (pl := pl) (thn (he.run pins s σ H _ I h) fun u s1 got => ?_) ht
  obtain ⟨x, H1, I1, rx, a, dx, fs, rfl, ea, l, q⟩ := got
  cases rx
  refine getmeth_ok I1 ea c hm l (PySem.W.callWith_K (first := [.ref a]) (h₀ := X.base) I.ok.mod.kin hm.kp (thn (ha.run pos pins s1 σ H1 _ I1 q) fun us s2 got2 => ?_) hst hpl)
  obtain ⟨vs, H2, I2, r, q2⟩ := got2
  exact ⟨I2.kIn, run_fnS (us := .ref a :: us) (vs := .ref a :: vs) F hr hb (hx σ) I2 (.cons rfl r) q2⟩
end
/-! ### a look into a dict of pairs -/
def meetOf (ks vl : List (Int × Int)) (k : Int × Int) : Int × Int := if k ∈ ks then vl.getD (ks.idxOf k) k else k
theorem valV_none {κ : Type} [DecidableEq κ] {k : κ} : ∀ {kvs : List (κ × V)}, k ∉ kvs.map Prod.fst → valV kvs k = none
  | [], _ => rfl
  | p :: r, h => by
    rw [List.map_cons, List.mem_cons, not_or] at h
    rw [valV_neg (fun e => h.1 e.symm)]
    exact valV_none h.2
theorem PP.get {H : Hp} {kvs : List (List Key × V)} {ks vl : List (Int × Int)} (p : PP H kvs ks vl) (k : Int × Int) : (valV kvs (keyP k) = none ∧ meetOf ks vl k = k) ∨ ∃ t, valV kvs (keyP k) = some (.ref t) ∧ H t = some (.tup (encP (meetOf ks vl k))) := by
  unfold meetOf
  by_cases h : k ∈ ks
  · rw [if_pos h]
    have lt := List.idxOf_lt_length_of_mem h
    have hk : ks[ks.idxOf k]? = some k := by
      rw [List.getElem?_eq_getElem lt, List.getElem_idxOf lt]
    obtain ⟨v, t, h1, h2, h3⟩ := p.at_ hk
    refine .inr ⟨t, h2, ?_⟩
    rw [List.getD_eq_getElem?_getD, h1]
    exact h3
  · rw [if_neg h]
    refine .inl ⟨valV_none fun m => ?_, rfl⟩
    have e : kvs.map Prod.fst = ks.map keyP := p.keys
    rw [e] at m
    obtain ⟨k', m1, m2⟩ := List.mem_map.mp m
    exact h (keyP_inj m2 ▸ m1)
theorem PP.snoc {H H' : Hp} {kvs : List (List Key × V)} {ks vl : List (Int × Int)} {k v : Int × Int} {t : Addr} (p : PP H kvs ks vl) (n : k ∉ ks) (e : ∀ t ys, H t = some (.tup ys) → H' t = some (.tup ys)) (h : H' t = some (.tup (encP v))) :
    PP H' (kvs ++ [(keyP k, .ref t)]) (ks ++ [k]) (vl ++ [v]) := by
  refine ⟨by rw [List.map_append, List.map_append, p.keys]; rfl, ?_, ?_⟩
  · rw [List.map_append]
    exact (p.vals.mono e).snoc h
  · refine List.nodup_append.mpr ⟨p.nd, by simp, fun a ha b hb e => ?_⟩
    rw [List.mem_singleton] at hb
    subst hb
    subst e
    exact n ha
theorem PP.same {H H' : Hp} {kvs : List (List Key × V)} {ks vl : List (Int × Int)} (p : PP H kvs ks vl) (e : Same H H') : PP H' kvs ks vl := ⟨p.keys, p.vals.same e, p.nd⟩
end Vf
namespace Vf
open PySem L2
theorem idx_do {K : PySem.W.Frag} {H : Hp} {ls : Addr} {st : List Str} {nm : Str} {Q : VK} (h : H ls = some (.lst (st.map V.str))) (m : nm ∈ st) (q : Q (.int (ix st nm)) H) : rIndex K (.ref ls) [.str nm] H Q := by
  obtain ⟨g1, g2⟩ := idx_get m
  exact ⟨ls, _, .str nm, st.idxOf nm, .str nm, rfl, rfl, SqL.of h, rfl, flat_str _, g1, beq_self_eq_true _, g2, q⟩
theorem rks_take {D : DD} {i : Nat} {r : S4} (h : D.ru[i]? = some r) : (rks D).take (i + 1) = (rks D).take i ++ [(ix D.st r.1, ix D.st r.2.1)] ∧ (rvs D).take (i + 1) = (rvs D).take i ++ [(ix D.st r.2.2.1, ix D.st r.2.2.2)] ∧ (rks D)[i]? = some (ix D.st r.1, ix D.st r.2.1) := by
  have h1 : (rks D)[i]? = some (ix D.st r.1, ix D.st r.2.1) := by
    unfold rks
    rw [List.getElem?_map, h]
    rfl
  have h2 : (rvs D)[i]? = some (ix D.st r.2.2.1, ix D.st r.2.2.2) := by
    unfold rvs
    rw [List.getElem?_map, h]
    rfl
  exact ⟨take_snoc h1, take_snoc h2, h1⟩
theorem rks_all {D : DD} : (rks D).take D.ru.length = rks D ∧ (rvs D).take D.ru.length = rvs D := by
  constructor
  · rw [show D.ru.length = (rks D).length by simp [rks]]
    exact List.take_length
  · rw [show D.ru.length = (rvs D).length by simp [rvs]]
    exact List.take_length
end Vf
namespace Vf
open PySem L2
theorem atI_in {α : Type} {xs : List α} {i : Int} (h0 : 0 ≤ i) (h1 : i < xs.length) : ∃ c, atI xs i = some c := by
  obtain ⟨j, rfl⟩ : ∃ j : Nat, i = (j : Int) := ⟨i.toNat, by omega⟩
  have hj : j < xs.length := by omega
  exact ⟨xs[j], atI_nat (List.getElem?_eq_getElem hj)⟩
theorem one_len (w : Str) (c : Nat) : (w ++ (⟨#[c]⟩ : Str)).length = w.length + 1 := by
  show (w.cps ++ #[c]).size = w.cps.size + 1
  rw [Array.size_append]
  rfl
end Vf
namespace Vf
open PySem PySem.Spec PyProof.Rows L2
/-! ### a def that may run while an error is handled: it neither raises nor loops -/
structure FnW (P : Program) (w : World) (K : PySem.W.Frag) (mg : Str → Option Value) (base : Heap) (k : Nat) (f : Addr) (fd : FuncData) (ps : List Str) (sp : Sp) : Prop where
  len : ∀ vs H Q E, sp vs H Q E → vs.length = ps.length
  run : ∀ (A : Around) (outer : List Env) (s : Shared) (H : Hp) (args : Args) (us : List Value) (vs : List V) (Q : VK) (E : XK), L2H.RoomH k A → Env0 P w K mg base A outer s H → BindsTo s fd args (ps.zip us) → Vals vs us → sp vs H Q E →
    codeAny (model P w) A (.call (.ref f) args) (CR CX0 outer P w H s Q E) s
def cxW (P : Program) (w : World) (K : PySem.W.Frag) (mg : Str → Option Value) (base : Heap) (N : List Str) (qual : Str) (scope : Scope) (f : Addr) (cd : Value) (A : Around) (outer : List Env) (s : Shared) (H : Hp) (E : XK) : Cx :=
  { cxOf CX0 P w K mg base N qual scope f cd A outer s H E with calm := false }
theorem fn_ofW {P : Program} {w : World} {K : PySem.W.Frag} {mg : Str → Option Value} {base : Heap} {x qual : Str} {st : Stmt} {f : Addr} {fd : FuncData} {N ps : List Str} {k : Nat} {sp : Sp} (F : Fun K x qual st f fd) (S : FnScope N ps (defScope st)) (len : ∀ vs H Q E, sp vs H Q E → vs.length = ps.length)
    (hbody : ∀ (cdv : Value) (A : Around) (outer : List Env) (s : Shared) (H : Hp) (vs : List V) (Q : VK) (E : XK), L2H.RoomH k (A.deeper (envOfC qual (defScope st) s.heap.objs.size f cdv)) → sp vs H Q E →
      ∃ t, PSs (cxW P w K mg base N qual (defScope st) f cdv A outer s H E) (defBody st) t ∧ t { nx := fun _ H' => Q .non H', rt := Q } (L2.start N vs) H) : FnW P w K mg base (k + 1) f fd ps sp := by
  obtain ⟨oc, od, kV, doc, pm, an, cdv, ct, osl, rfl, lk, hcd⟩ := F.ex
  constructor
  · exact len
  intro A outer s H args us vs Q E hr e0 hb r hsp
  have lv := len _ _ _ _ hsp
  have kin : K.In s.heap := e0.mod.kin.keeps fun b o e => (e0.bs b o e).1
  have lim : s.heap.NoLimit := e0.mod.nolimit.keeps fun b o e => (e0.bs b o e).1
  refine codeAny_call_function hr.depth (kin _ _ lk) rfl S.co S.gen rfl (PySem.W.codeRec_of kin hcd) (hb _ _ _ _ (wpAny_newFunctionEnv_cells S.kind (fun y hy => ?_) fun env he s1 x => ?_))
  · rcases S.par y.1 (List.of_mem_zip hy).1 with q | q
    · exact .inl q
    · exact .inr ⟨q, PySem.W.cellsFrom_some _ _ _ (.inl q)⟩
  subst he
  refine ⟨lim.keeps x.toInCall.keep, codeAny_func ?_⟩
  obtain ⟨t, ht, hq⟩ := hbody cdv A outer s H vs Q E (hr.deeper _) hsp
  have I0 := inv_start (A := { A with handled := none }) (CX := CX0) (E := E) S rfl ⟨e0.frames, e0.mod, e0.bs, e0.bsz, e0.funs, e0.frf, e0.hok, e0.bare⟩ lv r x
  have ok := I0.ok
  have I : L2.Inv (cxW P w K mg base N qual (defScope st) f cdv A outer s H E) [] (L2.start N vs) H s1 :=
    ⟨⟨ok.mod, ok.kind, ok.glob, ok.blt, ok.above, ok.inj, ok.has, ok.cab, fun z => Bool.noConfusion (show false = true from z), Around.frames_deeper e0.frames, ok.stk, ok.exf, ok.bs, ok.bsz, ok.noex, ok.exfs, ok.funs, ok.frf⟩,
      I0.os, I0.bare, I0.base, I0.loc, I0.cell, I0.free, I0.freeC, I0.pin, I0.hok, I0.len⟩
  refine wpAny_mono (ht.run [] s1 (L2.start N vs) H _ I hq) (fun fl s2 hs => ?_) fun e s2 hs => hs
  cases fl with
  | brk =>
    obtain ⟨_, _, _, z⟩ := hs
    cases z
  | cont =>
    obtain ⟨_, _, _, z⟩ := hs
    cases z
  | next =>
    obtain ⟨σ', H', J, z⟩ := hs
    exact ⟨V.non, H', J.os, J.bare, J.base, J.hok, rfl, z⟩
  | ret u =>
    obtain ⟨v, σ', H', J, rv, z⟩ := hs
    exact ⟨v, H', J.os, J.bare, J.base, J.hok, rv, z⟩
theorem pe_callW {X : Cx} {k : Nat} {f : Addr} {fd : FuncData} {ps : List Str} {sp : Sp} {x : Str} {q pos : Pos} {e : Expr} {es : List Expr} {t : TA} (F : FnW X.prog X.w X.K X.mg X.base k f fd ps sp) (hr : L2H.RoomH k X.A) (hg : Gl X x) (hm : X.mg x = some (.ref f)) (hk : PySem.W.keepIn X.K (.ref f) = true) (hb : Binds X.K fd ps [])
    (ha : PA X (e :: es) t) (hdb : (x == ("__debug__" : Str)) = false := by decide) (he : starEach (e :: es) X.env = (false, eval e X.env) :: starEach es X.env := by rfl) (hpl : (backTo pos (starEach es X.env)).any (·.1) = false := by rfl) :
    PE X (.Call (.Name x q) (e :: es) [] pos) (tCall sp [] (fun _ _ _ => False) t) := by
  constructor
  intro pins s σ H Q I h
  refine wpAny_Call_Name_kw (ld_glob I hg hm ?_ hdb)
  refine PySem.W.callWith_K (h₀ := X.base) I.ok.mod.kin hk (thn (ha.run pos pins s σ H _ I h) fun us s1 got => ?_) he hpl
  obtain ⟨vs, H1, I1, r, q1⟩ := got
  rw [List.append_nil] at q1
  refine ⟨I1.kIn, ?_⟩
  have lu : us.length = ps.length := by rw [← r.length]; exact F.len _ _ _ _ q1
  have b := hb s1 us I1.kIn (by rw [List.append_nil]; exact lu)
  rw [List.append_nil] at b
  show wpAny _ _ (call (.ref f) us) _ _ _
  refine wpAny_call (codeAny_mono (F.run X.A X.stack s1 H1 ⟨us, []⟩ us vs Q (fun _ _ _ => False) hr I1.env0 b r q1) fun r s' hq => ?_)
  cases r with
  | error e => exact False.elim hq
  | ok fl =>
    cases fl with
    | ret u => exact I1.after hq
    | next => exact False.elim hq
    | brk => exact False.elim hq
    | cont => exact False.elim hq
end Vf
namespace Vf
open PySem L2
theorem ix_nth {st : List Str} {k : Nat} {s : Str} (nd : st.Nodup) (h : st[k]? = some s) : ix st s = (k : Int) := by
  have m := List.mem_of_getElem? h
  have lt := List.idxOf_lt_length_of_mem m
  have e : st[st.idxOf s]? = some s := by rw [List.getElem?_eq_getElem lt, List.getElem_idxOf lt]
  unfold ix
  rw [nodup_ix nd e h]
theorem unknown_in {D : DD} (vN : ValidN D) (sm : Small D) {w s : Str} (h : s ∈ [("zz9" : Str), ("" : Str), ("A" : Str), w ++ ("9zz" : Str)]) : s ∉ D.st := by
  simp only [List.mem_cons, List.not_mem_nil, or_false] at h
  rcases h with rfl | rfl | rfl | rfl
  · intro m
    obtain ⟨i, hi⟩ := List.mem_iff_getElem?.mp m
    have il := (List.getElem?_eq_some_iff.mp hi).1
    have l6 := sm.st6
    have hd := (goodName_of (by omega) (sm.gn i _ hi)).2
    have e : (Str.ofString "zz9").cps.toList.head? = some 122 := by decide +kernel
    rw [e] at hd
    have := Option.some.inj hd
    omega
  · intro m
    have q := vN.nm _ m
    have e : isName (Str.ofString "") = false := by decide +kernel
    rw [e] at q
    cases q
  · intro m
    have q := vN.nm _ m
    have e : isName (Str.ofString "A") = false := by decide +kernel
    rw [e] at q
    cases q
  · exact sm.noName (end_zz w)
end Vf

/-! ### places and meetings -/
namespace Vf
open PySem L2
def canMeet (ns : List Int) (m : Int × Int) : Bool :=
  if m.1 < 0 ∨ m.2 < 0 ∨ (ns.length : Int) ≤ m.1 ∨ (ns.length : Int) ≤ m.2 then false
  else if m.1 = m.2 then decide (2 ≤ ns.getD m.1.toNat 0) else decide (1 ≤ ns.getD m.1.toNat 0) && decide (1 ≤ ns.getD m.2.toNat 0)
def movePl (ns : List Int) (m r : Int × Int) : List Int := putAt (putAt (putAt (putAt ns m.1.toNat (-1)) m.2.toNat (-1)) r.1.toNat 1) r.2.toNat 1
def Fits (n : Nat) (ns : List Int) : Prop := ns.length = n ∧ ∀ y ∈ ns, 0 ≤ y
def InR (n : Nat) (m : Int × Int) : Prop := 0 ≤ m.1 ∧ m.1 < n ∧ 0 ≤ m.2 ∧ m.2 < n
theorem canMeet_in {ns : List Int} {m : Int × Int} (h : canMeet ns m = true) : InR ns.length m := by
  unfold canMeet at h
  by_cases c : m.1 < 0 ∨ m.2 < 0 ∨ (ns.length : Int) ≤ m.1 ∨ (ns.length : Int) ≤ m.2
  · rw [if_pos c] at h
    cases h
  · simp only [not_or, Int.not_lt, Int.not_le] at c
    exact ⟨c.1, c.2.2.1, c.2.1, c.2.2.2⟩
theorem putAt_get (pl : List Int) (i j : Nat) (c : Int) : (putAt pl i c).getD j 0 = if i = j ∧ j < pl.length then pl.getD j 0 + c else pl.getD j 0 := by
  unfold putAt
  rw [List.getD_eq_getElem?_getD, List.getElem?_set]
  by_cases e : i = j
  · subst e
    by_cases l : i < pl.length
    · simp [l]
    · simp [l]
  · simp [e]
theorem nonneg_of {ns : List Int} (h : ∀ j, j < ns.length → 0 ≤ ns.getD j 0) : ∀ y ∈ ns, 0 ≤ y := fun y hy => by
  obtain ⟨j, hj, rfl⟩ := List.mem_iff_getElem.mp hy
  have := h j hj
  rw [List.getD_eq_getElem?_getD, List.getElem?_eq_getElem hj] at this
  exact this
theorem nonneg_at {ns : List Int} (h : ∀ y ∈ ns, 0 ≤ y) (j : Nat) : 0 ≤ ns.getD j 0 := by
  rw [List.getD_eq_getElem?_getD]
  cases e : ns[j]? with
  | none => exact Int.le_refl _
  | some y => exact h y (List.mem_of_getElem? e)
theorem movePl_len (ns : List Int) (m r : Int × Int) : (movePl ns m r).length = ns.length := by
  unfold movePl
  rw [putAt_len, putAt_len, putAt_len, putAt_len]
theorem move_fits {n : Nat} {ns : List Int} {m r : Int × Int} (h : Fits n ns) (c : canMeet ns m = true) : Fits n (movePl ns m r) := by
  obtain ⟨hl, hn⟩ := h
  refine ⟨(movePl_len ..).trans hl, nonneg_of fun j hj => ?_⟩
  obtain ⟨i0, i1, j0, j1⟩ := canMeet_in c
  have hj0 := nonneg_at hn j
  unfold canMeet at c
  rw [if_neg (by simp only [not_or, Int.not_lt, Int.not_le]; exact ⟨i0, j0, i1, j1⟩)] at c
  unfold movePl
  simp only [putAt_get, putAt_len]
  by_cases e : m.1 = m.2
  · rw [if_pos e, decide_eq_true_eq] at c
    rw [e] at c ⊢
    by_cases e1 : m.2.toNat = j
    · subst e1
      split <;> split <;> split <;> omega
    · simp only [e1, false_and, if_false]
      split <;> split <;> omega
  · rw [if_neg e, Bool.and_eq_true, decide_eq_true_eq, decide_eq_true_eq] at c
    obtain ⟨c1, c2⟩ := c
    by_cases e1 : m.1.toNat = j
    · have e2 : ¬ m.2.toNat = j := fun z => e (by omega)
      subst e1
      simp only [e2, false_and, if_false]
      split <;> split <;> split <;> omega
    · simp only [e1, false_and, if_false]
      by_cases e2 : m.2.toNat = j
      · subst e2
        split <;> split <;> split <;> omega
      · simp only [e2, false_and, if_false]
        split <;> split <;> omega
theorem meetOf_in {D : DD} (v : ValidN D) {m : Int × Int} (h : InR D.st.length m) : InR D.st.length (meetOf (rks D) (rvs D) m) := by
  unfold meetOf
  by_cases c : m ∈ rks D
  · rw [if_pos c]
    have lt := List.idxOf_lt_length_of_mem c
    have l2 : (rvs D).length = (rks D).length := by simp [rvs, rks]
    have mem : (rvs D).getD ((rks D).idxOf m) m ∈ rvs D := getD_mem (by omega)
    obtain ⟨r, hr, er⟩ := List.mem_map.mp mem
    rw [← er]
    obtain ⟨_, _, m3, m4⟩ := v.rum r hr
    have b3 := List.idxOf_lt_length_of_mem m3
    have b4 := List.idxOf_lt_length_of_mem m4
    unfold ix
    refine ⟨?_, ?_, ?_, ?_⟩ <;> dsimp only <;> omega
  · rw [if_neg c]
    exact h
def goPl (f : Int × Int → Int × Int) : Nat → List (Int × Int) → List Int → Nat ⊕ List Int
  | _, [], pl => .inr pl
  | k, m :: r, pl => if canMeet pl m = true then goPl f (k + 1) r (movePl pl m (f m)) else .inl k
theorem goPl_step {f : Int × Int → Int × Int} {ms : List (Int × Int)} {i : Nat} {m : Int × Int} {pl : List Int} (h : ms[i]? = some m) : goPl f i (ms.drop i) pl = if canMeet pl m = true then goPl f (i + 1) (ms.drop (i + 1)) (movePl pl m (f m)) else .inl i := by
  have hi := (List.getElem?_eq_some_iff.mp h).1
  rw [List.drop_eq_getElem_cons hi, (List.getElem?_eq_some_iff.mp h).2]
  rfl
theorem goPl_end {f : Int × Int → Int × Int} {ms : List (Int × Int)} {i : Nat} {pl : List Int} (h : ms.length ≤ i) : goPl f i (ms.drop i) pl = .inr pl := by
  rw [List.drop_eq_nil_iff.mpr h]
  rfl
abbrev fD (D : DD) : Int × Int → Int × Int := meetOf (rks D) (rvs D)
def encI (ns : List Int) : List V := ns.map V.int
theorem refOk : PyData.strOk (Str.ofString "refused") = true := by decide +kernel
/-- what a run tells: the place, or the index of the meeting that is not possible -/
def Told (K : PySem.W.Frag) (H : Hp) (v : V) : Nat ⊕ List Int → Prop
  | .inl k => ∃ q, v = .ref q ∧ SqT K H q [.str "refused", .int (k : Int)]
  | .inr pl => ∃ q, v = .ref q ∧ SqT K H q (pl.map V.int)
theorem Told.same {K : PySem.W.Frag} {H H' : Hp} {v : V} {r : Nat ⊕ List Int} (h : Told K H v r) (e : Same H H') : Told K H' v r := by
  cases r with
  | inl k => exact ⟨h.choose, h.choose_spec.1, Same.seqT e h.choose_spec.2⟩
  | inr pl => exact ⟨h.choose, h.choose_spec.1, Same.seqT e h.choose_spec.2⟩
theorem Told.dp {K : PySem.W.Frag} {H : Hp} {x y : V} {r : Nat ⊕ List Int} (h1 : Told K H x r) (h2 : Told K H y r) : ∃ d e, Dp K H x d ∧ Dp K H y e ∧ SeqAt.shaped d = true ∧ SeqAt.shaped e = true ∧ PyData.eqv d e = true := by
  cases r with
  | inl k =>
    obtain ⟨a, rfl, ha⟩ := h1
    obtain ⟨b, rfl, hb⟩ := h2
    have al : ∀ H, DpAll K H [V.str "refused", V.int (k : Int)] [PyData.str "refused", PyData.int (k : Int)] := fun H => .cons (.str _) (.cons (.int _) .nil)
    have sh : SeqAt.shaped (.tuple [PyData.str "refused", PyData.int (k : Int)]) = true := by
      unfold SeqAt.shaped
      simp [PyData.canLay0, PyData.canLayAll0, PyData.depth, PyData.depthAll, refOk]
    exact ⟨_, _, .tup ha (al H), .tup hb (al H), sh, sh, PySem.SeqAt.eqv_refl _ (by simp [PyData.canLay0, PyData.canLayAll0, refOk])⟩
  | inr pl =>
    obtain ⟨a, rfl, ha⟩ := h1
    obtain ⟨b, rfl, hb⟩ := h2
    obtain ⟨d, e, x1, x2, x3, x4, x5⟩ := TwoInts.dp (K := K) (H := H) (ns := pl) (ms := pl) ⟨a, b, rfl, rfl, .inr ⟨ha, hb⟩⟩
    exact ⟨d, e, x1, x2, x3, x4, by rw [x5]; exact decide_eq_true rfl⟩
/-- a list of pairs as data -/
theorem dpAll_pairs {K : PySem.W.Frag} {H : Hp} : ∀ {xs : List V} {ms : List (Int × Int)}, Tups encP H xs ms → DpAll K H xs (ms.map fun m => PyData.tuple [.int m.1, .int m.2])
  | [], [], _ => .nil
  | [], m :: r, t => by have := t.1; simp at this
  | x :: xs, [], t => by have := t.1; simp at this
  | x :: xs, m :: r, t => by
    obtain ⟨u, e1, e2⟩ := t.2 0 m rfl
    obtain rfl : x = .ref u := Option.some.inj e1
    refine .cons (.tup (SqT.of e2) (.cons (.int _) (.cons (.int _) .nil))) (dpAll_pairs ⟨Nat.succ.inj t.1, fun i a e => ?_⟩)
    exact t.2 (i + 1) a e
end Vf
namespace Vf
open PySem L2
theorem canMeet_bad {ns : List Int} {m : Int × Int} (h : m.1 < 0 ∨ m.2 < 0 ∨ (ns.length : Int) ≤ m.1 ∨ (ns.length : Int) ≤ m.2) : canMeet ns m = false := if_pos h
theorem canMeet_same {ns : List Int} {i j : Int} (h : ¬ (i < 0 ∨ j < 0 ∨ (ns.length : Int) ≤ i ∨ (ns.length : Int) ≤ j)) (e : i = j) : canMeet ns (i, j) = decide (2 ≤ ns.getD i.toNat 0) := by
  unfold canMeet
  rw [if_neg h, if_pos e]
theorem canMeet_diff {ns : List Int} {i j : Int} (h : ¬ (i < 0 ∨ j < 0 ∨ (ns.length : Int) ≤ i ∨ (ns.length : Int) ≤ j)) (e : ¬ i = j) : canMeet ns (i, j) = (decide (1 ≤ ns.getD i.toNat 0) && decide (1 ≤ ns.getD j.toNat 0)) := by
  unfold canMeet
  rw [if_neg h, if_neg e]
end Vf
namespace Vf
open PySem L2
section
variable {pl : List Int} {x : Int}
theorem getI (h0 : 0 ≤ x) (h : x < pl.length) : (pl.map V.int)[x.toNat]? = some (V.int (pl.getD x.toNat 0)) := by
  have lt : x.toNat < pl.length := by omega
  rw [List.getElem?_map, List.getD_eq_getElem?_getD, List.getElem?_eq_getElem lt]
  rfl
theorem ixI (h0 : 0 ≤ x) (h : x < pl.length) : ixN (pl.map V.int).length x = some x.toNat := by
  unfold ixN
  rw [List.length_map, if_pos h0, if_pos (by omega)]
theorem setAdd {H : Hp} {c : Addr} {d : Int} : (upd H c (.lst ((pl.map V.int).set x.toNat (V.int (pl.getD x.toNat 0 + d))))) c = some (.lst ((putAt pl x.toNat d).map V.int)) := by rw [upd_same, ← putAt_map]
theorem setSub {H : Hp} {c : Addr} {d : Int} : (upd H c (.lst ((pl.map V.int).set x.toNat (V.int (pl.getD x.toNat 0 - d))))) c = some (.lst ((putAt pl x.toNat (-d)).map V.int)) := by rw [upd_same, ← putAt_map]; rfl
end
end Vf
namespace Vf
theorem dec2 {x : Int} : decide (2 ≤ x) = decide (1 < x) := decide_eq_decide.mpr (by omega)
theorem dec1 {x : Int} : decide (1 ≤ x) = decide (0 < x) := decide_eq_decide.mpr (by omega)
end Vf
namespace Vf
open PySem L2
theorem PP.got {H : Hp} {kvs : List (List Key × V)} {ks vl : List (Int × Int)} (p : PP H kvs ks vl) {k : Int × Int} {t : Addr} (ht : H t = some (.tup (encP k))) : ∃ t2, (valV kvs (keyP k)).getD (V.ref t) = .ref t2 ∧ H t2 = some (.tup (encP (meetOf ks vl k))) := by
  rcases p.get k with ⟨y1, y2⟩ | ⟨t2, y1, y2⟩
  · rw [y1, y2]
    exact ⟨t, rfl, ht⟩
  · rw [y1]
    exact ⟨t2, rfl, y2⟩
end Vf
namespace Vf
theorem putAt_mem {pl : List Int} {i : Nat} {c y : Int} (h : y ∈ putAt pl i c) : y ∈ pl ∨ (i < pl.length ∧ y = pl.getD i 0 + c) := by
  unfold putAt at h
  have h0 := h
  rcases List.mem_or_eq_of_mem_set h with h | h
  · exact .inl h
  · by_cases l : i < pl.length
    · exact .inr ⟨l, h⟩
    · rw [List.set_eq_of_length_le (by omega)] at h0
      exact .inl h0
theorem putAt_bound {pl : List Int} {i : Nat} {b : Int} (h : ∀ y ∈ pl, 0 ≤ y ∧ y ≤ b) (hi : i < pl.length) : ∀ y ∈ putAt pl i 1, 0 ≤ y ∧ y ≤ b + 1 := fun y hy => by
  rcases putAt_mem hy with m | ⟨_, rfl⟩
  · have := h y m
    omega
  · have := h _ (getD_mem hi (d := 0))
    omega
end Vf
namespace Vf
theorem bits_small {i : Nat} (h : i ≤ 1000000) : (i : Int).natAbs.log2 < 1920 := by
  rw [Int.natAbs_natCast]
  by_cases hz : i = 0
  · subst hz
    decide
  · exact (Nat.log2_lt hz).mpr (Nat.lt_of_le_of_lt h (by decide))
theorem refused_eq {i : Nat} : [L2.V.str "refused", L2.V.int (0 + (i : Int))] = [L2.V.str "refused", L2.V.int (i : Int)] := by rw [Int.zero_add]
end Vf
namespace Vf
open PySem L2
theorem catT {K : PySem.W.Frag} {H : Hp} {a b : Addr} {xs ys : List V} {Q : VK} (hx : H a = some (.tup xs)) (hy : SqT K H b ys) (ne : xs ≠ []) (hs : xs.length + ys.length ≤ sizeLine)
    (k : ∀ (p : Addr) (H' : Hp), Same H H' → H' p = some (.tup (xs ++ ys)) → Q (.ref p) H') : rCatT K (.ref a) (.ref b) H Q := by
  refine ⟨a, b, xs, ys, rfl, rfl, SqT.of hx, hy, ne, hs, fun e => ?_, fun _ p np => k p _ (Vf.Same.new (Same.refl H) np) upd_same⟩
  refine k a H (Same.refl H) ?_
  rw [e, List.append_nil]
  exact hx
theorem slT1 {K : PySem.W.Frag} {H : Hp} {a : Addr} {xs : List V} {Q : VK} (hx : SqT K H a xs) (h0 : 0 < xs.length) (k : ∀ (p : Addr) (H' : Hp), Same H H' → H' p = some (.tup (xs.drop 1)) → Q (.ref p) H') : rSlT K (.ref a) (some 1) none H Q := by
  refine ⟨a, xs, rfl, hx, ?_, fun p np => k p _ (Vf.Same.new (Same.refl H) np) ?_⟩
  · intro e
    have e1 : HT.sIx xs.length 0 (some ((1 : Nat) : Int)) = min 1 xs.length := HT.sIx_nat _ _ _
    have e2 : HT.sIx xs.length 0 (some (1 : Int)) = 0 := e.1
    rw [show ((1 : Nat) : Int) = (1 : Int) from rfl, e2] at e1
    omega
  · rw [upd_same]
    exact congrArg (fun z => some (HO.tup z)) (Vf.cut_from xs 1 h0)
theorem Tups.one {α : Type} {enc : α → List V} {H : Hp} {t : Addr} {a : α} (h : H t = some (.tup (enc a))) : Tups enc H [.ref t] [a] := Tups.snoc (xs := []) (l := []) Tups.nil h
end Vf
namespace Vf
open PySem L2
theorem PoolAt.pp {H : Hp} {p : Addr} {n : Int} {kvs : List (List Key × V)} {ks vl : List (Int × Int)} (P : PoolAt H p n) (q : PP H kvs ks vl) : PP (Er p H) kvs ks vl := ⟨q.keys, P.tups q.vals, q.nd⟩
theorem sum_pos : ∀ {ns : List Int}, 1 < ns.sum → ∃ k, k < ns.length ∧ 0 < ns.getD k 0
  | [], h => by simp at h
  | n :: r, h => by
    by_cases c : 0 < n
    · exact ⟨0, by simp, by simpa using c⟩
    · rw [List.sum_cons] at h
      obtain ⟨k, h1, h2⟩ := sum_pos (ns := r) (by omega)
      exact ⟨k + 1, by simp; omega, by simpa using h2⟩
theorem Keep.tup {p : Addr} {H H' : Hp} {o : HO} (k : Keep [p] H H') (hp : H p = some o) {t : Addr} {ys : List V} (ne : ∀ zs, o ≠ .tup zs) (h : H t = some (.tup ys)) : H' t = some (.tup ys) := k t _ (fun m => by
  rw [List.mem_singleton.mp m, hp] at h
  exact ne ys (Option.some.inj h)) h
end Vf
namespace Vf
open PySem L2
/-- while a run is drawn: the steps' list, the place, the pool -/
structure Stp (G : Hp) (pl dr st at_ : Addr) (xs : List V) (ms : List (Int × Int)) (cur : List Int) (H : Hp) (m : Int) : Prop where
  g : Same G H
  s : H st = some (.lst xs)
  t : Tups encP H xs ms
  a : H at_ = some (.tup (cur.map V.int))
  p : H pl = some (.lst [.ref dr, .int m])
section
variable {G H H' : Hp} {pl dr st at_ : Addr} {xs : List V} {ms : List (Int × Int)} {cur : List Int} {m m' : Int}
theorem Stp.same (S : Stp G pl dr st at_ xs ms cur H m) (e : Same H H') : Stp G pl dr st at_ xs ms cur H' m := ⟨S.g.trans e, e _ _ S.s, S.t.same e, e _ _ S.a, e _ _ S.p⟩
theorem nolst {x y : V} : ∀ zs, HO.lst [x, y] ≠ .tup zs := fun zs e => by cases e
theorem Stp.pick (S : Stp G pl dr st at_ xs ms cur H m) (gn : G pl = none) (ne : st ≠ pl) (h : H' pl = some (.lst [.ref dr, .int m'])) (k : Keep [pl] H H') : Stp G pl dr st at_ xs ms cur H' m' :=
  ⟨same_keep S.g gn k, k st _ (by simpa using ne) S.s, S.t.mono fun t ys e => k.tup S.p nolst e, k.tup S.p nolst S.a, h⟩
theorem Stp.at_ne (S : Stp G pl dr st at_ xs ms cur H m) {t : Addr} {ys : List V} (h : H t = some (.tup ys)) : t ≠ st ∧ t ≠ pl := ⟨fun e => (by rw [e, S.s] at h; cases h), fun e => (by rw [e, S.p] at h; cases h)⟩
/-- a step is put behind -/
theorem Stp.put (S : Stp G pl dr st at_ xs ms cur H m) (gn : G st = none) (ne : st ≠ pl) {t : Addr} {a : Int × Int} (h : H t = some (.tup (encP a))) : Stp G pl dr st at_ (xs ++ [.ref t]) (ms ++ [a]) cur (upd H st (.lst (xs ++ [.ref t]))) m := by
  have up : ∀ {x : Addr} {ys : List V}, H x = some (.tup ys) → (upd H st (.lst (xs ++ [.ref t]))) x = some (.tup ys) := fun {x ys} e => by rw [upd_ne (S.at_ne e).1]; exact e
  exact ⟨Vf.Same.chg S.g gn, upd_same, (S.t.mono fun x ys e => up e).snoc (up h), up S.a, by rw [upd_ne (Ne.symm ne)]; exact S.p⟩
end
theorem canLay_pairs : ∀ ms : List (Int × Int), PyData.canLayAll0 (ms.map fun m => PyData.tuple [.int m.1, .int m.2]) = true
  | [] => by simp [PyData.canLayAll0]
  | m :: r => by simp [PyData.canLayAll0, PyData.canLay0, canLay_pairs r]
theorem depth_pairs : ∀ ms : List (Int × Int), PyData.depthAll (ms.map fun m => PyData.tuple [.int m.1, .int m.2]) ≤ 2
  | [] => by simp [PyData.depthAll]
  | m :: r => by
    have := depth_pairs r
    simp only [List.map_cons, PyData.depthAll, PyData.depth]
    omega
theorem shaped_pairs (ms : List (Int × Int)) : SeqAt.shaped (.list (ms.map fun m => PyData.tuple [.int m.1, .int m.2])) = true := by
  have h1 := depth_pairs ms
  have h2 : PyData.depth (.list (ms.map fun m => PyData.tuple [.int m.1, .int m.2])) ≤ 64 := by
    simp only [PyData.depth]
    omega
  show (PyData.canLay0 (.list (ms.map fun m => PyData.tuple [.int m.1, .int m.2])) && decide (PyData.depth (.list (ms.map fun m => PyData.tuple [.int m.1, .int m.2])) ≤ 64)) = true
  rw [Bool.and_eq_true]
  exact ⟨by simp only [PyData.canLay0]; exact canLay_pairs ms, decide_eq_true h2⟩
theorem eqv_pairs (ms : List (Int × Int)) : PyData.eqv (.list (ms.map fun m => PyData.tuple [.int m.1, .int m.2])) (.list (ms.map fun m => PyData.tuple [.int m.1, .int m.2])) = true :=
  PySem.SeqAt.eqv_refl _ (by simp only [PyData.canLay0]; exact canLay_pairs ms)
theorem cut_to' (xs : List V) (t : Nat) : cutV xs none (some (t : Int)) = xs.take t := by
  have e1 : HT.sIx xs.length xs.length (some (t : Int)) = min t xs.length := HT.sIx_nat _ _ _
  have e2 : HT.sIx xs.length 0 none = 0 := rfl
  unfold cutV
  rw [e1, e2]
  show List.take (min t xs.length - 0) (xs.drop 0) = xs.take t
  rw [List.drop_zero, Nat.sub_zero]
  by_cases h : t ≤ xs.length
  · rw [Nat.min_eq_left h]
  · rw [Nat.min_eq_right (by omega), List.take_length, List.take_of_length_le (by omega)]
/-- places that do not fit -/
theorem bad_fit {n : Nat} {ns x : List Int} (h : ns.length = n) (h0 : 0 < n) (m : x ∈ [ns ++ [0], ns ++ [1], -1 :: ns.drop 1, ns.drop 1]) : ¬ Fits n x := by
  rintro ⟨l, p⟩
  simp only [List.mem_cons, List.not_mem_nil, or_false] at m
  rcases m with rfl | rfl | rfl | rfl
  · simp at l; omega
  · simp at l; omega
  · have := p (-1) (by simp)
    omega
  · simp at l; omega
theorem er_same {pl : Addr} {G H : Hp} (g : G pl = none) (s : Same G H) : Same G (Er pl H) := fun x o h => (if_neg (neq_none h g)).trans (s x o h)
end Vf

/-! ### enumerate(tuple); a list or a tuple walked; sorted of tuples of whole numbers -/
namespace Vf
open PySem PySem.Spec PyProof.Rows L2
def IteT (K : PySem.W.Frag) (a : Addr) : It :=
  ⟨fun i H => ∃ (xs : List V) (x : V), SqT K H a xs ∧ xs[i]? = some x, fun i H v H' => ∃ T x, v = .ref T ∧ H T = none ∧ H' = upd H T (.tup [.int (i : Nat), x]) ∧ ∀ xs, SqT K H a xs → xs[i]? = some x, fun i H => ∃ xs : List V, SqT K H a xs ∧ xs.length = i⟩
theorem turn_enumT {P : Program} {w : World} {K : PySem.W.Frag} {elts : List Expr} {kk : Nat} {tpos : Pos} (a e it : Addr) (hai : a ≠ it) (hae : a ≠ e) :
    Turn P w K (.Tuple elts kk tpos) (IteT K a) [e, it] e (fun i h => (∃ old, IsEnum h e it ((i : Nat) : Int) old) ∧ h.IsTupleIter it a i ∧ e ≠ it) where
  mem := by simp
  obj := fun i h st b hb => by
    obtain ⟨⟨old, he⟩, ⟨o, ho, hc, hd⟩, _⟩ := st
    have e' : b = e ∨ b = it := by simpa using hb
    rcases e' with z | z
    · rw [z]; exact ⟨_, he, fun v q => nomatch q⟩
    · rw [z]; exact ⟨o, ho, fun v q => by rw [hd] at q; cases q⟩
  keep := fun i h h' st k => let ⟨⟨old, he⟩, hi, hne⟩ := st; ⟨⟨old, k e (by simp) _ he⟩, hi.at fun o q => k it (by simp) o q, hne⟩
  item := by
    intro X hP hw hK hc i pins s σ H E I hf st hg
    subst hP hw hK
    obtain ⟨⟨old, he⟩, hit, hne⟩ := st
    obtain ⟨xs, x, hq, hx⟩ := hg
    obtain ⟨its, rv, p, hz⟩ := I.tuple hq
    obtain ⟨u, hu, ru⟩ := rv.get hx
    have hel : e < s.heap.objs.size := Heap.lt_size he
    have hil : it < s.heap.objs.size := by obtain ⟨_, q, _⟩ := hit; exact Heap.lt_size q
    have nh : X.A.in1.handled = none := I.ok.hd hc
    have lx := (List.getElem?_eq_some_iff.mp hu).1
    refine wpAny_pyNext_enum_itemD (Draws.tuple nh it a hai its.toArray) he ⟨hit, p⟩ (by simpa using lx) hne (by simp [hne, Ne.symm hae]) fun x1 h' tk e1 ho hst' hT hsz hk => ?_
    obtain rfl : u = x1 := by
      have e := e1
      simp only [List.getElem?_toArray] at e
      rw [hu] at e
      exact Option.some.inj e
    obtain ⟨hit', _⟩ := hst'
    refine ⟨_, rfl, wpAny_letOwnedTupleGo_enum (s := { s with heap := h', toks := tk + 1 }) ho fun h'' he' sb => ?_⟩
    have hT2 : h''.get? s.heap.objs.size = some { cls := .type "tuple", data := .seq #[.int i tk, u] } := (sb.2 _ (Nat.ne_of_gt hel)).trans hT
    have new : ObjOk X.prog X.w (upd H s.heap.objs.size (.tup [.int (i : Nat), x])) h'' s.heap.objs.size (.tup [.int (i : Nat), x]) :=
      ⟨by show 2 ≤ sizeLine; decide, [.int i tk, u], .cons ⟨_, rfl⟩ (.cons ru .nil), ⟨_, hT2, rfl, _, rfl⟩⟩
    have I1 : Inv X pins σ (upd H s.heap.objs.size (.tup [.int (i : Nat), x])) { s with heap := h'', toks := tk + 1 } :=
      I.turnedNew (ch := [e, it]) (fun b ob hb q => (sb.2 b (fun z => hb (by simp [z]))).trans (hk b ob (fun z => hb (by simp [z])) (fun z => hb (by simp [z])) q)) hf (Nat.le_refl _) new
    refine ⟨.ref s.heap.objs.size, _, I1, rfl, ⟨_, x, rfl, I.hok.fresh (Nat.le_refl _), rfl, fun ys hy => by rw [I.tuple_inj hy hq]; exact hx⟩, ⟨⟨u, ?_⟩, hit'.at fun o q => (sb.2 it (Ne.symm hne)).trans q, hne⟩, fun b hb => ?_⟩
    · have e1 : ((i + 1 : Nat) : Int) = (i : Int) + 1 := by omega
      rw [e1]; exact he'
    · have hb' : b < s.heap.objs.size := by
        have e' : b = e ∨ b = it := by simpa using hb
        rcases e' with z | z
        · rw [z]; exact hel
        · rw [z]; exact hil
      rw [upd_ne (Nat.ne_of_lt hb')]
      exact (hf b hb).1
  done := by
    intro X hP hw hK hc i pins s σ H E I hf st hg
    subst hP hw hK
    obtain ⟨⟨old, he⟩, hit, hne⟩ := st
    obtain ⟨xs, hq, hx⟩ := hg
    obtain ⟨its, rv, p, hz⟩ := I.tuple hq
    obtain ⟨f0, f1, f2, f3, f4, f5⟩ := hf it (by simp)
    have hl := rv.length
    have nh : X.A.in1.handled = none := I.ok.hd hc
    refine wpAny_pyNext_enum_endD (Draws.tuple nh it a hai its.toArray) he ⟨by rw [List.size_toArray, ← hl, hx]; exact hit, p⟩ fun h' eb => ⟨rfl, I.turned (t' := s.toks) (fun b o hb q => eb b o hb q) f0 f1 f3 f4 f5⟩
  self := fun A i s Q E st h => let ⟨⟨_, he⟩, _⟩ := st; wpAny_pyIter_enum he h
theorem meets_enumerate_newT (l : Addr) (items : Array Value) : Meets (Builtin.«enumerate.__new__» ⟨[.type "enumerate", .ref l], []⟩) (fun _ R s => s.heap.IsTuple l items ∧
      R (.ok (.ret (.ref (s.heap.push { cls := .type "tuple_iterator", data := .fields #[.ref l, .int 0 0] }).objs.size)))
        { s with heap := (s.heap.push { cls := .type "tuple_iterator", data := .fields #[.ref l, .int 0 0] }).push { cls := .type "enumerate", data := .fields #[.none, .bool false, .ref s.heap.objs.size, rawInt 0, .none, .none] } }) :=
  .of_wp fun prog w A R s h => by
    obtain ⟨hp, g, d, tk, os⟩ := s
    obtain ⟨hL, h⟩ := h
    have hsub := sub_enumerate
    have hL' : Heap.IsTuple (Shared.heap ⟨hp, g, d, tk, os⟩) l items := hL
    wp_walk
    refine wpAny_stack_any fun st => wpAny_pure ?_
    split
    · rename_i c _ _ _ _ _
      cases (c == Value.type "enumerate")
      · wp_walk using wpAny_pyIter_tuple hL'
        exact ⟨_, rfl, h⟩
      · wp_walk using wpAny_pyIter_tuple hL'
        exact ⟨_, rfl, h⟩
    · wp_walk using wpAny_pyIter_tuple hL'
      exact ⟨_, rfl, h⟩
theorem call_enumerate_tup {prog : Program} {w : World} {A : Around} {E : Value → Shared → Prop} {s : Shared} {l : Addr} {items : Array Value} {Q : Value → Shared → Prop} (hL : s.heap.IsTuple l items)
    (h : ∀ h', IsEnum h' (s.heap.objs.size + 1) s.heap.objs.size 0 .none → h'.IsTupleIter s.heap.objs.size l 0 → h'.objs.size = s.heap.objs.size + 2 →
      (∀ b o, s.heap.get? b = some o → h'.get? b = some o) → Q (.ref (s.heap.objs.size + 1)) { s with heap := h' }) :
    wpAny (model prog w) A (call (.type "enumerate") [.ref l]) Q E s := by
  refine callType_new F.called_enumerate (by decide) (F.typeCall_enumerate_1 _) (F.newCall_enumerate_1 _) (fun obj => F.args_object_init_2 obj _) F.entry_enumerate_new
    (meets_enumerate_newT l items) ⟨hL, ?_⟩
  have hz : (s.heap.push { cls := .type "tuple_iterator", data := .fields #[.ref l, .int 0 0] }).objs.size = s.heap.objs.size + 1 := Heap.size_push ..
  show _ ∧ _
  rw [hz]
  have he : IsEnum ((s.heap.push { cls := .type "tuple_iterator", data := .fields #[.ref l, .int 0 0] }).push
      { cls := .type "enumerate", data := .fields #[.none, .bool false, .ref s.heap.objs.size, rawInt 0, .none, .none] }) (s.heap.objs.size + 1) s.heap.objs.size 0 .none := by
    have := Heap.get?_push_size (s.heap.push { cls := .type "tuple_iterator", data := .fields #[.ref l, .int 0 0] })
      (o := { cls := .type "enumerate", data := .fields #[.none, .bool false, .ref s.heap.objs.size, rawInt 0, .none, .none] }) rfl
    rw [hz] at this; exact this
  refine ⟨⟨_, he, rfl⟩, h _ he ⟨_, Heap.get?_push_of_some _ (Heap.get?_push_size _ rfl), rfl, rfl⟩ (by rw [Heap.size_push, hz]) fun b o x => Heap.get?_push_of_some _ (Heap.get?_push_of_some _ x)⟩
def iEnumT (K : PySem.W.Frag) (ta : TA) : TI := fun σ H R => ta σ H fun vs H1 => ∃ a xs, vs = [.ref a] ∧ SqT K H1 a xs ∧ R (IteT K a) H1
theorem pi_enumT {X : Cx} {e : Expr} {ta : TA} {p pos tpos : Pos} {elts : List Expr} {kk : Nat} (hg : Gl X "enumerate") (hm : X.mg "enumerate" = none) (ha : PA X [e] ta) (hs : starEach [e] X.env = [(false, eval e X.env)] := by rfl) :
    PI X (.Tuple elts kk tpos) (.Call (.Name "enumerate" p) [e] [] pos) (iEnumT X.K ta) := by
  refine ⟨fun pins s σ H R I h => ?_⟩
  refine Call_ (ld_blt I hg hm boot_enumerate (PyProof.Rows.callWith_type1 (thn (ha.run pos pins s σ H _ I h) fun us s1 ⟨vs, H1, I1, r1, q1⟩ => ?_) hs rfl))
  obtain ⟨a, xs, ex, hq, q⟩ := q1
  subst ex
  cases r1 with
  | cons r rr =>
    cases rr
    cases r
    obtain ⟨its, rv, p', hz⟩ := I1.tuple hq
    obtain ⟨o1, w1, _⟩ := id p'
    have al : a < s1.heap.objs.size := Heap.lt_size w1
    refine call_enumerate_tup p' fun h' he hit hsz hk => wpAny_pyIter_enum he ?_
    have I2 : Inv X pins σ H1 { s1 with heap := h' } := I1.kept (t' := s1.toks) hk
    refine ⟨s1.heap.objs.size + 1, [s1.heap.objs.size + 1, s1.heap.objs.size], _, _, H1, rfl, I2, turn_enumT a (s1.heap.objs.size + 1) s1.heap.objs.size (Nat.ne_of_lt al) (Nat.ne_of_lt (Nat.lt_succ_of_lt al)), ⟨⟨.none, he⟩, hit, Nat.succ_ne_self _⟩, fun b hb => ?_, q⟩
    have e' : b = s1.heap.objs.size + 1 ∨ b = s1.heap.objs.size := by simpa using hb
    have hle : s1.heap.objs.size ≤ b := by
      rcases e' with z | z
      · rw [z]; exact Nat.le_add_right _ _
      · rw [z]; exact Nat.le_refl _
    exact I1.fpOk hle (I1.hok.fresh hle)
section
variable {K : PySem.W.Frag} {a : Addr} {xs : List V}
theorem walk_enumT : Walk (IteT K a) xs.length (fun H => SqT K H a xs) (YPair (fun i => some (.int (i : Nat))) (fun i => xs[i]?)) := by
  refine ⟨fun i _ hi q => ⟨xs, xs[i], q, by simp [hi]⟩, fun _ q => ⟨xs, q, rfl⟩, fun i H v H' _ q y => ?_⟩
  obtain ⟨T, x, h1, h2, h3, h4⟩ := y
  exact ⟨T, .int (i : Nat), x, h1, h2, h3, rfl, h4 xs q⟩
end
/-- a list or a tuple walked -/
def iSeq (K : PySem.W.Frag) (tl : TE) : TI := fun σ H R => tl σ H fun x H1 => (∃ a, x = .ref a ∧ (∃ xs, SqL K H1 a xs) ∧ R (Itl K a) H1) ∨ ∃ a, x = .ref a ∧ (∃ xs, SqT K H1 a xs) ∧ R (Itt K a) H1
theorem pi_seq {X : Cx} {tg l : Expr} {tl : TE} (hl : PE X l tl) : PI X tg l (iSeq X.K tl) := by
  refine ⟨fun pins s σ H R I h => ?_⟩
  refine thn (hl.run pins s σ H _ I h) fun v s1 ⟨x, H1, I1, r1, q1⟩ => ?_
  rcases q1 with ⟨a, e, ⟨xs, hq⟩, q⟩ | ⟨a, e, ⟨xs, hq⟩, q⟩
  · subst e
    cases r1
    obtain ⟨its, rv, p, hz⟩ := I1.list hq
    refine wpAny_pyIter_list p.isList ?_
    refine ⟨s1.heap.objs.size, [s1.heap.objs.size], _, _, H1, rfl, I1.kept (t' := s1.toks) fun b o e => Heap.get?_push_of_some _ e, turn_list a _, ⟨_, Heap.get?_push_size _ rfl, rfl, rfl⟩, fun b hb => ?_, q⟩
    have e : b = s1.heap.objs.size := by simpa using hb
    subst e
    exact I1.fpOk (Nat.le_refl _) (I1.hok.fresh (Nat.le_refl _))
  · subst e
    cases r1
    obtain ⟨its, rv, p, hz⟩ := I1.tuple hq
    refine wpAny_pyIter_tuple (show s1.heap.IsTuple a its.toArray from p) ?_
    refine ⟨s1.heap.objs.size, [s1.heap.objs.size], _, _, H1, rfl, I1.kept (t' := s1.toks) fun b o e => Heap.get?_push_of_some _ e, turn_tuple a _, ⟨_, Heap.get?_push_size _ rfl, rfl, rfl⟩, fun b hb => ?_, q⟩
    have e : b = s1.heap.objs.size := by simpa using hb
    subst e
    exact I1.fpOk (Nat.le_refl _) (I1.hok.fresh (Nat.le_refl _))
theorem pi_seqK {X : Cx} {K : PySem.W.Frag} {tg l : Expr} {tl : TE} (h : X.K = K) (hl : PE X l tl) : PI X tg l (iSeq K tl) := by
  subst h
  exact pi_seq hl
end Vf
namespace Vf
open PySem PySem.Spec PyProof.Rows L2
def encIs (ns : List Int) : List V := ns.map V.int
def iV : V → Int
  | .int i => i
  | _ => 0
/-- the ints of the tuple that a value is -/
def nsAt (H : Hp) : V → List Int
  | .ref a => match H a with
    | some (.tup xs) => xs.map iV
    | _ => []
  | _ => []
theorem nsAt_of {H : Hp} {a : Addr} {ns : List Int} (h : H a = some (.tup (encIs ns))) : nsAt H (.ref a) = ns := by
  show (match H a with | some (.tup xs) => xs.map iV | _ => []) = ns
  rw [h]
  show (ns.map V.int).map iV = ns
  rw [List.map_map]
  exact List.map_id' ns
theorem tups_nsAt {H : Hp} {xs : List V} {zs : List (List Int)} (t : Tups encIs H xs zs) : xs.map (nsAt H) = zs := by
  apply List.ext_getElem?
  intro i
  rw [List.getElem?_map]
  cases e : xs[i]? with
  | none =>
    have := List.getElem?_eq_none_iff.mp e
    rw [List.getElem?_eq_none (show zs.length ≤ i by rw [← t.1]; exact this)]
    rfl
  | some x =>
    obtain ⟨a, u, e1, rfl, e2⟩ := t.get e
    rw [e1]
    exact congrArg some (nsAt_of e2)
theorem tups_perm {H : Hp} {xs ys : List V} {zs : List (List Int)} (t : Tups encIs H xs zs) (p : ys.Perm xs) : Tups encIs H ys (ys.map (nsAt H)) := by
  refine ⟨(List.length_map ..).symm, fun i a e => ?_⟩
  rw [List.getElem?_map] at e
  cases e1 : ys[i]? with
  | none => rw [e1] at e; cases e
  | some y =>
    rw [e1] at e
    obtain rfl : nsAt H y = a := Option.some.inj e
    obtain ⟨j, hj⟩ := List.mem_iff_getElem?.mp (p.mem_iff.mp (List.mem_of_getElem? e1))
    obtain ⟨b, u, f1, rfl, f2⟩ := t.get hj
    exact ⟨u, rfl, by rw [nsAt_of f2]; exact f2⟩
def rSortTs (K : PySem.W.Frag) : List V → Hp → VK → Prop := fun vs H Q => ∃ (a : Addr) (xs : List V) (zs : List (List Int)) (d : Nat) (B : Int), vs = [V.ref a] ∧ H a = some (.lst xs) ∧ Tups encIs H xs zs ∧ zs.length < 64 ∧ 1 ≤ d ∧ (∀ z ∈ zs, z.length = d ∧ TS.Bd B z) ∧
  ∀ (p : Addr) (ys : List V) (ws : List (List Int)), H p = none → Tups encIs H ys ws → ws.Perm zs → ws.Pairwise (fun x y => TS.code B x ≤ TS.code B y) → Q (.ref p) (upd H p (.lst ys))
theorem cr_sortTs {X : Cx} : CallR X (.builtin "sorted") (rSortTs X.K) := by
  intro pins s σ H vs us Q I r h
  obtain ⟨a, xs, zs, d, B, rfl, ha, t, h64, hd, hz, q⟩ := h
  refine cr_sortT (d := d) (B := B) hd pins s σ H [V.ref a] us Q I r ⟨a, xs, rfl, SqL.of ha, by rw [t.1]; exact h64, fun x hx => ?_, fun ys p pm pw np => ?_⟩
  · obtain ⟨i, hi⟩ := List.mem_iff_getElem?.mp hx
    obtain ⟨z, u, e1, rfl, e2⟩ := t.get hi
    exact ⟨z, ⟨u, rfl, SqT.of e2⟩, hz z (List.mem_of_getElem? e1)⟩
  · have t2 := tups_perm t pm
    refine q p ys _ np t2 ?_ ?_
    · rw [← tups_nsAt t]
      exact pm.map _
    · rw [List.pairwise_map]
      refine pw.imp_of_mem fun {x y} hx hy hxy => ?_
      obtain ⟨i, hi⟩ := List.mem_iff_getElem?.mp hx
      obtain ⟨j, hj⟩ := List.mem_iff_getElem?.mp hy
      obtain ⟨z, u, e1, rfl, e2⟩ := t2.get hi
      obtain ⟨z', u', e1', rfl, e2'⟩ := t2.get hj
      exact hxy _ _ ⟨u, rfl, SqT.of (by rw [nsAt_of e2]; exact e2)⟩ ⟨u', rfl, SqT.of (by rw [nsAt_of e2']; exact e2')⟩
theorem code_inj {B : Int} : ∀ {x y : List Int}, x.length = y.length → TS.Bd B x → TS.Bd B y → TS.code B x = TS.code B y → x = y
  | [], [], _, _, _, _ => rfl
  | [], _ :: _, h, _, _, _ => by simp at h
  | _ :: _, [], h, _, _, _ => by simp at h
  | a :: r, b :: q, h, h1, h2, e => by
    have hl : r.length = q.length := by simpa using h
    have ab : a = b := by
      rcases Int.lt_trichotomy a b with c | c | c
      · have := TS.code_lt hl h1.tail h2.tail c
        omega
      · exact c
      · have := TS.code_lt hl.symm h2.tail h1.tail c
        omega
    subst ab
    have e2 : a * B ^ r.length + TS.code B r = a * B ^ q.length + TS.code B q := e
    rw [hl] at e2
    rw [code_inj hl h1.tail h2.tail (by omega)]
/-- sorted is one list only -/
theorem sort_one {B : Int} {d : Nat} {ws zs : List (List Int)} (p : ws.Perm zs) (hz : ∀ z ∈ zs, z.length = d ∧ TS.Bd B z) (h1 : ws.Pairwise (fun x y => TS.code B x ≤ TS.code B y)) (h2 : zs.Pairwise (fun x y => TS.code B x ≤ TS.code B y)) : ws = zs := by
  refine p.eq_of_pairwise (fun x y hx hy a b => ?_) h1 h2
  have zx := hz x (p.mem_iff.mp hx)
  have zy := hz y hy
  exact code_inj (zx.1.trans zy.1.symm) zx.2 zy.2 (Int.le_antisymm a b)
/-- sorted(d), d a dict whose keys are tuples of ints -/
def keyI (k : List Int) : List Key := k.map Sum.inl
theorem keyI_inj {a b : List Int} (h : keyI a = keyI b) : a = b := by
  have h2 := congrArg (List.map (fun k : Key => match k with | .inl i => i | .inr _ => 0)) h
  unfold keyI at h2
  rw [List.map_map, List.map_map] at h2
  exact (List.map_id' a).symm.trans (h2.trans (List.map_id' b))
theorem keyI_kV (k : List Int) : (keyI k).map kV = encIs k := by
  unfold keyI encIs
  rw [List.map_map]
  rfl
def rSortDTs : List V → Hp → VK → Prop := fun vs H Q => ∃ (a : Addr) (kvs : List (List Key × V)) (ks : List (List Int)) (d : Nat) (B : Int), vs = [V.ref a] ∧ Rd H a (.dT kvs) ∧ kvs.map (·.1) = ks.map keyI ∧ ks.length < 64 ∧ 1 ≤ d ∧ (∀ z ∈ ks, z.length = d ∧ TS.Bd B z) ∧
  ∀ (p : Addr) (ys : List V) (ws : List (List Int)), H p = none → Tups encIs H ys ws → ws.Perm ks → ws.Pairwise (fun x y => TS.code B x ≤ TS.code B y) → Q (.ref p) (upd H p (.lst ys))
theorem tupInts_of {X : Cx} {pins : List (Addr × Obj)} {σ : L2.St} {H : Hp} {s : Shared} (I : Inv X pins σ H s) {t : Addr} {ns : List Int} (h : H t = some (.tup (encIs ns))) : TS.TupInts s.heap (.ref t) ns := tupI_raw I (SqT.of h)
theorem cr_sortDTs {X : Cx} (hcalm : X.calm = true) : CallR X (.builtin "sorted") rSortDTs := by
  intro pins s σ H xs us Q I r h
  obtain ⟨d, kvs, ks, dd, B, rfl, hd, hks, h64, hd1, hz, q⟩ := h
  obtain ⟨u, rfl, rx⟩ := vals1 r
  cases rx
  obtain ⟨z, hs, xs, pr, o, es, ep, ho, hx, hdt, he, hn⟩ := (show ObjOk X.prog X.w H s.heap d (.dT kvs) from hd.ok I.hok)
  have l1 : es.size = xs.length := size_of_entries he
  have l2 : kvs.length = xs.length := Paired.length pr
  have l3 : kvs.length = ks.length := by
    have := congrArg List.length hks
    simpa using this
  have h16 : es.size ≤ sizeLine := by rw [sizeLine_eq]; omega
  refine Calls.call_function_entry PyProof.Rows.kind_sorted PyProof.Rows.plain_sorted PyProof.Rows.entry_sorted (PyProof.Rows.args_sorted1 _) ?_
  unfold Builtin.«sorted»
  refine wpAny_bind (m := checkCount "sorted" 1 1 _) (wpAny_pure ?_)
  refine wpAny_bind (PySem.W.kdu_collect (A := X.A.in1) (kdl_raw hs hx hdt) (I.ok.hd hcalm) ho h16 fun h' tk acc hk hacc => ?_)
  have ea : acc.toList = (xs.map fun x => x.2.1).map Value.ref := by
    have hl : acc.toList.length = xs.length := by rw [Array.length_toList, hacc.1, l1]
    apply List.ext_getElem?
    intro j
    rw [List.map_map, List.getElem?_map]
    cases hj : acc.toList[j]? with
    | none =>
      have h1 := List.getElem?_eq_none_iff.mp hj
      rw [List.getElem?_eq_none (by omega)]
      rfl
    | some v =>
      obtain ⟨en, hen, hv⟩ := hacc.2 j v (by rw [← Array.getElem?_toList]; exact hj)
      have qe := entry_at he j
      rw [hen] at qe
      cases hb : xs[j]? with
      | none =>
        rw [hb] at qe
        exact nomatch (show some en = none from qe)
      | some b =>
        rw [hb] at qe
        have e2 : en = entryOfKey (tupleKind (mixKind X.prog X.w)) b := Option.some.inj qe
        rw [hv, e2]
        rfl
  have I1 : Inv X pins σ H { s with heap := h', toks := tk } := I.kept hk
  -- the keys' tuples
  have T0 : Tups encIs H ((xs.map fun x => x.2.1).map V.ref) ks := by
    refine ⟨by rw [List.length_map, List.length_map]; omega, fun n k e => ?_⟩
    have hn' : n < xs.length := by
      have := (List.getElem?_eq_some_iff.mp e).1
      omega
    have ex : xs[n]? = some xs[n] := List.getElem?_eq_getElem hn'
    obtain ⟨y, hy, p1, p2, _⟩ := pair_get pr ex
    have hk1 : (kvs.map (·.1))[n]? = some y.1 := by rw [List.getElem?_map, hy]; rfl
    rw [hks, List.getElem?_map, e] at hk1
    have ek : y.1 = keyI k := (Option.some.inj hk1).symm
    rw [ek] at p2
    refine ⟨xs[n].2.1, by rw [List.getElem?_map, List.getElem?_map, ex]; rfl, ?_⟩
    rw [← keyI_kV]
    exact p2
  have hal : acc.toList.length < 64 := by
    rw [ea, List.length_map, List.length_map]
    omega
  refine wpAny_bind (wpAny_newList ?_ (by rw [sizeLine_eq]; omega))
  have hoL : (h'.push (seqObj "list" acc.toList.toArray 0)).get? h'.objs.size = some (seqObj "list" acc.toList.toArray 0) := Heap.get?_push_size _ rfl
  show wpAny _ _ _ _ _ { s with heap := h'.push (seqObj "list" acc.toList.toArray 0), toks := tk }
  have ok : TS.TupsOk (h'.push (seqObj "list" acc.toList.toArray 0)) dd B acc.toList := by
    intro v hv
    rw [ea] at hv
    obtain ⟨a, ha, rfl⟩ := List.mem_map.mp hv
    obtain ⟨n, hn'⟩ := List.mem_iff_getElem?.mp ha
    obtain ⟨k, t, e1, e2, e3⟩ := T0.get (i := n) (x := V.ref a) (by rw [List.getElem?_map, hn']; rfl)
    cases e2
    obtain ⟨z1, z2⟩ := hz k (List.mem_of_getElem? e1)
    exact ⟨k, (tupInts_of I1 e3).keeps fun b o e _ => Heap.get?_push_of_some _ e, z1, z2⟩
  refine wpAny_bind (wpAny_holding (wpAny_call_entry PyProof.Rows.slot_list_sort ⟨_, hoL, rfl⟩ PyProof.Rows.entry_list_sort
    (TS.sort_tups (s := { s with heap := h'.push (seqObj "list" acc.toList.toArray 0), toks := tk }) hoL hal hd1 ok (fun v => TS.code B (TS.intsOf (h'.push (seqObj "list" acc.toList.toArray 0)) v)) (fun v _ ns t => by
      show TS.code B (TS.intsOf _ v) = TS.code B ns
      rw [t.ints]) fun out hperm hs' => ⟨_, rfl, ?_⟩) (args_list_sort _)))
  obtain ⟨e', he'⟩ := PyProof.Rows.sortedHeap_at (vs := acc.toList) (out := out) hoL
  obtain ⟨bs, eb⟩ := refs_out out.toList fun u hu => by
    have hm := hperm.mem_iff.mp hu
    rw [ea] at hm
    obtain ⟨a, _, rfl⟩ := List.mem_map.mp hm
    exact ⟨a, rfl⟩
  rw [ea, eb] at hperm
  have hbp : bs.Perm (xs.map fun x => x.2.1) := by
    have hh := hperm.map (fun v : Value => match v with | .ref a => a | _ => 0)
    rw [List.map_map, List.map_map] at hh
    have e1 : bs.map ((fun v : Value => match v with | .ref a => a | _ => 0) ∘ Value.ref) = bs := List.map_id' bs
    have e2 : (xs.map fun x => x.2.1).map ((fun v : Value => match v with | .ref a => a | _ => 0) ∘ Value.ref) = (xs.map fun x => x.2.1) := List.map_id' _
    rw [e1, e2] at hh
    exact hh
  have vp : (bs.map V.ref).Perm ((xs.map fun x => x.2.1).map V.ref) := hbp.map _
  have t2 := tups_perm T0 vp
  have hlen : (bs.map V.ref).length ≤ sizeLine := by
    rw [List.length_map, hbp.length_eq, List.length_map, sizeLine_eq]
    omega
  refine wpAny_pure ⟨_, rfl, .ref h'.objs.size, upd H h'.objs.size (.lst (bs.map V.ref)), I1.laid (t' := tk) (fun b u e => ?_) (Nat.le_refl _)
    (show ObjOk X.prog X.w _ _ _ (.lst (bs.map V.ref)) from ⟨hlen, bs.map Value.ref, e', vals_refs bs, by rw [he', ← eb]⟩), rfl, q _ _ ((bs.map V.ref).map (nsAt H)) (I1.hok.fresh (Nat.le_refl _)) t2 ?_ ?_⟩
  · have hb : b < h'.objs.size := Heap.lt_size e
    rw [PyProof.Rows.sortedHeap_old (Nat.ne_of_lt hb) (by rw [size_push']; exact Nat.lt_succ_of_lt hb)]
    exact Heap.get?_push_of_some _ e
  · rw [← tups_nsAt T0]
    exact vp.map _
  · rw [eb] at hs'
    rw [List.pairwise_map] at hs'
    rw [List.pairwise_map, List.pairwise_map]
    refine hs'.imp_of_mem fun {x y} hx hy hxy => ?_
    have key : ∀ b ∈ bs, TS.intsOf (h'.push (seqObj "list" acc.toList.toArray 0)) (.ref b) = nsAt H (.ref b) := fun b hb => by
      obtain ⟨i, hi⟩ := List.mem_iff_getElem?.mp hb
      obtain ⟨zz, t, e1, e2, e3⟩ := t2.get (i := i) (x := V.ref b) (by rw [List.getElem?_map, hi]; rfl)
      cases e2
      have e4 := (tupInts_of I1 e3).keeps (h' := h'.push (seqObj "list" acc.toList.toArray 0)) fun b o e _ => Heap.get?_push_of_some _ e
      rw [e4.ints]
      exact (nsAt_of e3).symm
    rw [← key x hx, ← key y hy]
    exact hxy
end Vf
namespace Vf
open PySem PySem.Spec PyProof.Rows L2
theorem op_neIsK {X : Cx} {K : PySem.W.Frag} (h : X.K = K) (hu : X.A.units + 64 < cLine) : OpR X (compareOp .NotEq) (rNeIs K) := by
  subst h
  exact op_neIs hu
theorem op_eqIsK {X : Cx} {K : PySem.W.Frag} (h : X.K = K) (hu : X.A.units + 64 < cLine) : OpR X (compareOp .Eq) (rEqIs K) := by
  subst h
  exact op_eqIs hu
theorem _root_.L2.Room.units65 {k : Nat} {A : Around} (r : Room k A) : A.units + 65 < cLine := by
  have := r.un
  omega
end Vf

/-! ### the meetings of a place, and where they lead -/
namespace Vf
open PySem L2
theorem asc_eq : ∀ {l m : List Int}, l.Pairwise (· < ·) → m.Pairwise (· < ·) → (∀ x, x ∈ l ↔ x ∈ m) → l = m
  | [], [], _, _, _ => rfl
  | [], b :: m, _, _, h => by
    have := (h b).mpr (List.mem_cons_self ..)
    simp at this
  | a :: l, [], _, _, h => by
    have := (h a).mp (List.mem_cons_self ..)
    simp at this
  | a :: l, b :: m, h1, h2, h => by
    obtain ⟨a1, a2⟩ := List.pairwise_cons.mp h1
    obtain ⟨b1, b2⟩ := List.pairwise_cons.mp h2
    have e : a = b := by
      have ha := (h a).mp (List.mem_cons_self ..)
      have hb := (h b).mpr (List.mem_cons_self ..)
      rcases List.mem_cons.mp ha with e | e
      · exact e
      · rcases List.mem_cons.mp hb with e' | e'
        · exact e'.symm
        · have x1 := b1 a e
          have x2 := a1 b e'
          omega
    subst e
    rw [asc_eq a2 b2 fun x => ⟨fun hx => ?_, fun hx => ?_⟩]
    · have q := (h x).mp (List.mem_cons_of_mem _ hx)
      rcases List.mem_cons.mp q with e | e
      · have := a1 x hx
        omega
      · exact e
    · have q := (h x).mpr (List.mem_cons_of_mem _ hx)
      rcases List.mem_cons.mp q with e | e
      · have := b1 x hx
        omega
      · exact e
def nz (i : Nat) : Int := (i : Int)
theorem nz_asc (n : Nat) (p : Nat → Bool) : (((List.range n).filter p).map nz).Pairwise (· < ·) := by
  rw [List.pairwise_map]
  refine (List.pairwise_lt_range.filter p).imp fun {a b} h => ?_
  show (a : Int) < b
  omega
theorem nz_mem {n : Nat} {p : Nat → Bool} {x : Int} : x ∈ ((List.range n).filter p).map nz ↔ 0 ≤ x ∧ x < n ∧ p x.toNat = true := by
  rw [List.mem_map]
  constructor
  · rintro ⟨i, h, rfl⟩
    rw [List.mem_filter, List.mem_range] at h
    exact ⟨Int.natCast_nonneg _, Int.ofNat_lt.mpr h.1, by rw [show (nz i).toNat = i from Int.toNat_natCast i]; exact h.2⟩
  · rintro ⟨h0, h1, h2⟩
    exact ⟨x.toNat, List.mem_filter.mpr ⟨List.mem_range.mpr (by omega), h2⟩, Int.toNat_of_nonneg h0⟩
/-- a meeting that is possible and changes a state -/
def cM (f : Int × Int → Int × Int) (ns : List Int) (m : Int × Int) : Bool := !decide (f m = m) && canMeet ns m
/-- the seconds for a first one -/
def secs (n : Nat) (c : Int × Int → Bool) (a : Int) : List Int := ((List.range n).filter fun j => c (a, nz j)).map nz
/-- all of them, ascending -/
def prs (n : Nat) (c : Int × Int → Bool) : List (Int × Int) := (List.range n).flatMap fun i => (secs n c (nz i)).map fun j => (nz i, j)
theorem secs_len (n : Nat) (c : Int × Int → Bool) (a : Int) : (secs n c a).length ≤ n := by
  unfold secs
  rw [List.length_map]
  exact Nat.le_trans (List.length_filter_le ..) (Nat.le_of_eq List.length_range)
theorem prs_len (n : Nat) (c : Int × Int → Bool) : (prs n c).length ≤ n * n := by
  unfold prs
  have : ∀ k, ((List.range k).flatMap fun i => (secs n c (nz i)).map fun j => (nz i, j)).length ≤ k * n := by
    intro k
    induction k with
    | zero => simp
    | succ k ih =>
      rw [List.range_succ, List.flatMap_append, List.length_append, Nat.succ_mul]
      have h1 : ([k].flatMap fun i => (secs n c (nz i)).map fun j => (nz i, j)).length ≤ n := by
        rw [List.flatMap_singleton, List.length_map]
        exact secs_len n c _
      omega
  exact this n
theorem prs_mem {n : Nat} {c : Int × Int → Bool} {m : Int × Int} (h : m ∈ prs n c) : InR n m ∧ c m = true := by
  unfold prs at h
  rw [List.mem_flatMap] at h
  obtain ⟨i, hi, h⟩ := h
  rw [List.mem_range] at hi
  obtain ⟨j, hj, rfl⟩ := List.mem_map.mp h
  unfold secs at hj
  obtain ⟨h0, h1, h2⟩ := nz_mem.mp hj
  rw [show nz j.toNat = j from Int.toNat_of_nonneg h0] at h2
  refine ⟨⟨Int.natCast_nonneg _, Int.ofNat_lt.mpr hi, h0, h1⟩, h2⟩
/-- what is left of any ascending list that leaves none out -/
theorem secs_of {n : Nat} {f : Int × Int → Int × Int} {ns l : List Int} {a : Int} (hn : ns.length = n) (h1 : l.Pairwise (· < ·)) (h2 : ∀ j ∈ l, f (a, j) ≠ (a, j)) (h3 : ∀ j : Int, 0 ≤ j → j < n → f (a, j) ≠ (a, j) → 0 < ns.getD j.toNat 0 → j ∈ l) :
    l.filter (fun j => canMeet ns (a, j)) = secs n (cM f ns) a := by
  refine asc_eq (h1.filter _) (nz_asc ..) fun x => ?_
  unfold secs
  rw [nz_mem, List.mem_filter]
  constructor
  · rintro ⟨hx, hc⟩
    have r := canMeet_in hc
    rw [hn] at r
    refine ⟨r.2.2.1, r.2.2.2, ?_⟩
    rw [show nz x.toNat = x from Int.toNat_of_nonneg r.2.2.1]
    unfold cM
    rw [decide_eq_false (h2 x hx), hc]
    rfl
  · rintro ⟨h0, hx, hc⟩
    rw [show nz x.toNat = x from Int.toNat_of_nonneg h0] at hc
    unfold cM at hc
    rw [Bool.and_eq_true, Bool.not_eq_true', decide_eq_false_iff_not] at hc
    refine ⟨h3 x h0 hx hc.1 ?_, hc.2⟩
    have cm := hc.2
    unfold canMeet at cm
    split at cm
    · cases cm
    · split at cm
      · rename_i e
        rw [decide_eq_true_eq] at cm
        have : a = x := e
        subst this
        dsimp only at cm
        omega
      · rw [Bool.and_eq_true, decide_eq_true_eq, decide_eq_true_eq] at cm
        dsimp only at cm
        omega
/-- the states in which there are agents -/
def pres (n : Nat) (ns : List Int) : List Int := ((List.range n).filter fun i => decide (0 < ns.getD i 0)).map nz
theorem flat_filter {α β : Type} (p : α → Bool) (g : α → List β) (h : ∀ a, p a = false → g a = []) : ∀ l : List α, (l.filter p).flatMap g = l.flatMap g
  | [] => rfl
  | a :: l => by
    rw [List.flatMap_cons, List.filter_cons]
    by_cases c : p a = true
    · rw [if_pos c, List.flatMap_cons, flat_filter p g h l]
    · rw [if_neg c, flat_filter p g h l, h a (by simpa using c)]
      rfl
theorem secs_none {n : Nat} {f : Int × Int → Int × Int} {ns : List Int} {i : Nat} (h : decide (0 < ns.getD i 0) = false) : secs n (cM f ns) (nz i) = [] := by
  unfold secs
  rw [List.map_eq_nil_iff, List.filter_eq_nil_iff]
  intro j _ c
  unfold cM at c
  rw [Bool.and_eq_true] at c
  have cm := c.2
  have h' := of_decide_eq_false h
  unfold canMeet at cm
  split at cm
  · cases cm
  · have ei : (nz i).toNat = i := Int.toNat_natCast i
    dsimp only at cm
    rw [ei] at cm
    split at cm
    · rw [decide_eq_true_eq] at cm
      omega
    · rw [Bool.and_eq_true, decide_eq_true_eq, decide_eq_true_eq] at cm
      omega
theorem pres_flat (n : Nat) (f : Int × Int → Int × Int) (ns : List Int) : ((pres n ns).flatMap fun a => (secs n (cM f ns) a).map fun j => (a, j)) = prs n (cM f ns) := by
  unfold pres prs
  rw [List.flatMap_map]
  exact flat_filter _ _ (fun i h => by
    show (secs n (cM f ns) (nz i)).map _ = []
    rw [secs_none h]
    rfl) _
/-- the next places, in the order in which they are found -/
def nextS (f : Int × Int → Int × Int) (ns : List Int) (acc : List (List Int × (Int × Int))) (m : Int × Int) : List (List Int × (Int × Int)) :=
  if movePl ns m (f m) = ns ∨ movePl ns m (f m) ∈ acc.map Prod.fst then acc else acc ++ [(movePl ns m (f m), m)]
def nextL (f : Int × Int → Int × Int) (ns : List Int) (ms : List (Int × Int)) : List (List Int × (Int × Int)) := ms.foldl (nextS f ns) []
theorem nextL_snoc (f : Int × Int → Int × Int) (ns : List Int) {ms : List (Int × Int)} {i : Nat} {m : Int × Int} (h : ms[i]? = some m) : nextL f ns (ms.take (i + 1)) = nextS f ns (nextL f ns (ms.take i)) m := by
  unfold nextL
  rw [List.take_add_one, h]
  exact List.foldl_append ..
theorem nextL_len (f : Int × Int → Int × Int) (ns : List Int) (ms : List (Int × Int)) : (nextL f ns ms).length ≤ ms.length := by
  unfold nextL
  have : ∀ (ms : List (Int × Int)) (acc : List (List Int × (Int × Int))), (ms.foldl (nextS f ns) acc).length ≤ acc.length + ms.length := by
    intro ms
    induction ms with
    | nil => intro acc; exact Nat.le_refl _
    | cons m r ih =>
      intro acc
      rw [List.foldl_cons, List.length_cons]
      have h1 := ih (nextS f ns acc m)
      have h2 : (nextS f ns acc m).length ≤ acc.length + 1 := by
        unfold nextS
        split
        · omega
        · rw [List.length_append]; exact Nat.le_refl _
      omega
  simpa using this ms []
theorem nextL_mem {f : Int × Int → Int × Int} {ns : List Int} : ∀ {ms : List (Int × Int)} {z : List Int}, z ∈ (nextL f ns ms).map Prod.fst → ∃ m ∈ ms, z = movePl ns m (f m) := by
  have : ∀ (ms : List (Int × Int)) (acc : List (List Int × (Int × Int))) (z : List Int), z ∈ (ms.foldl (nextS f ns) acc).map Prod.fst → z ∈ acc.map Prod.fst ∨ ∃ m ∈ ms, z = movePl ns m (f m) := by
    intro ms
    induction ms with
    | nil => intro acc z h; exact .inl h
    | cons m r ih =>
      intro acc z h
      rw [List.foldl_cons] at h
      rcases ih _ _ h with h | ⟨m', h1, h2⟩
      · unfold nextS at h
        split at h
        · exact .inl h
        · rw [List.map_append] at h
          rcases List.mem_append.mp h with h | h
          · exact .inl h
          · exact .inr ⟨m, List.mem_cons_self .., by simpa using h⟩
      · exact .inr ⟨m', List.mem_cons_of_mem _ h1, h2⟩
  intro ms z h
  rcases this ms [] z h with h | h
  · simp at h
  · exact h
theorem putAt_le {pl : List Int} {i : Nat} {c b : Int} (h : ∀ y ∈ pl, y ≤ b) (hc : 0 ≤ b) : ∀ y ∈ putAt pl i c, y ≤ b + (if 0 ≤ c then c else 0) := fun y hy => by
  rcases putAt_mem hy with m | ⟨l, rfl⟩
  · have := h y m
    split <;> omega
  · have := h _ (getD_mem l (d := 0))
    split <;> omega
theorem move_le {ns : List Int} {m r : Int × Int} {b : Int} (h : ∀ y ∈ ns, y ≤ b) (hb : 0 ≤ b) : ∀ y ∈ movePl ns m r, y ≤ b + 2 := by
  unfold movePl
  have h1 := putAt_le (i := m.1.toNat) (c := -1) h hb
  have h2 := putAt_le (i := m.2.toNat) (c := -1) h1 (by omega)
  have h3 := putAt_le (i := r.1.toNat) (c := 1) h2 (by omega)
  have h4 := putAt_le (i := r.2.toNat) (c := 1) h3 (by omega)
  intro y hy
  have := h4 y hy
  simp at this
  omega
/-- the next places have the same length, and are bounded -/
theorem next_ok {n : Nat} {f : Int × Int → Int × Int} {ns : List Int} {b : Int} (h : Fits n ns) (hb : ∀ y ∈ ns, y ≤ b) (b0 : 0 ≤ b) : ∀ z ∈ (nextL f ns (prs n (cM f ns))).map Prod.fst, z.length = n ∧ TS.Bd (b + 3) z := by
  intro z hz
  obtain ⟨m, hm, rfl⟩ := nextL_mem hz
  obtain ⟨_, hc⟩ := prs_mem hm
  unfold cM at hc
  rw [Bool.and_eq_true] at hc
  have fm := move_fits (r := f m) h hc.2
  refine ⟨fm.1, fun y hy => ⟨fm.2 y hy, ?_⟩⟩
  have := move_le (m := m) (r := f m) hb b0 y hy
  omega
theorem fD_ch {D : DD} (v : ValidN D) {i : Nat} {j : Int} : (∃ (n : Nat) (w : Int × Int), (rks D)[n]? = some ((i : Int), j) ∧ (rvs D)[n]? = some w ∧ w ≠ ((i : Int), j)) ↔ fD D ((i : Int), j) ≠ ((i : Int), j) := by
  have nd : (rks D).Nodup := by
    have := (v.valid).nd
    exact this
  unfold fD meetOf
  constructor
  · rintro ⟨n, w, h1, h2, h3⟩
    have mem := List.mem_of_getElem? h1
    rw [if_pos mem]
    have e : (rks D).idxOf ((i : Int), j) = n := by
      have lt := List.idxOf_lt_length_of_mem mem
      have g : (rks D)[(rks D).idxOf ((i : Int), j)]? = some ((i : Int), j) := by
        rw [List.getElem?_eq_getElem lt]
        exact congrArg some (List.getElem_idxOf lt)
      exact nodup_ix nd g h1
    rw [e, List.getD_eq_getElem?_getD, h2]
    exact h3
  · intro h
    by_cases mem : ((i : Int), j) ∈ rks D
    · rw [if_pos mem] at h
      have lt := List.idxOf_lt_length_of_mem mem
      have l2 : (rvs D).length = (rks D).length := by simp [rvs, rks]
      refine ⟨(rks D).idxOf ((i : Int), j), (rvs D)[(rks D).idxOf ((i : Int), j)]'(by omega), ?_, List.getElem?_eq_getElem _, ?_⟩
      · rw [List.getElem?_eq_getElem lt]
        exact congrArg some (List.getElem_idxOf lt)
      · rw [List.getD_eq_getElem?_getD, List.getElem?_eq_getElem (by omega)] at h
        exact h
    · rw [if_neg mem] at h
      exact absurd rfl h
end Vf
namespace Vf
open PySem L2
theorem pair_ne {a b : Int × Int} : (!decide ([a.1, a.2] = [b.1, b.2])) = decide (a ≠ b) := by
  have : ([a.1, a.2] = [b.1, b.2]) ↔ a = b := by
    constructor
    · intro h
      simp only [List.cons.injEq, and_true] at h
      exact Prod.ext h.1 h.2
    · intro h
      rw [h]
  by_cases c : a = b
  · rw [decide_eq_true (this.mpr c), decide_eq_false (fun z => z c)]
    rfl
  · rw [decide_eq_false (fun z => c (this.mp z)), decide_eq_true c]
    rfl
theorem filter_take {α : Type} {p : α → Bool} {l : List α} {i : Nat} {x : α} (h : l[i]? = some x) : (l.take (i + 1)).filter p = (l.take i).filter p ++ if p x = true then [x] else [] := by
  rw [List.take_add_one, h, List.filter_append]
  congr 1
  by_cases c : p x = true
  · rw [if_pos c]
    simp [c]
  · rw [if_neg c]
    simp [c]
theorem range_filter {p : Nat → Bool} {i : Nat} : (List.range (i + 1)).filter p = (List.range i).filter p ++ if p i = true then [i] else [] := by
  rw [List.range_succ, List.filter_append]
  congr 1
  by_cases c : p i = true
  · rw [if_pos c]
    simp [c]
  · rw [if_neg c]
    simp [c]
end Vf
namespace Vf
open PySem L2
section
variable {J : It} {n : Nat} {G : Hp → Prop} {Y : Nat → Hp → V → Hp → Prop} {g g1 : TG} {tt tt1 : TT} {te : TE} {wi1 : TI} {vs vs1 : List Nat} {σ : L2.St} {H1 : Hp} {D : Addr} {Qd : Hp → Prop}
/-- the inner walk of a comprehension of two clauses -/
def LcIn (g1 : TG) (tt1 : TT) (te : TE) (vs1 : List Nat) (D : Addr) (σ2 : L2.St) (Nx : Hp → Prop) (J1 : It) (H4 : Hp) : Prop := ∃ W1 : Nat → Nat → Hp → Prop, (∃ m, W1 0 m H4) ∧ ∀ j k H, W1 j k H →
      (J1.stop j H ∧ Nx H) ∨ (J1.go j H ∧ ∃ Nx1 : Hp → Prop, (∀ H', Nx1 H' → ∃ k', k' < k ∧ W1 (j + 1) k' H') ∧ ∀ x H', J1.yld j H x H' → g1 x (wipe σ2 vs1) H' fun σ3 H5 => wipe σ3 vs1 = wipe σ2 vs1 ∧ tt1 σ3 H5 fun b H6 =>
        if b = true then te σ3 H6 fun y H7 => ∃ acc, H7 D = some (.lst acc) ∧ acc.length < sizeLine ∧ Nx1 (upd H7 D (.lst (acc ++ [y]))) else Nx1 H6)
theorem lc_in (w : Walk J n G Y) (Pv : Nat → Hp → Prop) (h0 : Pv 0 H1) (hG : ∀ i H, i ≤ n → Pv i H → G H)
    (hs : ∀ i x H H', i < n → Pv i H → Y i H x H' → g1 x (wipe σ vs1) H' fun σ2 H2 => wipe σ2 vs1 = wipe σ vs1 ∧ tt1 σ2 H2 fun b H3 =>
      if b = true then te σ2 H3 fun y H4 => ∃ acc, H4 D = some (.lst acc) ∧ acc.length < sizeLine ∧ Pv (i + 1) (upd H4 D (.lst (acc ++ [y]))) else Pv (i + 1) H3) (hd : ∀ H, Pv n H → Qd H) : LcIn g1 tt1 te vs1 D σ Qd J H1 := by
  refine ⟨fun i m H => m = n - i ∧ i ≤ n ∧ Pv i H, ⟨n, by simp, Nat.zero_le _, h0⟩, ?_⟩
  rintro i m H ⟨rfl, hi, p⟩
  have q := hG i H hi p
  by_cases hlt : i < n
  · exact .inr ⟨w.goes i H hlt q, Pv (i + 1), fun H' p' => ⟨n - (i + 1), by omega, rfl, hlt, p'⟩, fun x H' y => hs i x H H' hlt p (w.yields i H x H' hlt q y)⟩
  · have e : i = n := by omega
    subst e
    exact .inl ⟨w.stops H q, hd H p⟩
theorem lc2_it (w : Walk J n G Y) (Pv : Nat → Hp → Prop) (h0 : Pv 0 (upd H1 D (.lst []))) (hG : ∀ i H, i ≤ n → Pv i H → G H)
    (hs : ∀ i x H H', i < n → Pv i H → Y i H x H' → g x (wipe σ vs) H' fun σ2 H2 => wipe σ2 vs = wipe σ vs ∧ tt σ2 H2 fun b H3 =>
      if b = true then wi1 σ2 H3 (LcIn g1 tt1 te vs1 D σ2 (Pv (i + 1))) else Pv (i + 1) H3) (hd : ∀ H, Pv n H → Qd H) :
    ∃ W : Nat → Nat → Hp → Prop, (∃ m, W 0 m (upd H1 D (.lst []))) ∧ ∀ i m H, W i m H →
      (J.stop i H ∧ Qd H) ∨ (J.go i H ∧ ∃ Nx : Hp → Prop, (∀ H', Nx H' → ∃ m', m' < m ∧ W (i + 1) m' H') ∧ ∀ x H', J.yld i H x H' → g x (wipe σ vs) H' fun σ2 H2 => wipe σ2 vs = wipe σ vs ∧ tt σ2 H2 fun b H3 =>
        if b = true then wi1 σ2 H3 (LcIn g1 tt1 te vs1 D σ2 Nx) else Nx H3) := by
  refine ⟨fun i m H => m = n - i ∧ i ≤ n ∧ Pv i H, ⟨n, by simp, Nat.zero_le _, h0⟩, ?_⟩
  rintro i m H ⟨rfl, hi, p⟩
  have q := hG i H hi p
  by_cases hlt : i < n
  · exact .inr ⟨w.goes i H hlt q, Pv (i + 1), fun H' p' => ⟨n - (i + 1), by omega, rfl, hlt, p'⟩, fun x H' y => hs i x H H' hlt p (w.yields i H x H' hlt q y)⟩
  · have e : i = n := by omega
    subst e
    exact .inl ⟨w.stops H q, hd H p⟩
end
theorem pres_ok {n : Nat} {ns : List Int} : (pres n ns).Pairwise (· < ·) ∧ (∀ j ∈ pres n ns, 0 ≤ j ∧ j < n ∧ 0 < ns.getD j.toNat 0) ∧ (∀ j : Int, 0 ≤ j → j < n → 0 < ns.getD j.toNat 0 → j ∈ pres n ns) ∧ (pres n ns).length ≤ n := by
  refine ⟨nz_asc .., fun j h => ?_, fun j h0 h1 h2 => nz_mem.mpr ⟨h0, h1, decide_eq_true h2⟩, ?_⟩
  · obtain ⟨h0, h1, h2⟩ := nz_mem.mp h
    exact ⟨h0, h1, of_decide_eq_true h2⟩
  · unfold pres
    rw [List.length_map]
    exact Nat.le_trans (List.length_filter_le ..) (Nat.le_of_eq List.length_range)
theorem secs_le (n : Nat) (c : Int × Int → Bool) (l : List Int) : (l.flatMap fun a => (secs n c a).map fun j => (a, j)).length ≤ l.length * n := by
  induction l with
  | nil => simp
  | cons a r ih =>
    rw [List.flatMap_cons, List.length_append, List.length_map, List.length_cons, Nat.succ_mul]
    have := secs_len n c a
    omega
end Vf
namespace Vf
open PySem L2
theorem valV_in {κ : Type} [DecidableEq κ] {k : κ} : ∀ {kvs : List (κ × V)}, (valV kvs k).isSome = decide (k ∈ kvs.map Prod.fst)
  | [] => by simp [valV]
  | p :: r => by
    by_cases e : p.1 = k
    · rw [valV_pos e, List.map_cons, e]
      simp
    · rw [valV_neg e, valV_in (kvs := r), List.map_cons]
      refine decide_eq_decide.mpr ⟨fun h => List.mem_cons_of_mem _ h, fun h => ?_⟩
      rcases List.mem_cons.mp h with h | h
      · exact absurd h.symm e
      · exact h
/-- a dict from places to meetings -/
structure PPI (H : Hp) (kvs : List (List Key × V)) (nl : List (List Int × (Int × Int))) : Prop where
  keys : kvs.map (·.1) = (nl.map Prod.fst).map keyI
  vals : Tups encP H (kvs.map (·.2)) (nl.map Prod.snd)
section
variable {H H' : Hp} {kvs : List (List Key × V)} {nl : List (List Int × (Int × Int))}
theorem PPI.mono (p : PPI H kvs nl) (e : ∀ t ys, H t = some (.tup ys) → H' t = some (.tup ys)) : PPI H' kvs nl := ⟨p.keys, p.vals.mono e⟩
theorem PPI.same (p : PPI H kvs nl) (e : Same H H') : PPI H' kvs nl := ⟨p.keys, p.vals.same e⟩
theorem PPI.len (p : PPI H kvs nl) : kvs.length = nl.length := by
  have := congrArg List.length p.keys
  simpa using this
theorem PPI.mem (p : PPI H kvs nl) {z : List Int} : keyI z ∈ kvs.map Prod.fst ↔ z ∈ nl.map Prod.fst := by
  have e : kvs.map Prod.fst = (nl.map Prod.fst).map keyI := p.keys
  rw [e, List.mem_map]
  exact ⟨fun ⟨a, h1, h2⟩ => keyI_inj h2 ▸ h1, fun h => ⟨z, h, rfl⟩⟩
theorem PPI.snoc (p : PPI H kvs nl) {z : List Int} {m : Int × Int} {t : Addr} (e : ∀ t ys, H t = some (.tup ys) → H' t = some (.tup ys)) (h : H' t = some (.tup (encP m))) : PPI H' (kvs ++ [(keyI z, .ref t)]) (nl ++ [(z, m)]) := by
  refine ⟨by rw [List.map_append, List.map_append, List.map_append, p.keys]; rfl, ?_⟩
  rw [List.map_append, List.map_append]
  exact (p.vals.mono e).snoc h
end
end Vf
theorem Vf.dec_of {p : Prop} {i : Decidable p} (h : @decide p i = true) : p := by
  cases i with
  | isTrue h' => exact h'
  | isFalse h' => exact absurd h (by simp [decide])
namespace Vf
open PySem L2
def tD (z : List Int) : PyData := .tuple (z.map PyData.int)
theorem dpAll_tups {K : PySem.W.Frag} {H : Hp} : ∀ {xs : List V} {zs : List (List Int)}, Tups encIs H xs zs → DpAll K H xs (zs.map tD)
  | [], [], _ => .nil
  | [], m :: r, t => by have := t.1; simp at this
  | x :: xs, [], t => by have := t.1; simp at this
  | x :: xs, z :: r, t => by
    obtain ⟨u, e1, e2⟩ := t.2 0 z rfl
    obtain rfl : x = .ref u := Option.some.inj e1
    refine .cons (.tup (SqT.of e2) (dpAll_ints z)) (dpAll_tups ⟨Nat.succ.inj t.1, fun i a e => ?_⟩)
    exact t.2 (i + 1) a e
theorem shaped_list_ints (ns : List Int) : PyData.canLayAll0 (ns.map PyData.int) = true ∧ PyData.depthAll (ns.map PyData.int) ≤ 1 := by
  induction ns with
  | nil => simp [PyData.canLayAll0, PyData.depthAll]
  | cons a r ih =>
    constructor
    · simp [PyData.canLayAll0, PyData.canLay0, ih.1]
    · simp only [List.map_cons, PyData.depthAll, PyData.depth]
      have := ih.2
      omega
theorem shaped_list_tups (zs : List (List Int)) : PyData.canLayAll0 (zs.map tD) = true ∧ PyData.depthAll (zs.map tD) ≤ 2 := by
  induction zs with
  | nil => simp [PyData.canLayAll0, PyData.depthAll]
  | cons a r ih =>
    obtain ⟨a1, a2⟩ := shaped_list_ints a
    constructor
    · simp only [List.map_cons, PyData.canLayAll0, tD, PyData.canLay0, a1, Bool.true_and]
      exact ih.1
    · simp only [List.map_cons, PyData.depthAll, tD, PyData.depth]
      have := ih.2
      omega
theorem shaped_tups (zs : List (List Int)) : SeqAt.shaped (.list (zs.map tD)) = true := by
  obtain ⟨h0, h1⟩ := shaped_list_tups zs
  have h2 : PyData.depth (.list (zs.map tD)) ≤ 64 := by
    simp only [PyData.depth]
    omega
  show (PyData.canLay0 (.list (zs.map tD)) && decide (PyData.depth (.list (zs.map tD)) ≤ 64)) = true
  rw [Bool.and_eq_true]
  exact ⟨by simp only [PyData.canLay0]; exact h0, decide_eq_true h2⟩
theorem eqv_tups (zs : List (List Int)) : PyData.eqv (.list (zs.map tD)) (.list (zs.map tD)) = true :=
  PySem.SeqAt.eqv_refl _ (by simp only [PyData.canLay0]; exact (shaped_list_tups zs).1)
theorem eqv_tD (a b : List Int) : PyData.eqv (tD a) (tD b) = decide (a = b) :=
  (PySem.W.Datum.eqv (α := PySem.W.Tup Int) ⟨a⟩ ⟨b⟩).trans (decide_eq_decide.mpr ⟨fun e => congrArg PySem.W.Tup.items e, fun e => by rw [e]⟩)
theorem any_tD (z : List Int) : ∀ zs : List (List Int), ((zs.map tD).any fun x => PyData.eqv x (tD z)) = decide (z ∈ zs)
  | [] => by simp
  | a :: r => by
    rw [List.map_cons, List.any_cons, any_tD z r, eqv_tD]
    by_cases e : a = z
    · rw [e]; simp
    · rw [decide_eq_false e, Bool.false_or]
      refine decide_eq_decide.mpr ⟨fun h => List.mem_cons_of_mem _ h, fun h => ?_⟩
      rcases List.mem_cons.mp h with h | h
      · exact absurd h.symm e
      · exact h
end Vf

/-! ### set comprehensions, by what a set tracks -/
namespace Vf
open PySem PySem.Spec PyProof.Rows L2
/-- an empty set's object -/
abbrev noneIn (w : World) : Obj := { cls := .type "set", dict := none, data := .set #[] 0 (.fresh 0 0 (!w.params.followText "set-order")) }
structure SetLike (P : Program) (w : World) {τ : Type} (SO : Addr → τ → HO) (z : τ) (grow : τ → V → τ → Prop) : Prop where
  fresh : ∀ (H : Hp) (h : Heap), ObjOk P w H (h.push (noneIn w)) h.objs.size (SO h.objs.size z)
  put : ∀ {X : Cx}, X.prog = P → X.w = w → ∀ {pins : List (Addr × Obj)} {σ : L2.St} {H : Hp} {s : Shared} {E : Value → Shared → Prop} {D : Addr} {t t' : τ} {y : V} {u : Value} {Q : Value → Shared → Prop}, Inv X pins σ H s → RelV y u → H D = some (SO D t) → grow t y t' →
    (∀ s', Inv X pins σ (upd H D (SO D t')) s' → Q .none s') → wpAny (model X.prog X.w) X.A (call (.builtin "set.add") [.ref D, u]) Q E s
def tScG {τ : Type} (SO : Addr → τ → HO) (z : τ) (grow : τ → V → τ → Prop) (wi : TI) (g : TG) (tt : TT) (te : TE) (vs : List Nat) : TE := fun σ H Q => wi σ H fun J H1 => ∀ D, H1 D = none → ∃ W : Nat → Nat → Hp → Prop, (∃ m, W 0 m (upd H1 D (SO D z))) ∧ ∀ i m H, W i m H →
  (J.stop i H ∧ Q (.ref D) H) ∨ (J.go i H ∧ ∃ Nx : Hp → Prop, (∀ H', Nx H' → ∃ m', m' < m ∧ W (i + 1) m' H') ∧ ∀ x H', J.yld i H x H' → g x (wipe σ vs) H' fun σ2 H2 => wipe σ2 vs = wipe σ vs ∧ tt σ2 H2 fun b H3 =>
    if b = true then te σ2 H3 fun y H4 => ∃ t t' : τ, H4 D = some (SO D t) ∧ grow t y t' ∧ Nx (upd H4 D (SO D t')) else Nx H3)
section
variable {X : Cx} {τ : Type} {SO : Addr → τ → HO} {z : τ} {grow : τ → V → τ → Prop}
theorem pe_scG (L : SetLike X.prog X.w SO z grow) {elt tg iter : Expr} {ifs : List Expr} {scope : Scope} {own : List (Str × Nat)} {pos : Pos} {wi : TI} {g : TG} {tt : TT} {te : TE} (hc : X.calm = true) (hN : X.N.Nodup) (hi : PI X tg iter wi) (ok : BlkOk X.N X.env.scope scope own)
    (hg : ∀ (s : Shared) (H : Hp) (C : Addr) (cl : List (Str × Addr)) (fp : List Addr), PG (X.blk s H scope (compEnvC scope cl C X.env) fp) tg g)
    (ht : ∀ (s : Shared) (H : Hp) (C : Addr) (cl : List (Str × Addr)) (fp : List Addr), PTs (X.blk s H scope (compEnvC scope cl C X.env) fp) ifs tt)
    (he : ∀ (s : Shared) (H : Hp) (C : Addr) (cl : List (Str × Addr)) (fp : List Addr), PE (X.blk s H scope (compEnvC scope cl C X.env) fp) elt te)
    (hs : ∀ x, foldedSetIterable iter X.env x = pure x := by intro _; rfl) : PE X (.SetComp elt [⟨tg, iter, ifs, 0⟩] scope pos) (tScG SO z grow wi g tt te (own.map (·.2))) := by
  constructor
  intro pins s σ H Q I h
  rw [PpSet.eval_SetComp]
  have free : ∀ y ∈ scope.names, y.2 = .free → ∃ c, X.env.cells.lookup y.1 = some c := fun y hy e => I.ok.has _ (by exact ok.free y hy e)
  refine wpAny_comprehension_free (use := none) rfl hs (closure_ok free) ok.kind (fun y hy e => by rw [ok.uniq y hy, e]) (thn (hi.run pins s σ H _ I h) fun xv s1 hx => thn hx fun itv s2 got => ?_)
  obtain ⟨it, fp, tn, J, H2, rfl, I2, T, st2, f2, q⟩ := got
  refine PpSet.newSet_ok (newEnv_comp ?_)
  obtain ⟨D, hD⟩ : ∃ D, D = s2.heap.objs.size := ⟨_, rfl⟩
  obtain ⟨W, ⟨m0, w0⟩, turn⟩ := q D (I2.hok.fresh (Nat.le_of_eq hD.symm))
  rw [← hD]
  obtain ⟨s3, es3⟩ : ∃ s3 : Shared, s3 = { s2 with heap := s2.heap.push (noneIn X.w) } := ⟨_, rfl⟩
  have h3 : s3.heap = s2.heap.push (noneIn X.w) := by rw [es3]
  have I3 : Inv X pins σ (upd H2 D (SO D z)) s3 := by
    rw [es3]
    refine I2.laid (t' := s2.toks) (fun b o e => Heap.get?_push_of_some _ e) (Nat.le_of_eq hD.symm) ?_
    have fr := L.fresh (upd H2 D (SO D z)) s2.heap
    rw [← hD] at fr
    exact fr
  have below : ∀ b ∈ fp, b < s2.heap.objs.size := fun b hb => Heap.lt_size (T.obj _ _ st2 b hb).choose_spec.1
  have f3 : ∀ b ∈ fp, FpOk X pins (upd H2 D (SO D z)) b ∧ b < s3.heap.objs.size := fun b hb => by
    have lt := below b hb
    have ne : b ≠ D := by rw [hD]; exact Nat.ne_of_lt lt
    refine ⟨⟨?_, (f2 b hb).2⟩, ?_⟩
    · rw [upd_ne ne]
      exact (f2 b hb).1
    · rw [h3, Heap.size_push]
      exact Nat.lt_succ_of_lt lt
  have st3 : tn 0 s3.heap := T.keep _ _ _ st2 fun b _ o e => by rw [h3]; exact Heap.get?_push_of_some _ e
  have I4 := block_start I3 ok hN f3
  have pg := hg s3 (upd H2 D (SO D z)) s3.heap.objs.size (cellsFrom (s3.heap.objs.size + 1) scope.names (cloFrom X.env.cells scope.names [])) fp
  have pt := ht s3 (upd H2 D (SO D z)) s3.heap.objs.size (cellsFrom (s3.heap.objs.size + 1) scope.names (cloFrom X.env.cells scope.names [])) fp
  have pe := he s3 (upd H2 D (SO D z)) s3.heap.objs.size (cellsFrom (s3.heap.objs.size + 1) scope.names (cloFrom X.env.cells scope.names [])) fp
  have done : ∀ (s' : Shared) (m : Str → Option Value) (H' : Hp), Inv X pins σ H' s' → Q (.ref D) H' → s'.heap.Ns s3.heap.objs.size m → FpOk X pins H' s3.heap.objs.size → compPost (model X.prog X.w) X.A X.xe none (EP X pins σ Q) (.ref D) s3.heap.objs.size (.ok .next) s' := fun s' m H' I' qq hn f => ⟨m, hn, fun h'' sb => by
    obtain ⟨a0, a1, a2, a3, a4, a5⟩ := f
    exact ⟨.ref D, H', I'.turned (t' := s'.toks) (fun b o hb e => (sb.2 b hb).trans e) a0 a1 a3 a4 a5, rfl, qq⟩⟩
  have fin0 : ∀ {s4 : Shared} {ce : Env}, ce = compEnvC scope (cellsFrom (s3.heap.objs.size + 1) scope.names (cloFrom X.env.cells scope.names [])) s3.heap.objs.size X.env →
      s4 = { s3 with heap := pushCells (s3.heap.push { cls := .type "dict", data := .dict #[] }) scope.names } → codeAny (model X.prog X.w) X.A (.compStart (.SetComp elt [⟨tg, iter, ifs, 0⟩] scope pos) 0 (.ref it) (.ref D) ce) (compPost (model X.prog X.w) X.A X.xe none (EP X pins σ Q) (.ref D) s3.heap.objs.size) s4 := by
    intro s4 ce ece es4
    rw [← ece] at I4 pg pt pe
    rw [← es4] at I4
    have cL : ce.locals = s3.heap.objs.size := by rw [ece]; rfl
    have st4 : tn 0 s4.heap := T.keep _ _ _ st3 fun b _ o e => by rw [es4]; exact pushCells_keeps _ _ _ _ (Heap.get?_push_of_some _ e)
    have un : ∀ b ∈ fp, (upd H2 D (SO D z)) b = none := fun b hb => (f3 b hb).1.1
    generalize upd H2 D (SO D z) = H3 at I3 I4 pg pt pe w0 un f3
    have stat : ∀ {σ' : L2.St} {H' : Hp} {s' : Shared}, Inv (X.blk s3 H3 scope ce fp) [] σ' H' s' → (∀ b ∈ fp, H' b = none) → ∀ b ∈ fp, FpOk (X.blk s3 H3 scope ce fp) [] H' b := fun {σ' H' s'} I' hn b hb => by
      refine ⟨hn b hb, (I'.ok.exf b hb).1, I'.ok.exfs b hb, .inl hb, fun x c e => (I'.ok.exf b hb).2 x c e, fun p hp => ?_⟩
      simp at hp
    have loop : codeAny (model X.prog X.w) X.A (.compLoop (.SetComp elt [⟨tg, iter, ifs, 0⟩] scope pos) 0 (.ref it) (.ref D) ce) (compPost (model X.prog X.w) X.A X.xe none (EP X pins σ Q) (.ref D) s3.heap.objs.size) s4 := by
      refine PpSet.compLoopS_any (fun n s' => ∃ i H', Inv (X.blk s3 H3 scope ce fp) [] (wipe σ (own.map (·.2))) H' s' ∧ tn i s'.heap ∧ (∀ b ∈ fp, H' b = none) ∧ W i n H') (fun n s5 hI => ?_) m0 ⟨0, H3, I4, st4, un, w0⟩
      obtain ⟨i, H5, I5, st5, n5, w5⟩ := hI
      rcases turn i n H5 w5 with ⟨stop, qq⟩ | ⟨go, Nx, hNx, step⟩
      · refine thnF (T.done (X.blk s3 H3 scope ce fp) rfl rfl rfl hc i [] s5 _ H5 (fun _ _ => False) I5 (stat I5 n5) st5 stop) fun r s6 ⟨hr, I6⟩ => ?_
        subst hr
        have I7 : Inv X pins σ H5 s6 := I3.call' (ch := fp) I6.os I6.base I6.hok I6.bare fun b hb => ⟨(f3 b hb).1.2.2.2.1, (f3 b hb).1.2.1, (f3 b hb).1.2.2.2.2.1, (f3 b hb).1.2.2.2.2.2⟩
        obtain ⟨m, hn, _⟩ := I6.loc
        have fr : H5 ce.locals = none := I6.free
        have hn : s6.heap.Ns ce.locals m := hn
        rw [cL] at hn fr
        exact done s6 m H5 I7 qq hn (I3.fpOk (Nat.le_refl _) fr)
      · refine thnF (T.item (X.blk s3 H3 scope ce fp) rfl rfl rfl hc i [] s5 _ H5 (fun _ _ => False) I5 (stat I5 n5) st5 go) fun r s6 ⟨u, hr, h6⟩ => ?_
        subst hr
        refine thnF h6 fun _ s7 ⟨x, H7, I7, r7, y7, st7, n7⟩ => ?_
        have I8 := I7.pinned (stat I7 n7) (T.obj _ _ st7)
        refine thnF (pg.run _ s7 _ H7 x u _ I8 r7 (step x H7 y7)) fun _ s8 ⟨σ8, H8, I9, hw8, q8⟩ => ?_
        refine thnF (pt.run _ s8 σ8 H8 _ I9 q8) fun b s9 ⟨H9, I10, q9⟩ => ?_
        have next : ∀ {s' : Shared} {H' : Hp}, Inv (X.blk s3 H3 scope ce fp) ([] ++ pinsAt fp s7.heap) σ8 H' s' → Nx H' → ∃ m, m < n ∧ ∃ i H', Inv (X.blk s3 H3 scope ce fp) [] (wipe σ (own.map (·.2))) H' s' ∧ tn i s'.heap ∧ (∀ b ∈ fp, H' b = none) ∧ W i m H' := fun {s' H'} I' nx => by
          obtain ⟨m', hm, w'⟩ := hNx H' nx
          have held : ∀ b ∈ fp, ∀ o, s7.heap.get? b = some o → s'.heap.get? b = some o ∧ H' b = none := fun b hb o e => by
            have zz := I'.pin (b, o) (List.mem_append_right _ (List.mem_append_right _ (mem_pinsAt hb e)))
            exact ⟨zz.1, zz.2.1⟩
          refine ⟨m', hm, i + 1, H', (I'.unpinned (pins := [])).weak (by rw [← hw8, wipe_length]) (fun j v e => ?_), T.keep _ _ _ st7 fun b hb o e => (held b hb o e).1, fun b hb => ?_, w'⟩
          · rw [← hw8] at e
            exact (wipe_some e).1
          · obtain ⟨o, e, _⟩ := T.obj _ _ st7 b hb
            exact (held b hb o e).2
        cases b with
        | false =>
          simp only [Bool.false_eq_true, if_false] at q9 ⊢
          exact next I10 q9
        | true =>
          simp only [if_true] at q9 ⊢
          refine thnF (pe.run _ s9 σ8 H9 _ I10 q9) fun uv s10 ⟨yv, H10, I11, r10, t, t', hD10, gr, nx⟩ => ?_
          exact L.put (X := X.blk s3 H3 scope ce fp) rfl rfl I11 r10 hD10 gr fun s11 I12 => next I12 nx
    exact PpSet.codeAny_compStart_set loop (T.self X.A 0 _ _ _ st4 loop)
  have last := fin0 rfl rfl
  subst es3
  exact last
end
/-- a set of whole numbers -/
def soI (w : World) (a : Addr) (t : (Int → Bool) × Nat) : HO := SetO w a t.1 t.2
def zI : (Int → Bool) × Nat := (fun _ => false, 0)
def growI (t : (Int → Bool) × Nat) (y : V) (t' : (Int → Bool) × Nat) : Prop := ∃ k : Int, y = .int k ∧ t.2 + 1 < scanBound ∧ t' = (fun j => t.1 j || decide (j = k), if t.1 k = true then t.2 else t.2 + 1)
theorem setLikeI (P : Program) (w : World) : SetLike P w (soI w) zI growI where
  fresh H h := setO_new (setR_fresh w)
  put := by
    rintro X rfl rfl pins σ H s E D t t' y u Q I r hD ⟨k, rfl, room, rfl⟩ h
    obtain ⟨tk, rfl⟩ := r
    refine setR_add (setO_get I hD) room fun h' sb new => ?_
    obtain ⟨o, es, ep, tb, ho, _⟩ := id new
    exact h _ (I.write (e := D) (t' := s.toks + 1) (by rw [hD]; trivial) (.inl rfl) (fun b u hb hu => (sb.2 b hb).trans hu) ⟨o, ho⟩ (setO_new new))
theorem pe_scI {X : Cx} {elt tg iter : Expr} {ifs : List Expr} {scope : Scope} {own : List (Str × Nat)} {pos : Pos} {wi : TI} {g : TG} {tt : TT} {te : TE} (hc : X.calm = true) (hN : X.N.Nodup) (hi : PI X tg iter wi) (ok : BlkOk X.N X.env.scope scope own)
    (hg : ∀ (s : Shared) (H : Hp) (C : Addr) (cl : List (Str × Addr)) (fp : List Addr), PG (X.blk s H scope (compEnvC scope cl C X.env) fp) tg g)
    (ht : ∀ (s : Shared) (H : Hp) (C : Addr) (cl : List (Str × Addr)) (fp : List Addr), PTs (X.blk s H scope (compEnvC scope cl C X.env) fp) ifs tt)
    (he : ∀ (s : Shared) (H : Hp) (C : Addr) (cl : List (Str × Addr)) (fp : List Addr), PE (X.blk s H scope (compEnvC scope cl C X.env) fp) elt te)
    (hs : ∀ x, foldedSetIterable iter X.env x = pure x := by intro _; rfl) : PE X (.SetComp elt [⟨tg, iter, ifs, 0⟩] scope pos) (tScG (soI X.w) zI growI wi g tt te (own.map (·.2))) := pe_scG (setLikeI X.prog X.w) hc hN hi ok hg ht he hs
section
variable {τ : Type} {SO : Addr → τ → HO} {z : τ} {grow : τ → V → τ → Prop} {J : It} {n : Nat} {G : Hp → Prop} {Y : Nat → Hp → V → Hp → Prop} {g : TG} {tt : TT} {te : TE} {vs : List Nat} {σ : L2.St} {H1 : Hp} {D : Addr} {Qd : Hp → Prop}
theorem sc_it (w : Walk J n G Y) (Pv : Nat → Hp → Prop) (h0 : Pv 0 (upd H1 D (SO D z))) (hG : ∀ i H, i ≤ n → Pv i H → G H)
    (hs : ∀ i x H H', i < n → Pv i H → Y i H x H' → g x (wipe σ vs) H' fun σ2 H2 => wipe σ2 vs = wipe σ vs ∧ tt σ2 H2 fun b H3 =>
      if b = true then te σ2 H3 fun y H4 => ∃ t t' : τ, H4 D = some (SO D t) ∧ grow t y t' ∧ Pv (i + 1) (upd H4 D (SO D t')) else Pv (i + 1) H3) (hd : ∀ H, Pv n H → Qd H) :
    ∃ W : Nat → Nat → Hp → Prop, (∃ m, W 0 m (upd H1 D (SO D z))) ∧ ∀ i m H, W i m H →
      (J.stop i H ∧ Qd H) ∨ (J.go i H ∧ ∃ Nx : Hp → Prop, (∀ H', Nx H' → ∃ m', m' < m ∧ W (i + 1) m' H') ∧ ∀ x H', J.yld i H x H' → g x (wipe σ vs) H' fun σ2 H2 => wipe σ2 vs = wipe σ vs ∧ tt σ2 H2 fun b H3 =>
        if b = true then te σ2 H3 fun y H4 => ∃ t t' : τ, H4 D = some (SO D t) ∧ grow t y t' ∧ Nx (upd H4 D (SO D t')) else Nx H3) := by
  refine ⟨fun i m H => m = n - i ∧ i ≤ n ∧ Pv i H, ⟨n, by simp, Nat.zero_le _, h0⟩, ?_⟩
  rintro i m H ⟨rfl, hi, p⟩
  have q := hG i H hi p
  by_cases hlt : i < n
  · exact .inr ⟨w.goes i H hlt q, Pv (i + 1), fun H' p' => ⟨n - (i + 1), by omega, rfl, hlt, p'⟩, fun x H' y => hs i x H H' hlt p (w.yields i H x H' hlt q y)⟩
  · have e : i = n := by omega
    subst e
    exact .inl ⟨w.stops H q, hd H p⟩
end
/-- what comes out at a place, up to the i-th state -/
def OutAt (ou ns : List Int) (i : Nat) (k : Int) : Prop := ∃ j : Nat, j < i ∧ ou[j]? = some k ∧ ∃ c, ns[j]? = some c ∧ 0 < c
def totalOf (ou ns : List Int) : Int := ((ou.zip ns).map fun x => x.1 * x.2).sum
theorem OutAt.succ {ou ns : List Int} {i : Nat} {k o c : Int} (ho : ou[i]? = some o) (hc : ns[i]? = some c) : OutAt ou ns (i + 1) k ↔ OutAt ou ns i k ∨ (k = o ∧ 0 < c) := by
  constructor
  · rintro ⟨j, hj, h1, c1, h2, h3⟩
    by_cases e : j = i
    · subst e
      rw [ho] at h1
      rw [hc] at h2
      cases h1
      cases h2
      exact .inr ⟨rfl, h3⟩
    · exact .inl ⟨j, by omega, h1, c1, h2, h3⟩
  · rintro (⟨j, hj, r⟩ | ⟨rfl, h⟩)
    · exact ⟨j, by omega, r⟩
    · exact ⟨i, by omega, ho, c, hc, h⟩
theorem zip_at {α β : Type} {l : List α} {m : List β} {i : Nat} {a : α} {b : β} (h1 : l[i]? = some a) (h2 : m[i]? = some b) : (l.zip m)[i]? = some (a, b) := by
  rw [List.getElem?_zip_eq_some]
  exact ⟨h1, h2⟩
theorem totalOf_succ {ou ns : List Int} {i : Nat} {o c : Int} (ho : ou[i]? = some o) (hc : ns[i]? = some c) : ((((ou.zip ns).map fun x => x.1 * x.2).take (i + 1)).sum) = (((ou.zip ns).map fun x => x.1 * x.2).take i).sum + o * c := by
  have e : ((ou.zip ns).map fun x => x.1 * x.2)[i]? = some (o * c) := by
    rw [List.getElem?_map, zip_at ho hc]
    rfl
  rw [List.take_succ, e, List.sum_append]
  simp
/-- two ways that meet again: what comes behind is shown once -/
theorem seq_join {t u : TS} {D : Ends} {σ : L2.St} {H : Hp} (R : L2.St → Hp → Prop) (h1 : ∀ nx : L2.St → Hp → Prop, (∀ σ' H', R σ' H' → nx σ' H') → t { D with nx := nx } σ H) (h2 : ∀ σ' H', R σ' H' → u D σ' H') : tSeq t u D σ H := h1 (u D) h2
theorem inV_int (s : Int) (l : List Int) : inV (.int s) (l.map V.int) = decide (s ∈ l) := by
  unfold inV
  rw [Bool.eq_iff_iff, List.any_eq_true, decide_eq_true_iff]
  constructor
  · rintro ⟨y, hy, h⟩
    obtain ⟨t, ht, rfl⟩ := List.mem_map.mp hy
    have e : decide (t = s) = true := h
    rw [← of_decide_eq_true e]
    exact ht
  · intro h
    exact ⟨.int s, List.mem_map.mpr ⟨s, h, rfl⟩, (decide_eq_true rfl : decide (s = s) = true)⟩
theorem flat_int (l : List Int) : (l.map V.int).all flatV = true := by
  rw [List.all_eq_true]
  intro x hx
  obtain ⟨t, _, rfl⟩ := List.mem_map.mp hx
  rfl
theorem asc_of {l : List Int} (h : l.Pairwise (· ≤ ·)) (n : l.Nodup) : l.Pairwise (· < ·) := (h.and n).imp fun ⟨a, b⟩ => by omega
end Vf

namespace Vf
open PySem L2
theorem sum_set : ∀ {l : List Int} {i : Nat} {c : Int}, i < l.length → (l.set i (l.getD i 0 + c)).sum = l.sum + c
  | [], i, c, h => by simp at h
  | a :: r, 0, c, _ => by simp; omega
  | a :: r, i + 1, c, h => by
    have h' : i < r.length := by simpa using h
    have e := sum_set (c := c) h'
    rw [show (a :: r).getD (i + 1) 0 = r.getD i 0 from rfl, List.set_cons_succ, List.sum_cons, List.sum_cons, e]
    omega
theorem putAt_sum {l : List Int} {i : Nat} {c : Int} (h : i < l.length) : (putAt l i c).sum = l.sum + c := sum_set h
theorem move_sum {ns : List Int} {m r : Int × Int} (h : InR ns.length m) (h' : InR ns.length r) : (movePl ns m r).sum = ns.sum := by
  obtain ⟨a0, a1, b0, b1⟩ := h
  obtain ⟨c0, c1, d0, d1⟩ := h'
  unfold movePl
  rw [putAt_sum (by rw [putAt_len, putAt_len, putAt_len]; omega), putAt_sum (by rw [putAt_len, putAt_len]; omega), putAt_sum (by rw [putAt_len]; omega), putAt_sum (by omega)]
  omega
theorem in_sum {D : DD} (v : ValidN D) : ∀ (ps : List (Str × Str)) (cs pl : List Int), pl.length = D.st.length → ps.length = cs.length → (∀ p ∈ ps, p.2 ∈ D.st) → ((ps.zip cs).foldl (fun pl pc => putAt pl (D.st.idxOf pc.1.2) pc.2) pl).sum = pl.sum + cs.sum
  | [], [], pl, _, _, _ => by simp
  | [], _ :: _, _, _, h, _ => by simp at h
  | _ :: _, [], _, _, h, _ => by simp at h
  | p :: ps, c :: cs, pl, hl, hh, hm => by
    rw [List.zip_cons_cons, List.foldl_cons, in_sum v ps cs _ ((putAt_len ..).trans hl) (by simpa using hh) fun q hq => hm q (List.mem_cons_of_mem _ hq), List.sum_cons, putAt_sum (by rw [hl]; exact List.idxOf_lt_length_of_mem (hm p (List.mem_cons_self ..)))]
    omega
theorem ld_sum {D : DD} : ∀ (ls : List Str) (pl : List Int), pl.length = D.st.length → (∀ s ∈ ls, s ∈ D.st) → (ldPl D ls pl).sum = pl.sum + ls.length
  | [], pl, _, _ => by simp [ldPl]
  | s :: r, pl, hl, hm => by
    have e : ldPl D (s :: r) pl = ldPl D r (putAt pl (D.st.idxOf s) 1) := rfl
    rw [e, ld_sum r _ ((putAt_len ..).trans hl) fun q hq => hm q (List.mem_cons_of_mem _ hq), putAt_sum (by rw [hl]; exact List.idxOf_lt_length_of_mem (hm s (List.mem_cons_self ..))), List.length_cons]
    omega
theorem zero_sum (n : Nat) : (List.replicate n (0 : Int)).sum = 0 := by
  induction n with
  | zero => rfl
  | succ n ih => rw [List.replicate_succ, List.sum_cons, ih]; rfl
theorem first_sum {D : DD} (v : ValidN D) {cs : List Int} (h : cs.length = D.ins.length) : (firstPl D cs).sum = cs.sum + D.ld.length := by
  unfold firstPl
  rw [ld_sum _ _ (inPl_len ..) v.ldm]
  unfold inPl
  rw [in_sum v _ _ _ (List.length_replicate ..) h.symm fun p hp => (v.inm p hp).2, zero_sum]
  omega
theorem in_nn {D : DD} (n : Nat) : ∀ (ps : List (Str × Str)) (cs pl : List Int), (∀ y ∈ pl, 0 ≤ y) → (∀ y ∈ cs, 0 ≤ y) → ∀ y ∈ (ps.zip cs).foldl (fun pl pc => putAt pl (D.st.idxOf pc.1.2) pc.2) pl, 0 ≤ y
  | [], cs, pl, h, _ => by simpa using h
  | _ :: _, [], pl, h, _ => by simpa using h
  | p :: ps, c :: cs, pl, h, hc => by
    rw [List.zip_cons_cons, List.foldl_cons]
    refine in_nn n ps cs _ (fun y hy => ?_) fun y hy => hc y (List.mem_cons_of_mem _ hy)
    have c0 := hc c (List.mem_cons_self ..)
    rcases putAt_mem hy with m | ⟨l, rfl⟩
    · exact h y m
    · have := h _ (getD_mem l (d := 0))
      dsimp only at l this ⊢
      omega
theorem ld_nn {D : DD} : ∀ (ls : List Str) (pl : List Int), (∀ y ∈ pl, 0 ≤ y) → ∀ y ∈ ldPl D ls pl, 0 ≤ y
  | [], pl, h => h
  | s :: r, pl, h => by
    refine ld_nn r _ fun y hy => ?_
    rcases putAt_mem hy with m | ⟨l, rfl⟩
    · exact h y m
    · have := h _ (getD_mem l (d := 0))
      omega
theorem first_fits {D : DD} {cs : List Int} (h : ∀ y ∈ cs, 0 ≤ y) : Fits D.st.length (firstPl D cs) := by
  refine ⟨(ldPl_len ..).trans (inPl_len ..), ld_nn _ _ (in_nn D.st.length _ _ _ (fun y hy => ?_) h)⟩
  rw [List.eq_of_mem_replicate hy]
  exact Int.le_refl _
theorem le_sum : ∀ {l : List Int}, (∀ y ∈ l, 0 ≤ y) → ∀ i, l.getD i 0 ≤ l.sum ∧ 0 ≤ l.sum
  | [], _, i => by simp
  | a :: r, h, i => by
    have a0 := h a (List.mem_cons_self ..)
    have ih := le_sum (l := r) fun y hy => h y (List.mem_cons_of_mem _ hy)
    rw [List.sum_cons]
    cases i with
    | zero =>
      have := (ih 0).2
      show a ≤ _ ∧ _
      omega
    | succ i =>
      have := ih i
      show r.getD i 0 ≤ _ ∧ _
      omega
theorem le_sum2 : ∀ {l : List Int}, (∀ y ∈ l, 0 ≤ y) → ∀ i j, i ≠ j → l.getD i 0 + l.getD j 0 ≤ l.sum
  | [], _, i, j, _ => by simp
  | a :: r, h, i, j, ne => by
    have a0 := h a (List.mem_cons_self ..)
    have hr : ∀ y ∈ r, 0 ≤ y := fun y hy => h y (List.mem_cons_of_mem _ hy)
    rw [List.sum_cons]
    cases i with
    | zero =>
      cases j with
      | zero => exact absurd rfl ne
      | succ j =>
        have := (le_sum hr j).1
        show a + r.getD j 0 ≤ _
        omega
    | succ i =>
      cases j with
      | zero =>
        have := (le_sum hr i).1
        show r.getD i 0 + a ≤ _
        omega
      | succ j =>
        have := le_sum2 hr i j (fun e => ne (by rw [e]))
        show r.getD i 0 + r.getD j 0 ≤ _
        omega
/-- fewer than two agents do not meet -/
theorem canMeet_two {ns : List Int} {m : Int × Int} (h : ∀ y ∈ ns, 0 ≤ y) (c : canMeet ns m = true) : 2 ≤ ns.sum := by
  have r := canMeet_in c
  unfold canMeet at c
  split at c
  · cases c
  · split at c
    · rw [decide_eq_true_eq] at c
      have := (le_sum h m.1.toNat).1
      omega
    · rename_i ne
      rw [Bool.and_eq_true, decide_eq_true_eq, decide_eq_true_eq] at c
      have := le_sum2 h m.1.toNat m.2.toNat (fun e => ne (by obtain ⟨a, _, b, _⟩ := r; omega))
      omega
theorem nextL_all {f : Int × Int → Int × Int} {ns : List Int} {m : Int × Int} (ne : movePl ns m (f m) ≠ ns) : ∀ {ms : List (Int × Int)}, m ∈ ms → movePl ns m (f m) ∈ (nextL f ns ms).map Prod.fst := by
  have keep : ∀ (ms : List (Int × Int)) (acc : List (List Int × (Int × Int))) (z : List Int), z ∈ acc.map Prod.fst → z ∈ (ms.foldl (nextS f ns) acc).map Prod.fst := by
    intro ms
    induction ms with
    | nil => intro acc z h; exact h
    | cons a r ih =>
      intro acc z h
      rw [List.foldl_cons]
      refine ih _ _ ?_
      unfold nextS
      split
      · exact h
      · rw [List.map_append]
        exact List.mem_append_left _ h
  have go : ∀ (ms : List (Int × Int)) (acc : List (List Int × (Int × Int))), m ∈ ms → movePl ns m (f m) ∈ (ms.foldl (nextS f ns) acc).map Prod.fst := by
    intro ms
    induction ms with
    | nil => intro acc h; simp at h
    | cons a r ih =>
      intro acc h
      rw [List.foldl_cons]
      rcases List.mem_cons.mp h with rfl | h
      · refine keep _ _ _ ?_
        unfold nextS
        split
        · rename_i c
          rcases c with c | c
          · exact absurd c ne
          · exact c
        · rw [List.map_append]
          exact List.mem_append_right _ (by simp)
      · exact ih _ h
  intro ms h
  exact go ms [] h
theorem goPl_snoc {f : Int × Int → Int × Int} {m : Int × Int} {cur : List Int} (c : canMeet cur m = true) : ∀ {ms : List (Int × Int)} {k : Nat} {pl : List Int}, goPl f k ms pl = .inr cur → goPl f k (ms ++ [m]) pl = .inr (movePl cur m (f m))
  | [], k, pl, h => by
    have e : pl = cur := Sum.inr.inj h
    subst e
    show (if canMeet pl m = true then goPl f (k + 1) [] (movePl pl m (f m)) else .inl k) = _
    rw [if_pos c]
    rfl
  | a :: r, k, pl, h => by
    have h' : (if canMeet pl a = true then goPl f (k + 1) r (movePl pl a (f a)) else .inl k) = Sum.inr cur := h
    show (if canMeet pl a = true then goPl f (k + 1) (r ++ [m]) (movePl pl a (f a)) else .inl k) = _
    by_cases ca : canMeet pl a = true
    · rw [if_pos ca] at h' ⊢
      exact goPl_snoc c h'
    · rw [if_neg ca] at h'
      cases h'
theorem pairs_nil {ms : List (Int × Int)} : PyData.eqv (.list (ms.map fun m => PyData.tuple [.int m.1, .int m.2])) (.list []) = decide (ms = []) := by
  cases ms with
  | nil => simp [PyData.eqv, PyData.eqvAll]
  | cons a r => simp [PyData.eqv, PyData.eqvAll]
end Vf

namespace Vf
open PySem L2 PySem.Spec PyProof.Rows
/-- x == y, two objects of a class with an own __eq__ that answers with a truth value -/
def rEqOwn (C : Addr) (sp : Sp) (E : XK) : R2 := fun x y H Q => ∃ (a b dx dy : Addr) (fs gs : List (Str × V)), x = .ref a ∧ y = .ref b ∧ H a = some (.ins C dx fs) ∧ H b = some (.ins C dy gs) ∧ sp [.ref a, .ref b] H (fun v H' => ∃ c : Bool, v = .bl c ∧ Q (.bl c) H') E
theorem op_eqOwn {X : Cx} {CX : CXT} {k : Nat} {C f : Addr} {fd : FuncData} {ps : List Str} {sp : Sp} {E : XK} (F : FnOk X.prog X.w X.K X.mg X.base CX k f fd ps sp) (hr : Room k X.A)
    (fnd : PySem.W.findIn X.K (.ref C) "__eq__" = some (some (.ref f))) (isf : PySem.W.isFn X.K (.ref f) = true) (bd : Binds X.K fd ps []) (px : Passes CX X E) : OpR X (compareOp .Eq) (rEqOwn C sp E) := by
  intro pins s σ H x y v u Q I rx ry h
  obtain ⟨a, b, dx, dy, fs, gs, rfl, rfl, ha, hb, q⟩ := h
  obtain rfl : v = Value.ref a := rx
  obtain rfl : u = Value.ref b := ry
  obtain ⟨_, Ja, _⟩ := ins_get I.hok ha
  obtain ⟨_, Jb, _⟩ := ins_get I.hok hb
  obtain ⟨_, Ja, _⟩ := Ja.look
  obtain ⟨_, Jb, _⟩ := Jb.look
  obtain ⟨_, fr⟩ := I.fr
  have hl := F.len _ _ _ _ q
  have r2 : Vals [V.ref a, V.ref b] [Value.ref a, Value.ref b] := .cons rfl (.cons rfl .nil)
  have hbs : BindsTo s fd ⟨[Value.ref a, Value.ref b], []⟩ (ps.zip [Value.ref a, Value.ref b]) := by
    have := bd s [Value.ref a, Value.ref b] I.kIn (by simpa using hl)
    simpa using this
  show wpAny (model X.prog X.w) X.A (richCompare .Eq (.ref a) (.ref b)) (EP X pins σ Q) X.xe s
  refine PySem.W.cmp_K (op := .Eq) (tb := Value.ref C) hr.units0 fr I.ok.mod.kin Ja Jb.type (by simp [PySem.W.notFirst]) fnd isf (wpAny_call (codeAny_mono (F.run X.A X.stack s H _ _ _ _ E hr I.env0 hbs r2 q) fun r s' hq => ?_))
  cases r with
  | error e => exact px pins σ H s e s' I hq
  | ok fl =>
    cases fl with
    | ret z =>
      obtain ⟨zv, H', I', rz, c, rfl, q'⟩ := I.after hq
      obtain rfl : z = Value.bool c := rz
      exact ⟨.bl c, H', I', rfl, q'⟩
    | next => exact False.elim hq
    | brk => exact False.elim hq
    | cont => exact False.elim hq
end Vf

namespace Vf
open PySem PySem.W L2
/-! ### == of texts, pairs of texts, rules -/
def rEqP (K : PySem.W.Frag) (neg : Bool) : R2 := fun x y H Q => ∃ d e, Dp K H x d ∧ Dp K H y e ∧ (d.plain = true ∧ d.depth ≤ 64) ∧ (e.plain = true ∧ e.depth ≤ 64) ∧ Q (.bl (if neg then !PyData.eqv d e else PyData.eqv d e)) H
theorem op_eqP {X : Cx} (hu : X.A.units + 64 < cLine) : OpR X (compareOp .Eq) (rEqP X.K false) := by
  rintro pins s σ H x y v u Q I rx ry ⟨d, e, hd, he, ⟨pd, dd⟩, ⟨pe, _⟩, q⟩
  obtain ⟨_, r1⟩ := Dp.reads I d x v hd rx
  obtain ⟨_, r2⟩ := Dp.reads I e y u he ry
  exact SeqAt.eq_plain r1 r2 pd pe (by omega) ⟨.bl _, H, I, rfl, q⟩
theorem op_neP {X : Cx} (hu : X.A.units + 64 < cLine) : OpR X (compareOp .NotEq) (rEqP X.K true) := by
  rintro pins s σ H x y v u Q I rx ry ⟨d, e, hd, he, ⟨pd, dd⟩, ⟨pe, _⟩, q⟩
  obtain ⟨_, r1⟩ := Dp.reads I d x v hd rx
  obtain ⟨_, r2⟩ := Dp.reads I e y u he ry
  exact SeqAt.ne_plain r1 r2 pd pe (by omega) ⟨.bl _, H, I, rfl, q⟩
theorem datum_pl {α : Type} [DecidableEq α] [Datum α] (a : α) (h : Datum.depth α ≤ 64) : (Datum.toD a).plain = true ∧ (Datum.toD a).depth ≤ 64 := ⟨Datum.plain a, Nat.le_trans (Datum.depth_le a) h⟩
theorem dpAll_of {α : Type} {K : PySem.W.Frag} {H : Hp} {f : α → V} {g : α → PyData} (h : ∀ a, Dp K H (f a) (g a)) : ∀ l : List α, DpAll K H (l.map f) (l.map g)
  | [] => .nil
  | a :: r => .cons (h a) (dpAll_of h r)
theorem dpAll_strs {K : PySem.W.Frag} {H : Hp} (l : List Str) : DpAll K H (l.map V.str) (l.map Datum.toD) := dpAll_of (fun a => .str a) l
theorem dpAll_tupsG {α : Type} {K : PySem.W.Frag} {H : Hp} {enc : α → List V} {g : α → PyData} (h : ∀ (a : α) (t : Addr), H t = some (.tup (enc a)) → Dp K H (.ref t) (g a)) : ∀ {xs : List V} {l : List α}, Tups enc H xs l → DpAll K H xs (l.map g)
  | [], [], _ => .nil
  | [], _ :: _, t => by have := t.1; simp at this
  | _ :: _, [], t => by have := t.1; simp at this
  | x :: xs, a :: r, t => by
    obtain ⟨u, e1, e2⟩ := t.2 0 a rfl
    obtain rfl : x = .ref u := Option.some.inj e1
    exact .cons (h a u e2) (dpAll_tupsG h ⟨Nat.succ.inj t.1, fun i b e => t.2 (i + 1) b e⟩)
def t4 (r : S4) : T4 Str Str Str Str := ⟨r.1, r.2.1, r.2.2.1, r.2.2.2⟩
theorem t4_inj {a b : List S4} (h : a.map t4 = b.map t4) : a = b := by
  induction a generalizing b with
  | nil => cases b with
    | nil => rfl
    | cons y s => cases h
  | cons x r ih => cases b with
    | nil => cases h
    | cons y s =>
      obtain ⟨e, f⟩ := List.cons.inj h
      rw [ih f]
      obtain ⟨x1, x2, x3, x4⟩ := x
      obtain ⟨y1, y2, y3, y4⟩ := y
      cases e
      rfl
theorem dpAll_ins {K : PySem.W.Frag} {H : Hp} {xs : List V} {l : List (Str × Str)} (t : Tups enc2 H xs l) : DpAll K H xs (l.map Datum.toD) :=
  dpAll_tupsG (fun _ _ h => .tup (SqT.of h) (.cons (.str _) (.cons (.str _) .nil))) t
theorem dpAll_rus {K : PySem.W.Frag} {H : Hp} {xs : List V} {l : List S4} (t : Tups enc4 H xs l) : DpAll K H xs (l.map fun r => Datum.toD (t4 r)) :=
  dpAll_tupsG (fun _ _ h => .tup (SqT.of h) (.cons (.str _) (.cons (.str _) (.cons (.str _) (.cons (.str _) .nil))))) t
/-- the description of a tuple of texts, of pairs, of rules -/
def dStT (l : List Str) : PyData := Datum.toD (⟨l⟩ : Tup Str)
def dInT (l : List (Str × Str)) : PyData := Datum.toD (⟨l⟩ : Tup (Str × Str))
def dRuT (l : List S4) : PyData := Datum.toD (⟨l.map t4⟩ : Tup (T4 Str Str Str Str))
theorem dp_st {K : PySem.W.Frag} {H : Hp} {a : Addr} {l : List Str} (h : H a = some (.tup (l.map V.str))) : Dp K H (.ref a) (dStT l) := .tup (SqT.of h) (dpAll_strs l)
theorem dp_in {K : PySem.W.Frag} {H : Hp} {a : Addr} {xs : List V} {l : List (Str × Str)} (h : H a = some (.tup xs)) (t : Tups enc2 H xs l) : Dp K H (.ref a) (dInT l) := .tup (SqT.of h) (dpAll_ins t)
theorem dp_ru {K : PySem.W.Frag} {H : Hp} {a : Addr} {xs : List V} {l : List S4} (h : H a = some (.tup xs)) (t : Tups enc4 H xs l) : Dp K H (.ref a) (dRuT l) := .tup (SqT.of h) (by
  have := dpAll_rus (K := K) t
  show DpAll K H xs ((l.map t4).map Datum.toD)
  rw [List.map_map]
  exact this)
theorem eqv_st (a b : List Str) : PyData.eqv (dStT a) (dStT b) = decide (a = b) := (Datum.eqv (α := Tup Str) ⟨a⟩ ⟨b⟩).trans (decide_eq_decide.mpr ⟨fun e => congrArg Tup.items e, fun e => by rw [e]⟩)
theorem eqv_in (a b : List (Str × Str)) : PyData.eqv (dInT a) (dInT b) = decide (a = b) := (Datum.eqv (α := Tup (Str × Str)) ⟨a⟩ ⟨b⟩).trans (decide_eq_decide.mpr ⟨fun e => congrArg Tup.items e, fun e => by rw [e]⟩)
theorem eqv_ru (a b : List S4) : PyData.eqv (dRuT a) (dRuT b) = decide (a = b) := (Datum.eqv (α := Tup (T4 Str Str Str Str)) ⟨a.map t4⟩ ⟨b.map t4⟩).trans (decide_eq_decide.mpr ⟨fun e => t4_inj (congrArg Tup.items e), fun e => by rw [e]⟩)
theorem sh_st (l : List Str) : ((dStT l) : PyData).plain = true ∧ PyData.depth (dStT l) ≤ 64 := datum_pl _ (by decide)
theorem sh_in (l : List (Str × Str)) : ((dInT l) : PyData).plain = true ∧ PyData.depth (dInT l) ≤ 64 := datum_pl _ (by decide)
theorem sh_ru (l : List S4) : ((dRuT l) : PyData).plain = true ∧ PyData.depth (dRuT l) ≤ 64 := datum_pl _ (by decide)
end Vf
namespace Vf
open PySem L2
/-! ### what breaks point 4 -/
theorem nodup_seen {α : Type} {l : List α} (h : ∀ i x, l[i]? = some x → x ∉ l.take i) : l.Nodup := by
  rw [List.nodup_iff_pairwise_ne, List.pairwise_iff_getElem]
  intro i j hi hj ij e
  refine h j l[j] (List.getElem?_eq_getElem hj) ?_
  rw [← e]
  exact List.mem_iff_getElem?.mpr ⟨i, by rw [List.getElem?_take_of_lt ij]; exact List.getElem?_eq_getElem hi⟩
theorem last_in {α : Type} {l : List α} {n : Nat} (h : n < l.length) : ∃ x, l[n]? = some x := ⟨l[n], List.getElem?_eq_getElem h⟩
theorem Valid.stp {D : DD} (v : Valid D) {i : Nat} {s : Str} (h : D.st[i]? = some s) : (i < 400 ∧ isName s = true) ∧ s ∉ D.st.take i := by
  have hi := (List.getElem?_eq_some_iff.mp h).1
  obtain ⟨o, ho⟩ := last_in (l := D.ou) (n := i) (by rw [v.len]; exact hi)
  have g := v.st i s o h ho
  unfold DD.okState at g
  simp only [take_len h, Bool.and_eq_true, decide_eq_true_eq] at g
  exact ⟨⟨g.1.1.1, g.1.1.2⟩, g.1.2⟩
theorem Valid.n400 {D : DD} (v : Valid D) : D.st.length ≤ 400 := by
  by_cases h : D.st.length ≤ 400
  · exact h
  · obtain ⟨x, hx⟩ := last_in (l := D.st) (n := 400) (by omega)
    have := (v.stp hx).1.1
    omega
theorem Valid.nm {D : DD} (v : Valid D) {s : Str} (h : s ∈ D.st) : isName s = true := by
  obtain ⟨i, hi⟩ := List.mem_iff_getElem?.mp h
  exact (v.stp hi).1.2
theorem Valid.snd {D : DD} (v : Valid D) : D.st.Nodup := nodup_seen fun _ _ h => (v.stp h).2
theorem Valid.oup {D : DD} (v : Valid D) {o : Int} (h : o ∈ D.ou) : 0 ≤ o ∧ o ≤ 9 := by
  obtain ⟨i, hi⟩ := List.mem_iff_getElem?.mp h
  obtain ⟨s, hs⟩ := last_in (l := D.st) (n := i) (by rw [← v.len]; exact (List.getElem?_eq_some_iff.mp hi).1)
  have g := v.st i s o hs hi
  unfold DD.okState at g
  simp only [Bool.and_eq_true, decide_eq_true_eq] at g
  exact g.2
theorem Valid.inp {D : DD} (v : Valid D) {i : Nat} {x : Str × Str} (h : D.ins[i]? = some x) : ((i < 8 ∧ isName x.1 = true) ∧ x.1 ∉ (D.ins.take i).map (·.1)) ∧ x.2 ∈ D.st := by
  have g := v.ins i x h
  unfold DD.okInput at g
  simp only [take_len h, Bool.and_eq_true, decide_eq_true_eq] at g
  exact g
theorem Valid.n8 {D : DD} (v : Valid D) : D.ins.length ≤ 8 := by
  by_cases h : D.ins.length ≤ 8
  · exact h
  · obtain ⟨x, hx⟩ := last_in (l := D.ins) (n := 8) (by omega)
    have := (v.inp hx).1.1.1
    omega
theorem Valid.inm {D : DD} (v : Valid D) {x : Str × Str} (h : x ∈ D.ins) : isName x.1 = true ∧ x.2 ∈ D.st := by
  obtain ⟨i, hi⟩ := List.mem_iff_getElem?.mp h
  exact ⟨(v.inp hi).1.1.2, (v.inp hi).2⟩
theorem Valid.ind {D : DD} (v : Valid D) : (D.ins.map (·.1)).Nodup := nodup_seen fun i y h => by
  rw [List.getElem?_map] at h
  cases e : D.ins[i]? with
  | none => rw [e] at h; cases h
  | some x =>
    rw [e] at h
    cases h
    have := (v.inp e).1.2
    rwa [List.map_take] at this
theorem Valid.ldp {D : DD} (v : Valid D) {i : Nat} {s : Str} (h : D.ld[i]? = some s) : i < 10 ∧ s ∈ D.st := by
  have g := v.ld i s h
  unfold DD.okLeader at g
  simp only [take_len h, Bool.and_eq_true, decide_eq_true_eq] at g
  exact g
theorem Valid.n10 {D : DD} (v : Valid D) : D.ld.length ≤ 10 := by
  by_cases h : D.ld.length ≤ 10
  · exact h
  · obtain ⟨x, hx⟩ := last_in (l := D.ld) (n := 10) (by omega)
    have := (v.ldp hx).1
    omega
theorem Valid.ldm {D : DD} (v : Valid D) {s : Str} (h : s ∈ D.ld) : s ∈ D.st := by
  obtain ⟨i, hi⟩ := List.mem_iff_getElem?.mp h
  exact (v.ldp hi).2
def badNames : List Str := ["", "A", "1a", "a_b", "abcdefghijklm", "a b", "aB", "a-"]
theorem bad_all : (badNames.all fun s => decide (s.length ≤ 20) && !isName s) = true := by decide +kernel
theorem bad_at {r : Int} (h0 : 0 ≤ r) (h1 : r < 8) : ∃ s : Str, atI (badNames.map V.str) r = some (.str s) ∧ s.length ≤ 20 ∧ isName s = false := by
  have hl : r.toNat < badNames.length := by show r.toNat < 8; omega
  refine ⟨badNames.getD r.toNat Str.empty, map_at (f := V.str) (l := badNames) h0 (by show r < 8; exact h1), ?_⟩
  have := List.all_eq_true.mp bad_all _ (getD_mem (d := Str.empty) hl)
  simp only [Bool.and_eq_true, decide_eq_true_eq, Bool.not_eq_true'] at this
  exact this
def sameDD (D E : DD) : Bool := decide (D.st = E.st) && (decide (D.ins = E.ins) && (decide (D.ld = E.ld) && (decide (D.ru = E.ru) && decide (D.ou = E.ou))))
def rCopy (K : PySem.W.Frag) : List V → Hp → VK → Prop := fun vs H Q => ∃ a its, vs = [.ref a] ∧ (SqL K H a its ∨ SqT K H a its) ∧ ∀ u, H u = none → Q (.ref u) (upd H u (.lst its))
theorem call_list_ofK {X : Cx} {K : PySem.W.Frag} (h : X.K = K) : CallR X (.type "list") (rCopy K) := by
  subst h
  exact call_list_of
/-- five lists, the parts of a protocol -/
structure Five (H : Hp) (a b c d e : Addr) (D : DD) : Prop where
  st : H a = some (.lst (D.st.map V.str))
  ins : ∃ xi, H b = some (.lst xi) ∧ Tups enc2 H xi D.ins
  ld : H c = some (.lst (D.ld.map V.str))
  ru : ∃ xr, H d = some (.lst xr) ∧ Tups enc4 H xr D.ru
  ou : H e = some (.lst (D.ou.map V.int))
theorem Five.same {H H' : Hp} {a b c d e : Addr} {D : DD} (F : Five H a b c d e D) (s : Same H H') : Five H' a b c d e D := by
  obtain ⟨xi, i1, i2⟩ := F.ins
  obtain ⟨xr, r1, r2⟩ := F.ru
  exact ⟨s _ _ F.st, ⟨xi, s _ _ i1, i2.same s⟩, s _ _ F.ld, ⟨xr, s _ _ r1, r2.same s⟩, s _ _ F.ou⟩
theorem Five.parts {H : Hp} {a b c d e z : Addr} {D : DD} (F : Five H a b c d e D) (hz : H z = some (.tup [.ref a, .ref b, .ref c, .ref d, .ref e])) : PartsAt H z D := by
  obtain ⟨xi, i1, i2⟩ := F.ins
  obtain ⟨xr, r1, r2⟩ := F.ru
  exact ⟨a, b, c, d, e, xi, xr, hz, F.st, i1, i2, F.ld, r1, r2, F.ou⟩
def Copied (H H' : Hp) (C a b c d e : Addr) (D : DD) : Prop := Same H H' ∧ H' C = some (.lst [.ref a, .ref b, .ref c, .ref d, .ref e]) ∧ [C, a, b, c, d, e].Nodup ∧ (∀ x ∈ [C, a, b, c, d, e], H x = none) ∧ Five H' a b c d e D
theorem copy_parts {K : PySem.W.Frag} {q0 C : Addr} {D : DD} {H : Hp} {k : Nat} {σ : L2.St} {Qd : Hp → Prop} (PA : PartsAt H q0 D) (hk : k < σ.length) (hC : H C = none) (hd : ∀ H4 a b c d e, Copied H H4 C a b c d e D → Qd H4) :
    ∃ W : Nat → Nat → Hp → Prop, (∃ m, W 0 m (upd H C (.lst []))) ∧ ∀ i m H1, W i m H1 →
      ((Itt K q0).stop i H1 ∧ Qd H1) ∨ ((Itt K q0).go i H1 ∧ ∃ Nx : Hp → Prop, (∀ H', Nx H' → ∃ m', m' < m ∧ W (i + 1) m' H') ∧ ∀ x H', (Itt K q0).yld i H1 x H' → gName k x (wipe σ [k]) H' fun σ2 H2 => wipe σ2 [k] = wipe σ [k] ∧ tYes σ2 H2 fun b H3 =>
        if b = true then tCB (rCopy K) (tCons (tVar k) tNil) σ2 H3 fun y H4 => ∃ acc, H4 C = some (.lst acc) ∧ acc.length < sizeLine ∧ Nx (upd H4 C (.lst (acc ++ [y]))) else Nx H3) := by
  obtain ⟨ls, li, ll, lr, lo, xi, xr, h0, h1, h2, t2, h3, h4, t4, h5⟩ := PA
  have each : ∀ l ∈ [ls, li, ll, lr, lo], ∃ its, H l = some (.lst its) := by
    intro l hl
    simp only [List.mem_cons, List.not_mem_nil, or_false] at hl
    rcases hl with rfl | rfl | rfl | rfl | rfl
    · exact ⟨_, h1⟩
    · exact ⟨_, h2⟩
    · exact ⟨_, h3⟩
    · exact ⟨_, h4⟩
    · exact ⟨_, h5⟩
  refine lc_it (walk_tup (K := K) (a := q0) (xs := [.ref ls, .ref li, .ref ll, .ref lr, .ref lo])) (fun i H' => ∃ ts : List Addr, ts.length = i ∧ H' C = some (.lst (ts.map V.ref)) ∧ Same H H' ∧ (C :: ts).Nodup ∧ (∀ x ∈ ts, H x = none) ∧ ∀ (j : Nat) (t : Addr), ts[j]? = some t → ∃ (l : Addr) (its : List V), [ls, li, ll, lr, lo][j]? = some l ∧ H l = some (.lst its) ∧ H' t = some (.lst its)) ?_ ?_ ?_ ?_
  · exact ⟨[], rfl, upd_same, Same.new (Same.refl H) hC, by simp, by simp, fun j t h => by simp at h⟩
  · rintro i H' _ ⟨ts, _, _, s, _⟩
    exact SqT.of (s _ _ h0)
  · rintro i x H1 H2 hi ⟨ts, tl, c1, s1, nd, fr, al⟩ ⟨rfl, hx⟩
    have hi5 : i < [ls, li, ll, lr, lo].length := hi
    obtain ⟨l, hl⟩ : ∃ l, [ls, li, ll, lr, lo][i]? = some l := ⟨_, List.getElem?_eq_getElem hi5⟩
    have hx' : x = .ref l := by
      have e : ([.ref ls, .ref li, .ref ll, .ref lr, .ref lo] : List V) = [ls, li, ll, lr, lo].map V.ref := rfl
      rw [e, List.getElem?_map, hl] at hx
      exact (Option.some.inj hx).symm
    subst hx'
    obtain ⟨its, hits⟩ := each l (List.mem_of_getElem? hl)
    refine ⟨by simp only [wipe, List.set_set], ?_⟩
    refine ⟨_, ?_, l, its, rfl, .inl (SqL.of (s1 _ _ hits)), fun u hu => ?_⟩
    · show ((wipe σ [k]).set k (some (V.ref l)))[k]? = some (some (V.ref l))
      rw [List.getElem?_set_self]
      rw [wipe_length]
      exact hk
    have nu : H u = none := s1.free hu
    have uC : u ≠ C := fun e => by rw [e, c1] at hu; cases hu
    refine ⟨ts.map V.ref, by rw [upd_ne (Ne.symm uC)]; exact c1, ?_, ts ++ [u], by rw [List.length_append, tl]; rfl, by rw [upd_same, List.map_append]; rfl, Same.chg (Same.new s1 hu) hC, ?_, ?_, ?_⟩
    · rw [List.length_map, tl]
      exact Nat.lt_of_lt_of_le (show i < 5 from hi5) (by decide)
    · have ut : u ∉ ts := fun m => by
        obtain ⟨j, hj⟩ := List.mem_iff_getElem?.mp m
        obtain ⟨_, _, _, _, e⟩ := al j u hj
        rw [e] at hu
        cases hu
      rw [List.nodup_cons] at nd ⊢
      refine ⟨fun m => ?_, ?_⟩
      · rcases List.mem_append.mp m with m | m
        · exact nd.1 m
        · exact uC (List.mem_singleton.mp m).symm
      · rw [List.nodup_append]
        refine ⟨nd.2, by simp, fun y hy z hz e => ?_⟩
        rw [List.mem_singleton] at hz
        exact ut (hz ▸ e ▸ hy)
    · intro y hy
      rcases List.mem_append.mp hy with hy | hy
      · exact fr y hy
      · rw [List.mem_singleton.mp hy]
        exact nu
    · intro j t hj
      have Cn : ∀ y ∈ ts, y ≠ C := fun y hy e => (List.nodup_cons.mp nd).1 (e ▸ hy)
      by_cases hjl : j < ts.length
      · rw [List.getElem?_append_left hjl] at hj
        obtain ⟨l', its', e1, e2, e3⟩ := al j t hj
        have tm := List.mem_of_getElem? hj
        refine ⟨l', its', e1, e2, ?_⟩
        rw [upd_ne (Cn t tm), upd_ne (fun e => by rw [e, hu] at e3; cases e3)]
        exact e3
      · rw [List.getElem?_append_right (by omega)] at hj
        have j0 : j - ts.length = 0 := by
          have := (List.getElem?_eq_some_iff.mp hj).1
          simp at this
          omega
        rw [j0] at hj
        have e1 : u = t := Option.some.inj hj
        subst e1
        have e2 : j = i := by omega
        subst e2
        refine ⟨l, its, hl, hits, ?_⟩
        rw [upd_ne uC, upd_same]
  · rintro H4 ⟨ts, tl, c1, s1, nd, fr, al⟩
    have tl5 : ts.length = 5 := tl
    match ts, tl5, c1, nd, fr, al with
    | [a, b, c, d, e], _, c1, nd, fr, al =>
      have get : ∀ (j : Nat) (l t : Addr) (its : List V), [ls, li, ll, lr, lo][j]? = some l → [a, b, c, d, e][j]? = some t → H l = some (.lst its) → H4 t = some (.lst its) := fun j l t its e1 e2 e3 => by
        obtain ⟨l', its', f1, f2, f3⟩ := al j t e2
        rw [e1] at f1
        cases f1
        rw [e3] at f2
        cases f2
        exact f3
      refine hd H4 a b c d e ⟨s1, c1, nd, ?_, get 0 _ _ _ rfl rfl h1, ⟨xi, get 1 _ _ _ rfl rfl h2, t2.same s1⟩, get 2 _ _ _ rfl rfl h3, ⟨xr, get 3 _ _ _ rfl rfl h4, t4.same s1⟩, get 4 _ _ _ rfl rfl h5⟩
      intro x hx
      rcases List.mem_cons.mp hx with rfl | hx
      · exact hC
      · exact fr x hx
structure StA (H0 : Hp) (p d : Addr) (ds : List Int) (H : Hp) (m : Int) : Prop where
  keep : Keep [p] H0 H
  pool : PoolX H p d ds m
theorem StA.chg {H0 H : Hp} {p d a : Addr} {ds : List Int} {n m : Int} {o : HO} (s : StA H0 p d ds H m) (P : PoolX H0 p d ds n) (h : H0 a = none) : StA H0 p d ds (upd H a o) m := by
  refine ⟨fun b o' hb e => ?_, ?_, ?_, s.pool.2.2⟩
  · rw [upd_ne (neq_none e h)]
    exact s.keep b o' hb e
  · rw [upd_ne (neq_none P.1 h)]
    exact s.pool.1
  · rw [upd_ne (neq_none P.2.1 h)]
    exact s.pool.2.1
theorem StA.new {H0 H : Hp} {p d a : Addr} {ds : List Int} {m : Int} {o : HO} (s : StA H0 p d ds H m) (h : H a = none) : StA H0 p d ds (upd H a o) m := by
  refine ⟨fun b o' hb e => ?_, ?_, ?_, s.pool.2.2⟩
  · have e' := s.keep b o' hb e
    rw [upd_ne (neq_none e' h)]
    exact e'
  · rw [upd_ne (neq_none s.pool.1 h)]
    exact s.pool.1
  · rw [upd_ne (neq_none s.pool.2.1 h)]
    exact s.pool.2.1
theorem StA.go {H0 H H' : Hp} {p d : Addr} {ds : List Int} {m m' : Int} (s : StA H0 p d ds H m) (k : Keep [p] H H') (P : PoolX H' p d ds m') : StA H0 p d ds H' m' := ⟨s.keep.trans k, P⟩
theorem StA.same {H0 H H' : Hp} {p d : Addr} {ds : List Int} {m : Int} (s : StA H0 p d ds H m) (k : Same H H') : StA H0 p d ds H' m := ⟨s.keep.trans (Keep.of k), s.pool.same k⟩
structure Dis (a b c d e : Addr) : Prop where
  ab : a ≠ b
  ac : a ≠ c
  ad : a ≠ d
  ae : a ≠ e
  bc : b ≠ c
  bd : b ≠ d
  be : b ≠ e
  cd : c ≠ d
  ce : c ≠ e
  de : d ≠ e
theorem Dis.of {C a b c d e : Addr} (h : [C, a, b, c, d, e].Nodup) : Dis a b c d e := by
  simp only [List.nodup_cons, List.mem_cons, List.not_mem_nil, or_false, not_or, not_false_eq_true, and_true] at h
  obtain ⟨_, ⟨h1, h2, h3, h4⟩, ⟨h5, h6, h7⟩, ⟨h8, h9⟩, h10, _⟩ := h
  exact ⟨h1, h2, h3, h4, h5, h6, h7, h8, h9, h10⟩
theorem upd_tup {H : Hp} {a t : Addr} {xs ys : List V} {o : HO} (h : H a = some (.lst xs)) (ht : H t = some (.tup ys)) : (upd H a o) t = some (.tup ys) := by
  rw [upd_ne (fun e => by rw [e, h] at ht; cases ht)]
  exact ht
theorem Five.setSt {H : Hp} {a b c d e : Addr} {D : DD} (F : Five H a b c d e D) (n : Dis a b c d e) (st : List Str) : Five (upd H a (.lst (st.map V.str))) a b c d e { D with st := st } := by
  obtain ⟨xi, i1, i2⟩ := F.ins
  obtain ⟨xr, r1, r2⟩ := F.ru
  exact ⟨upd_same, ⟨xi, by rw [upd_ne (Ne.symm n.ab)]; exact i1, i2.mono fun t ys h => upd_tup F.st h⟩, by rw [upd_ne (Ne.symm n.ac)]; exact F.ld, ⟨xr, by rw [upd_ne (Ne.symm n.ad)]; exact r1, r2.mono fun t ys h => upd_tup F.st h⟩, by rw [upd_ne (Ne.symm n.ae)]; exact F.ou⟩
theorem Five.setOu {H : Hp} {a b c d e : Addr} {D : DD} (F : Five H a b c d e D) (n : Dis a b c d e) (ou : List Int) : Five (upd H e (.lst (ou.map V.int))) a b c d e { D with ou := ou } := by
  obtain ⟨xi, i1, i2⟩ := F.ins
  obtain ⟨xr, r1, r2⟩ := F.ru
  exact ⟨by rw [upd_ne n.ae]; exact F.st, ⟨xi, by rw [upd_ne n.be]; exact i1, i2.mono fun t ys h => upd_tup F.ou h⟩, by rw [upd_ne n.ce]; exact F.ld, ⟨xr, by rw [upd_ne n.de]; exact r1, r2.mono fun t ys h => upd_tup F.ou h⟩, upd_same⟩
theorem Five.setLd {H : Hp} {a b c d e : Addr} {D : DD} (F : Five H a b c d e D) (n : Dis a b c d e) (ld : List Str) : Five (upd H c (.lst (ld.map V.str))) a b c d e { D with ld := ld } := by
  obtain ⟨xi, i1, i2⟩ := F.ins
  obtain ⟨xr, r1, r2⟩ := F.ru
  exact ⟨by rw [upd_ne n.ac]; exact F.st, ⟨xi, by rw [upd_ne n.bc]; exact i1, i2.mono fun t ys h => upd_tup F.ld h⟩, upd_same, ⟨xr, by rw [upd_ne (Ne.symm n.cd)]; exact r1, r2.mono fun t ys h => upd_tup F.ld h⟩, by rw [upd_ne (Ne.symm n.ce)]; exact F.ou⟩
theorem Five.setIns {H : Hp} {a b c d e : Addr} {D : DD} (F : Five H a b c d e D) (n : Dis a b c d e) {xs : List V} {ins : List (Str × Str)} (t : Tups enc2 H xs ins) : Five (upd H b (.lst xs)) a b c d e { D with ins := ins } := by
  obtain ⟨xi, i1, i2⟩ := F.ins
  obtain ⟨xr, r1, r2⟩ := F.ru
  exact ⟨by rw [upd_ne n.ab]; exact F.st, ⟨xs, upd_same, t.mono fun t ys h => upd_tup i1 h⟩, by rw [upd_ne (Ne.symm n.bc)]; exact F.ld, ⟨xr, by rw [upd_ne (Ne.symm n.bd)]; exact r1, r2.mono fun t ys h => upd_tup i1 h⟩, by rw [upd_ne (Ne.symm n.be)]; exact F.ou⟩
theorem Five.er {H : Hp} {p a b c d e : Addr} {D : DD} (F : Five H a b c d e D) {n : Int} (P : PoolAt H p n) (h : p ≠ a ∧ p ≠ b ∧ p ≠ c ∧ p ≠ d ∧ p ≠ e) : Five (Er p H) a b c d e D := by
  obtain ⟨xi, i1, i2⟩ := F.ins
  obtain ⟨xr, r1, r2⟩ := F.ru
  have g : ∀ {x : Addr} {o : HO}, p ≠ x → H x = some o → Er p H x = some o := fun hx e => (if_neg (Ne.symm hx)).trans e
  exact ⟨g h.1 F.st, ⟨xi, g h.2.1 i1, P.tups i2⟩, g h.2.2.1 F.ld, ⟨xr, g h.2.2.2.1 r1, P.tups r2⟩, g h.2.2.2.2 F.ou⟩
/-! the thirteen ways -/
theorem dup_no {l r : List Str} {s : Str} {ins : List (Str × Str)} {ld : List Str} {ru : List S4} {ou : List Int} (h : s ∈ l ++ r) : ¬ Valid ⟨l ++ [s] ++ r, ins, ld, ru, ou⟩ := fun v => by
  have n := v.snd
  have n2 : (s :: (l ++ r)).Nodup := by
    refine (List.perm_middle (a := s) (l₁ := l) (l₂ := r)).nodup_iff.mp ?_
    have e : l ++ [s] ++ r = l ++ s :: r := by simp
    rw [← e]
    exact n
  exact (List.nodup_cons.mp n2).1 h
theorem zz_all : ((List.range 6).all fun i => (List.range 3).all fun j => decide (nmB.getD i Str.empty ++ nmS.getD j Str.empty ≠ ("zz9" : Str))) = true := by decide +kernel
theorem Small.zz {D : DD} (s : Small D) : ("zz9" : Str) ∉ D.st := fun m => by
  obtain ⟨i, hi⟩ := List.mem_iff_getElem?.mp m
  have il := (List.getElem?_eq_some_iff.mp hi).1
  have s6 := s.st6
  obtain ⟨j, hj, e⟩ := s.gn i _ hi
  have h := List.all_eq_true.mp (List.all_eq_true.mp zz_all i (List.mem_range.mpr (by omega))) j (List.mem_range.mpr hj)
  exact (of_decide_eq_true h) e.symm
theorem Short.st' {D : DD} (z : Short D) {st : List Str} (h : ∀ s ∈ st, s.length ≤ 1000000) : Short { D with st := st } := ⟨h, z.ou, z.ins, z.ld, z.ru, z.nru⟩
theorem Short.ou' {D : DD} (z : Short D) {ou : List Int} (h : ∀ o ∈ ou, o.natAbs.log2 < 1920) : Short { D with ou := ou } := ⟨z.st, h, z.ins, z.ld, z.ru, z.nru⟩
theorem Short.ins' {D : DD} (z : Short D) {ins : List (Str × Str)} (h : ∀ p ∈ ins, p.1.length ≤ 1000000 ∧ p.2.length ≤ 1000000) : Short { D with ins := ins } := ⟨z.st, z.ou, h, z.ld, z.ru, z.nru⟩
theorem Short.ld' {D : DD} (z : Short D) {ld : List Str} (h : ∀ s ∈ ld, s.length ≤ 1000000) : Short { D with ld := ld } := ⟨z.st, z.ou, z.ins, h, z.ru, z.nru⟩
theorem Short.ru' {D : DD} (z : Short D) {ru : List S4} (h : ∀ r ∈ ru, ∀ x ∈ r4 r, x.length ≤ 1000000) (n : ru.length ≤ 1000000) : Short { D with ru := ru } := ⟨z.st, z.ou, z.ins, z.ld, h, n⟩
theorem ins_map {α : Type} (f : α → V) (l : List α) (k : Nat) (x : α) : List.take k (l.map f) ++ [f x] ++ List.drop k (l.map f) = (l.take k ++ [x] ++ l.drop k).map f := by
  rw [List.map_append, List.map_append, List.map_take, List.map_drop]
  rfl
theorem app_map {α : Type} (f : α → V) (l : List α) (x : α) : l.map f ++ [f x] = (l ++ [x]).map f := by
  rw [List.map_append]
  rfl
theorem mem_ins {α : Type} {l : List α} {k : Nat} {x y : α} (h : y ∈ l.take k ++ [x] ++ l.drop k) : y ∈ l ∨ y = x := by
  rcases List.mem_append.mp h with h | h
  · rcases List.mem_append.mp h with h | h
    · exact .inl (List.mem_of_mem_take h)
    · exact .inr (List.mem_singleton.mp h)
  · exact .inl (List.mem_of_mem_drop h)
theorem in_ins {α : Type} {l : List α} {k : Nat} {x : α} : x ∈ l.take k ++ [x] ++ l.drop k := by simp
theorem l2 {o : Int} (h : o.natAbs < 2 ^ 100) : o.natAbs.log2 < 1920 := by
  by_cases hz : o.natAbs = 0
  · rw [hz]; decide
  · exact Nat.lt_of_lt_of_le ((Nat.log2_lt hz).mpr h) (by decide)
theorem at_last {st : List Str} (h : 1 ≤ st.length) : ∃ s, s ∈ st ∧ atI (st.map V.str) (-1) = some (V.str s) := by
  have ne : st ≠ [] := fun e => by rw [e] at h; simp at h
  refine ⟨st.getLast ne, List.getLast_mem ne, ?_⟩
  have e : st.map V.str = st.dropLast.map V.str ++ [V.str (st.getLast ne)] := by rw [app_map, List.dropLast_concat_getLast]
  rw [e]
  exact atI_last _ _
theorem four_len {a b c d : Str} (ha : a.length ≤ 1000000) (hb : b.length ≤ 1000000) (hc : c.length ≤ 1000000) (hd : d.length ≤ 1000000) : ∀ x ∈ r4 (a, b, c, d), x.length ≤ 1000000 := by
  intro x hx
  simp only [r4, List.mem_cons, List.not_mem_nil, or_false] at hx
  rcases hx with rfl | rfl | rfl | rfl <;> assumption
theorem set_zz {s : Str} (h : s.length ≤ 1000000) {r : Int} (h0 : 0 ≤ r) (h1 : r < 4) : ∃ R : S4, ([.str s, .str s, .str s, .str s] : List V).set r.toNat (.str "zz9") = enc4 R ∧ ("zz9" : Str) ∈ r4 R ∧ ∀ x ∈ r4 R, x.length ≤ 1000000 := by
  have z : (Str.ofString "zz9").length ≤ 1000000 := by decide
  obtain rfl | rfl | rfl | rfl : r = 0 ∨ r = 1 ∨ r = 2 ∨ r = 3 := by omega
  · exact ⟨("zz9", s, s, s), rfl, by simp [r4], four_len z h h h⟩
  · exact ⟨(s, "zz9", s, s), rfl, by simp [r4], four_len h z h h⟩
  · exact ⟨(s, s, "zz9", s), rfl, by simp [r4], four_len h h z h⟩
  · exact ⟨(s, s, s, "zz9"), rfl, by simp [r4], four_len h h h z⟩
theorem u_len : (Str.ofString "u").length ≤ 1000000 := by decide
theorem Five.oth {H : Hp} {a b c d e u : Addr} {D : DD} {ys : List V} {o : HO} (F : Five H a b c d e D) (hu : H u = some (.lst ys)) (ha : a ≠ u) (hb : b ≠ u) (hc : c ≠ u) (hd : d ≠ u) (he : e ≠ u) : Five (upd H u o) a b c d e D := by
  obtain ⟨xi, i1, i2⟩ := F.ins
  obtain ⟨xr, r1, r2⟩ := F.ru
  exact ⟨by rw [upd_ne ha]; exact F.st, ⟨xi, by rw [upd_ne hb]; exact i1, i2.mono fun t ys h => upd_tup hu h⟩, by rw [upd_ne hc]; exact F.ld, ⟨xr, by rw [upd_ne hd]; exact r1, r2.mono fun t ys h => upd_tup hu h⟩, by rw [upd_ne he]; exact F.ou⟩
theorem PartsAt.five {H : Hp} {p : Addr} {D : DD} (P : PartsAt H p D) : ∃ a b c d e : Addr, H p = some (.tup [.ref a, .ref b, .ref c, .ref d, .ref e]) ∧ Five H a b c d e D := by
  obtain ⟨ls, li, ll, lr, lo, xi, xr, hp, h1, h2, t2, h3, h4, t4, h5⟩ := P
  exact ⟨ls, li, ll, lr, lo, hp, h1, ⟨xi, h2, t2⟩, h3, ⟨xr, h4, t4⟩, h5⟩
theorem BookAt.chgL {C q x : Addr} {H : Hp} {a : RA} {D : DD} {xs : List V} {o : HO} (B : BookAt C H q a D) (h : H x = some (.lst xs)) : BookAt C (upd H x o) q a D := by
  have g : ∀ {y : Addr} {o' : HO}, H y = some o' → (∀ ys, o' ≠ .lst ys) → (upd H x o) y = some o' := fun e n => by
    rw [upd_ne (fun z => by rw [z, h] at e; exact n _ (Option.some.inj e).symm)]
    exact e
  obtain ⟨dx, h0⟩ := B.ob
  obtain ⟨x2, h2, T2⟩ := B.ins
  obtain ⟨x4, h4, T4⟩ := B.ru
  obtain ⟨kvs, hk, R⟩ := B.dr
  obtain ⟨xs', rows, r1, r2, r3, r4⟩ := B.rw
  have gt : ∀ t ys, H t = some (.tup ys) → (upd H x o) t = some (.tup ys) := fun t ys e => g e (fun _ z => by cases z)
  exact ⟨⟨dx, g h0 (fun _ z => by cases z)⟩, gt _ _ B.st, ⟨x2, gt _ _ h2, T2.mono gt⟩, gt _ _ B.ld, ⟨x4, gt _ _ h4, T4.mono gt⟩, gt _ _ B.ou, g B.dn (fun _ z => by cases z), ⟨kvs, g hk (fun _ z => by cases z), R.same gt⟩, ⟨xs', rows, gt _ _ r1, r2, fun i y hy => by obtain ⟨t, e, f⟩ := r3 i y hy; exact ⟨t, e, gt _ _ f⟩, r4⟩⟩
theorem sameDD_self (D : DD) : sameDD D D = true := by
  unfold sameDD
  simp only [decide_true, Bool.and_self]
theorem sameDD_eq {D E : DD} : sameDD D E = true ↔ D = E := by
  unfold sameDD
  simp only [Bool.and_eq_true, decide_eq_true_eq]
  constructor
  · rintro ⟨h1, h2, h3, h4, h5⟩
    cases D
    cases E
    simp only at h1 h2 h3 h4 h5
    subst h1 h2 h3 h4 h5
    rfl
  · rintro rfl
    exact ⟨rfl, rfl, rfl, rfl, rfl⟩
theorem sameDD_comm (D E : DD) : sameDD D E = sameDD E D := Bool.eq_iff_iff.mpr (sameDD_eq.trans (eq_comm.trans sameDD_eq.symm))
open PySem.W in
def dParts (D : DD) : PyData := .list [Datum.toD D.st, Datum.toD D.ins, Datum.toD D.ld, Datum.toD (D.ru.map t4), Datum.toD D.ou]
open PySem.W in
theorem eqv_parts (D E : DD) : PyData.eqv (dParts D) (dParts E) = sameDD D E := by
  unfold dParts sameDD
  simp only [PyData.eqv, PyData.eqvAll, Datum.eqv, Bool.and_true]
  rw [show decide (D.ru.map t4 = E.ru.map t4) = decide (D.ru = E.ru) from decide_eq_decide.mpr ⟨t4_inj, fun e => by rw [e]⟩]
open PySem.W in
theorem pl_parts (D : DD) : (dParts D).plain = true ∧ (dParts D).depth ≤ 64 := by
  unfold dParts
  constructor
  · simp only [PyData.plain, PyData.plainAll, Datum.plain, Bool.and_self]
  · simp only [PyData.depth, PyData.depthAll]
    have h1 := Datum.depth_le D.st
    have h2 := Datum.depth_le D.ins
    have h3 := Datum.depth_le D.ld
    have h4 := Datum.depth_le (D.ru.map t4)
    have h5 := Datum.depth_le D.ou
    have e1 : Datum.depth (List Str) = 1 := rfl
    have e2 : Datum.depth (List (Str × Str)) = 2 := rfl
    have e4 : Datum.depth (List (T4 Str Str Str Str)) = 2 := rfl
    have e5 : Datum.depth (List Int) = 1 := rfl
    omega
theorem dp_five {K : PySem.W.Frag} {H : Hp} {C a b c d e : Addr} {D : DD} (h : H C = some (.lst [.ref a, .ref b, .ref c, .ref d, .ref e])) (F : Five H a b c d e D) : Dp K H (.ref C) (dParts D) := by
  obtain ⟨xi, i1, i2⟩ := F.ins
  obtain ⟨xr, r1, r2⟩ := F.ru
  refine .lst (SqL.of h) (.cons (.lst (SqL.of F.st) (dpAll_strs _)) (.cons (.lst (SqL.of i1) (dpAll_ins i2)) (.cons (.lst (SqL.of F.ld) (dpAll_strs _)) (.cons (.lst (SqL.of r1) ?_) (.cons (.lst (SqL.of F.ou) (dpAll_ints _)) .nil)))))
  have := dpAll_rus (K := K) r2
  rw [List.map_map]
  exact this
theorem ValidN.setOu {D : DD} (v : ValidN D) {j : Nat} {y : Int} (h : 0 ≤ y ∧ y ≤ 9) : ValidN { D with ou := D.ou.set j y } where
  len := by show (D.ou.set j y).length = D.st.length; rw [List.length_set]; exact v.len
  n400 := v.n400
  nm := v.nm
  nd := v.nd
  ou := fun o ho => (List.mem_or_eq_of_mem_set ho).elim (v.ou o) fun e => by rw [e]; exact h
  n8 := v.n8
  inm := v.inm
  ind := v.ind
  n10 := v.n10
  ldm := v.ldm
  rum := v.rum
  rnd := v.rnd
theorem sameDD_ou (D : DD) (ou : List Int) : sameDD D { D with ou := ou } = decide (ou = D.ou) := by
  unfold sameDD
  simp only [decide_true, Bool.true_and]
  exact decide_eq_decide.mpr eq_comm
theorem er_none {p a : Addr} {H : Hp} (h : H a = none) : Er p H a = none := by
  unfold Er
  split
  · rfl
  · exact h
theorem er_sub {p : Addr} {H : Hp} : Same (Er p H) H := fun _ _ h => (er_some h).2
def tails : List Str := ["", "", "_", "x", "Z", " "]
theorem tails_all : (tails.all fun s => decide (s.length ≤ 1)) = true := by decide +kernel
theorem tail_at {r : Int} (h0 : 0 ≤ r) (h1 : r < 6) : ∃ s : Str, atI (tails.map V.str) r = some (.str s) ∧ s.length ≤ 1 := by
  have hl : r.toNat < tails.length := by show r.toNat < 6; omega
  exact ⟨tails.getD r.toNat Str.empty, map_at (f := V.str) (l := tails) h0 (by show r < 6; exact h1), of_decide_eq_true (List.all_eq_true.mp tails_all _ (getD_mem (d := Str.empty) hl))⟩
def chS (c : Nat) : Str := ⟨#[c]⟩
theorem in_both (c : Nat) : decide (c ∈ (LETTERS ++ DIGITS).cps.toList) = (lowC c || digC c) := by
  rw [← in_letters, ← in_digits, ← Bool.decide_or]
  refine decide_eq_decide.mpr ?_
  have e : (LETTERS ++ DIGITS).cps.toList = LETTERS.cps.toList ++ DIGITS.cps.toList := by decide +kernel
  rw [e, List.mem_append]
/-- the signs that no name has -/
def oddS (W : Str) (i : Nat) : List Nat := (W.cps.toList.take i).filter fun c => !(lowC c || digC c)
theorem oddS_succ {W : Str} {i c : Nat} (h : W.cps.toList[i]? = some c) : oddS W (i + 1) = oddS W i ++ if (!(lowC c || digC c)) = true then [c] else [] := by
  unfold oddS
  rw [take_snoc h, List.filter_append]
  congr 1
  simp only [List.filter_cons, List.filter_nil]
theorem oddS_len (W : Str) (i : Nat) : (oddS W i).length ≤ i := Nat.le_trans (List.length_filter_le _ _) (by rw [List.length_take]; omega)
theorem oddS_nil {W : Str} {c : Nat} {r : List Nat} (hc : W.cps.toList = c :: r) (h1 : (1 : Int) ≤ (W.length : Int)) (h2 : (W.length : Int) ≤ 12) (hl : lowC c = true) (n : Nat) (hn : W.cps.toList.length ≤ n) : decide ((oddS W n).map chS = []) = isName W := by
  have hlen : W.length = W.cps.toList.length := by show W.cps.size = _; simp
  unfold oddS isName isNameL
  rw [List.take_of_length_le hn, hc]
  rw [hlen, hc] at h1 h2
  rw [decide_eq_true (show 1 ≤ (c :: r).length by simp), decide_eq_true (show (c :: r).length ≤ 12 by omega)]
  simp only [List.head?_cons, Option.any_some, hl, Bool.true_and]
  rw [Bool.eq_iff_iff, decide_eq_true_iff, List.map_eq_nil_iff, List.filter_eq_nil_iff, List.all_eq_true]
  constructor
  · intro h x hx
    have := h x hx
    cases e : (lowC x || digC x) with
    | true => rfl
    | false =>
      rw [e] at this
      exact absurd rfl this
  · intro h x hx
    rw [h x hx]
    decide
end Vf

/-! ### enumerate(list, start=k) -/
namespace Vf
open PySem PySem.Spec PyProof.Rows L2
def IteS (K : PySem.W.Frag) (a : Addr) (c : Int) : It where
  go := fun i H => ∃ (xs : List V) (x : V), SqL K H a xs ∧ xs[i]? = some x
  yld := fun i H v H' => ∃ (T : Addr) (x : V), (v = .ref T ∧ H T = none ∧ H' = upd H T (.tup [.int (c + i), x])) ∧ ∀ xs, SqL K H a xs → xs[i]? = some x
  stop := fun i H => ∃ xs : List V, SqL K H a xs ∧ xs.length = i
theorem isl {h : Heap} {a : Addr} {its : Array Value} (p : PlainL h a its) : h.IsList a its := by
  obtain ⟨o, m, e, c, d, z⟩ := p
  exact ⟨o, e, c, m, z⟩
theorem turn_enumS {P : Program} {w : World} {K : PySem.W.Frag} {elts : List Expr} {kk : Nat} {tpos : Pos} (c : Int) (a e it : Addr) (hai : a ≠ it) (hae : a ≠ e) :
    Turn P w K (.Tuple elts kk tpos) (IteS K a c) [e, it] e (fun i h => (∃ old, IsEnum h e it (c + (i : Int)) old) ∧ h.IsListIter it a i ∧ e ≠ it) where
  mem := List.mem_cons_self ..
  obj := by
    rintro i h ⟨⟨old, he⟩, ⟨o, ho, _, hd⟩, _⟩ b hb
    rcases (show b = e ∨ b = it by simpa using hb) with rfl | rfl
    · exact ⟨_, he, nofun⟩
    · refine ⟨o, ho, fun v z => ?_⟩
      rw [hd] at z
      cases z
  keep := by
    rintro i h h' ⟨⟨old, he⟩, hi, ne⟩ k
    exact ⟨⟨old, k e (by simp) _ he⟩, hi.at fun o z => k it (by simp) o z, ne⟩
  item := by
    rintro X rfl rfl rfl hc i pins s σ H E I hf ⟨⟨old, he⟩, hit, ne⟩ ⟨xs, x, hq, hx⟩
    obtain ⟨its, rv, pn, _⟩ := I.list hq
    have p := isl pn
    obtain ⟨u, hu, ru⟩ := rv.get hx
    have hel : e < s.heap.objs.size := Heap.lt_size he
    have hil : it < s.heap.objs.size := by
      obtain ⟨_, z, _⟩ := hit
      exact Heap.lt_size z
    have nh : X.A.in1.handled = none := I.ok.hd hc
    have lx := (List.getElem?_eq_some_iff.mp hu).1
    refine wpAny_pyNext_enum_itemC (c := c + (i : Int)) (Draws.list nh it a hai its.toArray) he ⟨hit, p⟩ (by simpa using lx) ne (by simp [ne, Ne.symm hae]) fun x1 h' tk e1 ho hst' hT hsz hk => ?_
    have ux : u = x1 := by
      simp only [List.getElem?_toArray] at e1
      rw [hu] at e1
      exact Option.some.inj e1
    subst ux
    obtain ⟨hit', _⟩ := hst'
    refine ⟨_, rfl, wpAny_letOwnedTupleGo_enum (s := { s with heap := h', toks := tk + 1 }) ho fun h2 he' sb => ?_⟩
    have hT2 : h2.get? s.heap.objs.size = some { cls := .type "tuple", data := .seq #[.int (c + (i : Int)) tk, u] } := (sb.2 _ (Nat.ne_of_gt hel)).trans hT
    have new : ObjOk X.prog X.w (upd H s.heap.objs.size (.tup [.int (c + (i : Int)), x])) h2 s.heap.objs.size (.tup [.int (c + (i : Int)), x]) :=
      ⟨(by decide : 2 ≤ sizeLine), [.int (c + (i : Int)) tk, u], .cons ⟨_, rfl⟩ (.cons ru .nil), ⟨_, hT2, rfl, _, rfl⟩⟩
    have J : Inv X pins σ (upd H s.heap.objs.size (.tup [.int (c + (i : Int)), x])) { s with heap := h2, toks := tk + 1 } :=
      I.turnedNew (ch := [e, it]) (fun b ob hb z => (sb.2 b (fun y => hb (by simp [y]))).trans (hk b ob (fun y => hb (by simp [y])) (fun y => hb (by simp [y])) z)) hf (Nat.le_refl _) new
    refine ⟨.ref s.heap.objs.size, _, J, rfl, ⟨_, x, ⟨rfl, I.hok.fresh (Nat.le_refl _), rfl⟩, fun ys hy => by rw [I.list_inj hy hq]; exact hx⟩, ⟨⟨u, ?_⟩, hit'.at fun o z => (sb.2 it (Ne.symm ne)).trans z, ne⟩, fun b hb => ?_⟩
    · have e2 : c + ((i + 1 : Nat) : Int) = c + (i : Int) + 1 := by omega
      rw [e2]
      exact he'
    · have lt : b < s.heap.objs.size := by
        rcases (show b = e ∨ b = it by simpa using hb) with rfl | rfl
        · exact hel
        · exact hil
      rw [upd_ne (Nat.ne_of_lt lt)]
      exact (hf b hb).1
  done := by
    rintro X rfl rfl rfl hc i pins s σ H E I hf ⟨⟨old, he⟩, hit, ne⟩ ⟨xs, hq, hx⟩
    obtain ⟨its, rv, pn, _⟩ := I.list hq
    have p := isl pn
    obtain ⟨f0, f1, f2, f3, f4, f5⟩ := hf it (by simp)
    have hl := rv.length
    have nh : X.A.in1.handled = none := I.ok.hd hc
    exact wpAny_pyNext_enum_endD (Draws.list nh it a hai its.toArray) he ⟨by rw [List.size_toArray, ← hl, hx]; exact hit, p⟩ fun h' eb => ⟨rfl, I.turned (t' := s.toks) (fun b o hb z => eb b o hb z) f0 f1 f3 f4 f5⟩
  self := fun A i s Q E st h => by
    obtain ⟨⟨_, he⟩, _⟩ := st
    exact wpAny_pyIter_enum he h
/-- a call of a built-in class with keywords -/
theorem callWith_tyK {M : Model} {A : Around} {E : Value → Shared → Prop} {s : Shared} {env : Env} {pos : Pos} {T : String} {e : Expr} {rest : List Expr} {kws : List Keyword} {Q : Value → Shared → Prop}
    (h : wpAny M A (spliced (backTo pos (starEach (e :: rest) env))) (fun us s' => wpAny M A (evalAll ((backToKw pos (keywordEach kws env)).map (·.2)))
      (fun ws s'' => wpAny M A (call (.type T) us (((backToKw pos (keywordEach kws env)).filterMap (·.1)).zip ws)) Q E s'') E s') E s)
    (he : backTo pos (starEach (e :: rest) env) = (false, eval e env) :: backTo pos (starEach rest env))
    (hp : (backTo pos (starEach (e :: rest) env)).any (·.1) = false) (hall : (backToKw pos (keywordEach kws env)).all (·.1.isSome) = true) (hk : (backToKw pos (keywordEach kws env)).any (·.1.isNone) = false) :
    wpAny M A (callWith pos (.type T) [] (backTo pos (starEach (e :: rest) env)) (backToKw pos (keywordEach kws env))) Q E s := by
  have step : wpAny M A (evalArgs (.type T) true (backTo pos (starEach (e :: rest) env)) (backToKw pos (keywordEach kws env))) (fun a s' => wpAny M A (call (.type T) ([] ++ a.pos) a.kw) Q E s') E s := by
    rw [he] at h ⊢
    exact evalArgs_kwB hall h
  unfold callWith
  refine wpAny_bind (wpAny_holding (wpAny_mono step (fun a s' q => wpAny_bind (wpAny_standAt ?_)) fun _ _ z => z))
  simp only [hp, hk, Bool.or_false]
  exact wpAny_bind (wpAny_pure (wpAny_bind (wpAny_mono q (fun r s2 z => wpAny_bind (wpAny_holding (wpAny_point (wpAny_pure z)))) fun _ _ z => z)))
def iEnumS (K : PySem.W.Frag) (ta tk : TA) : TI := fun σ H R => ta σ H fun vs H1 => ∃ a, vs = [.ref a] ∧ tk σ H1 fun zs H2 => ∃ (xs : List V) (c : Int), zs = [.int c] ∧ SqL K H2 a xs ∧ -(2 ^ 63) ≤ c ∧ c < 2 ^ 63 ∧ R (IteS K a c) H2
theorem pi_enumS {X : Cx} {e : Expr} {ta tk : TA} {p pos tpos : Pos} {elts : List Expr} {kk : Nat} {kws : List Keyword} (hg : Gl X "enumerate") (hm : X.mg "enumerate" = none) (ha : PA X [e] ta) (hk : PK X kws tk)
    (he : backTo pos (starEach [e] X.env) = (false, eval e X.env) :: backTo pos (starEach [] X.env) := by rfl) (hp : (backTo pos (starEach [e] X.env)).any (·.1) = false := by rfl)
    (hall : (backToKw pos (keywordEach kws X.env)).all (·.1.isSome) = true := by rfl) (hno : (backToKw pos (keywordEach kws X.env)).any (·.1.isNone) = false := by rfl) (hks : (backToKw pos (keywordEach kws X.env)).filterMap (·.1) = [Str.ofString "start"] := by rfl) :
    PI X (.Tuple elts kk tpos) (.Call (.Name "enumerate" p) [e] kws pos) (iEnumS X.K ta tk) := by
  refine ⟨fun pins s σ H R I h => ?_⟩
  refine wpAny_Call_Name_kw (ld_blt I hg hm boot_enumerate ?_)
  refine callWith_tyK (thn (ha.run pos pins s σ H _ I h) fun us s1 ⟨vs, H1, I1, r1, q1⟩ => ?_) he hp hall hno
  obtain ⟨a, rfl, q1⟩ := q1
  refine thn (hk.run pos pins s1 σ H1 _ I1 q1) fun ws s2 ⟨zs, H2, I2, r2, q2⟩ => ?_
  obtain ⟨xs, c, rfl, hq, c0, c1, q⟩ := q2
  rw [hks]
  obtain rfl := Vals.ref1 r1
  obtain ⟨v, rfl, rv⟩ := vals1 r2
  obtain ⟨t, rfl⟩ := rv
  obtain ⟨its, rl, pn, _⟩ := I2.list hq
  have pl := isl pn
  obtain ⟨o1, w1, _⟩ := id pl
  have al : a < s2.heap.objs.size := Heap.lt_size w1
  refine enum_begins_start (begins_list a its.toArray) pl c0 c1 fun h' he hit hsz hk => wpAny_pyIter_enum he ?_
  have J : L2.Inv X pins σ H2 { s2 with heap := h' } := I2.kept (t' := s2.toks) hk
  have e0 : c + ((0 : Nat) : Int) = c := by omega
  refine ⟨s2.heap.objs.size + 1, [s2.heap.objs.size + 1, s2.heap.objs.size], _, _, H2, rfl, J, turn_enumS c a (s2.heap.objs.size + 1) s2.heap.objs.size (Nat.ne_of_lt al) (Nat.ne_of_lt (Nat.lt_succ_of_lt al)), ⟨⟨.none, by rw [e0]; exact he⟩, ⟨_, hit, rfl, rfl⟩, Nat.succ_ne_self _⟩, fun b hb => ?_, q⟩
  have le : s2.heap.objs.size ≤ b := by
    rcases (show b = s2.heap.objs.size + 1 ∨ b = s2.heap.objs.size by simpa using hb) with rfl | rfl
    · exact Nat.le_add_right _ _
    · exact Nat.le_refl _
  exact I2.fpOk le (I2.hok.fresh le)
section
variable {K : PySem.W.Frag} {a : Addr} {xs : List V} {c : Int}
theorem walk_enumS : Walk (IteS K a c) xs.length (fun H => SqL K H a xs) (YPair (fun i => some (.int (c + (i : Int)))) (fun i => xs[i]?)) := by
  refine ⟨fun i _ hi q => ⟨xs, xs[i], q, by simp [hi]⟩, fun _ q => ⟨xs, q, rfl⟩, fun i H v H' _ q y => ?_⟩
  obtain ⟨T, x, ⟨h1, h2, h3⟩, h4⟩ := y
  exact ⟨T, .int (c + (i : Int)), x, h1, h2, h3, rfl, h4 xs q⟩
end
/-- a tuple of texts of the module itself -/
def TupK (K : PySem.W.Frag) (a : Addr) (l : List Str) : Prop := ∃ (o : Obj) (its : Array Value) (n : Nat), K.lookup a = some o ∧ o.cls = .type "tuple" ∧ o.dict = none ∧ o.data = .seq its n ∧ its.size ≤ sizeLine ∧ Vals (l.map V.str) its.toList
theorem TupK.seq {K : PySem.W.Frag} {a : Addr} {l : List Str} (h : TupK K a l) (H : Hp) : SqT K H a (l.map V.str) := by
  obtain ⟨o, its, n, h1, h2, _, h3⟩ := h
  exact .inr ⟨o, its, n, h1, h2, h3⟩
theorem TupK.ty {K : PySem.W.Frag} {a : Addr} {l : List Str} (h : TupK K a l) (H : Hp) : tyV K "tuple" (.ref a) H := by
  obtain ⟨o, _, _, h1, h2, h3, _⟩ := h
  exact .inr (.inl ⟨rfl, o, h1, h2, h3⟩)
end Vf

namespace Vf
open PySem PySem.Spec PyProof.Rows L2 PySem.Froz
/-! ### sets of texts: {x for ..}, set(xs), sorted of them -/
/-- what a set's payload is known to be: its members l, once each; its table rises and can be walked -/
structure TxIn (P : Program) (w : World) (D : SD) (l : List Str) : Prop where
  ok : TxOk P w D l
  ris : Ris D.2.2.place.toList
  led : w.params.followText "set-order" = true ∨ D.2.2.led = true
  nd : l.Nodup
def SetT (P : Program) (w : World) (a : Addr) (l : List Str) : HO := .ext fun h => ∃ D : SD, h.get? a = some (sObj "set" D) ∧ TxIn P w D l
section
variable {P : Program} {w : World} {A : Around} {E : Value → Shared → Prop} {s : Shared}
theorem setT_ok {H : Hp} {h : Heap} {a : Addr} {l : List Str} {D : SD} (ho : h.get? a = some (sObj "set" D)) (t : TxIn P w D l) : ObjOk P w H h a (SetT P w a l) :=
  ⟨⟨D, ho, t⟩, ⟨_, ho⟩, fun _ _ ⟨D, e, t⟩ k => ⟨D, k _ e, t⟩⟩
theorem tail_more {ep : Nat} {es1 : Array (Int × Value)} {t2 : SetTable} {b : Bool} (r : Ris t2.place.toList) (hl : w.params.followText "set-order" = true ∨ t2.led = true) :
    Ris (tailTx ep es1 t2 b).2.2.place.toList ∧ (w.params.followText "set-order" = true ∨ (tailTx ep es1 t2 b).2.2.led = true) := by
  unfold tailTx
  split
  · exact ⟨relayAll_ris t2 es1 _, hl.imp id fun z => by show (relayAll t2 es1 _).2.1.led = true; rw [relayAll_led]; exact z⟩
  · exact ⟨r, hl⟩
theorem add_more {D : SD} {h : Int} {v : Value} (r : Ris D.2.2.place.toList) (hl : w.params.followText "set-order" = true ∨ D.2.2.led = true) :
    Ris (addTx h v D).2.2.place.toList ∧ (w.params.followText "set-order" = true ∨ (addTx h v D).2.2.led = true) := by
  unfold addTx
  have r1 := layNew_ris D.2.2 D.1 h v r
  have l1 := layNew_led D.2.2 D.1 h v
  refine tail_more ?_ ?_
  · split
    · exact r1
    · exact r1
  · refine hl.imp id fun z => ?_
    split
    · exact l1.trans z
    · exact l1.trans z
theorem TxIn.add {D : SD} {l : List Str} {k : Str} (u : Tok) (t : TxIn P w D l) (hk : k ∉ l) : TxIn P w (addTx (hashStr w k) (.str k u) D) (k :: l) :=
  ⟨add_ok u t.ok, (add_more t.ris t.led).1, (add_more t.ris t.led).2, List.nodup_cons.mpr ⟨hk, t.nd⟩⟩
/-- a text that is in the set already -/
theorem add_has {a : Addr} {D : SD} {l : List Str} {k : Str} {u : Tok} {Q : Bool → Shared → Prop} (ho : s.heap.get? a = some (sObj "set" D)) (F : TxOk P w D l) (hk : k ∈ l) (hb : l.length < scanBound)
    (h : Q false s) : wpAny (model P w) A (setAddHashed a (.str k u) (hashStr w k)) Q E s := by
  obtain ⟨es, ep, t⟩ := D
  have hb0 : es.size < scanBound := by rw [show es.size = l.length from F.sz]; exact hb
  have hel : ElemsOf (strKind P w) es.toList := F.el
  unfold setAddHashed setAddHashedIn
  refine wpAny_holding (wpAny_bind (wpAny_setState_of (o := sObj "set" (es, ep, t)) ho rfl F.fit ?_))
  dsimp only
  rw [byScan_of rfl hb0 hel]
  simp only [↓reduceIte]
  unfold setAddByScan
  refine wpAny_bind ?_
  refine wpAny_bind (wpAny_rule ?_)
  refine wpAny_bind (wpAny_setScan_of (knd := strKind P w) (k := k) (is_str k u) ho rfl F.fit hel ?_)
  cases hfi : List.findIdx? (fun e => (strKind P w).is k e.2) es.toList with
  | some j => exact wpAny_pure (wpAny_pure h)
  | none =>
    obtain ⟨e, he, q⟩ := (F.mem k).mp hk
    have c := List.findIdx?_eq_none_iff.mp hfi e he
    rw [q] at c
    cases c
/-- found.add(k) -/
theorem setT_add {a : Addr} {D : SD} {l : List Str} {k : Str} {u : Tok} {Q : Value → Shared → Prop} (ho : s.heap.get? a = some (sObj "set" D)) (t : TxIn P w D l) (room : l.length + 1 < scanBound)
    (hQ : ∀ (h' : Heap) (D' : SD), Heap.SameBut a s.heap h' → h'.get? a = some (sObj "set" D') → TxIn P w D' (if k ∈ l then l else k :: l) → Q .none { s with heap := h', toks := s.toks + 1 }) :
    wpAny (model P w) A (call (.builtin "set.add") [.ref a, .str k u]) Q E s := by
  refine wpAny_call_entry F.slot_set_add ⟨_, ho, rfl⟩ F.entry_set_add ?_ (F.args_set_add_2 _ _)
  unfold Builtin.«set.add» Builtin.Frozenset.oneOther
  simp only [List.isEmpty_nil, bind_assoc]
  unfold Builtin.Frozenset.addrOf PySem.setAdd
  refine wpAny_bind (wpAny_pure ?_)
  try dsimp only
  refine wpAny_bind (wpAny_pure ?_)
  try dsimp only
  refine wpAny_bind ?_
  refine wpAny_holding ?_
  refine wpAny_bind ((strKind P w).pyHash (is_str k u) ?_)
  by_cases c : k ∈ l
  · refine add_has (s := { s with toks := s.toks + 1 }) ho t.ok c (by omega) ?_
    show wpAny _ _ (ret Value.none) _ _ _
    refine wpAny_pure ⟨_, rfl, hQ s.heap D (Heap.SameBut.refl a s.heap) ho ?_⟩
    rw [if_pos c]
    exact t
  · refine add_x (s := { s with toks := s.toks + 1 }) ho t.ok c room ?_
    show wpAny _ _ (ret Value.none) _ _ _
    refine wpAny_pure ⟨_, rfl, hQ _ (addTx (hashStr w k) (.str k u) D) (Heap.SameBut.update s.heap a _) (get_upd _ ho rfl) ?_⟩
    rw [if_neg c]
    exact t.add u c
end
def growT (l : List Str) (y : V) (l' : List Str) : Prop := ∃ k : Str, y = .str k ∧ l.length + 1 < scanBound ∧ l' = if k ∈ l then l else k :: l
theorem setLikeT (P : Program) (w : World) : SetLike P w (SetT P w) [] growT where
  fresh H h := setT_ok (D := (#[], 0, .fresh 0 0 (!w.params.followText "set-order"))) (Heap.get?_push_size _ rfl) ⟨TxOk.nil (by rfl), List.Pairwise.nil, by
    show _ ∨ (!w.params.followText "set-order") = true
    cases w.params.followText "set-order"
    · exact .inr rfl
    · exact .inl rfl, List.nodup_nil⟩
  put := by
    rintro X rfl rfl pins σ H s E D t t' y u Q I r hD ⟨k, rfl, room, rfl⟩ h
    obtain ⟨tk, rfl⟩ := r
    obtain ⟨S, ho, ti⟩ := (I.hok D _ hD).1
    refine setT_add ho ti room fun h' S' sb new tn => ?_
    exact h _ (I.write (e := D) (t' := s.toks + 1) (by rw [hD]; trivial) (.inl rfl) (fun b u hb hu => (sb.2 b hb).trans hu) ⟨_, new⟩ (setT_ok new tn))
end Vf
namespace Vf
open PySem PySem.Spec PyProof.Rows L2 PySem.Froz
theorem perm_of_sub : ∀ {l m : List Str}, l.Nodup → (∀ x ∈ l, x ∈ m) → m.length ≤ l.length → m.Perm l
  | [], m, _, _, h => by
    have : m = [] := List.eq_nil_of_length_eq_zero (by simpa using h)
    rw [this]
  | a :: r, m, nd, sub, h => by
    obtain ⟨na, nr⟩ := List.nodup_cons.mp nd
    have ha := sub a (List.mem_cons_self ..)
    have pm := List.perm_cons_erase ha
    have hl := pm.length_eq
    rw [List.length_cons] at hl h
    refine pm.trans ((perm_of_sub nr (fun x hx => ?_) (by omega)).cons a)
    have hx2 := pm.mem_iff.mp (sub x (List.mem_cons_of_mem _ hx))
    rcases List.mem_cons.mp hx2 with e | e
    · exact absurd (e ▸ hx) na
    · exact e
def txOf : Value → Str
  | .str x _ => x
  | _ => Str.empty
/-- sorted(found) -/
def rSortT (P : Program) (w : World) : List V → Hp → VK → Prop := fun vs H Q => ∃ (a : Addr) (l : List Str), vs = [V.ref a] ∧ H a = some (SetT P w a l) ∧ l.length < scanBound ∧
  ∀ (ls : List Str) (p : Addr), H p = none → ls.Perm l → ls.Pairwise (fun x y => x.cps.toList ≤ y.cps.toList) → Q (.ref p) (upd H p (.lst (ls.map V.str)))
theorem vals_of_strs : ∀ {us : List Value} {ls : List Str}, PySem.W.EachIs (fun v x => RelV (V.str x) v) us ls → Vals (ls.map V.str) us
  | _, _, .nil => .nil
  | _, _, .cons h t => .cons h (vals_of_strs t)
theorem eachIs_map {β : Type} {R : Value → β → Prop} {f : Value → β} : ∀ (us : List Value), (∀ u ∈ us, R u (f u)) → PySem.W.EachIs R us (us.map f)
  | [], _ => .nil
  | u :: us, h => .cons (h u (List.mem_cons_self ..)) (eachIs_map us fun x hx => h x (List.mem_cons_of_mem _ hx))
theorem cr_sortT {X : Cx} (hc : X.calm = true) (hu : X.A.units + 64 < cLine) : CallR X (.builtin "sorted") (rSortT X.prog X.w) := by
  intro pins s σ H vs us Q I r h
  obtain ⟨a, l, rfl, ha, hb, q⟩ := h
  obtain ⟨⟨es, ep, t⟩, ho, ti⟩ := (I.hok a _ ha).1
  rw [Vals.ref1 r]
  have hh := I.ok.hd hc
  have hsz : es.size = l.length := ti.ok.sz
  refine Calls.call_function_entry kind_sorted plain_sorted entry_sorted (args_sorted1 _) ?_
  unfold Builtin.«sorted»
  refine wpAny_bind (m := checkCount "sorted" 1 1 _) (wpAny_pure ?_)
  refine wpAny_bind (collect_set (A := X.A.in1) hh ⟨_, ho, rfl, rfl⟩ ti.ok.fit (by rw [hsz]; exact hb) ti.ris ti.led fun s1 vs k1 hz g1 o1 pm => ?_)
  have isT : ∀ v ∈ vs, ∃ x tk, v = Value.str x tk := fun v hv => by
    obtain ⟨e, he, q⟩ := List.mem_map.mp (pm.mem_iff.mp hv)
    obtain ⟨⟨k, h1, _⟩, _⟩ := ti.ok.el e he
    obtain ⟨tk, h3⟩ := Value.isStrOf_shape h1
    exact ⟨k, tk, by rw [← q]; exact h3⟩
  have hvl : vs.length = l.length := by rw [pm.length_eq, List.length_map, Array.length_toList]; exact hsz
  have pl : (vs.map txOf).Perm l := by
    refine perm_of_sub ti.nd (fun k hk => ?_) (by rw [List.length_map]; omega)
    obtain ⟨e, he, h1⟩ := (ti.ok.mem k).mp hk
    obtain ⟨tk, h3⟩ := Value.isStrOf_shape h1
    refine List.mem_map.mpr ⟨e.2, pm.mem_iff.mpr (List.mem_map.mpr ⟨e, he, rfl⟩), ?_⟩
    rw [h3]
    rfl
  have lz : vs.length ≤ sizeLine := by rw [hvl]; exact Nat.le_trans (Nat.le_of_lt hb) (by decide)
  refine wpAny_bind (wpAny_newList ?_ lz)
  have hoL : (s1.heap.push (seqObj "list" vs.toArray 0)).get? s1.heap.objs.size = some (seqObj "list" vs.toArray 0) := Heap.get?_push_size _ rfl
  have e1 : PySem.W.EachIs (fun v x => RelV (V.str x) v) vs (vs.map txOf) := eachIs_map vs fun v hv => by
    obtain ⟨x, tk, rfl⟩ := isT v hv
    exact ⟨tk, rfl⟩
  have e2 : PySem.W.EachIs (fun v (b : Str) => ∃ as, Reads (s1.heap.push (seqObj "list" vs.toArray 0)) v (PyData.str b) as ∧ s1.heap.objs.size ∉ as) vs (vs.map txOf) := eachIs_map vs fun v hv => by
    obtain ⟨x, tk, rfl⟩ := isT v hv
    exact ⟨[], .str x tk, by simp⟩
  refine wpAny_bind (wpAny_holding (PySem.W.list_sort_data (s := { s1 with heap := s1.heap.push (seqObj "list" vs.toArray 0) }) (enc := PyData.str) hoL e1 e2 (PySem.W.AllAlike.of fun b b' => by simp [PySem.W.alike]) (PySem.W.Sortable.others fun b => ⟨(fun h => by cases h), (fun xs h => by cases h)⟩) (by rw [List.length_map]; exact lz) (fun b _ => ?_) fun out ol eo => ?_))
  · show X.A.units + 1 + 1 + (PyData.str b).depth < cLine
    have : (PyData.str b).depth = 0 := by simp only [PyData.depth]
    omega
  rw [PySem.W.dataLe_str (fun b : Str => b)] at eo
  generalize hls : (vs.map txOf).mergeSort (fun p q => decide (p.cps.toList ≤ q.cps.toList)) = ls at eo
  have pls : ls.Perm l := by
    rw [← hls]
    exact (List.mergeSort_perm ..).trans pl
  have pw : ls.Pairwise (fun x y => x.cps.toList ≤ y.cps.toList) := by
    rw [← hls]
    refine (List.pairwise_mergeSort (le := fun p q : Str => decide (p.cps.toList ≤ q.cps.toList)) (fun a b c h1 h2 => ?_) (fun a b => ?_) _).imp fun {a b} h => of_decide_eq_true h
    · exact decide_eq_true (List.le_trans (of_decide_eq_true h1) (of_decide_eq_true h2))
    · rw [Bool.or_eq_true]
      rcases List.le_total a.cps.toList b.cps.toList with h | h
      · exact .inl (decide_eq_true h)
      · exact .inr (decide_eq_true h)
  obtain ⟨c, hc2⟩ := sortedHeap_at (vs := vs) (out := out.toArray) hoL
  refine wpAny_pure ⟨_, rfl, ?_⟩
  have keep : ∀ b u, s.heap.get? b = some u → (sortedHeap (s1.heap.push (seqObj "list" vs.toArray 0)) s1.heap.objs.size vs out.toArray).get? b = some u := fun b u e => by
    have q := k1 b u e
    have hlt := Heap.lt_size q
    rw [sortedHeap_old (Nat.ne_of_lt hlt) (by rw [size_push']; exact Nat.lt_succ_of_lt hlt)]
    exact Heap.get?_push_of_some _ q
  have hn : H s1.heap.objs.size = none := I.hok.fresh hz
  have hlen : (ls.map V.str).length ≤ sizeLine := by rw [List.length_map, pls.length_eq]; omega
  have J : Inv X pins σ (upd H s1.heap.objs.size (.lst (ls.map V.str))) { s with heap := sortedHeap (s1.heap.push (seqObj "list" vs.toArray 0)) s1.heap.objs.size vs out.toArray, gens := s1.gens, drawn := s1.drawn, toks := s1.toks } :=
    I.call (ch := []) (Un.laid keep hz hn) (I.hok.laid keep hz ⟨hlen, out, c, vals_of_strs eo, hc2⟩) (by rw [g1]; exact I.bare) (fun _ z => nomatch z)
  refine ⟨.ref s1.heap.objs.size, _, ?_, rfl, q ls s1.heap.objs.size hn pls pw⟩
  have e : ({ s1 with heap := sortedHeap (s1.heap.push (seqObj "list" vs.toArray 0)) s1.heap.objs.size vs out.toArray } : Shared) = { s with heap := sortedHeap (s1.heap.push (seqObj "list" vs.toArray 0)) s1.heap.objs.size vs out.toArray, gens := s1.gens, drawn := s1.drawn, toks := s1.toks } := by
    cases s1
    cases s
    cases o1
    rfl
  exact e ▸ J
end Vf
namespace Vf
open PySem PySem.Spec PyProof.Rows L2 PySem.Froz
section
variable {P : Program} {w : World} {A : Around} {E : Value → Shared → Prop} {s : Shared}
theorem setT_hashed {a : Addr} {D : SD} {l : List Str} {k : Str} {u : Tok} {Q : Bool → Shared → Prop} (ho : s.heap.get? a = some (sObj "set" D)) (t : TxIn P w D l) (room : l.length + 1 < scanBound)
    (hQ : ∀ (b : Bool) (h' : Heap) (D' : SD), Heap.SameBut a s.heap h' → h'.get? a = some (sObj "set" D') → TxIn P w D' (if k ∈ l then l else k :: l) → Q b { s with heap := h' }) :
    wpAny (model P w) A (setAddHashed a (.str k u) (hashStr w k)) Q E s := by
  by_cases c : k ∈ l
  · refine add_has ho t.ok c (by omega) (hQ false s.heap D (Heap.SameBut.refl a s.heap) ho ?_)
    rw [if_pos c]
    exact t
  · refine add_x ho t.ok c room (hQ true _ (addTx (hashStr w k) (.str k u) D) (Heap.SameBut.update s.heap a _) (get_upd _ ho rfl) ?_)
    rw [if_neg c]
    exact t.add u c
/-- the members met so far -/
def SetTo (P : Program) (w : World) (h : Heap) (a : Addr) (xs : List Str) (i : Nat) : Prop := ∃ (D : SD) (l : List Str), h.get? a = some (sObj "set" D) ∧ TxIn P w D l ∧ l.length ≤ i ∧ ∀ x, x ∈ l ↔ x ∈ xs.take i
theorem SetTo.at {h h' : Heap} {a : Addr} {xs : List Str} {i : Nat} (t : SetTo P w h a xs i) (k : ∀ o, h.get? a = some o → h'.get? a = some o) : SetTo P w h' a xs i := by
  obtain ⟨D, l, e, r⟩ := t
  exact ⟨D, l, k _ e, r⟩
/-- one member more, and the walk of a set's update goes on -/
theorem loop_texts {I : Addr} {fp wr : List Addr} {G : Array GenState → Array GenState → Prop} {Pv : Nat → Value → Prop} {St : Nat → Shared → Prop} {R : Result → Shared → Prop} (S : Addr) (hSf : S ∉ fp) (xs : List Str)
    (W : WalksS P w A.in1 I fp wr G xs.length Pv St) (hb : xs.length + 1 < scanBound) (hval : ∀ i v, Pv i v → ∃ k t, xs[i]? = some k ∧ v = .str k t) :
    ∀ (k i : Nat) (s : Shared), xs.length - i = k → i ≤ xs.length → St i s → SetTo P w s.heap S xs i →
      (∀ s', Moved (S :: wr) G s s' → SetTo P w s'.heap S xs xs.length → R (.ok (.ret .none)) s') →
      codeAny (model P w) A (.builtin "set.update.loop" ⟨[.ref S, .ref I], []⟩) R s := by
  have hSw : S ∉ wr := fun h => hSf (W.sub _ h)
  have hsub : ∀ b ∈ wr, b ∈ S :: wr := fun b hb => List.mem_cons_of_mem _ hb
  intro k
  induction k with
  | zero =>
    intro i s hk' hi hst hS hR
    obtain rfl : i = xs.length := by omega
    refine codeAny_builtin F.entry_set_update_loop ?_
    rw [Around.under_plainId F.plain_set_update_loop _]
    show wpAny _ A.in1 (pyNext (.ref I) >>= _) _ _ s
    refine wpAny_bind (W.done s _ _ hst fun s' hm => ?_)
    show wpAny _ A.in1 (ret Value.none) _ _ s'
    exact wpAny_pure (hR s' (hm.mono hsub) (hS.at fun o e => hm.heap S o hSw e))
  | succ k ih =>
    intro i s hk' hi hst hS hR
    have hlt : i < xs.length := by omega
    refine codeAny_builtin F.entry_set_update_loop ?_
    rw [Around.under_plainId F.plain_set_update_loop _]
    show wpAny _ A.in1 (pyNext (.ref I) >>= _) _ _ s
    refine wpAny_bind (W.item i s _ _ hlt hst fun v s' hP hst' hm => ?_)
    obtain ⟨z, t, hz, rfl⟩ := hval i v hP
    obtain ⟨D, l, ho, ti, ll, lm⟩ := hS.at (h' := s'.heap) fun o e => hm.heap S o hSw e
    show wpAny _ A.in1 (holding [Value.str z t] (PySem.setAdd S (.str z t)) >>= _) _ _ s'
    refine wpAny_bind (wpAny_holding ?_)
    unfold PySem.setAdd
    refine wpAny_holding ?_
    refine wpAny_bind ((strKind P w).pyHash (k := z) (is_str z t) ?_)
    refine setT_hashed (s := { s' with toks := s'.toks + 1 }) ho ti (by omega) fun b h' D' hsb new tn => ?_
    have next : SetTo P w h' S xs (i + 1) := by
      refine ⟨D', _, new, tn, ?_, fun x => ?_⟩
      · split
        · omega
        · rw [List.length_cons]; omega
      · rw [List.take_add_one, hz, List.mem_append, ← lm x]
        split
        · rename_i c
          refine ⟨.inl, fun e => e.elim id fun e => ?_⟩
          have : x = z := by simpa using e
          rw [this]
          exact c
        · rw [List.mem_cons]
          constructor
          · rintro (e | e)
            · exact .inr (by rw [e]; simp)
            · exact .inl e
          · rintro (e | e)
            · exact .inr e
            · exact .inl (by simpa using e)
    refine wpAny_pure ⟨plainId_quiet F.plain_set_update_loop _, ih (i + 1) _ (by omega) hlt (W.frame _ s' _ _ hst' (Nat.le_succ _) fun b hb o e => ?_) next fun s'' hm'' hS'' => ?_⟩
    · rw [hsb.2 b (fun h : b = S => hSf (by rw [← h]; exact hb))]; exact e
    · refine hR s'' (Moved.trans W.gtrans ((hm.mono hsub).then_heap (Nat.le_succ _) fun b o hb e => ?_) hm'') hS''
      rw [hsb.2 b (fun h : b = S => hb (by rw [h]; exact List.mem_cons_self))]; exact e
end
end Vf
namespace Vf
open PySem PySem.Spec PyProof.Rows L2 PySem.Froz
section
variable {P : Program} {w : World} {A : Around} {E : Value → Shared → Prop} {s : Shared}
/-- set(xs), xs a list of texts -/
theorem call_texts {l : Addr} {items : Array Value} {xs : List Str} {Q : Value → Shared → Prop} (hh : A.handled = none) (hl : s.heap.IsList l items) (hn : items.size = xs.length) (hit : ∀ (i : Nat) (v : Value), items[i]? = some v → ∃ k t, xs[i]? = some k ∧ v = .str k t) (hb : xs.length + 1 < scanBound)
    (h : ∀ (h' : Heap) (tk : Nat), SetTo P w h' s.heap.objs.size xs xs.length → (∀ b o, s.heap.get? b = some o → h'.get? b = some o) → Q (.ref s.heap.objs.size) { s with heap := h', toks := tk }) :
    wpAny (model P w) A (call (.type "set") [.ref l]) Q E s := by
  obtain ⟨c, tl, hmro⟩ := F.called_set.mro
  have hmade := F.called_set.made
  have hsub := F.called_set.sub
  refine wpAny_call (codeAny_of_tree ?_)
  show wpAny _ _ (callAny (.type "set") _) _ _ _
  refine wpAny_pure ⟨Code.quiet_builtin _ (by decide +kernel), codeAny_builtin F.entry_type_call ?_⟩
  rw [Around.under_plain (weight_type_call_type "set" [.ref l] []) rfl]
  have h1 := F.called_set.notType
  have h2 := F.called_set.canCreate
  have hct := F.typeCall_set_1 (.ref l)
  repeat (any_goals (first | assumption | wp_step))
  refine codeAny_mono (code_set_led1 (.ref l) (E := E) (Q₁ := fun obj s₁ => obj = .ref s.heap.objs.size ∧ s₁ = { s with heap := s.heap.push (noneIn w) }) ⟨rfl, rfl⟩) fun r s₁ hr => ?_
  cases r with
  | error e => exact hr
  | ok fl =>
    cases fl with
    | ret obj =>
      obtain ⟨rfl, rfl⟩ := hr
      have hS : (s.heap.push (noneIn w)).get? s.heap.objs.size = some (noneIn w) := Heap.get?_push_size _ rfl
      have hT : Shared.TypeIs { s with heap := s.heap.push (noneIn w) } (.ref s.heap.objs.size) "set" := ⟨_, hS, rfl⟩
      have hli := F.called_set.init.lookup
      have hbi := F.called_set.init.bind (.ref s.heap.objs.size)
      repeat (any_goals (first | assumption | wp_step))
      refine codeAny_mono (codeAny_call_builtin (R := wants (fun r s₂ => r = .none ∧ ∃ h' tk, s₂ = { s with heap := h', toks := tk } ∧ SetTo P w h' s.heap.objs.size xs xs.length ∧
          (∀ b o, s.heap.get? b = some o → h'.get? b = some o)) E) F.called_set.init.plain F.entry_set_init (check_set_init_1 hT ?_)) fun r₂ s₂ hr₂ => ?_
      · obtain ⟨ol, hol, hcl, nl, hdl⟩ := hl
        obtain ⟨ocls, odict, odata, oslots⟩ := ol
        simp only at hcl hdl
        subst hcl; subst hdl
        have hol' : (s.heap.push (noneIn w)).get? l = some { cls := .type "list", dict := odict, data := .seq items nl, slots := oslots } := Heap.get?_push_of_some _ hol
        have hsls := F.sub_list_set
        have hslf := F.sub_list_frozenset
        have hne : (Value.type "list" == Value.type "dict") = false := by decide
        have hl1 : (s.heap.push (noneIn w)).IsList l items := ⟨_, hol', rfl, nl, rfl⟩
        unfold Builtin.«set.__init__» noKeywords Builtin.Frozenset.updateFrom
        generalize hPI : pyIter = PI
        wp_walk
        subst hPI
        refine wpAny_pyIter_list hl1 ?_
        refine wpAny_bind (wpAny_runValue ?_)
        have hlS : l < s.heap.objs.size := Heap.lt_size hol
        have hh3 : A.in1.in1.in1.handled = none := by simp [hh]
        have hz1 : (s.heap.push (noneIn w)).objs.size = s.heap.objs.size + 1 := Heap.size_push ..
        have hneI : l ≠ (s.heap.push (noneIn w)).objs.size := by rw [hz1]; exact Nat.ne_of_lt (Nat.lt_succ_of_lt hlS)
        have hSf : s.heap.objs.size ∉ [(s.heap.push (noneIn w)).objs.size, l] := by
          rw [hz1]
          simp only [List.mem_cons, List.not_mem_nil, or_false, not_or]
          exact ⟨Nat.ne_of_lt (Nat.lt_succ_self _), Nat.ne_of_gt hlS⟩
        have W := (Walks.list (prog := P) (w := w) hh3 _ l hneI items).toS
        rw [hn] at W
        refine loop_texts s.heap.objs.size hSf xs W hb hit (xs.length - 0) 0 _ rfl (Nat.zero_le _) ⟨⟨_, Heap.get?_push_size _ rfl, rfl, rfl⟩, (hl1.push _)⟩ ?hS0 ?hR
        case hS0 =>
          have hget : ((s.heap.push (noneIn w)).push { cls := .type "list_iterator", data := .fields #[.ref l, .int 0 0] }).get? s.heap.objs.size = some (noneIn w) := Heap.get?_push_of_some _ hS
          refine ⟨(#[], 0, .fresh 0 0 (!w.params.followText "set-order")), [], hget, ⟨TxOk.nil (by rfl), List.Pairwise.nil, ?_, List.nodup_nil⟩, Nat.le_refl _, fun x => by simp⟩
          show _ ∨ (!w.params.followText "set-order") = true
          cases w.params.followText "set-order"
          · exact .inr rfl
          · exact .inl rfl
        case hR =>
          intro s' hm hS'
          obtain ⟨h', g2, d', tk', os'⟩ := s'
          have eg : g2 = s.gens := hm.gens
          have ed : d' = s.drawn := hm.drawn
          have eo : os' = s.os := hm.os
          subst eg; subst ed; subst eo
          show wpAny _ _ _ _ _ _
          refine wpAny_pure ?_
          show wpAny _ _ (ret Value.none) _ _ _
          refine wpAny_pure ⟨rfl, h', tk', rfl, hS', fun b o e => ?_⟩
          have hb0 : b < s.heap.objs.size := Heap.lt_size e
          refine hm.heap b o ?_ (Heap.get?_push_of_some _ (Heap.get?_push_of_some _ e))
          simp only [List.mem_cons, List.not_mem_nil, or_false, not_or]
          exact ⟨Nat.ne_of_lt hb0, by rw [hz1]; exact Nat.ne_of_lt (Nat.lt_succ_of_lt hb0)⟩
      · cases r₂ with
        | error e => exact hr₂
        | ok fl₂ =>
          cases fl₂ with
          | ret r =>
            obtain ⟨rfl, h', tk, rfl, hS', hk'⟩ := hr₂
            repeat (any_goals (first | assumption | wp_step))
            exact h _ _ hS' hk'
          | _ => exact hr₂.elim
    | _ => exact hr.elim
end
/-- set(xs) -/
def rSetTx (K : PySem.W.Frag) (P : Program) (w : World) : List V → Hp → VK → Prop := fun vs H Q => ∃ (a : Addr) (xs : List Str), vs = [.ref a] ∧ SqL K H a (xs.map V.str) ∧ xs.length ≤ 4000 ∧
  ∀ (p : Addr) (l : List Str), H p = none → l.Nodup → (∀ x, x ∈ l ↔ x ∈ xs) → l.length ≤ xs.length → Q (.ref p) (upd H p (SetT P w p l))
theorem cr_setTx {X : Cx} (hc : X.calm = true) : CallR X (.type "set") (rSetTx X.K X.prog X.w) := by
  intro pins s σ H vs us Q I r h
  obtain ⟨a, xs, rfl, hs, hn, q⟩ := h
  obtain ⟨its, rv, hl, hz⟩ := I.list hs
  rw [Vals.ref1 r]
  have hlen : its.toArray.size = xs.length := by rw [List.size_toArray, ← rv.length, List.length_map]
  refine call_texts (xs := xs) (I.ok.hd hc) hl.isList hlen (fun i v hv => ?_) (by unfold scanBound; omega) fun h' tk hS hk => ?_
  · have hv' : its[i]? = some v := by simpa using hv
    have hi : i < xs.length := by rw [← hlen]; exact (Array.getElem?_eq_some_iff.mp hv).1
    obtain ⟨u, hu, ru⟩ := rv.get (i := i) (x := .str xs[i]) (by rw [List.getElem?_map, List.getElem?_eq_getElem hi]; rfl)
    rw [hv'] at hu
    cases hu
    obtain ⟨tk, e⟩ := ru
    exact ⟨xs[i], tk, List.getElem?_eq_getElem hi, e⟩
  · obtain ⟨D, l, ho, ti, ll, lm⟩ := hS
    refine ⟨.ref s.heap.objs.size, upd H s.heap.objs.size (SetT X.prog X.w s.heap.objs.size l), I.laid (t' := tk) hk (Nat.le_refl _) (setT_ok ho ti), rfl, q _ l (I.hok.fresh (Nat.le_refl _)) ti.nd (fun x => ?_) ll⟩
    rw [lm x, List.take_length]
theorem pe_scT {X : Cx} {elt tg iter : Expr} {ifs : List Expr} {scope : Scope} {own : List (Str × Nat)} {pos : Pos} {wi : TI} {g : TG} {tt : TT} {te : TE} (hc : X.calm = true) (hN : X.N.Nodup) (hi : PI X tg iter wi) (ok : BlkOk X.N X.env.scope scope own)
    (hg : ∀ (s : Shared) (H : Hp) (C : Addr) (cl : List (Str × Addr)) (fp : List Addr), PG (X.blk s H scope (compEnvC scope cl C X.env) fp) tg g)
    (ht : ∀ (s : Shared) (H : Hp) (C : Addr) (cl : List (Str × Addr)) (fp : List Addr), PTs (X.blk s H scope (compEnvC scope cl C X.env) fp) ifs tt)
    (he : ∀ (s : Shared) (H : Hp) (C : Addr) (cl : List (Str × Addr)) (fp : List Addr), PE (X.blk s H scope (compEnvC scope cl C X.env) fp) elt te)
    (hs : ∀ x, foldedSetIterable iter X.env x = pure x := by intro _; rfl) : PE X (.SetComp elt [⟨tg, iter, ifs, 0⟩] scope pos) (tScG (SetT X.prog X.w) [] growT wi g tt te (own.map (·.2))) := pe_scG (setLikeT X.prog X.w) hc hN hi ok hg ht he hs
end Vf

namespace Vf
open PySem PySem.Spec PyProof.Rows L2
theorem eachIs_idx {α β : Type} {R : α → β → Prop} : ∀ {as : List α} {bs : List β}, as.length = bs.length → (∀ (i : Nat) (a : α) (b : β), as[i]? = some a → bs[i]? = some b → R a b) → PySem.W.EachIs R as bs
  | [], [], _, _ => .nil
  | [], b :: bs, h, _ => by simp at h
  | a :: as, [], h, _ => by simp at h
  | a :: as, b :: bs, h, k => .cons (k 0 a b rfl rfl) (eachIs_idx (by simpa using h) fun i x y hx hy => k (i + 1) x y hx hy)
theorem vals_each {α : Type} {f : α → V} : ∀ {us : List Value} {bs : List α}, PySem.W.EachIs (fun v b => RelV (f b) v) us bs → Vals (bs.map f) us
  | _, _, .nil => .nil
  | _, _, .cons h t => .cons h (vals_each t)
/-- sorted(xs), xs a list of texts -/
def rSortS (K : PySem.W.Frag) : List V → Hp → VK → Prop := fun vs H Q => ∃ (a : Addr) (xs : List Str), vs = [.ref a] ∧ SqL K H a (xs.map V.str) ∧ xs.length ≤ 1000000 ∧
  ∀ (p : Addr) (ls : List Str), H p = none → ls.Perm xs → ls.Pairwise (fun x y => x.cps.toList ≤ y.cps.toList) → Q (.ref p) (upd H p (.lst (ls.map V.str)))
theorem cr_sortS {X : Cx} (hu : X.A.units + 64 < cLine) : CallR X (.builtin "sorted") (rSortS X.K) := by
  intro pins s σ H vs us Q I r h
  obtain ⟨a, xs, rfl, ha, hz, q⟩ := h
  obtain ⟨its, rv, hl, hz2⟩ := I.list ha
  rw [Vals.ref1 r]
  have rl := rv.length
  rw [List.length_map] at rl
  have e : PySem.W.EachIs (fun v x => RelV (V.str x) v) its xs := eachIs_idx (by omega) fun i v b hv hb => by
    obtain ⟨u, hu', ru⟩ := rv.get (i := i) (x := .str b) (by rw [List.getElem?_map, hb]; rfl)
    rw [hv] at hu'
    cases hu'
    exact ru
  have er : PySem.W.EachIs (fun v (b : Str) => ∃ as, Reads s.heap v (PyData.str b) as) its xs := e.mono fun v b ⟨tk, e⟩ => ⟨[], by rw [e]; exact .str b tk⟩
  refine PySem.W.sorted_data (enc := PyData.str) hl.isList e er (PySem.W.AllAlike.of fun b b' => by simp [PySem.W.alike]) (PySem.W.Sortable.others fun b => ⟨(fun h => by cases h), (fun xs h => by cases h)⟩) (Nat.le_trans hz (by decide)) (fun b _ => ?_) fun out ol eo => ?_
  · have : (PyData.str b).depth = 0 := by simp only [PyData.depth]
    omega
  · rw [PySem.W.dataLe_str (fun b : Str => b)] at eo
    generalize hb : xs.mergeSort (fun p q => decide (p.cps.toList ≤ q.cps.toList)) = ls at eo
    have pm : ls.Perm xs := by rw [← hb]; exact List.mergeSort_perm ..
    have pw : ls.Pairwise (fun x y => x.cps.toList ≤ y.cps.toList) := by
      rw [← hb]
      refine (List.pairwise_mergeSort (le := fun p q : Str => decide (p.cps.toList ≤ q.cps.toList)) (fun a b c h1 h2 => ?_) (fun a b => ?_) _).imp fun {a b} h => of_decide_eq_true h
      · exact decide_eq_true (List.le_trans (of_decide_eq_true h1) (of_decide_eq_true h2))
      · rw [Bool.or_eq_true]
        rcases List.le_total a.cps.toList b.cps.toList with h | h
        · exact .inl (decide_eq_true h)
        · exact .inr (decide_eq_true h)
    obtain ⟨ep, he'⟩ := sortedAll_at s.heap its out.toArray
    have hlen : (ls.map V.str).length ≤ sizeLine := by
      rw [List.length_map, pm.length_eq]
      exact Nat.le_trans hz (by decide)
    exact ⟨.ref _, upd H (s.heap.objs.size + 1) (.lst (ls.map V.str)), I.laid (t' := s.toks) (fun _ _ => sortedAll_old) (Nat.le_succ _) ⟨hlen, out, ep, vals_of_strs eo, he'⟩, rfl, q _ ls (I.hok.fresh (Nat.le_succ _)) pm pw⟩
/-- sorted(xs), xs a list of pairs of a text and a number: some order of them -/
def encSI (p : Str × Int) : List V := [.str p.1, .int p.2]
def rSortP : List V → Hp → VK → Prop := fun vs H Q => ∃ (a : Addr) (xs : List V) (ps : List (Str × Int)), vs = [.ref a] ∧ H a = some (.lst xs) ∧ Tups encSI H xs ps ∧ xs.length ≤ 1000000 ∧
  ∀ (p : Addr) (ys : List V) (qs : List (Str × Int)), H p = none → Tups encSI H ys qs → qs.Perm ps → (∀ y ∈ ys, y ∈ xs) → Q (.ref p) (upd H p (.lst ys))
theorem alike_si (b b' : Str × Int) : PySem.W.alike (.tuple [.str b.1, .int b.2]) (.tuple [.str b'.1, .int b'.2]) = true := by
  simp [PySem.W.alike, PySem.W.alikeAll]
theorem cr_sortP {X : Cx} (hu : X.A.units + 64 < cLine) : CallR X (.builtin "sorted") rSortP := by
  intro pins s σ H vs us Q I r h
  obtain ⟨a, xs, ps, rfl, ha, t, hz, q⟩ := h
  obtain ⟨its, rv, hl, hz2⟩ := I.list (SqL.of ha)
  rw [Vals.ref1 r]
  have tl := t.1
  have rl := rv.length
  have zl : (xs.zip ps).length = xs.length := by rw [List.length_zip]; omega
  have zat : ∀ (i : Nat) (b : V × (Str × Int)), (xs.zip ps)[i]? = some b → xs[i]? = some b.1 ∧ ps[i]? = some b.2 := fun i b h => by
    rw [List.getElem?_zip_eq_some] at h
    exact h
  have zin : ∀ b ∈ xs.zip ps, ∃ t, b.1 = .ref t ∧ b.1 ∈ xs ∧ H t = some (.tup (encSI b.2)) := fun b hb => by
    obtain ⟨i, hi⟩ := List.mem_iff_getElem?.mp hb
    obtain ⟨h1, h2⟩ := zat i b hi
    obtain ⟨u, e1, e2⟩ := t.2 i b.2 h2
    rw [h1] at e1
    exact ⟨u, Option.some.inj e1, List.mem_of_getElem? h1, e2⟩
  have e : PySem.W.EachIs (fun v (b : V × (Str × Int)) => RelV b.1 v) its (xs.zip ps) := eachIs_idx (by omega) fun i v b hv hb => by
    obtain ⟨h1, _⟩ := zat i b hb
    obtain ⟨u, hu', ru⟩ := rv.get h1
    rw [hv] at hu'
    cases hu'
    exact ru
  have er : PySem.W.EachIs (fun v (b : V × (Str × Int)) => ∃ as, Reads s.heap v (PyData.tuple [.str b.2.1, .int b.2.2]) as) its (xs.zip ps) := eachIs_idx (by omega) fun i v b hv hb => by
    obtain ⟨h1, _⟩ := zat i b hb
    obtain ⟨u, hu', ru⟩ := rv.get h1
    rw [hv] at hu'
    cases hu'
    obtain ⟨t', e1, _, e2⟩ := zin b (List.mem_of_getElem? hb)
    exact Dp.reads I _ b.1 v (by rw [e1]; exact .tup (SqT.of e2) (.cons (.str _) (.cons (.int _) .nil))) ru
  refine PySem.W.sorted_data (enc := fun b : V × (Str × Int) => PyData.tuple [.str b.2.1, .int b.2.2]) hl.isList e er (PySem.W.AllAlike.of fun b b' => alike_si b.2 b'.2) (PySem.W.Sortable.tuples fun b => ⟨_, _, rfl⟩) (Nat.le_trans (show (xs.zip ps).length ≤ 1000000 by omega) (by decide)) (fun b _ => ?_) fun out ol eo => ?_
  · have : (PyData.tuple [.str b.2.1, .int b.2.2]).depth ≤ 1 := by
      simp only [PyData.depth, PyData.depthAll]
      omega
    omega
  · have pm := List.mergeSort_perm (xs.zip ps) (PySem.W.dataLe false fun b : V × (Str × Int) => PyData.tuple [.str b.2.1, .int b.2.2])
    generalize (xs.zip ps).mergeSort (PySem.W.dataLe false fun b : V × (Str × Int) => PyData.tuple [.str b.2.1, .int b.2.2]) = bs at eo pm
    obtain ⟨ep, he'⟩ := sortedAll_at s.heap its out.toArray
    have bl : bs.length = xs.length := by rw [pm.length_eq, zl]
    have hlen : (bs.map Prod.fst).length ≤ sizeLine := by
      rw [List.length_map, bl]
      exact Nat.le_trans hz (by decide)
    refine ⟨.ref _, upd H (s.heap.objs.size + 1) (.lst (bs.map Prod.fst)), I.laid (t' := s.toks) (fun _ _ => sortedAll_old) (Nat.le_succ _) ⟨hlen, out, ep, vals_each eo, he'⟩, rfl, q _ (bs.map Prod.fst) (bs.map Prod.snd) (I.hok.fresh (Nat.le_succ _)) ?_ ?_ ?_⟩
    · refine ⟨by rw [List.length_map, List.length_map], fun i r hr => ?_⟩
      rw [List.getElem?_map] at hr
      cases e2 : bs[i]? with
      | none => rw [e2] at hr; cases hr
      | some b =>
        rw [e2] at hr
        have er : b.2 = r := Option.some.inj hr
        obtain ⟨t', h1, _, h2⟩ := zin b (pm.mem_iff.mp (List.mem_of_getElem? e2))
        refine ⟨t', ?_, by rw [← er]; exact h2⟩
        rw [List.getElem?_map, e2, ← h1]
        rfl
    · have := pm.map Prod.snd
      rwa [List.map_snd_zip (by omega)] at this
    · intro y hy
      obtain ⟨b, hb', rfl⟩ := List.mem_map.mp hy
      exact (zin b (pm.mem_iff.mp hb')).choose_spec.2.1
end Vf
namespace Vf
open PySem PySem.W PySem.Spec PyProof.Rows L2
/-! ### max(xs, default=d) of whole numbers -/
theorem mostD_ok : ∀ (zs : List Int) (z : Int), PySem.W.maxOf z zs ∈ z :: zs ∧ ∀ q ∈ z :: zs, q ≤ PySem.W.maxOf z zs
  | [], z => ⟨List.mem_singleton.mpr rfl, fun q hq => by
      have e : q = z := by simpa using hq
      rw [e]
      exact Int.le_refl _⟩
  | y :: r, z => by
    have step : PySem.W.maxOf z (y :: r) = PySem.W.maxOf (if z < y then y else z) r := by
      unfold PySem.W.maxOf
      rw [List.foldl_cons]
      congr 1
      by_cases c : z < y
      · simp [DatumOrd.lt, c]
      · simp [DatumOrd.lt, c]
    obtain ⟨m1, m2⟩ := mostD_ok r (if z < y then y else z)
    rw [step]
    have top := m2 _ (List.mem_cons_self ..)
    generalize PySem.W.maxOf (if z < y then y else z) r = M at m1 m2 top
    have zM : z ≤ M ∧ y ≤ M := by split at top <;> omega
    refine ⟨?_, fun q hq => ?_⟩
    · rcases List.mem_cons.mp m1 with e | e
      · rw [e]
        split <;> simp
      · exact List.mem_cons_of_mem _ (List.mem_cons_of_mem _ e)
    · rcases List.mem_cons.mp hq with e | e
      · rw [e]; exact zM.1
      · rcases List.mem_cons.mp e with e | e
        · rw [e]; exact zM.2
        · exact m2 q (List.mem_cons_of_mem _ e)
def rMostD (K : PySem.W.Frag) : List V → List V → Hp → VK → Prop := fun vs zs H Q => ∃ (a : Addr) (ns : List Int) (d : Int), vs = [V.ref a] ∧ zs = [V.int d] ∧ SqL K H a (ns.map V.int) ∧
  ∀ m : Int, (ns = [] ∧ m = d ∨ m ∈ ns ∧ ∀ y ∈ ns, y ≤ m) → Q (.int m) H
theorem cr_mostD {X : Cx} (hu : X.A.units + 64 < cLine) (hc : X.calm = true := by rfl) : CallRK X (.builtin "max") [Str.ofString "default"] (rMostD X.K) := by
  intro pins s σ H vs zs us ws Q I r rz h
  obtain ⟨a, ns, d, rfl, rfl, hs, q⟩ := h
  obtain rfl := Vals.ref1 r
  obtain ⟨w1, rfl, e1⟩ := vals1 rz
  obtain ⟨tk0, rfl⟩ : ∃ tk, w1 = Value.int d tk := e1
  obtain ⟨its, rv, hl, _⟩ := I.list hs
  refine PySem.W.max_list_datum_default (I.ok.hd hc) hl.isList (.of_ints rv.ints) (show X.A.units + 1 + 0 < cLine by omega) (fun e h' tk k => ⟨.int d, H, I.kept (t' := tk) k, ⟨tk0, rfl⟩, q d (.inl ⟨e, rfl⟩)⟩) fun y ys i v h' tk e hv hh k => ?_
  obtain ⟨n, t, rfl⟩ := ints_at (i := i) rv.ints (by simpa using hv)
  have en := holds_only hh
  obtain ⟨f1, f2⟩ := mostD_ok ys y
  refine ⟨.int n, H, I.kept (t' := tk) k, ⟨t, rfl⟩, q n (.inr ?_)⟩
  rw [en, e]
  exact ⟨f1, f2⟩
end Vf
namespace Vf
open PySem L2
theorem pi_listK {X : Cx} {K : PySem.W.Frag} (hk : X.K = K) {tg l : Expr} {tl : TE} (hl : PE X l tl) : PI X tg l (iList K tl) := by
  subst hk
  exact pi_list hl
theorem op_notIn_seqK {X : Cx} {K : PySem.W.Frag} (hk : X.K = K) : OpR X (compareOp .NotIn) (rIn K true) := by
  subst hk
  exact op_notIn_seq
end Vf

namespace Vf
open PySem PySem.W PySem.Spec PyProof.Rows L2
/-! ### sorted of a dict with texts as keys; d.pop(text) -/
def txO : Value → Str
  | .str x _ => x
  | _ => Str.empty
def rSortDS : List V → Hp → VK → Prop := fun xs H Q => ∃ (a : Addr) (kvs : List (Key × V)) (ks : List Str), xs = [.ref a] ∧ Rd H a (.dK kvs) ∧ kvs.map (·.1) = ks.map Sum.inr ∧ ks.length ≤ 1000000 ∧
    ∀ (ls : List Str) (p : Addr), ls.Perm ks → ls.Pairwise (fun x y => x.cps.toList ≤ y.cps.toList) → H p = none → Q (.ref p) (upd H p (.lst (ls.map V.str)))
theorem cr_sortDS {X : Cx} (hcalm : X.calm = true) (hu : X.A.units + 64 < cLine) : CallR X (.builtin "sorted") rSortDS := by
  intro pins s σ H xs us Q I r q
  obtain ⟨a, kvs, ks, ex, hd, hks, hb, q⟩ := q
  subst ex
  obtain ⟨u, eu, rx⟩ := vals1 r
  subst eu
  cases rx
  obtain ⟨z, lo, vs, rel, dd⟩ := dk_rd I.hok hd
  obtain ⟨ep, hat⟩ := dd.dictAt
  have hkeys : vs.map (·.1) = ks.map Sum.inr := rel.keys.symm.trans hks
  have hl : vs.length = ks.length := by
    have e := congrArg List.length hkeys
    rw [List.length_map, List.length_map] at e
    exact e
  have hl2 : kvs.length = ks.length := by
    have e := congrArg List.length hks
    rw [List.length_map, List.length_map] at e
    exact e
  have h16 : vs.length ≤ sizeLine := by rw [hl, ← hl2]; exact z
  refine Calls.call_function_entry PyProof.Rows.kind_sorted PyProof.Rows.plain_sorted PyProof.Rows.entry_sorted (PyProof.Rows.args_sorted1 _) ?_
  unfold Builtin.«sorted»
  refine wpAny_bind (m := checkCount "sorted" 1 1 _) (wpAny_pure ?_)
  refine wpAny_bind (PySem.W.kdu_collect (A := X.A.in1) (PySem.W.kdl_dict (knd := mixKind X.prog X.w) (kvs := vs) (ep := ep) lo) (I.ok.hd hcalm) hat h16 fun h' tk acc hk hacc => ?_)
  have hal : acc.toList.length = ks.length := by rw [Array.length_toList, hacc.1, hl]
  have each : ∀ (j : Nat) (v : Value), acc.toList[j]? = some v → ∃ x t, ks[j]? = some x ∧ v = Value.str x t := fun j v e => by
    obtain ⟨k, x, e1, e2⟩ := hacc.2 j v (by rw [← Array.getElem?_toList]; exact e)
    have e3 : (vs.map (·.1))[j]? = some k := by rw [List.getElem?_map, e1]; rfl
    rw [hkeys, List.getElem?_map] at e3
    cases e4 : ks[j]? with
    | none => rw [e4] at e3; cases e3
    | some y =>
      rw [e4] at e3
      have e5 : Sum.inr y = k := Option.some.inj e3
      subst e5
      rcases keyIs_shape (show keyIs (Sum.inr y) v = true from e2) with ⟨i, t, ek, ev⟩ | ⟨z, t, ek, ev⟩
      · cases ek
      · cases ek
        exact ⟨y, t, rfl, ev⟩
  have isT : ∀ v ∈ acc.toList, ∃ x tk, v = Value.str x tk := fun v hv => by
    obtain ⟨j, hj⟩ := List.mem_iff_getElem?.mp hv
    obtain ⟨x, t, _, e⟩ := each j v hj
    exact ⟨x, t, e⟩
  have emap : acc.toList.map txO = ks := List.ext_getElem? fun j => by
    rw [List.getElem?_map]
    cases e : acc.toList[j]? with
    | none => rw [List.getElem?_eq_none (by rw [← hal]; exact List.getElem?_eq_none_iff.mp e)]; rfl
    | some v =>
      obtain ⟨x, t, e1, e2⟩ := each j v e
      rw [e1, e2]
      rfl
  have I1 : Inv X pins σ H { s with heap := h', toks := tk } := I.kept hk
  have haz : acc.toList.length ≤ sizeLine := by rw [hal, ← hl2]; exact z
  refine wpAny_bind (wpAny_newList ?_ haz)
  have hoL : (h'.push (seqObj "list" acc.toList.toArray 0)).get? h'.objs.size = some (seqObj "list" acc.toList.toArray 0) := Heap.get?_push_size _ rfl
  show wpAny _ _ _ _ _ { s with heap := h'.push (seqObj "list" acc.toList.toArray 0), toks := tk }
  have e1 : PySem.W.EachIs (fun v x => RelV (V.str x) v) acc.toList (acc.toList.map txO) := eachIs_map acc.toList fun v hv => by
    obtain ⟨x, tk, rfl⟩ := isT v hv
    exact ⟨tk, rfl⟩
  have e2 : PySem.W.EachIs (fun v (b : Str) => ∃ as, Reads (h'.push (seqObj "list" acc.toList.toArray 0)) v (PyData.str b) as ∧ h'.objs.size ∉ as) acc.toList (acc.toList.map txO) := eachIs_map acc.toList fun v hv => by
    obtain ⟨x, tk, rfl⟩ := isT v hv
    exact ⟨[], .str x tk, by simp⟩
  refine wpAny_bind (wpAny_holding (PySem.W.list_sort_data (s := { s with heap := h'.push (seqObj "list" acc.toList.toArray 0), toks := tk }) (enc := PyData.str) hoL e1 e2 (PySem.W.AllAlike.of fun b b' => by simp [PySem.W.alike]) (PySem.W.Sortable.others fun b => ⟨(fun h => by cases h), (fun xs h => by cases h)⟩) (by rw [List.length_map]; exact haz) (fun b _ => ?_) fun out ol eo => ?_))
  · show X.A.units + 1 + 1 + (PyData.str b).depth < cLine
    have : (PyData.str b).depth = 0 := by simp only [PyData.depth]
    omega
  rw [PySem.W.dataLe_str (fun b : Str => b)] at eo
  generalize hls : (acc.toList.map txO).mergeSort (fun p q => decide (p.cps.toList ≤ q.cps.toList)) = ls at eo
  have pls : ls.Perm ks := by
    rw [← hls, ← emap]
    exact List.mergeSort_perm ..
  have pw : ls.Pairwise (fun x y => x.cps.toList ≤ y.cps.toList) := by
    rw [← hls]
    refine (List.pairwise_mergeSort (le := fun p q : Str => decide (p.cps.toList ≤ q.cps.toList)) (fun a b c h1 h2 => ?_) (fun a b => ?_) _).imp fun {a b} h => of_decide_eq_true h
    · exact decide_eq_true (List.le_trans (of_decide_eq_true h1) (of_decide_eq_true h2))
    · rw [Bool.or_eq_true]
      rcases List.le_total a.cps.toList b.cps.toList with h | h
      · exact .inl (decide_eq_true h)
      · exact .inr (decide_eq_true h)
  obtain ⟨e', he'⟩ := PyProof.Rows.sortedHeap_at (vs := acc.toList) (out := out.toArray) hoL
  have hlen : (ls.map V.str).length ≤ sizeLine := by
    rw [List.length_map, pls.length_eq]
    exact Nat.le_trans hb (by decide)
  refine wpAny_pure ⟨_, rfl, .ref h'.objs.size, upd H h'.objs.size (.lst (ls.map V.str)), I1.laid (t' := tk) (fun b u e => ?_) (Nat.le_refl _)
    (show ObjOk X.prog X.w _ _ _ (.lst (ls.map V.str)) from ⟨hlen, out, e', vals_of_strs eo, he'⟩), rfl, q _ _ pls pw (I1.hok.fresh (Nat.le_refl _))⟩
  have hb : b < h'.objs.size := Heap.lt_size e
  rw [PyProof.Rows.sortedHeap_old (Nat.ne_of_lt hb) (by rw [size_push']; exact Nat.lt_succ_of_lt hb)]
  exact Heap.get?_push_of_some _ e
end Vf

namespace Vf
open PySem L2
theorem cut_hi (xs : List V) (c : Nat) : cutV xs none (some (c : Int)) = xs.take c := by
  unfold cutV
  rw [HT.sIx_nat, show HT.sIx xs.length 0 none = 0 from rfl, List.drop_zero, Nat.sub_zero]
  by_cases h : c ≤ xs.length
  · rw [Nat.min_eq_left h]
  · rw [Nat.min_eq_right (by omega), List.take_of_length_le (Nat.le_refl _), List.take_of_length_le (by omega)]
theorem cut_lo (xs : List V) (c : Nat) : cutV xs (some (c : Int)) none = xs.drop c := by
  unfold cutV
  rw [HT.sIx_nat, show HT.sIx xs.length xs.length none = xs.length from rfl]
  by_cases h : c ≤ xs.length
  · rw [Nat.min_eq_left h, List.take_of_length_le (by rw [List.length_drop]; omega)]
  · rw [Nat.min_eq_right (by omega), List.drop_of_length_le (Nat.le_refl _), List.drop_of_length_le (by omega), List.take_nil]
theorem Tups.takeT {α : Type} {enc : α → List V} {H : Hp} {xs : List V} {l : List α} (h : Tups enc H xs l) (c : Nat) : Tups enc H (xs.take c) (l.take c) := ⟨by rw [List.length_take, List.length_take, h.1], fun i a e => by
  rw [List.getElem?_take] at e
  by_cases ic : i < c
  · rw [if_pos ic] at e
    obtain ⟨t, h1, h2⟩ := h.2 i a e
    exact ⟨t, by rw [List.getElem?_take, if_pos ic]; exact h1, h2⟩
  · rw [if_neg ic] at e
    cases e⟩
theorem Tups.dropT {α : Type} {enc : α → List V} {H : Hp} {xs : List V} {l : List α} (h : Tups enc H xs l) (c : Nat) : Tups enc H (xs.drop c) (l.drop c) := ⟨by rw [List.length_drop, List.length_drop, h.1], fun i a e => by
  rw [List.getElem?_drop] at e
  obtain ⟨t, h1, h2⟩ := h.2 _ a e
  exact ⟨t, by rw [List.getElem?_drop]; exact h1, h2⟩⟩
theorem Tups.join {α : Type} {enc : α → List V} {H : Hp} {xs ys : List V} {l m : List α} (h : Tups enc H xs l) (k : Tups enc H ys m) : Tups enc H (xs ++ ys) (l ++ m) := by
  refine ⟨by rw [List.length_append, List.length_append, h.1, k.1], fun i a e => ?_⟩
  by_cases c : i < l.length
  · rw [List.getElem?_append_left c] at e
    obtain ⟨t, h1, h2⟩ := h.2 i a e
    exact ⟨t, by rw [List.getElem?_append_left (by rw [h.1]; exact c)]; exact h1, h2⟩
  · rw [List.getElem?_append_right (by omega)] at e
    obtain ⟨t, h1, h2⟩ := k.2 _ a e
    exact ⟨t, by rw [List.getElem?_append_right (by rw [h.1]; omega), h.1]; exact h1, h2⟩
end Vf
namespace Vf
open PySem L2
theorem ans_or2 {t u : TT} {σ : L2.St} {H : Hp} {b1 b2 : Bool} (h1 : Ans t σ H b1) (h2 : Ans u σ H b2) : Ans (tOr t u) σ H (b1 || b2) := fun R r => by
  refine h1 _ ?_
  cases b1 with
  | true => exact ite_b (fun _ => r) (fun c => absurd c (by decide))
  | false => exact ite_b (fun c => absurd c (by decide)) (fun _ => h2 R r)
end Vf

namespace Vf
open PySem L2
/-! ### formulas -/
inductive Fm where
  | tt (b : Bool)
  | least (ts : List (Str × Int)) (b : Int)
  | rest (ts : List (Str × Int)) (r m : Int)
  | no (f : Fm)
  | two (o : Bool) (f g : Fm)
  deriving DecidableEq
def Fm.depth : Fm → Nat
  | .no f => 1 + f.depth
  | .two _ f g => 1 + max f.depth g.depth
  | _ => 1
def Fm.word : Fm → Str
  | .tt true => "true"
  | .tt false => "false"
  | .least .. => "least"
  | .rest .. => "rest"
  | .no _ => "not"
  | .two true .. => "and"
  | .two false .. => "or"
def Fm.parts : Fm → List Fm
  | .no f => [f]
  | .two _ f g => [f, g]
  | _ => []
def Fm.terms : Fm → List (Str × Int)
  | .least ts _ => ts
  | .rest ts _ _ => ts
  | .no f => f.terms
  | .two _ f g => f.terms ++ g.terms
  | _ => []
/-- the formula at v -/
def FmAt (H : Hp) : Fm → V → Prop
  | .tt b, v => ∃ a, v = .ref a ∧ H a = some (.tup [.str (Fm.tt b).word])
  | .least ts b, v => ∃ a t xs, v = .ref a ∧ H a = some (.tup [.str "least", .ref t, .int b]) ∧ H t = some (.tup xs) ∧ Tups encSI H xs ts
  | .rest ts r m, v => ∃ a t xs, v = .ref a ∧ H a = some (.tup [.str "rest", .ref t, .int r, .int m]) ∧ H t = some (.tup xs) ∧ Tups encSI H xs ts
  | .no f, v => ∃ a x, v = .ref a ∧ H a = some (.tup [.str "not", x]) ∧ FmAt H f x
  | .two o f g, v => ∃ a x y, v = .ref a ∧ H a = some (.tup [.str (Fm.two o f g).word, x, y]) ∧ FmAt H f x ∧ FmAt H g y
theorem FmAt.same {H H' : Hp} (s : Same H H') : ∀ {f : Fm} {v : V}, FmAt H f v → FmAt H' f v
  | .tt _, _, ⟨a, e, h⟩ => ⟨a, e, s _ _ h⟩
  | .least .., _, ⟨a, t, xs, e, h, k, tt⟩ => ⟨a, t, xs, e, s _ _ h, s _ _ k, tt.same s⟩
  | .rest .., _, ⟨a, t, xs, e, h, k, tt⟩ => ⟨a, t, xs, e, s _ _ h, s _ _ k, tt.same s⟩
  | .no _, _, ⟨a, x, e, h, k⟩ => ⟨a, x, e, s _ _ h, FmAt.same s k⟩
  | .two .., _, ⟨a, x, y, e, h, k, l⟩ => ⟨a, x, y, e, s _ _ h, FmAt.same s k, FmAt.same s l⟩
/-- a tuple of formulas -/
def FmsAt (H : Hp) (xs : List V) (fs : List Fm) : Prop := xs.length = fs.length ∧ ∀ (i : Nat) (f : Fm), fs[i]? = some f → ∃ x, xs[i]? = some x ∧ FmAt H f x
theorem FmsAt.same {H H' : Hp} (s : Same H H') {xs : List V} {fs : List Fm} (h : FmsAt H xs fs) : FmsAt H' xs fs := ⟨h.1, fun i f e => by
  obtain ⟨x, e1, e2⟩ := h.2 i f e
  exact ⟨x, e1, e2.same s⟩⟩
theorem FmsAt.get {H : Hp} {xs : List V} {fs : List Fm} (h : FmsAt H xs fs) {i : Nat} {x : V} (e : xs[i]? = some x) : ∃ f, fs[i]? = some f ∧ FmAt H f x := by
  have hi := (List.getElem?_eq_some_iff.mp e).1
  have hi2 : i < fs.length := by rw [← h.1]; exact hi
  have hf : fs[i]? = some (fs[i]'hi2) := List.getElem?_eq_getElem hi2
  obtain ⟨y, e1, e2⟩ := h.2 i _ hf
  rw [e] at e1
  cases e1
  exact ⟨_, hf, e2⟩
theorem FmsAt.one {H : Hp} {f : Fm} {x : V} (h : FmAt H f x) : FmsAt H [x] [f] := ⟨rfl, fun i g e => by
  cases i with
  | zero => cases e; exact ⟨x, rfl, h⟩
  | succ i => simp at e⟩
theorem FmsAt.pair {H : Hp} {f g : Fm} {x y : V} (h : FmAt H f x) (k : FmAt H g y) : FmsAt H [x, y] [f, g] := ⟨rfl, fun i z e => by
  match i, e with
  | 0, e => cases e; exact ⟨x, rfl, h⟩
  | 1, e => cases e; exact ⟨y, rfl, k⟩
  | i + 2, e => simp at e⟩
/-- what stands at a formula's place -/
theorem FmAt.head {H : Hp} : ∀ {f : Fm} {v : V}, FmAt H f v → ∃ a xs, v = .ref a ∧ H a = some (.tup (.str f.word :: xs)) ∧ xs.length ≤ 3 ∧ (f.word ∈ (["not", "and", "or"] : List Str) → FmsAt H xs f.parts ∧ xs ≠ [])
  | .tt b, _, ⟨a, e, h⟩ => ⟨a, _, e, h, by decide, fun m => absurd m (by cases b <;> decide)⟩
  | .least .., _, ⟨a, t, xs, e, h, k, tt⟩ => ⟨a, _, e, h, by show 2 ≤ 3; omega, fun m => absurd m (by show ("least" : Str) ∉ _; decide)⟩
  | .rest .., _, ⟨a, t, xs, e, h, k, tt⟩ => ⟨a, _, e, h, by show 3 ≤ 3; omega, fun m => absurd m (by show ("rest" : Str) ∉ _; decide)⟩
  | .no _, _, ⟨a, x, e, h, k⟩ => ⟨a, _, e, h, by show 1 ≤ 3; omega, fun _ => ⟨.one k, by simp⟩⟩
  | .two .., _, ⟨a, x, y, e, h, k, l⟩ => ⟨a, _, e, h, by show 2 ≤ 3; omega, fun _ => ⟨.pair k l, by simp⟩⟩
theorem Fm.depth_pos (f : Fm) : 1 ≤ f.depth := by
  cases f <;> simp only [Fm.depth] <;> omega
theorem Fm.parts_depth {f g : Fm} (h : g ∈ f.parts) : g.depth + 1 ≤ f.depth := by
  cases f with
  | no f =>
    have : g = f := by simpa [Fm.parts] using h
    subst this
    simp only [Fm.depth]; omega
  | two o a b =>
    have : g = a ∨ g = b := by simpa [Fm.parts] using h
    rcases this with rfl | rfl <;> simp only [Fm.depth] <;> omega
  | _ => simp [Fm.parts] at h
theorem Fm.leaf {f : Fm} (h : f.word ∉ (["not", "and", "or"] : List Str)) : f.parts = [] := by
  cases f with
  | no f => exact absurd (show ("not" : Str) ∈ _ by decide) h
  | two o a b =>
    cases o
    · exact absurd (show ("or" : Str) ∈ _ by decide) h
    · exact absurd (show ("and" : Str) ∈ _ by decide) h
  | _ => rfl
/-- few terms in each relation -/
def Fm.small (f : Fm) : Prop := f.terms.length ≤ 4000
theorem Fm.small_part {f g : Fm} (s : f.small) (h : g ∈ f.parts) : g.small := by
  unfold Fm.small at *
  cases f with
  | no f =>
    have : g = f := by simpa [Fm.parts] using h
    subst this
    exact s
  | two o a b =>
    simp only [Fm.terms, List.length_append] at s
    have : g = a ∨ g = b := by simpa [Fm.parts] using h
    rcases this with rfl | rfl <;> omega
  | _ => simp [Fm.parts] at h
theorem Tups.er {α : Type} {enc : α → List V} {H : Hp} {xs : List V} {l : List α} {C : Addr} {ls : List V} (hC : H C = some (.lst ls)) (h : Tups enc H xs l) : Tups enc (Er C H) xs l := ⟨h.1, fun i a e => by
  obtain ⟨t, h1, h2⟩ := h.2 i a e
  exact ⟨t, h1, er_ne h2 hC (by intro e; cases e)⟩⟩
/-- a relation's terms, and those of all others -/
theorem FmAt.leafT {H : Hp} : ∀ {f : Fm} {v : V}, FmAt H f v → f.word ∈ (["least", "rest"] : List Str) → ∃ a t r xs, v = .ref a ∧ H a = some (.tup (.str f.word :: .ref t :: r)) ∧ H t = some (.tup xs) ∧ Tups encSI H xs f.terms
  | .tt b, _, _, m => absurd m (by cases b <;> decide)
  | .least .., _, ⟨a, t, xs, e, h, k, tt⟩, _ => ⟨a, t, _, xs, e, h, k, tt⟩
  | .rest .., _, ⟨a, t, xs, e, h, k, tt⟩, _ => ⟨a, t, _, xs, e, h, k, tt⟩
  | .no _, _, _, m => absurd m (by show ("not" : Str) ∉ _; decide)
  | .two o _ _, _, _, m => absurd m (by
      cases o
      · show ("or" : Str) ∉ _; decide
      · show ("and" : Str) ∉ _; decide)
theorem Fm.terms_parts {f : Fm} (h : f.word ∉ (["least", "rest"] : List Str)) : f.terms = f.parts.flatMap Fm.terms := by
  cases f with
  | tt b => rfl
  | least ts b => exact absurd (show ("least" : Str) ∈ _ by decide) h
  | rest ts r m => exact absurd (show ("rest" : Str) ∈ _ by decide) h
  | no f => simp [Fm.terms, Fm.parts]
  | two o a b => simp [Fm.terms, Fm.parts]
/-- few terms, with names that are not too long -/
structure Fm.Short (f : Fm) : Prop where
  few : f.terms.length ≤ 2000
  nm : ∀ p ∈ f.terms, p.1.length ≤ 1000000
theorem Fm.Short.small {f : Fm} (s : f.Short) : f.small := Nat.le_trans s.few (by decide)
theorem Fm.Short.part {f g : Fm} (s : f.Short) (h : g ∈ f.parts) : g.Short := by
  obtain ⟨s1, s2⟩ := s
  cases f with
  | no f =>
    have : g = f := by simpa [Fm.parts] using h
    subst this
    exact ⟨s1, s2⟩
  | two o a b =>
    simp only [Fm.terms, List.length_append, List.mem_append] at s1 s2
    have : g = a ∨ g = b := by simpa [Fm.parts] using h
    rcases this with rfl | rfl
    · exact ⟨by omega, fun p hp => s2 p (.inl hp)⟩
    · exact ⟨by omega, fun p hp => s2 p (.inr hp)⟩
  | _ => simp [Fm.parts] at h
end Vf
namespace Vf
open PySem L2
def wordsF : List Str := ["and", "or", "not", "true", "false", "mod"]
def isVar (s : Str) : Bool := isName s && decide (s ∉ wordsF)
end Vf
namespace Vf
open PySem L2
/-- the names of a formula, ascending, once each -/
structure VarsOf (f : Fm) (ls : List Str) : Prop where
  nd : ls.Nodup
  mem : ∀ x, x ∈ ls ↔ x ∈ f.terms.map Prod.fst
  asc : ls.Pairwise (fun x y => x.cps.toList ≤ y.cps.toList)
end Vf
namespace Vf
open PySem L2
def ascB (l : List Str) : Bool := decide (l.Pairwise fun x y => x.cps.toList < y.cps.toList)
def okTerms (ts : List (Str × Int)) (lo hi : Int) : Bool := decide (0 < ts.length) && (ts.all (fun p => isVar p.1) && (ascB (ts.map Prod.fst) && ts.all (fun p => decide (p.2 ≠ 0 ∧ lo ≤ p.2 ∧ p.2 ≤ hi))))
theorem asc_perm {a b : List Str} (p : a.Perm b) (ha : a.Pairwise fun x y => x.cps.toList ≤ y.cps.toList) (hb : b.Pairwise fun x y => x.cps.toList ≤ y.cps.toList) : a = b :=
  p.eq_of_pairwise (fun x y _ _ h1 h2 => by
    have e : x.cps.toList = y.cps.toList := List.le_antisymm h1 h2
    obtain ⟨cx⟩ := x
    obtain ⟨cy⟩ := y
    have e2 : cx = cy := Array.toList_inj.mp e
    rw [e2]) ha hb
theorem asc_iff {names ls l : List Str} (pm : ls.Perm l) (nd : l.Nodup) (mem : ∀ x, x ∈ l ↔ x ∈ names) (asc : ls.Pairwise fun x y => x.cps.toList ≤ y.cps.toList) : decide (names = ls) = ascB names := by
  unfold ascB
  rw [decide_eq_decide]
  have ndl : ls.Nodup := pm.nodup_iff.mpr nd
  constructor
  · rintro rfl
    exact (asc.and ndl).imp fun {x y} h => by
      rcases Classical.em (x.cps.toList < y.cps.toList) with h1 | h1
      · exact h1
      · have h1 := List.le_antisymm h.1 (List.not_lt.mp h1)
        refine absurd ?_ h.2
        obtain ⟨cx⟩ := x
        obtain ⟨cy⟩ := y
        have e2 : cx = cy := Array.toList_inj.mp h1
        rw [e2]
  · intro h
    have h2 : names.Pairwise fun x y => x.cps.toList ≤ y.cps.toList := h.imp fun {x y} h => List.le_of_lt h
    have nn : names.Nodup := h.imp fun {x y} h e => by
      rw [e] at h
      exact List.lt_irrefl _ h
    exact asc_perm ((List.perm_ext_iff_of_nodup nn ndl).mpr fun x => by rw [pm.mem_iff, mem x]) h2 asc
end Vf
namespace Vf
open PySem L2
def okLeast (ts : List (Str × Int)) (b : Int) : Bool := okTerms ts (-20) 20 && decide (-20 ≤ b ∧ b ≤ 20)
end Vf
namespace Vf
open PySem L2
def okRest (ts : List (Str × Int)) (r m : Int) : Bool := okTerms ts (-20) 20 && decide ((2 ≤ m ∧ m ≤ 20) ∧ 0 ≤ r ∧ r < m)
end Vf
namespace Vf
open PySem L2
def Fm.sound : Fm → Nat → Bool
  | _, 0 => false
  | .least ts b, _ + 1 => okLeast ts b
  | .rest ts r m, _ + 1 => okRest ts r m
  | .tt _, _ + 1 => true
  | .no f, k + 1 => f.sound k
  | .two _ f g, k + 1 => f.sound k && g.sound k
theorem Fm.sound_parts {f : Fm} (h1 : f.word ≠ "least") (h2 : f.word ≠ "rest") (k : Nat) : f.sound (k + 1) = (f.parts.map fun g => g.sound k).all id := by
  cases f with
  | least ts b => exact absurd rfl h1
  | rest ts r m => exact absurd rfl h2
  | tt b => simp [Fm.sound, Fm.parts]
  | no f => simp [Fm.sound, Fm.parts]
  | two o a b => simp [Fm.sound, Fm.parts]
theorem FmAt.isLeast {H : Hp} : ∀ {f : Fm} {v : V}, FmAt H f v → f.word = "least" → ∃ a t xs ts b, f = .least ts b ∧ v = .ref a ∧ H a = some (.tup [.str "least", .ref t, .int b]) ∧ H t = some (.tup xs) ∧ Tups encSI H xs ts
  | .tt b, _, _, m => absurd m (by cases b <;> decide)
  | .least .., _, ⟨a, t, xs, e, h, k, tt⟩, _ => ⟨a, t, xs, _, _, rfl, e, h, k, tt⟩
  | .rest .., _, _, m => absurd m (by show ("rest" : Str) ≠ _; decide)
  | .no _, _, _, m => absurd m (by show ("not" : Str) ≠ _; decide)
  | .two o _ _, _, _, m => absurd m (by
      cases o
      · show ("or" : Str) ≠ _; decide
      · show ("and" : Str) ≠ _; decide)
theorem FmAt.isRest {H : Hp} : ∀ {f : Fm} {v : V}, FmAt H f v → f.word = "rest" → ∃ a t xs ts r m, f = .rest ts r m ∧ v = .ref a ∧ H a = some (.tup [.str "rest", .ref t, .int r, .int m]) ∧ H t = some (.tup xs) ∧ Tups encSI H xs ts
  | .tt b, _, _, m => absurd m (by cases b <;> decide)
  | .least .., _, _, m => absurd m (by show ("least" : Str) ≠ _; decide)
  | .rest .., _, ⟨a, t, xs, e, h, k, tt⟩, _ => ⟨a, t, xs, _, _, _, rfl, e, h, k, tt⟩
  | .no _, _, _, m => absurd m (by show ("not" : Str) ≠ _; decide)
  | .two o _ _, _, _, m => absurd m (by
      cases o
      · show ("or" : Str) ≠ _; decide
      · show ("and" : Str) ≠ _; decide)
end Vf
namespace Vf
open PySem L2
def Fm.fewV (f : Fm) : Prop := ∃ ls, VarsOf f ls ∧ ls.length ≤ 8
noncomputable def Fm.isF (f : Fm) : Bool := f.sound 8 && @decide f.fewV (Classical.propDecidable _)
theorem VarsOf.eq {f : Fm} {a b : List Str} (h : VarsOf f a) (k : VarsOf f b) : a = b :=
  asc_perm ((List.perm_ext_iff_of_nodup h.nd k.nd).mpr fun x => by rw [h.mem x, k.mem x]) h.asc k.asc
theorem VarsOf.few {f : Fm} {ls : List Str} (h : VarsOf f ls) : @decide f.fewV (Classical.propDecidable _) = decide (ls.length ≤ 8) := by
  rw [decide_eq_decide]
  exact ⟨fun ⟨l2, k, e⟩ => by rw [h.eq k]; exact e, fun e => ⟨ls, h, e⟩⟩
end Vf
namespace Vf
open PySem PySem.W L2
/-! ### == of a list with [] -/
theorem plL {ds : List PyData} (h : ∀ d ∈ ds, d.plain = true ∧ d.depth ≤ 60) : (PyData.list ds).plain = true ∧ (PyData.list ds).depth ≤ 64 := by
  have a : ∀ ds : List PyData, (∀ d ∈ ds, d.plain = true ∧ d.depth ≤ 60) → PyData.plainAll ds = true ∧ PyData.depthAll ds ≤ 60 := by
    intro ds
    induction ds with
    | nil => intro _; exact ⟨by simp only [PyData.plainAll], by simp only [PyData.depthAll]; omega⟩
    | cons x r ih =>
      intro h
      have h1 := h x (List.mem_cons_self ..)
      have h2 := ih fun d hd => h d (List.mem_cons_of_mem _ hd)
      refine ⟨by simp only [PyData.plainAll, h1.1, h2.1, Bool.and_self], ?_⟩
      simp only [PyData.depthAll]
      omega
  have := a ds h
  refine ⟨by simp only [PyData.plain]; exact this.1, ?_⟩
  simp only [PyData.depth]
  omega
theorem eqvNil (ds : List PyData) : PyData.eqv (.list ds) (.list []) = ds.isEmpty := by
  cases ds <;> simp [PyData.eqv, PyData.eqvAll]
/-- a list of texts == [] -/
theorem eqS {K : PySem.W.Frag} {H : Hp} {a b : Addr} {l : List Str} {neg : Bool} {Q : VK} (ha : H a = some (.lst (l.map V.str))) (hb : H b = some (.lst [])) (q : Q (.bl (if neg then !l.isEmpty else l.isEmpty)) H) : rEqP K neg (.ref a) (.ref b) H Q := by
  refine ⟨.list (l.map Datum.toD), .list [], .lst (SqL.of ha) (dpAll_strs l), .lst (SqL.of hb) .nil, plL (fun d hd => ?_), plL (fun d hd => nomatch hd), ?_⟩
  · obtain ⟨x, _, rfl⟩ := List.mem_map.mp hd
    exact ⟨Datum.plain x, Nat.le_trans (Datum.depth_le x) (by decide)⟩
  · rw [eqvNil, show (l.map (Datum.toD (α := Str))).isEmpty = l.isEmpty by cases l <;> rfl]
    exact q
def sgn (c : Nat) : Str := ⟨#[c]⟩
theorem both_list2 : ((Str.ofString "abcdefghijklmnopqrstuvwxyz") ++ (Str.ofString "0123456789")).cps.toList = (Str.ofString "abcdefghijklmnopqrstuvwxyz").cps.toList ++ (Str.ofString "0123456789").cps.toList := by decide +kernel
theorem in_both2 (c : Nat) : decide (c ∈ ((Str.ofString "abcdefghijklmnopqrstuvwxyz") ++ (Str.ofString "0123456789")).cps.toList) = (lowC c || digC c) := by
  rw [← in_letters c, ← in_digits c, ← Bool.decide_or]
  refine decide_eq_decide.mpr ?_
  rw [both_list2]
  exact List.mem_append
theorem filter_all {l : List Nat} {p : Nat → Bool} : (l.filter fun c => !p c).isEmpty = l.all p := by
  rw [Bool.eq_iff_iff, List.isEmpty_iff, List.filter_eq_nil_iff, List.all_eq_true]
  exact ⟨fun h x hx => by simpa using h x hx, fun h x hx => by simpa using h x hx⟩
end Vf
namespace Vf
open PySem PySem.W L2
theorem dp_terms {K : PySem.W.Frag} {H : Hp} {t : Addr} {xs : List V} {ts : List (Str × Int)} (h : H t = some (.tup xs)) (tt : Tups encSI H xs ts) : ∃ d, Dp K H (.ref t) d ∧ d.plain = true ∧ d.depth ≤ 2 :=
  ⟨Datum.toD (⟨ts⟩ : Tup (Str × Int)), .tup (SqT.of h) (dpAll_tupsG (g := fun p : Str × Int => Datum.toD p) (fun _ _ h => .tup (SqT.of h) (.cons (.str _) (.cons (.int _) .nil))) tt), Datum.plain _, Datum.depth_le _⟩
/-- a formula's value as data -/
theorem FmAt.dp {K : PySem.W.Frag} {H : Hp} : ∀ {f : Fm} {v : V}, FmAt H f v → ∃ d, Dp K H v d ∧ d.plain = true ∧ d.depth ≤ f.depth + 3
  | .tt b, _, ⟨a, e, h⟩ => ⟨.tuple [.str (Fm.tt b).word], by rw [e]; exact .tup (SqT.of h) (.cons (.str _) .nil), by simp [PyData.plain, PyData.plainAll], by simp [PyData.depth, PyData.depthAll, Fm.depth]⟩
  | .least ts b, _, ⟨a, t, xs, e, h, k, tt⟩ => by
    obtain ⟨d, h1, h2, h3⟩ := dp_terms (K := K) k tt
    exact ⟨.tuple [.str ("least" : Str), d, .int b], by rw [e]; exact .tup (SqT.of h) (.cons (.str _) (.cons h1 (.cons (.int _) .nil))), by simp [PyData.plain, PyData.plainAll, h2], by simp only [PyData.depth, PyData.depthAll, Fm.depth]; omega⟩
  | .rest ts r m, _, ⟨a, t, xs, e, h, k, tt⟩ => by
    obtain ⟨d, h1, h2, h3⟩ := dp_terms (K := K) k tt
    exact ⟨.tuple [.str ("rest" : Str), d, .int r, .int m], by rw [e]; exact .tup (SqT.of h) (.cons (.str _) (.cons h1 (.cons (.int _) (.cons (.int _) .nil)))), by simp [PyData.plain, PyData.plainAll, h2], by simp only [PyData.depth, PyData.depthAll, Fm.depth]; omega⟩
  | .no f, _, ⟨a, x, e, h, k⟩ => by
    obtain ⟨d, h1, h2, h3⟩ := FmAt.dp (K := K) k
    exact ⟨.tuple [.str ("not" : Str), d], by rw [e]; exact .tup (SqT.of h) (.cons (.str _) (.cons h1 .nil)), by simp [PyData.plain, PyData.plainAll, h2], by simp only [PyData.depth, PyData.depthAll, Fm.depth]; omega⟩
  | .two o f g, _, ⟨a, x, y, e, h, k, l⟩ => by
    obtain ⟨d, h1, h2, h3⟩ := FmAt.dp (K := K) k
    obtain ⟨c, k1, k2, k3⟩ := FmAt.dp (K := K) l
    exact ⟨.tuple [.str (Fm.two o f g).word, d, c], by rw [e]; exact .tup (SqT.of h) (.cons (.str _) (.cons h1 (.cons k1 .nil))), by simp [PyData.plain, PyData.plainAll, h2, k2], by simp only [PyData.depth, PyData.depthAll, Fm.depth]; omega⟩
/-- a list of formulas == [] -/
theorem eqF {K : PySem.W.Frag} {H : Hp} {a b : Addr} {xs : List V} {fs : List Fm} {Q : VK} (ha : H a = some (.lst xs)) (hb : H b = some (.lst [])) (F : FmsAt H xs fs) (hd : ∀ f ∈ fs, f.depth ≤ 50) (q : Q (.bl xs.isEmpty) H) : rEqP K false (.ref a) (.ref b) H Q := by
  have all : ∀ (xs : List V), (∀ x ∈ xs, ∃ f, FmAt H f x ∧ f.depth ≤ 50) → ∃ ds, DpAll K H xs ds ∧ (∀ d ∈ ds, d.plain = true ∧ d.depth ≤ 60) ∧ ds.isEmpty = xs.isEmpty := by
    intro xs
    induction xs with
    | nil => intro _; exact ⟨[], .nil, fun d hd => (nomatch hd), rfl⟩
    | cons x r ih =>
      intro h
      obtain ⟨f, F, fd⟩ := h x (List.mem_cons_self ..)
      obtain ⟨d, h1, h2, h3⟩ := FmAt.dp (K := K) F
      obtain ⟨ds, k1, k2, _⟩ := ih fun y hy => h y (List.mem_cons_of_mem _ hy)
      refine ⟨d :: ds, .cons h1 k1, fun e he => ?_, rfl⟩
      rcases List.mem_cons.mp he with e1 | e1
      · rw [e1]; exact ⟨h2, by omega⟩
      · exact k2 e e1
  obtain ⟨ds, d1, d2, d3⟩ := all xs fun x hx => by
    obtain ⟨i, hi⟩ := List.mem_iff_getElem?.mp hx
    obtain ⟨f, hf, F1⟩ := F.get hi
    exact ⟨f, F1, hd f (List.mem_of_getElem? hf)⟩
  refine ⟨.list ds, .list [], .lst (SqL.of ha) d1, .lst (SqL.of hb) .nil, plL d2, plL (fun d hd => nomatch hd), ?_⟩
  rw [eqvNil, d3]
  exact q
def Fm.rightP : Fm → Bool
  | .least ts b => okLeast ts b
  | .rest ts r m => okRest ts r m
  | .tt _ => true
  | .no f => f.rightP
  | .two _ f g => f.rightP && g.rightP
theorem Fm.sound_eq : ∀ (f : Fm) (k : Nat), f.sound k = (f.rightP && decide (f.depth ≤ k))
  | f, 0 => by
    have := f.depth_pos
    rw [decide_eq_false (by omega), Bool.and_false]
    cases f <;> rfl
  | .least ts b, k + 1 => by rw [decide_eq_true (show (Fm.least ts b).depth ≤ k + 1 by simp only [Fm.depth]; omega), Bool.and_true]; rfl
  | .rest ts r m, k + 1 => by rw [decide_eq_true (show (Fm.rest ts r m).depth ≤ k + 1 by simp only [Fm.depth]; omega), Bool.and_true]; rfl
  | .tt b, k + 1 => by rw [decide_eq_true (show (Fm.tt b).depth ≤ k + 1 by simp only [Fm.depth]; omega)]; rfl
  | .no f, k + 1 => by
    have ih := Fm.sound_eq f k
    show f.sound k = _
    rw [ih]
    show _ = (f.rightP && decide (1 + f.depth ≤ k + 1))
    congr 1
    exact decide_eq_decide.mpr (by omega)
  | .two o f g, k + 1 => by
    show (f.sound k && g.sound k) = ((f.rightP && g.rightP) && decide (1 + max f.depth g.depth ≤ k + 1))
    rw [Fm.sound_eq f k, Fm.sound_eq g k, show decide (1 + max f.depth g.depth ≤ k + 1) = (decide (f.depth ≤ k) && decide (g.depth ≤ k)) by rw [← Bool.decide_and]; exact decide_eq_decide.mpr (by omega)]
    cases f.rightP <;> cases g.rightP <;> cases decide (f.depth ≤ k) <;> cases decide (g.depth ≤ k) <;> rfl
end Vf
namespace Vf
open PySem L2
def oddNames : List Str := ["x", "y", "z1", "b", "and", "mod", "X", "a_", "abcdefghijklm", "true", "n0", ""]
theorem odd_at {k : Int} (h0 : 0 ≤ k) (h1 : k < 12) : ∃ nm, atI (oddNames.map V.str) k = some (.str nm) ∧ nm.length ≤ 100 := by
  obtain ⟨j, rfl⟩ : ∃ j : Nat, k = (j : Int) := ⟨k.toNat, by omega⟩
  have hj : j < oddNames.length := by show j < 12; omega
  have all : ∀ nm ∈ oddNames, nm.length ≤ 100 := by decide +kernel
  exact ⟨oddNames[j], atI_nat (by rw [List.getElem?_map, List.getElem?_eq_getElem hj]; rfl), all _ (List.getElem_mem hj)⟩
theorem Keep.nw {p : Addr} {H H' : Hp} {t : Addr} {o : HO} (k : Keep [p] H H') (h : H' t = none) : Keep [p] H (upd H' t o) := fun b u nb e => by
  have e' := k b u nb e
  have ne : b ≠ t := fun x => by rw [x, h] at e'; cases e'
  rw [upd_ne ne]
  exact e'
theorem Keep.go {p : Addr} {H H' H'' : Hp} (k : Keep [p] H H') (l : Keep [p] H' H'') : Keep [p] H H'' := fun b u nb e => l b u nb (k b u nb e)
theorem Keep.id {p : Addr} {H : Hp} : Keep [p] H H := fun b u nb e => e
theorem Tups.keep1 {α : Type} {enc : α → List V} {H H' : Hp} {xs : List V} {l : List α} {p : Addr} {ls : List V} (h : Tups enc H xs l) (hp : H p = some (.lst ls)) (k : Keep [p] H H') : Tups enc H' xs l := ⟨h.1, fun i a e => by
  obtain ⟨t, h1, h2⟩ := h.2 i a e
  exact ⟨t, h1, k t _ (fun m => by rw [List.mem_singleton.mp m, hp] at h2; cases h2) h2⟩⟩
theorem FmAt.keep1 {H H' : Hp} {p : Addr} {ls : List V} (hp : H p = some (.lst ls)) (k : Keep [p] H H') : ∀ {f : Fm} {v : V}, FmAt H f v → FmAt H' f v := by
  have tp : ∀ {a : Addr} {xs : List V}, H a = some (.tup xs) → H' a = some (.tup xs) := fun {a xs} h => k a _ (fun m => by rw [List.mem_singleton.mp m, hp] at h; cases h) h
  intro f
  induction f with
  | tt b => rintro v ⟨a, e, h⟩; exact ⟨a, e, tp h⟩
  | least ts b => rintro v ⟨a, t, xs, e, h, g, tt⟩; exact ⟨a, t, xs, e, tp h, tp g, tt.keep1 hp k⟩
  | rest ts r m => rintro v ⟨a, t, xs, e, h, g, tt⟩; exact ⟨a, t, xs, e, tp h, tp g, tt.keep1 hp k⟩
  | no f ih => rintro v ⟨a, x, e, h, g⟩; exact ⟨a, x, e, tp h, ih g⟩
  | two o f g ih1 ih2 => rintro v ⟨a, x, y, e, h, g1, g2⟩; exact ⟨a, x, y, e, tp h, ih1 g1, ih2 g2⟩
end Vf
namespace Vf
open PySem L2
def plainNames : List Str := ["x", "y", "z1"]
theorem cut_plain {r : Int} (h0 : 0 ≤ r) (h1 : r < 3) : cutV (plainNames.map V.str) none (some (1 + r)) = (plainNames.take (r.toNat + 1)).map V.str := by
  have : r = 0 ∨ r = 1 ∨ r = 2 := by omega
  rcases this with rfl | rfl | rfl <;> rfl
theorem plain_len {m : Nat} : ∀ nm ∈ plainNames.take m, nm.length ≤ 100 := fun nm h => by
  have all : ∀ nm ∈ plainNames, nm.length ≤ 100 := by decide +kernel
  exact all nm (List.mem_of_mem_take h)
end Vf
namespace Vf
open PySem L2
/-- terms drawn one after the other, gathered at C -/
def DrawT (Hb : Hp) (p d : Addr) (ds : List Int) (C : Addr) (lo st : Int) (i : Nat) (H' : Hp) : Prop := ∃ (acc : List V) (ts : List (Str × Int)) (m : Int), H' C = some (.lst acc) ∧ PoolX H' p d ds m ∧ lo ≤ m ∧ m ≤ lo + st * (i : Int) ∧ Keep [p] Hb H' ∧ Tups encSI H' acc ts ∧ ts.length = i ∧ ∀ q ∈ ts, q.1.length ≤ 100
theorem PoolX.put {H : Hp} {p d C : Addr} {ds : List Int} {m : Int} {o : HO} (P : PoolX H p d ds m) (nC : C ≠ p) (nD : d ≠ C) : PoolX (upd H C o) p d ds m := ⟨by rw [upd_ne (fun e => nC e.symm)]; exact P.1, by rw [upd_ne nD]; exact P.2.1, P.2.2⟩
theorem DrawT.start {Hb : Hp} {p d C : Addr} {ds : List Int} {lo st : Int} (P : PoolX Hb p d ds lo) (hC : Hb C = none) : DrawT Hb p d ds C lo st 0 (upd Hb C (.lst [])) :=
  ⟨[], [], lo, upd_same, P.same (Same.new (Same.refl _) hC), Int.le_refl _, by simp, Keep.id.nw hC, Tups.nil, rfl, fun q h => (nomatch h)⟩
theorem DrawT.step {Hb Ha H5 : Hp} {p d C t : Addr} {ds : List Int} {lo st m m' z : Int} {i : Nat} {acc : List V} {ts : List (Str × Int)} {nm : Str} (hC : Hb C = none) (nC : C ∉ [p]) (nD : d ≠ C) (i9 : i < 1000)
    (hCa : Ha C = some (.lst acc)) (Pa : PoolX Ha p d ds m) (m0 : lo ≤ m) (m1 : m ≤ lo + st * (i : Int)) (ka : Keep [p] Hb Ha) (ta : Tups encSI Ha acc ts) (tl : ts.length = i) (tn : ∀ q ∈ ts, q.1.length ≤ 100)
    (k5 : Keep [p] Ha H5) (P5 : PoolX H5 p d ds m') (n0 : m ≤ m') (n1 : m' ≤ m + st) (nt : H5 t = none) (nl : nm.length ≤ 100) :
    ∃ acc', (upd H5 t (.tup [.str nm, .int z])) C = some (.lst acc') ∧ acc'.length < sizeLine ∧ DrawT Hb p d ds C lo st (i + 1) (upd (upd H5 t (.tup [.str nm, .int z])) C (.lst (acc' ++ [.ref t]))) := by
  have s6 := Same.new (o := .tup [.str nm, .int z]) (Same.refl H5) nt
  have ka6 := k5.nw (o := .tup [.str nm, .int z]) nt
  have hC6 := ka6 C _ nC hCa
  have tCne : t ≠ C := fun e => by rw [e, k5 C _ nC hCa] at nt; cases nt
  have T6 := (ta.keep1 Pa.1 ka6).snoc (a := (nm, z)) (t := t) upd_same
  have Cp : C ≠ p := fun e => nC (List.mem_singleton.mpr e)
  have e1 : st * ((i + 1 : Nat) : Int) = st * (i : Int) + st := by rw [Int.natCast_add, Int.mul_add]; simp
  refine ⟨acc, hC6, Nat.lt_of_le_of_lt (show acc.length ≤ 1000 by rw [ta.1, tl]; omega) (by decide), acc ++ [.ref t], ts ++ [(nm, z)], m', upd_same, (P5.same s6).put Cp nD, by omega, by rw [e1]; omega, ?_, ?_, by rw [List.length_append, tl]; rfl, fun q hq => ?_⟩
  · exact fun b o nb e => by
      have e2 := ka6 b o nb (ka b o nb e)
      rw [upd_ne (fun x => by rw [x, hC] at e; cases e)]
      exact e2
  · refine ⟨T6.1, fun i a e => ?_⟩
    obtain ⟨w', h1, h2⟩ := T6.2 i a e
    refine ⟨w', h1, ?_⟩
    rw [upd_ne (fun x => by rw [x, hC6] at h2; cases h2)]
    exact h2
  · rcases List.mem_append.mp hq with h | h
    · exact tn q h
    · rw [List.mem_singleton.mp h]
      exact nl
end Vf
namespace Vf
open PySem L2
def nots : Nat → Fm → Fm
  | 0, f => f
  | k + 1, f => .no (nots k f)
theorem nots_depth (f : Fm) : ∀ k, (nots k f).depth = f.depth + k
  | 0 => rfl
  | k + 1 => by
    show 1 + (nots k f).depth = _
    rw [nots_depth f k]
    omega
theorem nots_terms (f : Fm) : ∀ k, (nots k f).terms = f.terms
  | 0 => rfl
  | k + 1 => nots_terms f k
end Vf
namespace Vf
open PySem L2
def manyT : List (Str × Int) := [("va", 1), ("vb", 2), ("vc", 3), ("vd", 4), ("ve", 5), ("vf", 6), ("vg", 7), ("vh", 8), ("vi", 9), ("vj", 10)]
theorem many_sign : ∀ k < 10, ∃ c, (Str.ofString "abcdefghij").cps.toList[k]? = some c ∧ ("v" : Str) ++ ⟨#[c]⟩ = (manyT.getD k ("", 0)).1 ∧ (manyT.getD k ("", 0)).2 = 1 + (k : Int) ∧ manyT[k]? = some (manyT.getD k ("", 0)) := by
  intro k hk
  have : k = 0 ∨ k = 1 ∨ k = 2 ∨ k = 3 ∨ k = 4 ∨ k = 5 ∨ k = 6 ∨ k = 7 ∨ k = 8 ∨ k = 9 := by omega
  rcases this with rfl | rfl | rfl | rfl | rfl | rfl | rfl | rfl | rfl | rfl
  · exact ⟨97, by decide +kernel, by decide +kernel, by decide, rfl⟩
  · exact ⟨98, by decide +kernel, by decide +kernel, by decide, rfl⟩
  · exact ⟨99, by decide +kernel, by decide +kernel, by decide, rfl⟩
  · exact ⟨100, by decide +kernel, by decide +kernel, by decide, rfl⟩
  · exact ⟨101, by decide +kernel, by decide +kernel, by decide, rfl⟩
  · exact ⟨102, by decide +kernel, by decide +kernel, by decide, rfl⟩
  · exact ⟨103, by decide +kernel, by decide +kernel, by decide, rfl⟩
  · exact ⟨104, by decide +kernel, by decide +kernel, by decide, rfl⟩
  · exact ⟨105, by decide +kernel, by decide +kernel, by decide, rfl⟩
  · exact ⟨106, by decide +kernel, by decide +kernel, by decide, rfl⟩
def manyF (M cut : Nat) : Fm := .two false (.least ((manyT.take M).take (max 1 cut)) 3) (.rest ((manyT.take M).drop (min cut (M - 1))) 0 2)
def manyOk (M cut : Nat) : Bool := okLeast ((manyT.take M).take (max 1 cut)) 3 && (okRest ((manyT.take M).drop (min cut (M - 1))) 0 2 &&
  (((manyT.take M).map Prod.fst).all (fun x => decide (x ∈ (manyF M cut).terms.map Prod.fst)) && (((manyF M cut).terms.map Prod.fst).all (fun x => decide (x ∈ (manyT.take M).map Prod.fst)) &&
  (decide ((manyT.take M).map Prod.fst).Nodup && decide (((manyT.take M).map Prod.fst).Pairwise fun x y => x.cps.toList ≤ y.cps.toList)))))
theorem many_ok : ∀ M ∈ [7, 8, 9, 10], ∀ cut ∈ List.range (M + 1), manyOk M cut = true := by decide +kernel
theorem many_isF {M cut : Nat} (h7 : 7 ≤ M) (h10 : M ≤ 10) (hc : cut ≤ M) : (manyF M cut).isF = decide ((M : Int) ≤ 8) := by
  have ok := many_ok M (by simp; omega) cut (List.mem_range.mpr (by omega))
  unfold manyOk at ok
  simp only [Bool.and_eq_true, List.all_eq_true, decide_eq_true_eq] at ok
  obtain ⟨o1, o2, o3, o4, o5, o6⟩ := ok
  have v : VarsOf (manyF M cut) ((manyT.take M).map Prod.fst) := ⟨o5, fun x => ⟨o3 x, o4 x⟩, o6⟩
  unfold Fm.isF
  rw [v.few]
  have s : (manyF M cut).sound 8 = true := by
    show (okLeast ((manyT.take M).take (max 1 cut)) 3 && okRest ((manyT.take M).drop (min cut (M - 1))) 0 2) = true
    rw [o1, o2]
    rfl
  rw [s, Bool.true_and, List.length_map, List.length_take, show manyT.length = 10 from rfl, Nat.min_eq_left h10]
  exact decide_eq_decide.mpr (by omega)
end Vf

namespace Vf
open PySem PySem.Spec PyProof.Rows L2
/-! ### several except clauses, some with a name -/
/-- what the clauses wish of an exception of the body, one after the other; some i: the name is slot i's -/
def wMas (K : PySem.W.Frag) (Wout : WX) (D : Ends) : List (Value × Option Nat × (Addr → Value → Option Addr → TS)) → WX
  | [] => Wout
  | (c, none, ts) :: r => fun cls d σ H => ∃ b, PySem.W.exmOne K cls c = some b ∧ (b = true → ∀ a, H a = none → ts a cls d D σ H) ∧ (b = false → wMas K Wout D r cls d σ H)
  | (c, some i, ts) :: r => fun cls d σ H => ∃ b, PySem.W.exmOne K cls c = some b ∧ (b = true → ∀ a, H a = none → ts a cls d { nx := fun σ' H' => D.nx (σ'.set i none) H', rt := D.rt, bk := fun σ' H' => D.bk (σ'.set i none) H', ct := fun σ' H' => D.ct (σ'.set i none) H' } (σ.set i (some (.ref a))) H) ∧ (b = false → wMas K Wout D r cls d σ H)
inductive HdsAs (X : Cx) : List ExceptHandler → List (Value × Option Nat × (Addr → Value → Option Addr → TS)) → Prop
  | nil : HdsAs X [] []
  | cons {x : Str} {c : Value} {ts : Addr → Value → Option Addr → TS} {b₀ : Stmt} {suite : List Stmt} {np pos' : Pos} {hds : List ExceptHandler} {l : List (Value × Option Nat × (Addr → Value → Option Addr → TS))} (hc : Names X x c)
      (hsu : ∀ (a : Addr) (oe : Obj) (cls : Value) (d : Option Addr) (pn : List (Addr × Obj)), Zc cls d oe → (∃ vs, oe.data = .fields vs) → PSs (X.suite a ((a, oe) :: pn)) (b₀ :: suite) (ts a cls d)) (r : HdsAs X hds l) :
      HdsAs X (.ExceptHandler (some (.Name x np)) none (b₀ :: suite) pos' :: hds) ((c, none, ts) :: l)
  | consA {x n : Str} {i : Nat} {c : Value} {ts : Addr → Value → Option Addr → TS} {b₀ : Stmt} {suite : List Stmt} {np pos' : Pos} {hds : List ExceptHandler} {l : List (Value × Option Nat × (Addr → Value → Option Addr → TS))} (hi : X.N[i]? = some n) (hln : X.env.kindOf n = some .local) (hc : Names X x c)
      (hsu : ∀ (a : Addr) (oe : Obj) (cls : Value) (d : Option Addr) (pn : List (Addr × Obj)), Zc cls d oe → (∃ vs, oe.data = .fields vs) → PSs (X.suite a ((a, oe) :: pn)) (b₀ :: suite) (ts a cls d)) (r : HdsAs X hds l) :
      HdsAs X (.ExceptHandler (some (.Name x np)) (some n) (b₀ :: suite) pos' :: hds) ((c, some i, ts) :: l)
section
variable {X : Cx} {body : List Stmt} {h₀ : ExceptHandler} {hds : List ExceptHandler} {l : List (Value × Option Nat × (Addr → Value → Option Addr → TS))} {pos : Pos} {tb : WX → TS} {Wout : WX}
theorem ps_try_mas (hs : X.stack = X.env :: X.outer) (hf : X.env.frame = some X.env.locals) (hN : X.N.Nodup) (tk : Takes X Wout)
    (hb : ∀ (W : WX) (pn : List (Addr × Obj)) (xe : Value → Shared → Prop), Takes (X.tr pn xe) W → PassesOwn (model X.prog X.w) X.A X.env xe → PSs (X.tr pn xe) body (tb W))
    (hh : HdsAs X (h₀ :: hds) l) : PS X (.Try body (h₀ :: hds) [] [] pos) (fun D σ H => tb (wMas X.K Wout D l) D σ H) := by
  refine ⟨fun pins s σ H D I h => ?_⟩
  have ok := I.ok
  have hfr : X.A.frames = some (X.env :: X.outer) := by rw [ok.frames, hs]
  refine wpAny_Try_except ?_
  refine wpAny_mono ((hb (wMas X.K Wout D l) (X.pn ++ pins) (fun e s₁ => wpAny (model X.prog X.w) X.A (noteFrame e X.env) (fun _ s₂ => wpAny (model X.prog X.w) X.A (setFlight e none) (fun _ s₃ =>
    wpAny (model X.prog X.w) X.A (handleBy e X.env (h₀ :: hds)) (SP X pins D) X.xe s₃) X.xe s₂) X.xe s₁) (fun u s' xx => ?_) PassesOwn.looking).run [] s σ H D (I.toTry _) h) (fun f s1 hsp => ?_) (fun e s1 he => he)
  · -- the catch
    obtain ⟨a, B, sI, pins', σ', H', cls, d, rfl, J', nb, up, sky, na, os, ag, w⟩ := xx
    have J : Inv X pins σ' H' sI := J'.ofTry ok
    have sky' : Sky B (X.env :: X.outer) a (Zc cls d) X.env.locals s'.heap := by rw [← hs]; exact sky
    show wpAny (model X.prog X.w) X.A (noteFrame (.ref a) X.env) _ _ _
    refine Sky.land Zc.steady hfr hf sky' fun h3 fl3 up3 => ?_
    have J3 : Inv X pins σ' H' { s' with heap := h3 } := J.landed nb fl3.1 (up.trans up3) os ag
    obtain ⟨oe3, vs3, he3, hz3, hd3⟩ := fl3.there
    have notFr : ∀ {h : Heap} {o : Obj} {vs : Array Value}, h.FunFrames B (X.env :: X.outer) → h.get? a = some o → o.data = .fields vs → a ∉ frs (X.env :: X.outer) := fun {h o vs} ff e dd hm => by
      obtain ⟨_, o', e', hnf⟩ := ff.mem hm
      rw [e] at e'; cases e'
      exact hnf _ dd
    have nfr := notFr fl3.2.2.1 he3 hd3
    have nL : a ≠ X.env.locals := fun z => nfr (List.mem_filterMap.mpr ⟨X.env, List.mem_cons_self, by rw [hf, z]⟩)
    have nF : a ∉ X.fs := fun hm => by
      obtain ⟨e, he, q⟩ := List.mem_filterMap.mp hm
      exact nfr (List.mem_filterMap.mpr ⟨e, List.mem_cons_of_mem _ he, q⟩)
    have S3 := J3.suite he3 hd3 na nL nF
    have LT : PySem.W.Looks (model X.prog X.w) h3 (typeOf (.ref a)) cls := fun A Q E s k q => wpAny_typeOf_ref (k _ _ he3) (by rw [hz3.1]; exact q)
    have test : ∀ {x : Str} {c : Value} {np : Pos} {Q : Value → Shared → Prop} {E : Value → Shared → Prop}, Names X x c → Q c { s' with heap := h3 } → wpAny (model X.prog X.w) (X.A.mark (some (.ref a))) (eval (.Name x np) X.env) Q E { s' with heap := h3 } := fun {x c np Q E} hc q => by
      obtain ⟨hg, hdbg, hm | ⟨hm, hv, hnn⟩⟩ := hc
      · exact ld_glob (X := X.suite a ((a, oe3) :: (X.pn ++ pins))) S3 hg hm q hdbg
      · exact ld_blt (X := X.suite a ((a, oe3) :: (X.pn ++ pins))) S3 hg hm hv q hnn hdbg
    have go : ∀ {hds' : List ExceptHandler} {l' : List (Value × Option Nat × (Addr → Value → Option Addr → TS))}, HdsAs X hds' l' → wMas X.K Wout D l' cls d σ' H' →
        wpAny (model X.prog X.w) X.A (handleBy (.ref a) X.env hds') (SP X pins D) X.xe { s' with heap := h3 } := by
      intro hds' l' hk
      induction hk with
      | nil =>
        intro w
        refine wpAny_handleBy_nil ?_
        obtain ⟨k1, k2, k3, oe, vs, T, oT, ts', he, hz, hd, h1, hr⟩ := id fl3
        unfold PySem.passOn
        refine wpAny_bind (wpAny_field he hd h1 ?_)
        rw [if_neg (show ¬ ((Value.ref T == Value.none) = true) from by simp)]
        have fin : wpAny (model X.prog X.w) X.A (setFlight (.ref a) X.env.frame) (fun _ s4 => wpAny (model X.prog X.w) X.A (throw (.ref a) : Sem Flow) (SP X pins D) X.xe s4) X.xe { s' with heap := h3 } := by
          rw [hf]
          refine HandSPX.setFlight_upZ fl3 fun h4 hh4 up4 => wpAny_throw (tk _ _ ?_)
          exact ⟨a, B, sI, pins, σ', H', cls, d, rfl, J, nb, (up.trans up3).trans up4, .inr (.inr (by rw [hs]; exact hh4)), na, os, ag, w⟩
        first
          | exact wpAny_bind (wpAny_pure (wpAny_bind fin))
          | exact wpAny_bind fin
      | @cons x c ts b₀ suite np pos' hds2 l2 hc hsu r ih =>
        intro w
        obtain ⟨b, hb1, hyes, hno⟩ := w
        refine wpAny_handleBy_cons (codeAny_handlers_test ?_) (by intro q; cases q)
        have LM := PySem.W.exm_one (M := model X.prog X.w) (J3.kIn) LT hb1
        refine test hc (LM.here ?_)
        cases b with
        | true =>
          refine codeAny_handlers_suite ?_
          refine HandSPX.lands_againZ fl3 fun h4 fl4 up4 => ?_
          have J4 : Inv X pins σ' H' { s' with heap := h4 } := J.landed nb fl4.1 ((up.trans up3).trans up4) os ag
          obtain ⟨oe4, vs4, he4, hz4, hd4⟩ := fl4.there
          have S4 := J4.suite he4 hd4 na nL nF
          refine wpAny_mono ((hsu a oe4 cls d (X.pn ++ pins) hz4 ⟨_, hd4⟩).run [] _ _ H' _ S4 (hyes rfl a na)) (fun f s6 hsp => ?_) (fun _ _ z => False.elim z)
          cases f with
          | next =>
            obtain ⟨σ6, H6, S6, q6⟩ := hsp
            exact ⟨_, _, S6.unsuite ok, q6⟩
          | brk =>
            obtain ⟨σ6, H6, S6, q6⟩ := hsp
            exact ⟨_, _, S6.unsuite ok, q6⟩
          | cont =>
            obtain ⟨σ6, H6, S6, q6⟩ := hsp
            exact ⟨_, _, S6.unsuite ok, q6⟩
          | ret u =>
            obtain ⟨v6, σ6, H6, S6, r6, q6⟩ := hsp
            exact ⟨_, _, _, S6.unsuite ok, r6, q6⟩
        | false =>
          show wpAny _ X.A (handleBy (.ref a) X.env hds2) _ _ _
          exact ih (hno rfl)
      | @consA x n i c ts b₀ suite np pos' hds2 l2 hi hln hc hsu r ih =>
        intro w
        obtain ⟨b, hb1, hyes, hno⟩ := w
        have hloc : Loc X.env.scope n := .inl hln
        refine wpAny_handleBy_cons (codeAny_handlers_test ?_) (by intro q; cases q)
        have LM := PySem.W.exm_one (M := model X.prog X.w) (J3.kIn) LT hb1
        refine test hc (LM.here ?_)
        cases b with
        | true =>
          refine codeAny_handlers_suite_as ?_
          refine HandSPX.lands_againZ fl3 fun h4 fl4 up4 => ?_
          have J4 : Inv X pins σ' H' { s' with heap := h4 } := J.landed nb fl4.1 ((up.trans up3).trans up4) os ag
          obtain ⟨oe4, vs4, he4, hz4, hd4⟩ := fl4.there
          have S4 := J4.suite he4 hd4 na nL nF
          refine store_ok (X := X.suite a ((a, oe4) :: (X.pn ++ pins))) (v := .ref a) S4 hN hi hloc rfl (fun s5 S5 => ?_) (.inr hln)
          refine wpAny_mono ((hsu a oe4 cls d (X.pn ++ pins) hz4 ⟨_, hd4⟩).run [] s5 _ H' _ S5 (hyes rfl a na)) (fun f s6 hsp => ?_) (fun _ _ z => False.elim z)
          have end_ : ∀ {σ6 : L2.St} {H6 : Hp} {Q : Shared → Prop}, Inv (X.suite a ((a, oe4) :: (X.pn ++ pins))) [] σ6 H6 s6 → (∀ s7, Inv X pins (σ6.set i none) H6 s7 → Q s7) →
              wpAny (model X.prog X.w) X.A (do bindName X.env n .none; unbindBehindTheSuite X.env n pos') (fun _ s7 => Q s7) X.xe s6 := fun {σ6 H6 Q} S6 hq => gone_ok (S6.unsuite ok) hN hi hln hq
          cases f with
          | next =>
            obtain ⟨σ6, H6, S6, q6⟩ := hsp
            exact end_ S6 fun s7 J7 => ⟨_, _, J7, q6⟩
          | brk =>
            obtain ⟨σ6, H6, S6, q6⟩ := hsp
            exact end_ S6 fun s7 J7 => ⟨_, _, J7, q6⟩
          | cont =>
            obtain ⟨σ6, H6, S6, q6⟩ := hsp
            exact end_ S6 fun s7 J7 => ⟨_, _, J7, q6⟩
          | ret u =>
            obtain ⟨v6, σ6, H6, S6, r6, q6⟩ := hsp
            exact end_ S6 fun s7 J7 => ⟨_, _, _, J7, r6, q6⟩
        | false =>
          show wpAny _ X.A (handleBy (.ref a) X.env hds2) _ _ _
          exact ih (hno rfl)
    exact go hh w
  · cases f with
    | next =>
      obtain ⟨σ', H', J', q⟩ := hsp
      exact wpAny_execs_nil ⟨σ', H', J'.ofTry ok, q⟩
    | brk =>
      obtain ⟨σ', H', J', q⟩ := hsp
      exact ⟨σ', H', J'.ofTry ok, q⟩
    | cont =>
      obtain ⟨σ', H', J', q⟩ := hsp
      exact ⟨σ', H', J'.ofTry ok, q⟩
    | ret u =>
      obtain ⟨v, σ', H', J', r, q⟩ := hsp
      exact ⟨v, σ', H', J'.ofTry ok, r, q⟩
end
section
variable {X : Cx} {CX : CXT} {k : Nat} {f : Addr} {fd : FuncData} {ps ks : List Str} {sp : Sp} {E : L2.St → XK} {x : Str} {p pos : Pos} {e : Expr} {es : List Expr} {kws : List Keyword} {t tk : TA} {g : List Value → List Value → List Value} {gV : List V → List V → List V}
/-- a call by keyword, the wish of exceptions may look at the slots -/
def tCallKS (sp : Sp) (gV : List V → List V → List V) (E : L2.St → XK) (t tk : TA) : TE := fun σ H Q => t σ H fun vs H1 => tk σ H1 fun zs H2 => sp (gV vs zs) H2 Q (E σ)
theorem run_fnkS {pins : List (Addr × Obj)} {σ : L2.St} {H : Hp} {s : Shared} {Q : VK} {us ws : List Value} {vs zs : List V} (F : FnOk X.prog X.w X.K X.mg X.base CX k f fd ps sp) (hr : Room k X.A) (hb : KBinds X.K fd ps ks g gV) (hx : PassesAt CX X σ (E σ))
    (I : Inv X pins σ H s) (r : Vals vs us) (rz : Vals zs ws) (h : sp (gV vs zs) H Q (E σ)) : wpAny (model X.prog X.w) X.A (call (.ref f) us (ks.zip ws)) (EP X pins σ Q) X.xe s := by
  have r2 := hb.rel r rz
  have hl : (g us ws).length = ps.length := by rw [← r2.length]; exact F.len _ _ _ _ h
  refine wpAny_call (codeAny_mono (F.run X.A X.stack s H ⟨us, ks.zip ws⟩ (g us ws) (gV vs zs) Q (E σ) hr I.env0 (hb.to s us ws I.kIn hl) r2 h) fun r s' hq => ?_)
  cases r with
  | error e => exact hx pins H s e s' I hq
  | ok fl =>
    cases fl with
    | ret u => exact I.after hq
    | next => exact False.elim hq
    | brk => exact False.elim hq
    | cont => exact False.elim hq
theorem pe_callKS (F : FnOk X.prog X.w X.K X.mg X.base CX k f fd ps sp) (hr : Room k X.A) (hg : Gl X x) (hm : X.mg x = some (.ref f)) (hk : PySem.W.keepIn X.K (.ref f) = true) (hb : KBinds X.K fd ps ks g gV) (hx : ∀ σ, PassesAt CX X σ (E σ))
    (ha : PA X (e :: es) t) (hkw : PK X kws tk) (hall : (backToKw pos (keywordEach kws X.env)).all (·.1.isSome) = true := by rfl) (hks : (backToKw pos (keywordEach kws X.env)).filterMap (·.1) = ks := by rfl)
    (hdb : (x == ("__debug__" : Str)) = false := by decide) (he : starEach (e :: es) X.env = (false, eval e X.env) :: starEach es X.env := by rfl)
    (hpl : ((backTo pos (starEach (e :: es) X.env)).any (·.1) || (backToKw pos (keywordEach kws X.env)).any (·.1.isNone)) = false := by rfl) :
    PE X (.Call (.Name x p) (e :: es) kws pos) (tCallKS sp gV E t tk) := by
  refine ⟨fun pins s σ H Q I h => ?_⟩
  refine wpAny_Call_Name_kw (ld_glob I hg hm ?_ hdb)
  refine PySem.W.callWith_KW (h₀ := X.base) I.ok.mod.kin hk hall (thn (ha.run pos pins s σ H _ I h) fun us s1 ⟨vs, H1, I1, r, q⟩ => ?_) hpl he
  refine thn (hkw.run pos pins s1 σ H1 _ I1 q) fun ws s2 ⟨zs, H2, I2, rz, q2⟩ => ⟨I2.kIn, ?_⟩
  rw [hks]
  exact run_fnkS F hr hb (hx σ) I2 r rz q2
end
end Vf

namespace Vf
open PySem L2
/-! ### counts of names, and answers of formulas -/
theorem valV_drop (k j : Key) : ∀ kvs : List (Key × V), valV (dropK kvs k) j = if j = k then none else valV kvs j
  | [] => by
    show valV [] j = _
    rw [valV_nil]
    split <;> rfl
  | p :: r => by
    have ih := valV_drop k j r
    unfold dropK at ih ⊢
    rw [List.filter_cons]
    by_cases e : p.1 = k
    · rw [decide_eq_false (by simpa using e), if_neg (by decide), ih]
      by_cases jk : j = k
      · rw [if_pos jk, if_pos jk]
      · rw [if_neg jk, if_neg jk, valV_neg (by rw [e]; exact fun h => jk h.symm)]
    · rw [decide_eq_true (by simpa using e), if_pos rfl]
      by_cases pj : p.1 = j
      · rw [valV_pos pj, valV_pos pj, if_neg (by rw [← pj]; exact e)]
      · rw [valV_neg pj, valV_neg pj, ih]
/-- a dict with these counts -/
def CntAt (H : Hp) (a : Addr) (c : Str → Option Int) : Prop := ∃ kvs : List (Key × V), H a = some (.dK kvs) ∧ kvs.length ≤ 1000 ∧ ∀ x : Str, valV kvs (Sum.inr x) = (c x).map V.int
theorem CntAt.same {H H' : Hp} {a : Addr} {c : Str → Option Int} (h : CntAt H a c) (s : Same H H') : CntAt H' a c := by
  obtain ⟨kvs, h1, h2, h3⟩ := h
  exact ⟨kvs, s _ _ h1, h2, h3⟩
theorem CntAt.get {H : Hp} {a : Addr} {c : Str → Option Int} (h : CntAt H a c) (x : Str) : DGet H a (.str x) ((c x).map V.int) := by
  obtain ⟨kvs, h1, h2, h3⟩ := h
  rw [← h3 x]
  exact DGet.k (k := Sum.inr x) h1
def cv (c : Str → Option Int) (x : Str) : Int := (c x).getD 0
def totC (ts : List (Str × Int)) (c : Str → Option Int) : Int := (ts.map fun p => p.2 * cv c p.1).sum
def Fm.holds (c : Str → Option Int) : Fm → Bool
  | .tt b => b
  | .least ts b => decide (b ≤ totC ts c)
  | .rest ts r m => decide (totC ts c % m = r)
  | .no f => !f.holds c
  | .two true f g => f.holds c && g.holds c
  | .two false f g => f.holds c || g.holds c
/-- all names of a formula have a count -/
def Fm.full (c : Str → Option Int) (f : Fm) : Prop := ∀ p ∈ f.terms, ∃ z, c p.1 = some z
theorem okTerms_bd {ts : List (Str × Int)} (h : okTerms ts (-20) 20 = true) : ∀ p ∈ ts, -20 ≤ p.2 ∧ p.2 ≤ 20 := fun p hp => by
  unfold okTerms at h
  rw [Bool.and_eq_true, Bool.and_eq_true, Bool.and_eq_true] at h
  have := List.all_eq_true.mp h.2.2.2 p hp
  have := of_decide_eq_true this
  exact this.2
theorem okRest_md {ts : List (Str × Int)} {r m : Int} (h : okRest ts r m = true) : 2 ≤ m ∧ m ≤ 20 ∧ 0 ≤ r ∧ r < m := by
  unfold okRest at h
  rw [Bool.and_eq_true, decide_eq_true_eq] at h
  exact ⟨h.2.1.1, h.2.1.2, h.2.2⟩
theorem okRest_ts {ts : List (Str × Int)} {r m : Int} (h : okRest ts r m = true) : okTerms ts (-20) 20 = true := by
  unfold okRest at h
  rw [Bool.and_eq_true] at h
  exact h.1
theorem okLeast_ts {ts : List (Str × Int)} {b : Int} (h : okLeast ts b = true) : okTerms ts (-20) 20 = true := by
  unfold okLeast at h
  rw [Bool.and_eq_true] at h
  exact h.1
/-- the first of these names without a count -/
def gone (c : Str → Option Int) : List Str → Option Str
  | [] => none
  | x :: r => match c x with
    | none => some x
    | some _ => gone c r
theorem gone_none {c : Str → Option Int} : ∀ {ls : List Str}, gone c ls = none ↔ ∀ x ∈ ls, ∃ z, c x = some z
  | [] => ⟨fun _ x h => (nomatch h), fun _ => rfl⟩
  | x :: r => by
    cases e : c x with
    | none =>
      have : gone c (x :: r) = some x := by unfold gone; rw [e]
      rw [this]
      exact ⟨fun h => (nomatch h), fun h => by obtain ⟨z, hz⟩ := h x (by simp); rw [e] at hz; cases hz⟩
    | some z =>
      have : gone c (x :: r) = gone c r := by conv => lhs; unfold gone; rw [e]
      rw [this, gone_none]
      constructor
      · intro h y hy
        rcases List.mem_cons.mp hy with rfl | hy
        · exact ⟨z, e⟩
        · exact h y hy
      · exact fun h y hy => h y (by simp [hy])
theorem gone_step {c : Str → Option Int} {ls : List Str} {k : Nat} {x : Str} (h : ls[k]? = some x) : gone c (ls.drop k) = match c x with | none => some x | some _ => gone c (ls.drop (k + 1)) := by
  have hi := (List.getElem?_eq_some_iff.mp h).1
  rw [List.drop_eq_getElem_cons hi, (List.getElem?_eq_some_iff.mp h).2]
  rfl
end Vf
namespace Vf
open PySem L2
def vars4 : List Str := ["x", "y", "z1", "b"]
end Vf
namespace Vf
open PySem L2
/-! ### the drawn relations -/
structure FdAt (kvs : List (Key × V)) (ks : List Str) : Prop where
  ke : kvs.map (·.1) = ks.map Sum.inr
  nd : ks.Nodup
  ok : ∀ x ∈ ks, x ∈ vars4 ∧ ∃ z : Int, valV kvs (Sum.inr x) = some (.int z) ∧ z ≠ 0 ∧ -20 ≤ z ∧ z ≤ 20
theorem FdAt.nil : FdAt [] [] := ⟨rfl, List.nodup_nil, fun _ h => (nomatch h)⟩
theorem FdAt.put {kvs : List (Key × V)} {ks : List Str} (h : FdAt kvs ks) {x : Str} {z : Int} (hx : x ∈ vars4) (h0 : z ≠ 0) (h1 : -20 ≤ z) (h2 : z ≤ 20) :
    ∃ ks', FdAt (putK kvs (Sum.inr x) (.int z)) ks' ∧ ks'.length ≤ ks.length + 1 ∧ ks' ≠ [] := by
  have new : ∀ y, (y = x ∨ y ∈ ks) → y ∈ vars4 ∧ ∃ w : Int, valV (putK kvs (Sum.inr x) (.int z)) (Sum.inr y) = some (.int w) ∧ w ≠ 0 ∧ -20 ≤ w ∧ w ≤ 20 := fun y hy => by
    rw [valV_put]
    by_cases e : y = x
    · rw [if_pos (by rw [e]), e]
      exact ⟨hx, z, rfl, h0, h1, h2⟩
    · rw [if_neg (fun i => e (Sum.inr.inj i))]
      exact h.ok y (hy.resolve_left e)
  by_cases m : x ∈ ks
  · refine ⟨ks, ⟨?_, h.nd, fun y hy => new y (.inr hy)⟩, by omega, fun e => by rw [e] at m; cases m⟩
    have a : (kvs.any fun kv => decide (kv.1 = (Sum.inr x : Key))) = true := by
      have k : (Sum.inr x : Key) ∈ kvs.map (·.1) := by
        rw [h.ke]
        exact List.mem_map.mpr ⟨x, m, rfl⟩
      obtain ⟨p, hp, e⟩ := List.mem_map.mp k
      exact List.any_eq_true.mpr ⟨p, hp, decide_eq_true e⟩
    unfold putK
    rw [if_pos a, List.map_map, ← h.ke]
    refine List.map_congr_left fun p _ => ?_
    show (if p.1 = Sum.inr x then (p.1, V.int z) else p).1 = p.1
    split <;> rfl
  · have vn : valV kvs (Sum.inr x : Key) = none := valV_none (by
      show _ ∉ kvs.map (·.1)
      rw [h.ke]
      intro k
      obtain ⟨y, hy, e⟩ := List.mem_map.mp k
      rw [Sum.inr.inj e] at hy
      exact m hy)
    refine ⟨ks ++ [x], ⟨?_, ?_, fun y hy => new y ?_⟩, by simp, by simp⟩
    · rw [putK_new _ vn, List.map_append, List.map_append, h.ke]
      rfl
    · rw [List.nodup_append]
      refine ⟨h.nd, by simp, fun a ha b hb e => ?_⟩
      rw [List.mem_singleton.mp hb] at e
      rw [e] at ha
      exact m ha
    · rcases List.mem_append.mp hy with k | k
      · exact .inr k
      · exact .inl (List.mem_singleton.mp k)
def facOf (kvs : List (Key × V)) (x : Str) : Int := match valV kvs (Sum.inr x) with
  | some (.int z) => z
  | _ => 0
theorem FdAt.fac {kvs : List (Key × V)} {ks : List Str} (h : FdAt kvs ks) {x : Str} (hx : x ∈ ks) : valV kvs (Sum.inr x) = some (.int (facOf kvs x)) ∧ facOf kvs x ≠ 0 ∧ -20 ≤ facOf kvs x ∧ facOf kvs x ≤ 20 := by
  obtain ⟨_, z, e, b⟩ := h.ok x hx
  have : facOf kvs x = z := by unfold facOf; rw [e]
  rw [this]
  exact ⟨e, b⟩
def termsOf (kvs : List (Key × V)) (ls : List Str) : List (Str × Int) := ls.map fun x => (x, facOf kvs x)
theorem vars4_ok : ∀ x ∈ vars4, isVar x = true := by decide
theorem FdAt.terms {kvs : List (Key × V)} {ks ls : List Str} (h : FdAt kvs ks) (ne : ks ≠ []) (pm : ls.Perm ks) (pw : ls.Pairwise fun x y => x.cps.toList ≤ y.cps.toList) : okTerms (termsOf kvs ls) (-20) 20 = true := by
  have e : (termsOf kvs ls).map Prod.fst = ls := by
    unfold termsOf
    rw [List.map_map]
    exact List.map_id _
  unfold okTerms
  rw [Bool.and_eq_true, Bool.and_eq_true, Bool.and_eq_true, e, decide_eq_true_eq]
  refine ⟨?_, List.all_eq_true.mpr fun p hp => ?_, decide_eq_true ?_, List.all_eq_true.mpr fun p hp => ?_⟩
  · unfold termsOf
    rw [List.length_map, pm.length_eq]
    exact List.length_pos_iff.mpr ne
  · obtain ⟨x, hx, rfl⟩ := List.mem_map.mp hp
    exact vars4_ok x (h.ok x (pm.mem_iff.mp hx)).1
  · have nd : ls.Nodup := pm.nodup_iff.mpr h.nd
    refine (pw.and nd).imp fun {x y} hh => ?_
    by_cases l : x.cps.toList < y.cps.toList
    · exact l
    · refine absurd ?_ hh.2
      have l2 := List.le_antisymm hh.1 (List.not_lt.mp l)
      obtain ⟨cx⟩ := x
      obtain ⟨cy⟩ := y
      have e2 : cx = cy := Array.toList_inj.mp l2
      rw [e2]
  · obtain ⟨x, hx, rfl⟩ := List.mem_map.mp hp
    exact decide_eq_true (h.fac (pm.mem_iff.mp hx)).2
end Vf
namespace Vf
open PySem L2
/-- a list that the pool's changes leave -/
def Sq1 (K : PySem.W.Frag) (p : Addr) (H : Hp) (a : Addr) (xs : List V) : Prop := SqL K H a xs ∧ (a = p → ∀ H', SqL K H' a xs)
theorem Sq1.of {K : PySem.W.Frag} {p a : Addr} {H : Hp} {xs : List V} (h : SqL K H a xs) (n : H p = none) : Sq1 K p H a xs := ⟨h, fun e H' => by
  rcases h with (h | ⟨o, h⟩) | h
  · rw [e, n] at h; cases h
  · rw [e, n] at h; cases h
  · exact .inr h⟩
theorem Sq1.keep {K : PySem.W.Frag} {p a : Addr} {H H' : Hp} {xs : List V} (h : Sq1 K p H a xs) (k : Keep [p] H H') : Sq1 K p H' a xs := ⟨by
  by_cases e : a = p
  · exact h.2 e H'
  · have ne : a ∉ [p] := fun m => e (List.mem_singleton.mp m)
    rcases h.1 with (g | ⟨o, g⟩) | g
    · exact .inl (.inl (k _ _ ne g))
    · exact .inl (.inr ⟨o, k _ _ ne g⟩)
    · exact .inr g, h.2⟩
end Vf
namespace Vf
open PySem L2
theorem FmAt.tups {H H' : Hp} (tp : ∀ a xs, H a = some (.tup xs) → H' a = some (.tup xs)) : ∀ {f : Fm} {v : V}, FmAt H f v → FmAt H' f v := by
  have tq : ∀ {xs : List V} {ts : List (Str × Int)}, Tups encSI H xs ts → Tups encSI H' xs ts := fun {xs ts} tt => ⟨tt.1, fun i a e => by
    obtain ⟨t, h1, h2⟩ := tt.2 i a e
    exact ⟨t, h1, tp _ _ h2⟩⟩
  intro f
  induction f with
  | tt b => rintro v ⟨a, e, h⟩; exact ⟨a, e, tp _ _ h⟩
  | least ts b => rintro v ⟨a, t, xs, e, h, g, tt⟩; exact ⟨a, t, xs, e, tp _ _ h, tp _ _ g, tq tt⟩
  | rest ts r m => rintro v ⟨a, t, xs, e, h, g, tt⟩; exact ⟨a, t, xs, e, tp _ _ h, tp _ _ g, tq tt⟩
  | no f ih => rintro v ⟨a, x, e, h, g⟩; exact ⟨a, x, e, tp _ _ h, ih g⟩
  | two o f g ih1 ih2 => rintro v ⟨a, x, y, e, h, g1, g2⟩; exact ⟨a, x, y, e, tp _ _ h, ih1 g1, ih2 g2⟩
/-- counts in a dict with at most m entries -/
def CntN (H : Hp) (a : Addr) (c : Str → Option Int) (m : Nat) : Prop := ∃ kvs : List (Key × V), H a = some (.dK kvs) ∧ kvs.length ≤ m ∧ ∀ x : Str, valV kvs (Sum.inr x) = (c x).map V.int
theorem CntN.at {H : Hp} {a : Addr} {c : Str → Option Int} {m : Nat} (h : CntN H a c m) (hm : m ≤ 1000) : CntAt H a c := by
  obtain ⟨kvs, h1, h2, h3⟩ := h
  exact ⟨kvs, h1, Nat.le_trans h2 hm, h3⟩
/-- where the law stands -/
structure RunF (K : PySem.W.Frag) (H : Hp) (pl dr a cd : Addr) (ds : List Int) (xs : List V) (f : Fm) (v : V) (c : Str → Option Int) (m : Nat) (n : Int) : Prop where
  P : PoolX H pl dr ds n
  S : Sq1 K pl H a xs
  F : FmAt H f v
  C : CntN H cd c m
section
variable {K : PySem.W.Frag} {H H' : Hp} {pl dr a cd : Addr} {ds : List Int} {xs : List V} {f : Fm} {v : V} {c : Str → Option Int} {m : Nat} {n n' : Int}
theorem RunF.ncd (R : RunF K H pl dr a cd ds xs f v c m n) : cd ∉ [pl] := fun h => by
  obtain ⟨kvs, h1, _⟩ := R.C
  rw [List.mem_singleton.mp h, R.P.1] at h1
  cases h1
theorem RunF.keep (R : RunF K H pl dr a cd ds xs f v c m n) (k : Keep [pl] H H') (P' : PoolX H' pl dr ds n') : RunF K H' pl dr a cd ds xs f v c m n' := by
  refine ⟨P', R.S.keep k, R.F.keep1 R.P.1 k, ?_⟩
  have nc := R.ncd
  obtain ⟨kvs, h1, h2, h3⟩ := R.C
  exact ⟨kvs, k _ _ nc h1, h2, h3⟩
theorem RunF.same (R : RunF K H pl dr a cd ds xs f v c m n) (s : Same H H') : RunF K H' pl dr a cd ds xs f v c m n := R.keep (Keep.of s) (R.P.same s)
theorem RunF.chg (R : RunF K H pl dr a cd ds xs f v c m n) {kvs : List (Key × V)} {c' : Str → Option Int} {m' : Nat} (hl : kvs.length ≤ m') (hv : ∀ x : Str, valV kvs (Sum.inr x) = (c' x).map V.int) : RunF K (upd H cd (.dK kvs)) pl dr a cd ds xs f v c' m' n := by
  obtain ⟨kv0, h1, _⟩ := R.C
  have ne : ∀ {b : Addr} {o : HO}, H b = some o → (∀ z, o ≠ .dK z) → b ≠ cd := fun {b o} hb hn e => by
    rw [e, h1] at hb
    exact hn _ (Option.some.inj hb).symm
  have p1 : pl ≠ cd := ne R.P.1 fun z => by simp
  have p2 : dr ≠ cd := ne R.P.2.1 fun z => by simp
  refine ⟨⟨by rw [upd_ne p1]; exact R.P.1, by rw [upd_ne p2]; exact R.P.2.1, R.P.2.2⟩, ⟨?_, R.S.2⟩, R.F.tups fun b ys hb => ?_, kvs, upd_same, hl, hv⟩
  · rcases R.S.1 with (g | ⟨o, g⟩) | g
    · exact .inl (.inl (by rw [upd_ne (ne g fun z => by simp)]; exact g))
    · exact .inl (.inr ⟨o, by rw [upd_ne (ne g fun z => by simp)]; exact g⟩)
    · exact .inr g
  · rw [upd_ne (ne hb fun z => by simp)]
    exact hb
def setC (c : Str → Option Int) (x : Str) (o : Option Int) : Str → Option Int := fun y => if y = x then o else c y
theorem RunF.put (R : RunF K H pl dr a cd ds xs f v c m n) (hm : m ≤ 900) (x : Str) (z : Int) : ∃ kvs, DPut H cd (.str x) (.int z) (upd H cd (.dK kvs)) ∧ RunF K (upd H cd (.dK kvs)) pl dr a cd ds xs f v (setC c x (some z)) (m + 1) n := by
  have C0 := R.C
  obtain ⟨kvs, h1, h2, h3⟩ := C0
  refine ⟨_, DPut.k (k := Sum.inr x) h1 (Nat.lt_of_le_of_lt (Nat.le_trans h2 hm) (by decide)), R.chg (Nat.le_trans (length_putK ..) (by omega)) fun y => ?_⟩
  rw [valV_put]
  unfold setC
  by_cases e : y = x
  · rw [if_pos (by rw [e]), if_pos e]
    rfl
  · rw [if_neg (fun i => e (Sum.inr.inj i)), if_neg e]
    exact h3 y
theorem RunF.pop (R : RunF K H pl dr a cd ds xs f v c m n) {x : Str} (hx : ∃ z, c x = some z) : ∃ kvs k w, H cd = some (.dK kvs) ∧ V.str x = kV k ∧ valV kvs k = some w ∧ RunF K (upd H cd (.dK (dropK kvs k))) pl dr a cd ds xs f v (setC c x none) m n := by
  have C0 := R.C
  obtain ⟨kvs, h1, h2, h3⟩ := C0
  obtain ⟨z, hz⟩ := hx
  refine ⟨kvs, Sum.inr x, .int z, h1, rfl, by rw [h3, hz]; rfl, R.chg (Nat.le_trans (by unfold dropK; exact List.length_filter_le ..) h2) fun y => ?_⟩
  rw [valV_drop]
  unfold setC
  by_cases e : y = x
  · rw [if_pos (by rw [e]), if_pos e]
    rfl
  · rw [if_neg (fun i => e (Sum.inr.inj i)), if_neg e]
    exact h3 y
theorem RunF.cells (R : RunF K H pl dr a cd ds xs f v c m n) : ∃ kvs, H cd = some (.dK kvs) := by
  obtain ⟨kvs, h1, _⟩ := R.C
  exact ⟨kvs, h1⟩
end
/-- nothing but zz -/
def zzC : Str → Option Int := fun y => if y = "zz" then some (-3) else none
end Vf
namespace Vf
open PySem PySem.W L2
theorem gone_at {c : Str → Option Int} : ∀ {ls : List Str} {k : Nat} {x : Str}, ls[k]? = some x → c x = none → (∀ j < k, ∀ y, ls[j]? = some y → ∃ z, c y = some z) → gone c ls = some x
  | [], _, _, h, _, _ => by simp at h
  | y :: r, 0, x, h, e, _ => by
    have : y = x := by simpa using h
    unfold gone
    rw [this, e]
  | y :: r, k + 1, x, h, e, a => by
    obtain ⟨z, hz⟩ := a 0 (by omega) y rfl
    unfold gone
    rw [hz]
    exact gone_at (ls := r) (k := k) (by simpa using h) e fun j hj w hw => a (j + 1) (by omega) w (by simpa using hw)
theorem plS_list {ds : List PyData} (h : ∀ d ∈ ds, d.plain = true ∧ d.depth ≤ 60) : (PyData.list ds).plain = true ∧ (PyData.list ds).depth ≤ 64 := by
  have a : ∀ ds : List PyData, (∀ d ∈ ds, d.plain = true ∧ d.depth ≤ 60) → PyData.plainAll ds = true ∧ PyData.depthAll ds ≤ 60 := by
    intro ds
    induction ds with
    | nil => intro _; exact ⟨by simp only [PyData.plainAll], by simp only [PyData.depthAll]; omega⟩
    | cons x r ih =>
      intro h
      have h1 := h x (List.mem_cons_self ..)
      have h2 := ih fun d hd => h d (List.mem_cons_of_mem _ hd)
      refine ⟨by simp only [PyData.plainAll, h1.1, h2.1, Bool.and_self], ?_⟩
      simp only [PyData.depthAll]
      omega
  have := a ds h
  refine ⟨by simp only [PyData.plain]; exact this.1, ?_⟩
  simp only [PyData.depth]
  omega
theorem eqvS_nil (ds : List PyData) : PyData.eqv (.list ds) (.list []) = ds.isEmpty := by
  cases ds <;> simp [PyData.eqv, PyData.eqvAll]
theorem plS_str (l : List Str) : ∀ d ∈ l.map (Datum.toD (α := Str)), d.plain = true ∧ d.depth ≤ 60 := fun d hd => by
  obtain ⟨a, _, rfl⟩ := List.mem_map.mp hd
  exact ⟨Datum.plain a, Nat.le_trans (Datum.depth_le a) (by decide)⟩
theorem eqvS_two (x y : Str) : (!PyData.eqv (.tuple [.str x, .str y]) (.tuple [.str x, .str y])) = false := by simp [PyData.eqv, PyData.eqvAll]
theorem plS_two (x y : Str) : (PyData.tuple [.str x, .str y]).plain = true ∧ (PyData.tuple [.str x, .str y]).depth ≤ 64 := ⟨rfl, by simp [PyData.depth, PyData.depthAll]⟩
theorem RunF.len {K : PySem.W.Frag} {H : Hp} {pl dr a cd : Addr} {ds : List Int} {xs : List V} {f : Fm} {v : V} {c : Str → Option Int} {m : Nat} {n : Int} (R : RunF K H pl dr a cd ds xs f v c m n) {b : Addr} (hb : H b = none) : b ∉ [pl] ∧ b ≠ cd := by
  refine ⟨fun h => ?_, fun h => ?_⟩
  · rw [List.mem_singleton.mp h, R.P.1] at hb
    cases hb
  · obtain ⟨kv, hk⟩ := R.cells
    rw [h, hk] at hb
    cases hb
end Vf

namespace Vf
open PySem L2
theorem exm_other {K : PySem.W.Frag} {c d : Addr} (b : PySem.W.subIn K (.ref d) (.type "BaseException") = some true) (i : PySem.W.isClsIn K d = true) (t : PySem.W.typeIn K (.ref d) = some (.type "type")) (s : PySem.W.subIn K (.ref c) (.ref d) = some false) (ne : c ≠ d) :
    PySem.W.exmOne K (.ref c) (.ref d) = some false := by
  unfold PySem.W.isClsIn at i
  simp [PySem.W.exmOne, PySem.W.kitCls, b, i, t, s, ne]
end Vf

/-! ### formulas over tuples of the heap or of the module (TRUE, FALSE): for k80 to k83 -/
namespace Vf
open PySem L2
def FmK (K : PySem.W.Frag) (H : Hp) : Fm → V → Prop
  | .tt b, v => ∃ a, v = .ref a ∧ SqT K H a [.str (Fm.tt b).word]
  | .least ts b, v => ∃ a t xs, v = .ref a ∧ SqT K H a [.str "least", .ref t, .int b] ∧ H t = some (.tup xs) ∧ Tups encSI H xs ts
  | .rest ts r m, v => ∃ a t xs, v = .ref a ∧ SqT K H a [.str "rest", .ref t, .int r, .int m] ∧ H t = some (.tup xs) ∧ Tups encSI H xs ts
  | .no f, v => ∃ a x, v = .ref a ∧ SqT K H a [.str "not", x] ∧ FmK K H f x
  | .two o f g, v => ∃ a x y, v = .ref a ∧ SqT K H a [.str (Fm.two o f g).word, x, y] ∧ FmK K H f x ∧ FmK K H g y
theorem sqT_same {K : PySem.W.Frag} {H H' : Hp} {a : Addr} {xs : List V} (s : Same H H') (h : SqT K H a xs) : SqT K H' a xs := by
  rcases h with (h | ⟨o, h⟩) | h
  · exact .inl (.inl (s _ _ h))
  · exact .inl (.inr ⟨o, s _ _ h⟩)
  · exact .inr h
theorem FmK.same {K : PySem.W.Frag} {H H' : Hp} (s : Same H H') : ∀ {f : Fm} {v : V}, FmK K H f v → FmK K H' f v
  | .tt _, _, ⟨a, e, h⟩ => ⟨a, e, sqT_same s h⟩
  | .least .., _, ⟨a, t, xs, e, h, k, tt⟩ => ⟨a, t, xs, e, sqT_same s h, s _ _ k, tt.same s⟩
  | .rest .., _, ⟨a, t, xs, e, h, k, tt⟩ => ⟨a, t, xs, e, sqT_same s h, s _ _ k, tt.same s⟩
  | .no _, _, ⟨a, x, e, h, k⟩ => ⟨a, x, e, sqT_same s h, FmK.same s k⟩
  | .two .., _, ⟨a, x, y, e, h, k, l⟩ => ⟨a, x, y, e, sqT_same s h, FmK.same s k, FmK.same s l⟩
theorem FmAt.toK {K : PySem.W.Frag} {H : Hp} : ∀ {f : Fm} {v : V}, FmAt H f v → FmK K H f v
  | .tt _, _, ⟨a, e, h⟩ => ⟨a, e, SqT.of h⟩
  | .least .., _, ⟨a, t, xs, e, h, k, tt⟩ => ⟨a, t, xs, e, SqT.of h, k, tt⟩
  | .rest .., _, ⟨a, t, xs, e, h, k, tt⟩ => ⟨a, t, xs, e, SqT.of h, k, tt⟩
  | .no _, _, ⟨a, x, e, h, k⟩ => ⟨a, x, e, SqT.of h, FmAt.toK k⟩
  | .two .., _, ⟨a, x, y, e, h, k, l⟩ => ⟨a, x, y, e, SqT.of h, FmAt.toK k, FmAt.toK l⟩

theorem sqT_keep {K : PySem.W.Frag} {p : Addr} {ls : List V} {H H' : Hp} (hp : H p = some (.lst ls)) (k : Keep [p] H H') {a : Addr} {xs : List V} (h : SqT K H a xs) : SqT K H' a xs := by
  rcases h with (h | ⟨o, h⟩) | h
  · exact .inl (.inl (k a _ (fun m => by rw [List.mem_singleton.mp m, hp] at h; cases h) h))
  · exact .inl (.inr ⟨o, k a _ (fun m => by rw [List.mem_singleton.mp m, hp] at h; cases h) h⟩)
  · exact .inr h
def FmsK (K : PySem.W.Frag) (H : Hp) (xs : List V) (fs : List Fm) : Prop := xs.length = fs.length ∧ ∀ (i : Nat) (f : Fm), fs[i]? = some f → ∃ x, xs[i]? = some x ∧ FmK K H f x
theorem FmsK.same {K : PySem.W.Frag} {H H' : Hp} (s : Same H H') {xs : List V} {fs : List Fm} (h : FmsK K H xs fs) : FmsK K H' xs fs := ⟨h.1, fun i f e => by
  obtain ⟨x, e1, e2⟩ := h.2 i f e
  exact ⟨x, e1, e2.same s⟩⟩
theorem FmsK.get {K : PySem.W.Frag} {H : Hp} {xs : List V} {fs : List Fm} (h : FmsK K H xs fs) {i : Nat} {x : V} (e : xs[i]? = some x) : ∃ f, fs[i]? = some f ∧ FmK K H f x := by
  have hi := (List.getElem?_eq_some_iff.mp e).1
  have hi2 : i < fs.length := by rw [← h.1]; exact hi
  have hf : fs[i]? = some (fs[i]'hi2) := List.getElem?_eq_getElem hi2
  obtain ⟨y, e1, e2⟩ := h.2 i _ hf
  rw [e] at e1
  cases e1
  exact ⟨_, hf, e2⟩
theorem FmsK.one {K : PySem.W.Frag} {H : Hp} {f : Fm} {x : V} (h : FmK K H f x) : FmsK K H [x] [f] := ⟨rfl, fun i g e => by
  cases i with
  | zero => cases e; exact ⟨x, rfl, h⟩
  | succ i => simp at e⟩
theorem FmsK.pair {K : PySem.W.Frag} {H : Hp} {f g : Fm} {x y : V} (h : FmK K H f x) (k : FmK K H g y) : FmsK K H [x, y] [f, g] := ⟨rfl, fun i z e => by
  match i, e with
  | 0, e => cases e; exact ⟨x, rfl, h⟩
  | 1, e => cases e; exact ⟨y, rfl, k⟩
  | i + 2, e => simp at e⟩
theorem FmsK.snoc {K : PySem.W.Frag} {H : Hp} {xs : List V} {fs : List Fm} {g : Fm} {x : V} (h : FmsK K H xs fs) (G : FmK K H g x) : FmsK K H (xs ++ [x]) (fs ++ [g]) := by
  refine ⟨by rw [List.length_append, List.length_append, h.1]; rfl, fun i f e => ?_⟩
  by_cases c : i < fs.length
  · rw [List.getElem?_append_left c] at e
    obtain ⟨y, h1, h2⟩ := h.2 i f e
    exact ⟨y, by rw [List.getElem?_append_left (by rw [h.1]; exact c)]; exact h1, h2⟩
  · rw [List.getElem?_append_right (by omega)] at e
    have e0 : i - fs.length = 0 := by
      cases q : i - fs.length with
      | zero => rfl
      | succ k => rw [q] at e; simp at e
    rw [e0] at e
    cases e
    exact ⟨x, by rw [List.getElem?_append_right (by rw [h.1]; omega), h.1, e0]; rfl, G⟩
theorem FmK.head {K : PySem.W.Frag} {H : Hp} : ∀ {f : Fm} {v : V}, FmK K H f v → ∃ a xs, v = .ref a ∧ SqT K H a (.str f.word :: xs) ∧ xs.length ≤ 3 ∧ (f.word ∈ (["not", "and", "or"] : List Str) → FmsK K H xs f.parts ∧ xs ≠ [])
  | .tt b, _, ⟨a, e, h⟩ => ⟨a, _, e, h, by decide, fun m => absurd m (by cases b <;> decide)⟩
  | .least .., _, ⟨a, t, xs, e, h, k, tt⟩ => ⟨a, _, e, h, by show 2 ≤ 3; omega, fun m => absurd m (by show ("least" : Str) ∉ _; decide)⟩
  | .rest .., _, ⟨a, t, xs, e, h, k, tt⟩ => ⟨a, _, e, h, by show 3 ≤ 3; omega, fun m => absurd m (by show ("rest" : Str) ∉ _; decide)⟩
  | .no _, _, ⟨a, x, e, h, k⟩ => ⟨a, _, e, h, by show 1 ≤ 3; omega, fun _ => ⟨.one k, by simp⟩⟩
  | .two .., _, ⟨a, x, y, e, h, k, l⟩ => ⟨a, _, e, h, by show 2 ≤ 3; omega, fun _ => ⟨.pair k l, by simp⟩⟩
theorem FmK.leafT {K : PySem.W.Frag} {H : Hp} : ∀ {f : Fm} {v : V}, FmK K H f v → f.word ∈ (["least", "rest"] : List Str) → ∃ a t r xs, v = .ref a ∧ SqT K H a (.str f.word :: .ref t :: r) ∧ H t = some (.tup xs) ∧ Tups encSI H xs f.terms
  | .tt b, _, _, m => absurd m (by cases b <;> decide)
  | .least .., _, ⟨a, t, xs, e, h, k, tt⟩, _ => ⟨a, t, _, xs, e, h, k, tt⟩
  | .rest .., _, ⟨a, t, xs, e, h, k, tt⟩, _ => ⟨a, t, _, xs, e, h, k, tt⟩
  | .no _, _, _, m => absurd m (by show ("not" : Str) ∉ _; decide)
  | .two o _ _, _, _, m => absurd m (by
      cases o
      · show ("or" : Str) ∉ _; decide
      · show ("and" : Str) ∉ _; decide)
theorem FmK.isLeast {K : PySem.W.Frag} {H : Hp} : ∀ {f : Fm} {v : V}, FmK K H f v → f.word = "least" → ∃ a t xs ts b, f = .least ts b ∧ v = .ref a ∧ SqT K H a [.str "least", .ref t, .int b] ∧ H t = some (.tup xs) ∧ Tups encSI H xs ts
  | .tt b, _, _, m => absurd m (by cases b <;> decide)
  | .least .., _, ⟨a, t, xs, e, h, k, tt⟩, _ => ⟨a, t, xs, _, _, rfl, e, h, k, tt⟩
  | .rest .., _, _, m => absurd m (by show ("rest" : Str) ≠ _; decide)
  | .no _, _, _, m => absurd m (by show ("not" : Str) ≠ _; decide)
  | .two o _ _, _, _, m => absurd m (by
      cases o
      · show ("or" : Str) ≠ _; decide
      · show ("and" : Str) ≠ _; decide)
theorem FmK.isRest {K : PySem.W.Frag} {H : Hp} : ∀ {f : Fm} {v : V}, FmK K H f v → f.word = "rest" → ∃ a t xs ts r m, f = .rest ts r m ∧ v = .ref a ∧ SqT K H a [.str "rest", .ref t, .int r, .int m] ∧ H t = some (.tup xs) ∧ Tups encSI H xs ts
  | .tt b, _, _, m => absurd m (by cases b <;> decide)
  | .least .., _, _, m => absurd m (by show ("least" : Str) ≠ _; decide)
  | .rest .., _, ⟨a, t, xs, e, h, k, tt⟩, _ => ⟨a, t, xs, _, _, _, rfl, e, h, k, tt⟩
  | .no _, _, _, m => absurd m (by show ("not" : Str) ≠ _; decide)
  | .two o _ _, _, _, m => absurd m (by
      cases o
      · show ("or" : Str) ≠ _; decide
      · show ("and" : Str) ≠ _; decide)
theorem FmK.isNo {K : PySem.W.Frag} {H : Hp} : ∀ {f : Fm} {v : V}, FmK K H f v → f.word = "not" → ∃ a x g, f = .no g ∧ v = .ref a ∧ SqT K H a [.str "not", x] ∧ FmK K H g x
  | .tt b, _, _, m => absurd m (by cases b <;> decide)
  | .least .., _, _, m => absurd m (by show ("least" : Str) ≠ _; decide)
  | .rest .., _, _, m => absurd m (by show ("rest" : Str) ≠ _; decide)
  | .no _, _, ⟨a, x, e, h, k⟩, _ => ⟨a, x, _, rfl, e, h, k⟩
  | .two o _ _, _, _, m => absurd m (by
      cases o
      · show ("or" : Str) ≠ _; decide
      · show ("and" : Str) ≠ _; decide)
theorem FmK.isTwo {K : PySem.W.Frag} {H : Hp} : ∀ {f : Fm} {v : V}, FmK K H f v → f.word ∈ (["and", "or"] : List Str) → ∃ o a x y g k, f = .two o g k ∧ v = .ref a ∧ SqT K H a [.str f.word, x, y] ∧ FmK K H g x ∧ FmK K H k y
  | .tt b, _, _, m => absurd m (by cases b <;> decide)
  | .least .., _, _, m => absurd m (by show ("least" : Str) ∉ _; decide)
  | .rest .., _, _, m => absurd m (by show ("rest" : Str) ∉ _; decide)
  | .no _, _, _, m => absurd m (by show ("not" : Str) ∉ _; decide)
  | .two o _ _, _, ⟨a, x, y, e, h, k, l⟩, _ => ⟨o, a, x, y, _, _, rfl, e, h, k, l⟩
/-- a formula's value as data -/
def Fm.toD : Fm → PyData
  | .tt b => .tuple [.str (Fm.tt b).word]
  | .least ts b => .tuple [.str ("least" : Str), PySem.W.Datum.toD (⟨ts⟩ : PySem.W.Tup (Str × Int)), .int b]
  | .rest ts r m => .tuple [.str ("rest" : Str), PySem.W.Datum.toD (⟨ts⟩ : PySem.W.Tup (Str × Int)), .int r, .int m]
  | .no f => .tuple [.str ("not" : Str), f.toD]
  | .two o f g => .tuple [.str (Fm.two o f g).word, f.toD, g.toD]
theorem dp_termsK {K : PySem.W.Frag} {H : Hp} {t : Addr} {xs : List V} {ts : List (Str × Int)} (h : H t = some (.tup xs)) (tt : Tups encSI H xs ts) : Dp K H (.ref t) (PySem.W.Datum.toD (⟨ts⟩ : PySem.W.Tup (Str × Int))) :=
  .tup (SqT.of h) (dpAll_tupsG (g := fun p : Str × Int => PySem.W.Datum.toD p) (fun _ _ h => .tup (SqT.of h) (.cons (.str _) (.cons (.int _) .nil))) tt)
theorem FmK.dp {K : PySem.W.Frag} {H : Hp} : ∀ {f : Fm} {v : V}, FmK K H f v → Dp K H v f.toD
  | .tt b, _, ⟨a, e, h⟩ => by rw [e]; exact .tup h (.cons (.str _) .nil)
  | .least ts b, _, ⟨a, t, xs, e, h, k, tt⟩ => by rw [e]; exact .tup h (.cons (.str _) (.cons (dp_termsK k tt) (.cons (.int _) .nil)))
  | .rest ts r m, _, ⟨a, t, xs, e, h, k, tt⟩ => by rw [e]; exact .tup h (.cons (.str _) (.cons (dp_termsK k tt) (.cons (.int _) (.cons (.int _) .nil))))
  | .no f, _, ⟨a, x, e, h, k⟩ => by rw [e]; exact .tup h (.cons (.str _) (.cons k.dp .nil))
  | .two o f g, _, ⟨a, x, y, e, h, k, l⟩ => by rw [e]; exact .tup h (.cons (.str _) (.cons k.dp (.cons l.dp .nil)))
theorem Fm.toD_pl : ∀ f : Fm, f.toD.plain = true ∧ f.toD.depth ≤ f.depth + 3
  | .tt b => ⟨by simp [Fm.toD, PyData.plain, PyData.plainAll], by simp [Fm.toD, PyData.depth, PyData.depthAll, Fm.depth]⟩
  | .least ts b => by
    have h2 := PySem.W.Datum.plain (⟨ts⟩ : PySem.W.Tup (Str × Int))
    have h3 : (PySem.W.Datum.toD (⟨ts⟩ : PySem.W.Tup (Str × Int))).depth ≤ 2 := PySem.W.Datum.depth_le _
    exact ⟨by simp [Fm.toD, PyData.plain, PyData.plainAll, h2], by simp only [Fm.toD, PyData.depth, PyData.depthAll, Fm.depth]; omega⟩
  | .rest ts r m => by
    have h2 := PySem.W.Datum.plain (⟨ts⟩ : PySem.W.Tup (Str × Int))
    have h3 : (PySem.W.Datum.toD (⟨ts⟩ : PySem.W.Tup (Str × Int))).depth ≤ 2 := PySem.W.Datum.depth_le _
    exact ⟨by simp [Fm.toD, PyData.plain, PyData.plainAll, h2], by simp only [Fm.toD, PyData.depth, PyData.depthAll, Fm.depth]; omega⟩
  | .no f => by
    obtain ⟨h1, h2⟩ := f.toD_pl
    exact ⟨by simp [Fm.toD, PyData.plain, PyData.plainAll, h1], by simp only [Fm.toD, PyData.depth, PyData.depthAll, Fm.depth]; omega⟩
  | .two o f g => by
    obtain ⟨h1, h2⟩ := f.toD_pl
    obtain ⟨k1, k2⟩ := g.toD_pl
    exact ⟨by simp [Fm.toD, PyData.plain, PyData.plainAll, h1, k1], by simp only [Fm.toD, PyData.depth, PyData.depthAll, Fm.depth]; omega⟩
theorem eqv_terms (a b : List (Str × Int)) : PyData.eqv (PySem.W.Datum.toD (⟨a⟩ : PySem.W.Tup (Str × Int))) (PySem.W.Datum.toD (⟨b⟩ : PySem.W.Tup (Str × Int))) = decide (a = b) := by
  rw [PySem.W.Datum.eqv (α := PySem.W.Tup (Str × Int)) _ _]
  exact decide_eq_decide.mpr ⟨fun h => by injection h, fun h => by rw [h]⟩

/-- a list of formulas == [] -/
theorem eqFK {K : PySem.W.Frag} {H : Hp} {a b : Addr} {xs : List V} {fs : List Fm} {Q : VK} (ha : H a = some (.lst xs)) (hb : H b = some (.lst [])) (F : FmsK K H xs fs) (hd : ∀ f ∈ fs, f.depth ≤ 50) (q : Q (.bl xs.isEmpty) H) : rEqP K false (.ref a) (.ref b) H Q := by
  have all : ∀ (xs : List V), (∀ x ∈ xs, ∃ f, FmK K H f x ∧ f.depth ≤ 50) → ∃ ds, DpAll K H xs ds ∧ (∀ d ∈ ds, d.plain = true ∧ d.depth ≤ 60) ∧ ds.isEmpty = xs.isEmpty := by
    intro xs
    induction xs with
    | nil => intro _; exact ⟨[], .nil, fun d hd => (nomatch hd), rfl⟩
    | cons x r ih =>
      intro h
      obtain ⟨f, F, fd⟩ := h x (List.mem_cons_self ..)
      have h3 := f.toD_pl
      obtain ⟨ds, k1, k2, _⟩ := ih fun y hy => h y (List.mem_cons_of_mem _ hy)
      refine ⟨f.toD :: ds, .cons F.dp k1, fun e he => ?_, rfl⟩
      rcases List.mem_cons.mp he with e1 | e1
      · rw [e1]; exact ⟨h3.1, by omega⟩
      · exact k2 e e1
  obtain ⟨ds, d1, d2, d3⟩ := all xs fun x hx => by
    obtain ⟨i, hi⟩ := List.mem_iff_getElem?.mp hx
    obtain ⟨f, hf, F1⟩ := F.get hi
    exact ⟨f, F1, hd f (List.mem_of_getElem? hf)⟩
  refine ⟨.list ds, .list [], .lst (SqL.of ha) d1, .lst (SqL.of hb) .nil, plL d2, plL (fun d hd => nomatch hd), ?_⟩
  rw [eqvNil, d3]
  exact q
theorem Fm.toD_head (f : Fm) : ∃ xs, f.toD = .tuple (.str f.word :: xs) := by
  cases f <;> exact ⟨_, rfl⟩
theorem Fm.eqv_ne {f g : Fm} (h : f.word ≠ g.word) : PyData.eqv f.toD g.toD = decide (f = g) := by
  obtain ⟨xs, e1⟩ := f.toD_head
  obtain ⟨ys, e2⟩ := g.toD_head
  rw [e1, e2, PyData.eqv, PyData.eqvAll, PyData.eqv, beq_eq_false_iff_ne.mpr h, Bool.false_and]
  exact (decide_eq_false (fun e => h (by rw [e]))).symm
theorem Fm.eqv (f : Fm) : ∀ g : Fm, PyData.eqv f.toD g.toD = decide (f = g) := by
  induction f with
  | tt a =>
    intro g
    cases g with
    | tt b => cases a <;> cases b <;> (simp only [Fm.toD, PyData.eqv, PyData.eqvAll]; decide)
    | least us c => exact Fm.eqv_ne (by cases a <;> (simp only [Fm.word]; decide))
    | rest us r m => exact Fm.eqv_ne (by cases a <;> (simp only [Fm.word]; decide))
    | no g => exact Fm.eqv_ne (by cases a <;> (simp only [Fm.word]; decide))
    | two o g k => exact Fm.eqv_ne (by cases a <;> cases o <;> (simp only [Fm.word]; decide))
  | least ts b =>
    intro g
    cases g with
    | tt a => exact Fm.eqv_ne (by cases a <;> (simp only [Fm.word]; decide))
    | least us c => rw [Bool.eq_iff_iff]; simp [Fm.toD, PyData.eqv, PyData.eqvAll, eqv_terms]
    | rest us r m => exact Fm.eqv_ne (by simp only [Fm.word]; decide)
    | no g => exact Fm.eqv_ne (by simp only [Fm.word]; decide)
    | two o g k => exact Fm.eqv_ne (by cases o <;> (simp only [Fm.word]; decide))
  | rest ts r m =>
    intro g
    cases g with
    | tt a => exact Fm.eqv_ne (by cases a <;> (simp only [Fm.word]; decide))
    | least us c => exact Fm.eqv_ne (by simp only [Fm.word]; decide)
    | rest us r' m' => rw [Bool.eq_iff_iff]; simp [Fm.toD, PyData.eqv, PyData.eqvAll, eqv_terms]
    | no g => exact Fm.eqv_ne (by simp only [Fm.word]; decide)
    | two o g k => exact Fm.eqv_ne (by cases o <;> (simp only [Fm.word]; decide))
  | no f ih =>
    intro g
    cases g with
    | tt a => exact Fm.eqv_ne (by cases a <;> (simp only [Fm.word]; decide))
    | least us c => exact Fm.eqv_ne (by simp only [Fm.word]; decide)
    | rest us r m => exact Fm.eqv_ne (by simp only [Fm.word]; decide)
    | no g =>
      simp only [Fm.toD]
      rw [PyData.eqv, PyData.eqvAll, PyData.eqvAll, PyData.eqvAll, PyData.eqv, ih g, beq_self_eq_true, Bool.true_and, Bool.and_true]
      exact decide_eq_decide.mpr ⟨fun h => by rw [h], fun h => by injection h⟩
    | two o g k => exact Fm.eqv_ne (by cases o <;> (simp only [Fm.word]; decide))
  | two o f f' ih1 ih2 =>
    intro g
    cases g with
    | tt a => exact Fm.eqv_ne (by cases a <;> cases o <;> (simp only [Fm.word]; decide))
    | least us c => exact Fm.eqv_ne (by cases o <;> (simp only [Fm.word]; decide))
    | rest us r m => exact Fm.eqv_ne (by cases o <;> (simp only [Fm.word]; decide))
    | no g => exact Fm.eqv_ne (by cases o <;> (simp only [Fm.word]; decide))
    | two o' g g' =>
      have e1 := ih1 g
      have e2 := ih2 g'
      by_cases eo : o = o'
      · subst eo
        have ew : (Fm.two o f f').word = (Fm.two o g g').word := by cases o <;> rfl
        simp only [Fm.toD]
        rw [ew, PyData.eqv, PyData.eqvAll, PyData.eqvAll, PyData.eqvAll, PyData.eqvAll, PyData.eqv, e1, e2, beq_self_eq_true, Bool.true_and, Bool.and_true, ← Bool.decide_and]
        exact decide_eq_decide.mpr ⟨fun h => by rw [h.1, h.2], fun h => by injection h with _ h1 h2; exact ⟨h1, h2⟩⟩
      · exact Fm.eqv_ne (by cases o <;> cases o' <;> first | exact absurd rfl eo | (simp only [Fm.word]; decide))
end Vf
namespace Vf
open PySem L2
theorem Fm.right_parts {f : Fm} (h : f.word ∈ (["not", "and", "or"] : List Str)) : f.rightP = (f.parts.filter fun g => !g.rightP).isEmpty := by
  cases f with
  | tt b => exact absurd h (by cases b <;> decide)
  | least ts b => exact absurd h (by show ("least" : Str) ∉ _; decide)
  | rest ts r m => exact absurd h (by show ("rest" : Str) ∉ _; decide)
  | no g =>
    show g.rightP = ([g].filter fun g => !g.rightP).isEmpty
    cases e : g.rightP <;> simp [List.filter_cons, e]
  | two o g k =>
    show (g.rightP && k.rightP) = ([g, k].filter fun g => !g.rightP).isEmpty
    cases e : g.rightP <;> cases e2 : k.rightP <;> simp [List.filter_cons, e, e2]
end Vf
namespace Vf
open PySem L2
def lowAt (l : List Str) (i : Nat) : Bool := decide ((l.getD i Str.empty).cps.toList < (l.getD (i + 1) Str.empty).cps.toList)
theorem asc_adj : ∀ (l : List Str), ascB l = (List.range (l.length - 1)).all (lowAt l)
  | [] => rfl
  | [a] => rfl
  | a :: b :: r => by
    have ih := asc_adj (b :: r)
    unfold ascB at ih ⊢
    rw [Bool.eq_iff_iff, decide_eq_true_eq, List.all_eq_true] at ih ⊢
    rw [List.pairwise_cons, ih]
    have e : (a :: b :: r).length - 1 = r.length + 1 := by simp
    have e2 : (b :: r).length - 1 = r.length := by simp
    rw [e, e2]
    constructor
    · rintro ⟨h1, h2⟩ i hi
      cases i with
      | zero => exact decide_eq_true (h1 b (List.mem_cons_self ..))
      | succ i => exact h2 i (List.mem_range.mpr (by have := List.mem_range.mp hi; omega))
    · intro h
      have h2 : ∀ x ∈ List.range r.length, lowAt (b :: r) x = true := fun i hi => h (i + 1) (List.mem_range.mpr (by have := List.mem_range.mp hi; omega))
      refine ⟨fun y hy => ?_, h2⟩
      have h0 : a.cps.toList < b.cps.toList := of_decide_eq_true (h 0 (List.mem_range.mpr (by omega)))
      rcases List.mem_cons.mp hy with e | e
      · rw [e]; exact h0
      · have pw : (b :: r).Pairwise fun x y => x.cps.toList < y.cps.toList := ih.mpr (by rw [e2]; exact h2)
        exact List.lt_trans h0 ((List.pairwise_cons.mp pw).1 y e)
end Vf

namespace Vf
open PySem L2
/-! ### negations (k80) -/
def Fm.opp : Fm → Fm
  | .tt b => .tt (!b)
  | .least ts b => .least (ts.map fun p => (p.1, -p.2)) (1 - b)
  | .rest ts r m => .no (.rest ts r m)
  | .no f => f
  | .two o f g => .two (!o) f.opp g.opp
/-- each relation at the end of the pairs has terms -/
def Fm.thick : Fm → Prop
  | .least ts _ => ts ≠ []
  | .rest ts _ _ => ts ≠ []
  | .two _ f g => f.thick ∧ g.thick
  | .no f => f.thick
  | .tt _ => True
theorem okTerms_ne {ts : List (Str × Int)} {lo hi : Int} (h : okTerms ts lo hi = true) : ts ≠ [] := fun e => by
  subst e
  unfold okTerms at h
  simp at h
theorem Fm.right_thick : ∀ {f : Fm}, f.rightP = true → f.thick
  | .tt _, _ => trivial
  | .least ts b, h => okTerms_ne (Bool.and_eq_true_iff.mp (show (okTerms ts (-20) 20 && _) = true from h)).1
  | .rest ts r m, h => okTerms_ne (Bool.and_eq_true_iff.mp (show (okTerms ts (-20) 20 && _) = true from h)).1
  | .no f, h => Fm.right_thick (f := f) h
  | .two o f g, h => by
    have h : (f.rightP && g.rightP) = true := h
    rw [Bool.and_eq_true] at h
    exact ⟨Fm.right_thick h.1, Fm.right_thick h.2⟩
/-- the relation, or true or false if there is no term -/
def lotF (ts : List (Str × Int)) (b : Int) : Fm := if ts.isEmpty then .tt (decide (b ≤ 0)) else .least ts b
def rotF (ts : List (Str × Int)) (r m : Int) : Fm := if ts.isEmpty then .tt (decide (r = 0)) else .rest ts r m
theorem lotF_ne {ts : List (Str × Int)} (h : ts ≠ []) (b : Int) : lotF ts b = .least ts b := by
  unfold lotF
  cases ts with
  | nil => exact absurd rfl h
  | cons x r => rfl
theorem rotF_ne {ts : List (Str × Int)} (h : ts ≠ []) (r m : Int) : rotF ts r m = .rest ts r m := by
  unfold rotF
  cases ts with
  | nil => exact absurd rfl h
  | cons x l => rfl
theorem Fm.opp_depth : ∀ f : Fm, f.opp.depth ≤ f.depth + 1
  | .tt _ => by simp only [Fm.opp, Fm.depth]; omega
  | .least .. => by simp only [Fm.opp, Fm.depth]; omega
  | .rest .. => by simp only [Fm.opp, Fm.depth]; omega
  | .no f => by simp only [Fm.opp, Fm.depth]; omega
  | .two o f g => by
    have := Fm.opp_depth f
    have := Fm.opp_depth g
    simp only [Fm.opp, Fm.depth]; omega
theorem Fm.opp_terms : ∀ f : Fm, f.opp.terms.map Prod.fst = f.terms.map Prod.fst
  | .tt _ => rfl
  | .least ts b => by simp [Fm.opp, Fm.terms, List.map_map, Function.comp_def]
  | .rest .. => rfl
  | .no f => rfl
  | .two o f g => by
    simp only [Fm.opp, Fm.terms, List.map_append, Fm.opp_terms f, Fm.opp_terms g]
theorem Fm.Short.of_names {f g : Fm} (h : f.Short) (e : g.terms.map Prod.fst = f.terms.map Prod.fst) : g.Short := by
  refine ⟨?_, fun p hp => ?_⟩
  · have := congrArg List.length e
    rw [List.length_map, List.length_map] at this
    have := h.few
    omega
  · have m : p.1 ∈ f.terms.map Prod.fst := by rw [← e]; exact List.mem_map.mpr ⟨p, hp, rfl⟩
    obtain ⟨q, hq, e2⟩ := List.mem_map.mp m
    rw [← e2]
    exact h.nm q hq
theorem short_of_vars {f : Fm} (h : f.terms.length ≤ 300) (v : ∀ q ∈ f.terms, q.1 ∈ vars4) : f.Short := ⟨by omega, fun p hp => by
  have all : ∀ nm ∈ vars4, nm.length ≤ 100 := by decide +kernel
  have := all p.1 (v p hp)
  omega⟩
/-- what a question about a formula answers: the formula, or the word refused -/
def TldK (K : PySem.W.Frag) (H : Hp) (o : Option Fm) (v : V) : Prop := match o with
  | some f => FmK K H f v
  | none => ∃ a, v = .ref a ∧ SqT K H a [.str ("refused" : Str)]
theorem TldK.same {K : PySem.W.Frag} {H H' : Hp} (s : Same H H') {o : Option Fm} {v : V} (h : TldK K H o v) : TldK K H' o v := by
  cases o with
  | none => obtain ⟨a, e, h⟩ := h; exact ⟨a, e, sqT_same s h⟩
  | some f => exact FmK.same s h
def tldD : Option Fm → PyData
  | some f => f.toD
  | none => .tuple [.str ("refused" : Str)]
theorem TldK.dp {K : PySem.W.Frag} {H : Hp} {o : Option Fm} {v : V} (h : TldK K H o v) : Dp K H v (tldD o) := by
  cases o with
  | none => obtain ⟨a, e, h⟩ := h; rw [e]; exact .tup h (.cons (.str _) .nil)
  | some f => exact FmK.dp h
theorem tldD_pl {o : Option Fm} (h : ∀ f, o = some f → f.depth ≤ 50) : (tldD o).plain = true ∧ (tldD o).depth ≤ 64 := by
  cases o with
  | none => exact ⟨by simp [tldD, PyData.plain, PyData.plainAll], by simp [tldD, PyData.depth, PyData.depthAll]⟩
  | some f =>
    have := f.toD_pl
    have := h f rfl
    exact ⟨by show f.toD.plain = true; exact f.toD_pl.1, by show f.toD.depth ≤ 64; omega⟩
theorem refused_ne (f : Fm) : f.word ≠ ("refused" : Str) := by
  cases f with
  | tt b => cases b <;> (simp only [Fm.word]; decide)
  | two o g k => cases o <;> (simp only [Fm.word]; decide)
  | _ => simp only [Fm.word]; decide
theorem tld_eqv (o p : Option Fm) : PyData.eqv (tldD o) (tldD p) = decide (o = p) := by
  cases o with
  | none =>
    cases p with
    | none => simp [tldD, PyData.eqv, PyData.eqvAll]
    | some f =>
      obtain ⟨xs, e⟩ := f.toD_head
      show PyData.eqv (.tuple [.str ("refused" : Str)]) f.toD = _
      rw [e, PyData.eqv, PyData.eqvAll, PyData.eqv, beq_eq_false_iff_ne.mpr (fun h => refused_ne f h.symm), Bool.false_and]
      exact (decide_eq_false (fun h => nomatch h)).symm
  | some f =>
    cases p with
    | none =>
      obtain ⟨xs, e⟩ := f.toD_head
      show PyData.eqv f.toD (.tuple [.str ("refused" : Str)]) = _
      rw [e, PyData.eqv, PyData.eqvAll, PyData.eqv, beq_eq_false_iff_ne.mpr (refused_ne f), Bool.false_and]
      exact (decide_eq_false (fun h => nomatch h)).symm
    | some g =>
      show PyData.eqv f.toD g.toD = _
      rw [Fm.eqv]
      exact decide_eq_decide.mpr ⟨fun h => by rw [h], fun h => by injection h⟩
noncomputable def asked (f : Fm) : Option Fm := if f.isF = true then some f else none
theorem FmK.keep1 {K : PySem.W.Frag} {H H' : Hp} {p : Addr} {ls : List V} (hp : H p = some (.lst ls)) (k : Keep [p] H H') : ∀ {f : Fm} {v : V}, FmK K H f v → FmK K H' f v := by
  have tp : ∀ {a : Addr} {xs : List V}, H a = some (.tup xs) → H' a = some (.tup xs) := fun {a xs} h => k a _ (fun m => by rw [List.mem_singleton.mp m, hp] at h; cases h) h
  intro f
  induction f with
  | tt b => rintro v ⟨a, e, h⟩; exact ⟨a, e, sqT_keep hp k h⟩
  | least ts b => rintro v ⟨a, t, xs, e, h, g, tt⟩; exact ⟨a, t, xs, e, sqT_keep hp k h, tp g, tt.keep1 hp k⟩
  | rest ts r m => rintro v ⟨a, t, xs, e, h, g, tt⟩; exact ⟨a, t, xs, e, sqT_keep hp k h, tp g, tt.keep1 hp k⟩
  | no f ih => rintro v ⟨a, x, e, h, g⟩; exact ⟨a, x, e, sqT_keep hp k h, ih g⟩
  | two o f g ih1 ih2 => rintro v ⟨a, x, y, e, h, g1, g2⟩; exact ⟨a, x, y, e, sqT_keep hp k h, ih1 g1, ih2 g2⟩
/-- a right formula that is not too great -/
structure Nice (f : Fm) : Prop where
  r : f.rightP = true
  d : f.depth ≤ 8
  l : f.terms.length ≤ 300
  v : ∀ q ∈ f.terms, q.1 ∈ vars4
theorem Nice.short {f : Fm} (h : Nice f) : f.Short := short_of_vars h.l h.v
theorem Nice.thick {f : Fm} (h : Nice f) : f.thick := Fm.right_thick h.r
theorem ok_x {z : Int} (h1 : 1 ≤ z) (h2 : z ≤ 20) : okTerms [("x", z)] (-20) 20 = true := by
  have e : okTerms [("x", z)] (-20) 20 = (isVar "x" && (ascB ["x"] && decide (z ≠ 0 ∧ -20 ≤ z ∧ z ≤ 20))) := by
    unfold okTerms
    simp
  rw [e, decide_eq_true (by omega), Bool.and_true]
  decide +kernel
theorem isF_names {f g : Fm} (h : f.isF = true) (e : g.terms.map Prod.fst = f.terms.map Prod.fst) (s : g.sound 8 = true) : g.isF = true := by
  unfold Fm.isF at *
  rw [Bool.and_eq_true] at h ⊢
  refine ⟨s, ?_⟩
  obtain ⟨ls, v, n⟩ := @of_decide_eq_true _ (Classical.propDecidable _) h.2
  exact @decide_eq_true _ (Classical.propDecidable _) ⟨ls, ⟨v.nd, fun x => by rw [v.mem x, e], v.asc⟩, n⟩
/-- a relation's negation, negated again, is the relation -/
theorem opp_again {ts : List (Str × Int)} {b : Int} (r : (Fm.least ts b).rightP = true) (h : (Fm.least ts b).opp.isF = true) : (Fm.least ts b).opp.opp.isF = true := by
  have e : (Fm.least ts b).opp.opp = .least ts b := by
    simp only [Fm.opp, List.map_map]
    rw [show (1 : Int) - (1 - b) = b by omega]
    congr 1
    rw [List.map_congr_left (g := id) (fun p _ => by simp), List.map_id]
  rw [e]
  exact isF_names h (Fm.opp_terms _).symm r
theorem asked_some {f g : Fm} (h : asked f = some g) : f = g ∧ g.isF = true := by
  unfold asked at h
  split at h
  · rename_i c
    cases h
    exact ⟨rfl, c⟩
  · cases h
theorem isF_right {f : Fm} (h : f.isF = true) : f.rightP = true ∧ f.depth ≤ 8 := by
  unfold Fm.isF at h
  rw [Bool.and_eq_true, Fm.sound_eq, Bool.and_eq_true, decide_eq_true_eq] at h
  exact h.1
end Vf

namespace Vf
open PySem PySem.W L2 PyProof.Rows
/-! ### x in (a, b): data of any kind -/
def rInT (K : PySem.W.Frag) : R2 := fun x y H Q => ∃ d ds, Dp K H x d ∧ Dp K H y (.tuple ds) ∧ d.plain = true ∧ d.depth ≤ 60 ∧ PyData.plainAll ds = true ∧ Q (.bl (ds.any fun z => PyData.eqv z d)) H
theorem op_inT {X : Cx} (hu : X.A.units + 65 < cLine) : OpR X (compareOp .In) (rInT X.K) := by
  intro pins s σ H x y v u Q I rx ry h
  obtain ⟨d, ds, hd, he, pd, dd, pe, q⟩ := h
  obtain ⟨as, r1⟩ := Dp.reads I d x v hd rx
  obtain ⟨bs, r2⟩ := Dp.reads I (.tuple ds) y u he ry
  exact SeqAt.in_tuple_data r2 r1 pe pd (by omega) ⟨.bl _, H, I, rfl, q⟩
end Vf

namespace Vf
open PySem L2
/-! ### simplified formulas (k81, k82) -/
def gcdT (ts : List (Str × Int)) : Nat := ts.foldl (fun (d : Nat) p => Int.gcd (d : Int) p.2) 0
theorem gcdT_snoc (ts : List (Str × Int)) (p : Str × Int) : gcdT (ts ++ [p]) = Int.gcd (gcdT ts : Int) p.2 := by
  unfold gcdT
  rw [List.foldl_append]
  rfl
theorem gcdT_fold : ∀ (ts : List (Str × Int)) (d : Nat), ((ts.foldl (fun (d : Nat) p => Int.gcd (d : Int) p.2) d : Nat) : Int) ∣ (d : Int) ∧ ∀ p ∈ ts, ((ts.foldl (fun (d : Nat) p => Int.gcd (d : Int) p.2) d : Nat) : Int) ∣ p.2
  | [], d => ⟨Int.dvd_refl _, fun p h => nomatch h⟩
  | x :: r, d => by
    obtain ⟨h1, h2⟩ := gcdT_fold r (Int.gcd (d : Int) x.2)
    refine ⟨Int.dvd_trans h1 (Int.gcd_dvd_left ..), fun p hp => ?_⟩
    rcases List.mem_cons.mp hp with rfl | hp
    · exact Int.dvd_trans h1 (Int.gcd_dvd_right ..)
    · exact h2 p hp
theorem gcdT_dvd {ts : List (Str × Int)} {p : Str × Int} (h : p ∈ ts) : (gcdT ts : Int) ∣ p.2 := (gcdT_fold ts 0).2 p h
theorem gcdT_pos {ts : List (Str × Int)} (h : ts ≠ []) (nz : ∀ p ∈ ts, p.2 ≠ 0) : 0 < gcdT ts := by
  obtain ⟨p, hp⟩ := List.exists_mem_of_ne_nil ts h
  have d := gcdT_dvd hp
  rcases Nat.eq_zero_or_pos (gcdT ts) with e | e
  · rw [e] at d
    exact absurd (Int.zero_dvd.mp d) (nz p hp)
  · exact e
def loL (ts : List (Str × Int)) (b : Int) : Int := -((-b) / (gcdT ts : Int))
def plainL (ts : List (Str × Int)) (b : Int) : Fm :=
  if (ts.all fun p => decide (0 < p.2)) = true ∧ loL ts b ≤ 0 then .tt true
  else if (ts.all fun p => decide (p.2 < 0)) = true ∧ 0 < loL ts b then .tt false
  else .least (ts.map fun p => (p.1, p.2 / (gcdT ts : Int))) (loL ts b)
def restT (ts : List (Str × Int)) (m : Int) : List (Str × Int) := (ts.map fun p => (p.1, p.2 % m)).filter fun p => decide (p.2 ≠ 0)
def plainR (ts : List (Str × Int)) (r m : Int) : Fm := rotF (restT ts m) r m
def plainP (o : Bool) (l r : Fm) : Fm :=
  if l = .tt (!o) ∨ r = .tt (!o) then .tt (!o) else if l = .tt o then r else if r = .tt o ∨ r = l then l else .two o l r
inductive Pln : Nat → Fm → Fm → Prop
  | tt (n : Nat) (b : Bool) : Pln (n + 1) (.tt b) (.tt b)
  | least (n : Nat) (ts : List (Str × Int)) (b : Int) : Pln (n + 1) (.least ts b) (plainL ts b)
  | rest (n : Nat) (ts : List (Str × Int)) (r m : Int) : Pln (n + 1) (.rest ts r m) (plainR ts r m)
  | two {n : Nat} {f f' g g' : Fm} (o : Bool) : Pln n f f' → Pln n g g' → Pln (n + 1) (.two o f g) (plainP o f' g')
  | noR {n : Nat} {f f' : Fm} : Pln n f f' → f'.word = "rest" → Pln (n + 1) (.no f) (.no f')
  | noX {n : Nat} {f f' g : Fm} : Pln n f f' → f'.word ≠ "rest" → Pln n f'.opp g → Pln (n + 1) (.no f) g
theorem Pln.mono {n m : Nat} {f g : Fm} (h : Pln n f g) (le : n ≤ m) : Pln m f g := by
  induction h generalizing m with
  | tt n b => obtain ⟨k, rfl⟩ : ∃ k, m = k + 1 := ⟨m - 1, by omega⟩; exact .tt k b
  | least n ts b => obtain ⟨k, rfl⟩ : ∃ k, m = k + 1 := ⟨m - 1, by omega⟩; exact .least k ts b
  | rest n ts r q => obtain ⟨k, rfl⟩ : ∃ k, m = k + 1 := ⟨m - 1, by omega⟩; exact .rest k ts r q
  | two o _ _ ih1 ih2 => obtain ⟨k, rfl⟩ : ∃ k, m = k + 1 := ⟨m - 1, by omega⟩; exact .two o (ih1 (by omega)) (ih2 (by omega))
  | noR _ e ih => obtain ⟨k, rfl⟩ : ∃ k, m = k + 1 := ⟨m - 1, by omega⟩; exact .noR (ih (by omega)) e
  | noX _ e _ ih1 ih2 => obtain ⟨k, rfl⟩ : ∃ k, m = k + 1 := ⟨m - 1, by omega⟩; exact .noX (ih1 (by omega)) e (ih2 (by omega))
/-- the pairs along a path -/
def Fm.td : Fm → Nat
  | .no f => f.td
  | .two _ f g => 1 + max f.td g.td
  | _ => 0
/-- not stands before rests alone -/
def Fm.simp : Fm → Prop
  | .no f => f.word = "rest"
  | .two _ f g => f.simp ∧ g.simp
  | _ => True
def Fm.wf : Fm → Prop
  | .least ts _ => ts ≠ [] ∧ ∀ p ∈ ts, p.2 ≠ 0 ∧ p.2.natAbs ≤ 20
  | .rest ts _ m => ts ≠ [] ∧ 0 < m ∧ m ≤ 20
  | .no f => f.wf
  | .two _ f g => f.wf ∧ g.wf
  | .tt _ => True
theorem Fm.isRest_of {f : Fm} (h : f.word = "rest") : ∃ ts r m, f = .rest ts r m := by
  cases f with
  | tt b => exact absurd h (by cases b <;> (simp only [Fm.word]; decide))
  | least ts b => exact absurd h (by simp only [Fm.word]; decide)
  | rest ts r m => exact ⟨ts, r, m, rfl⟩
  | no g => exact absurd h (by simp only [Fm.word]; decide)
  | two o g k => exact absurd h (by cases o <;> (simp only [Fm.word]; decide))
theorem Fm.td_depth : ∀ f : Fm, f.td + 1 ≤ f.depth
  | .tt _ => by simp only [Fm.td, Fm.depth]; omega
  | .least .. => by simp only [Fm.td, Fm.depth]; omega
  | .rest .. => by simp only [Fm.td, Fm.depth]; omega
  | .no f => by have := Fm.td_depth f; simp only [Fm.td, Fm.depth]; omega
  | .two _ f g => by
    have := Fm.td_depth f
    have := Fm.td_depth g
    simp only [Fm.td, Fm.depth]; omega
theorem Fm.simp_depth : ∀ {f : Fm}, f.simp → f.depth ≤ f.td + 2
  | .tt _, _ => by simp only [Fm.td, Fm.depth]; omega
  | .least .., _ => by simp only [Fm.td, Fm.depth]; omega
  | .rest .., _ => by simp only [Fm.td, Fm.depth]; omega
  | .no f, h => by
    obtain ⟨ts, r, m, rfl⟩ := Fm.isRest_of h
    simp only [Fm.td, Fm.depth]; omega
  | .two _ f g, h => by
    have := Fm.simp_depth h.1
    have := Fm.simp_depth h.2
    simp only [Fm.td, Fm.depth]; omega
theorem Fm.opp_simp : ∀ {f : Fm}, f.simp → f.opp.simp ∧ f.opp.td = f.td
  | .tt _, _ => ⟨trivial, rfl⟩
  | .least .., _ => ⟨trivial, rfl⟩
  | .rest .., _ => ⟨rfl, rfl⟩
  | .no f, h => by
    obtain ⟨ts, r, m, rfl⟩ := Fm.isRest_of h
    exact ⟨trivial, rfl⟩
  | .two _ f g, h => by
    obtain ⟨a, b⟩ := Fm.opp_simp h.1
    obtain ⟨c, d⟩ := Fm.opp_simp h.2
    exact ⟨⟨a, c⟩, by simp only [Fm.opp, Fm.td, b, d]⟩
theorem Fm.opp_wf : ∀ {f : Fm}, f.wf → f.opp.wf
  | .tt _, _ => trivial
  | .least ts b, h => ⟨by simpa using h.1, fun p hp => by
      obtain ⟨q, hq, rfl⟩ := List.mem_map.mp hp
      have := h.2 q hq
      show -q.2 ≠ 0 ∧ (-q.2).natAbs ≤ 20
      omega⟩
  | .rest .., h => h
  | .no f, h => h
  | .two _ f g, h => ⟨Fm.opp_wf h.1, Fm.opp_wf h.2⟩
theorem Fm.wf_thick : ∀ {f : Fm}, f.wf → f.thick
  | .tt _, _ => trivial
  | .least .., h => h.1
  | .rest .., h => h.1
  | .no f, h => Fm.wf_thick (f := f) h
  | .two _ f g, h => ⟨Fm.wf_thick h.1, Fm.wf_thick h.2⟩
theorem okTerms_nz {ts : List (Str × Int)} (h : okTerms ts (-20) 20 = true) : ∀ p ∈ ts, p.2 ≠ 0 ∧ p.2.natAbs ≤ 20 := fun p hp => by
  unfold okTerms at h
  simp only [Bool.and_eq_true, List.all_eq_true, decide_eq_true_eq] at h
  have := h.2.2.2 p hp
  omega
theorem Fm.right_wf : ∀ {f : Fm}, f.rightP = true → f.wf
  | .tt _, _ => trivial
  | .least ts b, h => by
    have h := (Bool.and_eq_true_iff.mp (show (okTerms ts (-20) 20 && _) = true from h)).1
    exact ⟨okTerms_ne h, okTerms_nz h⟩
  | .rest ts r m, h => by
    have h := Bool.and_eq_true_iff.mp (show (okTerms ts (-20) 20 && _) = true from h)
    have h2 := of_decide_eq_true h.2
    exact ⟨okTerms_ne h.1, by omega⟩
  | .no f, h => Fm.right_wf (f := f) h
  | .two o f g, h => by
    have h : (f.rightP && g.rightP) = true := h
    rw [Bool.and_eq_true] at h
    exact ⟨Fm.right_wf h.1, Fm.right_wf h.2⟩
/-- what is not greater: the names of one formula are among those of another one -/
def Fm.sub (g f : Fm) : Prop := g.terms.length ≤ f.terms.length ∧ ∀ p ∈ g.terms, p.1 ∈ f.terms.map Prod.fst
theorem Fm.sub.short {g f : Fm} (h : g.sub f) (s : f.Short) : g.Short := ⟨Nat.le_trans h.1 s.few, fun p hp => by
  obtain ⟨q, hq, e⟩ := List.mem_map.mp (h.2 p hp)
  rw [← e]
  exact s.nm q hq⟩
theorem Fm.sub.trans {a b c : Fm} (h : a.sub b) (k : b.sub c) : a.sub c := ⟨Nat.le_trans h.1 k.1, fun p hp => by
  obtain ⟨q, hq, e⟩ := List.mem_map.mp (h.2 p hp)
  rw [← e]
  exact k.2 q hq⟩
theorem Fm.sub_opp (f : Fm) : f.opp.sub f := by
  have e := Fm.opp_terms f
  refine ⟨?_, fun p hp => by rw [← e]; exact List.mem_map.mpr ⟨p, hp, rfl⟩⟩
  have := congrArg List.length e
  rw [List.length_map, List.length_map] at this
  omega
theorem plainL_cases (ts : List (Str × Int)) (b : Int) : (∃ c, plainL ts b = .tt c) ∨ plainL ts b = .least (ts.map fun p => (p.1, p.2 / (gcdT ts : Int))) (loL ts b) := by
  unfold plainL
  split
  · exact .inl ⟨_, rfl⟩
  split
  · exact .inl ⟨_, rfl⟩
  · exact .inr rfl
theorem plainR_cases (ts : List (Str × Int)) (r m : Int) : (∃ c, plainR ts r m = .tt c) ∨ (restT ts m ≠ [] ∧ plainR ts r m = .rest (restT ts m) r m) := by
  unfold plainR rotF
  cases h : (restT ts m).isEmpty with
  | true => exact .inl ⟨_, rfl⟩
  | false => exact .inr ⟨(fun e => by rw [e] at h; exact absurd h (by decide)), rfl⟩
theorem plainP_cases (o : Bool) (l r : Fm) : plainP o l r = .tt (!o) ∨ plainP o l r = r ∨ plainP o l r = l ∨ plainP o l r = .two o l r := by
  unfold plainP
  split
  · exact .inl rfl
  split
  · exact .inr (.inl rfl)
  split
  · exact .inr (.inr (.inl rfl))
  · exact .inr (.inr (.inr rfl))
structure Fm.Less (g f : Fm) : Prop where
  wf : g.wf
  sm : g.simp
  td : g.td ≤ f.td
  sub : g.sub f
theorem tt_sub (c : Bool) (f : Fm) : (Fm.tt c).sub f := ⟨Nat.zero_le _, fun p h => nomatch h⟩
theorem Pln.less {n : Nat} {f g : Fm} (h : Pln n f g) (w : f.wf) : g.Less f := by
  induction h with
  | tt n b => exact ⟨trivial, trivial, Nat.le_refl _, tt_sub _ _⟩
  | least n ts b =>
    rcases plainL_cases ts b with ⟨c, e⟩ | e <;> rw [e]
    · exact ⟨trivial, trivial, Nat.le_refl _, tt_sub _ _⟩
    · refine ⟨⟨by simpa using w.1, fun p hp => ?_⟩, trivial, Nat.le_refl _, by simp [Fm.terms], fun p hp => ?_⟩
      · obtain ⟨q, hq, rfl⟩ := List.mem_map.mp hp
        obtain ⟨w1, w2⟩ := w.2 q hq
        have g0 := gcdT_pos w.1 fun p hp => (w.2 p hp).1
        have dm := Int.ediv_mul_cancel (gcdT_dvd hq)
        show q.2 / (gcdT ts : Int) ≠ 0 ∧ (q.2 / (gcdT ts : Int)).natAbs ≤ 20
        refine ⟨fun e0 => ?_, ?_⟩
        · rw [e0, Int.zero_mul] at dm
          exact w1 dm.symm
        · have e := congrArg Int.natAbs dm
          rw [Int.natAbs_mul] at e
          have := Nat.le_mul_of_pos_right (q.2 / (gcdT ts : Int)).natAbs (show 0 < (gcdT ts : Int).natAbs by omega)
          omega
      · obtain ⟨q, hq, rfl⟩ := List.mem_map.mp (show p ∈ ts.map _ from hp)
        exact List.mem_map.mpr ⟨q, hq, rfl⟩
  | rest n ts r m =>
    rcases plainR_cases ts r m with ⟨c, e⟩ | ⟨ne, e⟩ <;> rw [e]
    · exact ⟨trivial, trivial, Nat.le_refl _, tt_sub _ _⟩
    · refine ⟨⟨ne, w.2⟩, trivial, Nat.le_refl _, ?_, fun p hp => ?_⟩
      · show (restT ts m).length ≤ ts.length
        unfold restT
        exact Nat.le_trans (List.length_filter_le ..) (by rw [List.length_map]; exact Nat.le_refl _)
      · have hp : p ∈ restT ts m := hp
        unfold restT at hp
        obtain ⟨q, hq, rfl⟩ := List.mem_map.mp (List.mem_filter.mp hp).1
        exact List.mem_map.mpr ⟨q, hq, rfl⟩
  | @two n f f' g g' o _ _ ih1 ih2 =>
    have l1 := ih1 w.1
    have l2 := ih2 w.2
    have s1 : f.sub (.two o f g) := ⟨by simp [Fm.terms], fun p hp => by simp only [Fm.terms, List.map_append]; exact List.mem_append_left _ (List.mem_map.mpr ⟨p, hp, rfl⟩)⟩
    have s2 : g.sub (.two o f g) := ⟨by simp [Fm.terms], fun p hp => by simp only [Fm.terms, List.map_append]; exact List.mem_append_right _ (List.mem_map.mpr ⟨p, hp, rfl⟩)⟩
    have t1 := l1.td
    have t2 := l2.td
    rcases plainP_cases o f' g' with e | e | e | e <;> rw [e]
    · exact ⟨trivial, trivial, by simp only [Fm.td]; omega, tt_sub _ _⟩
    · exact ⟨l2.wf, l2.sm, by simp only [Fm.td]; omega, l2.sub.trans s2⟩
    · exact ⟨l1.wf, l1.sm, by simp only [Fm.td]; omega, l1.sub.trans s1⟩
    · refine ⟨⟨l1.wf, l2.wf⟩, ⟨l1.sm, l2.sm⟩, by simp only [Fm.td]; omega, ?_, fun p hp => ?_⟩
      · have := l1.sub.1
        have := l2.sub.1
        simp only [Fm.terms, List.length_append]
        omega
      · rcases List.mem_append.mp (show p ∈ f'.terms ++ g'.terms from hp) with h | h
        · exact (l1.sub.trans s1).2 p h
        · exact (l2.sub.trans s2).2 p h
  | noR _ e ih =>
    have l := ih w
    exact ⟨l.wf, e, l.td, l.sub⟩
  | noX _ e _ ih1 ih2 =>
    have l := ih1 w
    have k := ih2 (Fm.opp_wf l.wf)
    have o := Fm.opp_simp l.sm
    exact ⟨k.wf, k.sm, by have := k.td; have := l.td; show _ ≤ Fm.td _; rw [o.2] at *; simp only [Fm.td]; omega, (k.sub.trans (Fm.sub_opp _)).trans l.sub⟩
theorem Pln.exS : ∀ f : Fm, f.simp → ∃ g, Pln (f.td + 2) f g
  | .tt b, _ => ⟨_, .tt 1 b⟩
  | .least ts b, _ => ⟨_, .least 1 ts b⟩
  | .rest ts r m, _ => ⟨_, .rest 1 ts r m⟩
  | .no f, h => by
    obtain ⟨ts, r, m, rfl⟩ := Fm.isRest_of h
    rcases plainR_cases ts r m with ⟨c, e⟩ | ⟨_, e⟩
    · refine ⟨.tt (!c), .noX (f' := .tt c) ?_ ?_ (.tt 0 _)⟩
      · rw [← e]; exact .rest 0 ts r m
      · cases c <;> (simp only [Fm.word]; decide)
    · refine ⟨_, .noR (f' := .rest (restT ts m) r m) ?_ rfl⟩
      rw [← e]; exact .rest 0 ts r m
  | .two o f g, h => by
    obtain ⟨a, ha⟩ := Pln.exS f h.1
    obtain ⟨b, hb⟩ := Pln.exS g h.2
    refine ⟨plainP o a b, ?_⟩
    have : (Fm.two o f g).td + 2 = (max f.td g.td + 2) + 1 := by simp only [Fm.td]; omega
    rw [this]
    exact .two o (ha.mono (by omega)) (hb.mono (by omega))
theorem Pln.ex : ∀ f : Fm, f.wf → ∃ g, Pln (f.depth + 2) f g
  | .tt b, _ => ⟨_, .tt _ b⟩
  | .least ts b, _ => ⟨_, .least _ ts b⟩
  | .rest ts r m, _ => ⟨_, .rest _ ts r m⟩
  | .no f, w => by
    obtain ⟨a, ha⟩ := Pln.ex f w
    have l := ha.less w
    have e : (Fm.no f).depth + 2 = (f.depth + 2) + 1 := by simp only [Fm.depth]; omega
    rw [e]
    by_cases c : a.word = "rest"
    · exact ⟨_, .noR ha c⟩
    · obtain ⟨so, to⟩ := Fm.opp_simp l.sm
      obtain ⟨b, hb⟩ := Pln.exS a.opp so
      have := f.td_depth
      have := l.td
      exact ⟨b, .noX ha c (hb.mono (by omega))⟩
  | .two o f g, w => by
    obtain ⟨a, ha⟩ := Pln.ex f w.1
    obtain ⟨b, hb⟩ := Pln.ex g w.2
    refine ⟨plainP o a b, ?_⟩
    have : (Fm.two o f g).depth + 2 = (max f.depth g.depth + 2) + 1 := by simp only [Fm.depth]; omega
    rw [this]
    exact .two o (ha.mono (by omega)) (hb.mono (by omega))
theorem inV_bl (b : Bool) (l : List Bool) : inV (.bl b) (l.map V.bl) = decide (b ∈ l) := by
  unfold inV
  rw [Bool.eq_iff_iff, List.any_eq_true, decide_eq_true_iff]
  constructor
  · rintro ⟨y, hy, h⟩
    obtain ⟨t, ht, rfl⟩ := List.mem_map.mp hy
    have e : (t == b) = true := h
    rw [beq_iff_eq] at e
    rw [← e]
    exact ht
  · intro h
    exact ⟨.bl b, List.mem_map.mpr ⟨b, h, rfl⟩, by show (b == b) = true; simp⟩
theorem flat_bl (l : List Bool) : (l.map V.bl).all flatV = true := by
  rw [List.all_eq_true]
  intro x hx
  obtain ⟨b, _, rfl⟩ := List.mem_map.mp hx
  rfl
theorem signs_pos (ts : List (Str × Int)) : (!decide (false ∈ ts.map fun p => decide (0 < p.2))) = (ts.all fun p => decide (0 < p.2)) := by
  rw [Bool.eq_iff_iff, Bool.not_eq_true', decide_eq_false_iff_not, List.all_eq_true]
  constructor
  · intro h p hp
    cases c : decide (0 < p.2) with
    | true => rfl
    | false => exact absurd (List.mem_map.mpr ⟨p, hp, c⟩) h
  · intro h m
    obtain ⟨p, hp, e⟩ := List.mem_map.mp m
    rw [h p hp] at e
    cases e
theorem signs_neg {ts : List (Str × Int)} (nz : ∀ p ∈ ts, p.2 ≠ 0) : (!decide (true ∈ ts.map fun p => decide (0 < p.2))) = (ts.all fun p => decide (p.2 < 0)) := by
  rw [Bool.eq_iff_iff, Bool.not_eq_true', decide_eq_false_iff_not, List.all_eq_true]
  constructor
  · intro h p hp
    have := nz p hp
    refine decide_eq_true ?_
    rcases Int.lt_or_le 0 p.2 with c | c
    · exact absurd (List.mem_map.mpr ⟨p, hp, decide_eq_true c⟩) h
    · omega
  · intro h m
    obtain ⟨p, hp, e⟩ := List.mem_map.mp m
    have a := of_decide_eq_true (h p hp)
    have b := of_decide_eq_true e
    omega
theorem eqv_noterm (l : List (Str × Int)) : PyData.eqv (PySem.W.Datum.toD (⟨l⟩ : PySem.W.Tup (Str × Int))) (.tuple []) = l.isEmpty := by
  have : PyData.tuple [] = PySem.W.Datum.toD (⟨[]⟩ : PySem.W.Tup (Str × Int)) := rfl
  rw [this, eqv_terms]
  cases l <;> simp
theorem gcdT_most {c : Int} : ∀ (ts : List (Str × Int)) (d : Nat), c ∣ (d : Int) → (∀ p ∈ ts, c ∣ p.2) → c ∣ ((ts.foldl (fun (d : Nat) p => Int.gcd (d : Int) p.2) d : Nat) : Int)
  | [], _, h, _ => h
  | x :: r, d, h, k => gcdT_most r _ (Int.dvd_coe_gcd h (k x (List.mem_cons_self ..))) fun p hp => k p (List.mem_cons_of_mem _ hp)
theorem gcdT_one {ts : List (Str × Int)} (w : ts ≠ [] ∧ ∀ p ∈ ts, p.2 ≠ 0 ∧ p.2.natAbs ≤ 20) : gcdT (ts.map fun p => (p.1, p.2 / (gcdT ts : Int))) = 1 := by
  have g0 := gcdT_pos w.1 fun p hp => (w.2 p hp).1
  obtain ⟨g, eg⟩ : ∃ g, gcdT ts = g := ⟨_, rfl⟩
  obtain ⟨d, ed⟩ : ∃ d, gcdT (ts.map fun p => (p.1, p.2 / (gcdT ts : Int))) = d := ⟨_, rfl⟩
  have h : ((d * g : Nat) : Int) ∣ (gcdT ts : Int) := gcdT_most ts 0 (Int.dvd_zero _) fun p hp => by
    have m : (p.1, p.2 / (gcdT ts : Int)) ∈ ts.map fun p => (p.1, p.2 / (gcdT ts : Int)) := List.mem_map.mpr ⟨p, hp, rfl⟩
    obtain ⟨k, hk⟩ := gcdT_dvd m
    rw [ed] at hk
    have e := Int.ediv_mul_cancel (gcdT_dvd hp)
    have hk : p.2 / (gcdT ts : Int) = (d : Int) * k := hk
    rw [hk, eg] at e
    exact ⟨k, by rw [← e, Int.natCast_mul]; rw [Int.mul_assoc, Int.mul_assoc, Int.mul_comm k]⟩
  rw [ed]
  rw [eg] at h g0
  have h := Int.natCast_dvd_natCast.mp h
  have := Nat.le_of_dvd g0 h
  have d1 : d * g ≤ 1 * g := by omega
  have d2 := Nat.le_of_mul_le_mul_right d1 g0
  rcases Nat.eq_zero_or_pos d with e | e
  · rw [e, Nat.zero_mul] at h
    have := Nat.eq_zero_of_zero_dvd h
    omega
  · omega
theorem quo_pos {x : Int} {g : Nat} (g0 : 0 < g) (d : (g : Int) ∣ x) : 0 < x / (g : Int) ↔ 0 < x := by
  obtain ⟨k, rfl⟩ := d
  rw [Int.mul_ediv_cancel_left _ (by omega)]
  constructor
  · intro h
    exact Int.mul_pos (by omega) h
  · intro h
    exact Int.pos_of_mul_pos_right h (by omega)
theorem quo_neg {x : Int} {g : Nat} (g0 : 0 < g) (d : (g : Int) ∣ x) : x / (g : Int) < 0 ↔ x < 0 := by
  have h := quo_pos (x := -x) g0 (Int.dvd_neg.mpr d)
  obtain ⟨k, rfl⟩ := d
  rw [← Int.mul_neg, Int.mul_ediv_cancel_left _ (by omega)] at h
  rw [Int.mul_ediv_cancel_left _ (by omega)]
  rw [Int.mul_neg] at h
  omega
theorem plainL_again {ts : List (Str × Int)} {b : Int} (w : ts ≠ [] ∧ ∀ p ∈ ts, p.2 ≠ 0 ∧ p.2.natAbs ≤ 20) (h : plainL ts b = .least (ts.map fun p => (p.1, p.2 / (gcdT ts : Int))) (loL ts b)) :
    plainL (ts.map fun p => (p.1, p.2 / (gcdT ts : Int))) (loL ts b) = .least (ts.map fun p => (p.1, p.2 / (gcdT ts : Int))) (loL ts b) := by
  have g0 := gcdT_pos w.1 fun p hp => (w.2 p hp).1
  obtain ⟨lo, elo⟩ : ∃ lo, loL ts b = lo := ⟨_, rfl⟩
  have e1 : loL (ts.map fun p => (p.1, p.2 / (gcdT ts : Int))) lo = lo := by
    unfold loL
    rw [gcdT_one w]
    simp
  have a1 : ((ts.map fun p => (p.1, p.2 / (gcdT ts : Int))).all fun p => decide (0 < p.2)) = (ts.all fun p => decide (0 < p.2)) := by
    rw [List.all_map, Bool.eq_iff_iff, List.all_eq_true, List.all_eq_true]
    exact ⟨fun h p hp => by have := h p hp; simp only [Function.comp, decide_eq_true_eq] at *; exact (quo_pos g0 (gcdT_dvd hp)).mp this, fun h p hp => by have := h p hp; simp only [Function.comp, decide_eq_true_eq] at *; exact (quo_pos g0 (gcdT_dvd hp)).mpr this⟩
  have a2 : ((ts.map fun p => (p.1, p.2 / (gcdT ts : Int))).all fun p => decide (p.2 < 0)) = (ts.all fun p => decide (p.2 < 0)) := by
    rw [List.all_map, Bool.eq_iff_iff, List.all_eq_true, List.all_eq_true]
    exact ⟨fun h p hp => by have := h p hp; simp only [Function.comp, decide_eq_true_eq] at *; exact (quo_neg g0 (gcdT_dvd hp)).mp this, fun h p hp => by have := h p hp; simp only [Function.comp, decide_eq_true_eq] at *; exact (quo_neg g0 (gcdT_dvd hp)).mpr this⟩
  unfold plainL at h
  rw [elo] at h ⊢
  unfold plainL
  rw [e1, a1, a2, gcdT_one w]
  by_cases c1 : (ts.all fun p => decide (0 < p.2)) = true ∧ lo ≤ 0
  · rw [if_pos c1] at h; cases h
  rw [if_neg c1] at h ⊢
  by_cases c2 : (ts.all fun p => decide (p.2 < 0)) = true ∧ 0 < lo
  · rw [if_pos c2] at h; cases h
  rw [if_neg c2, List.map_map]
  congr 1
  refine List.map_congr_left fun p _ => ?_
  simp
theorem plainR_again {ts : List (Str × Int)} {r m : Int} (m0 : 0 < m) (h : restT ts m ≠ []) : plainR (restT ts m) r m = .rest (restT ts m) r m := by
  have e : restT (restT ts m) m = restT ts m := by
    have fix : ∀ p ∈ restT ts m, (p.1, p.2 % m) = p ∧ p.2 ≠ 0 := fun p hp => by
      unfold restT at hp
      obtain ⟨h1, h2⟩ := List.mem_filter.mp hp
      obtain ⟨q, _, rfl⟩ := List.mem_map.mp h1
      have a := Int.emod_nonneg q.2 (show m ≠ 0 by omega)
      have b := Int.emod_lt_of_pos q.2 m0
      refine ⟨?_, of_decide_eq_true h2⟩
      show (q.1, q.2 % m % m) = (q.1, q.2 % m)
      rw [Int.emod_eq_of_lt a b]
    generalize restT ts m = l at fix
    unfold restT
    rw [List.map_congr_left (g := id) (fun p hp => (fix p hp).1), List.map_id]
    exact List.filter_eq_self.mpr fun p hp => decide_eq_true (fix p hp).2
  unfold plainR
  rw [e, rotF_ne h]
theorem Pln.rest_inv {n : Nat} {f g : Fm} (h : Pln n f g) {ts : List (Str × Int)} {r m : Int} (e : f = .rest ts r m) : g = plainR ts r m := by
  cases h with
  | rest n ts r m => cases e; rfl
  | _ => cases e
theorem Pln.again {n : Nat} {f g : Fm} (h : Pln n f g) (w : f.wf) : Pln (g.td + 2) g g := by
  induction h with
  | tt n b => exact .tt _ b
  | least n ts b =>
    rcases plainL_cases ts b with ⟨c, e⟩ | e <;> rw [e]
    · exact .tt _ c
    · have := Pln.least 1 (ts.map fun p => (p.1, p.2 / (gcdT ts : Int))) (loL ts b)
      rw [plainL_again w e] at this
      exact this
  | rest n ts r m =>
    rcases plainR_cases ts r m with ⟨c, e⟩ | ⟨ne, e⟩ <;> rw [e]
    · exact .tt _ c
    · have := Pln.rest 1 (restT ts m) r m
      rw [plainR_again w.2.1 ne] at this
      exact this
  | @two n f f' g g' o _ _ ih1 ih2 =>
    have i1 := ih1 w.1
    have i2 := ih2 w.2
    by_cases c1 : f' = .tt (!o) ∨ g' = .tt (!o)
    · have e : plainP o f' g' = .tt (!o) := by unfold plainP; rw [if_pos c1]
      rw [e]; exact .tt _ _
    by_cases c2 : f' = .tt o
    · have e : plainP o f' g' = g' := by unfold plainP; rw [if_neg c1, if_pos c2]
      rw [e]; exact i2
    by_cases c3 : g' = .tt o ∨ g' = f'
    · have e : plainP o f' g' = f' := by unfold plainP; rw [if_neg c1, if_neg c2, if_pos c3]
      rw [e]; exact i1
    have e : plainP o f' g' = .two o f' g' := by unfold plainP; rw [if_neg c1, if_neg c2, if_neg c3]
    rw [e]
    have t := Pln.two (n := max f'.td g'.td + 2) o (i1.mono (by omega)) (i2.mono (by omega))
    rw [e] at t
    exact t.mono (by simp only [Fm.td]; omega)
  | @noR n f f' p c ih =>
    have i := ih w
    obtain ⟨ts, r, m, rfl⟩ := Fm.isRest_of c
    have e := Pln.rest_inv i rfl
    refine Pln.noR (n := 1) ?_ rfl
    have := Pln.rest 0 ts r m
    rw [← e] at this
    exact this
  | noX p c _ ih1 ih2 =>
    exact ih2 (Fm.opp_wf (p.less w).wf)
end Vf

namespace Vf
open PySem L2
/-! ### what rewriting does to answers (k82, k83) -/
theorem totC_cons (p : Str × Int) (r : List (Str × Int)) (c : Str → Option Int) : totC (p :: r) c = p.2 * cv c p.1 + totC r c := by
  unfold totC
  rw [List.map_cons, List.sum_cons]
theorem totC_neg (c : Str → Option Int) : ∀ ts : List (Str × Int), totC (ts.map fun p => (p.1, -p.2)) c = -totC ts c
  | [] => rfl
  | p :: r => by
    rw [List.map_cons, totC_cons, totC_cons, totC_neg c r]
    show -p.2 * cv c p.1 + _ = _
    rw [Int.neg_mul]
    omega
theorem totC_quo (c : Str → Option Int) {g : Int} (g0 : g ≠ 0) : ∀ ts : List (Str × Int), (∀ p ∈ ts, g ∣ p.2) → g * totC (ts.map fun p => (p.1, p.2 / g)) c = totC ts c
  | [], _ => by
    show g * 0 = 0
    exact Int.mul_zero g
  | p :: r, h => by
    rw [List.map_cons, totC_cons, totC_cons, Int.mul_add, totC_quo c g0 r fun q hq => h q (List.mem_cons_of_mem _ hq)]
    show g * (p.2 / g * cv c p.1) + _ = _
    rw [← Int.mul_assoc, Int.mul_ediv_cancel' (h p (List.mem_cons_self ..))]
theorem totC_map_mod (c : Str → Option Int) (m : Int) : ∀ ts : List (Str × Int), totC (ts.map fun p => (p.1, p.2 % m)) c % m = totC ts c % m
  | [] => rfl
  | p :: r => by
    rw [List.map_cons, totC_cons, totC_cons, Int.add_emod, totC_map_mod c m r]
    show (p.2 % m * cv c p.1 % m + _) % m = _
    rw [Int.mul_emod, Int.emod_emod, ← Int.mul_emod, ← Int.add_emod]
theorem totC_filter (c : Str → Option Int) : ∀ ts : List (Str × Int), totC (ts.filter fun p => decide (p.2 ≠ 0)) c = totC ts c
  | [] => rfl
  | p :: r => by
    rw [List.filter_cons, totC_cons]
    by_cases e : p.2 = 0
    · rw [if_neg (by rw [decide_eq_false (fun h => h e)]; decide), totC_filter c r, e]
      omega
    · rw [if_pos (decide_eq_true e), totC_cons, totC_filter c r]
theorem totC_rest (c : Str → Option Int) (ts : List (Str × Int)) (m : Int) : totC (restT ts m) c % m = totC ts c % m := by
  unfold restT
  rw [totC_filter, totC_map_mod]
theorem totC_pos {c : Str → Option Int} : ∀ {ts : List (Str × Int)}, (∀ p ∈ ts, 0 < p.2) → (∀ p ∈ ts, 0 ≤ cv c p.1) → 0 ≤ totC ts c
  | [], _, _ => Int.le_refl 0
  | p :: r, h, k => by
    rw [totC_cons]
    have a := totC_pos (c := c) (ts := r) (fun q hq => h q (List.mem_cons_of_mem _ hq)) fun q hq => k q (List.mem_cons_of_mem _ hq)
    have b := Int.mul_nonneg (Int.le_of_lt (h p (List.mem_cons_self ..))) (k p (List.mem_cons_self ..))
    omega
theorem holds_opp (c : Str → Option Int) : ∀ f : Fm, f.opp.holds c = !f.holds c
  | .tt b => rfl
  | .least ts b => by
    show decide (1 - b ≤ totC (ts.map fun p => (p.1, -p.2)) c) = !decide (b ≤ totC ts c)
    rw [totC_neg, ← decide_not]
    exact decide_eq_decide.mpr (by omega)
  | .rest .. => rfl
  | .no f => by
    show f.holds c = !!f.holds c
    rw [Bool.not_not]
  | .two true f g => by
    show (f.opp.holds c || g.opp.holds c) = !(f.holds c && g.holds c)
    rw [holds_opp c f, holds_opp c g, Bool.not_and]
  | .two false f g => by
    show (f.opp.holds c && g.opp.holds c) = !(f.holds c || g.holds c)
    rw [holds_opp c f, holds_opp c g, Bool.not_or]
theorem holds_pair (c : Str → Option Int) (o : Bool) (f g : Fm) : (plainP o f g).holds c = (Fm.two o f g).holds c := by
  unfold plainP
  by_cases c1 : f = .tt (!o) ∨ g = .tt (!o)
  · rw [if_pos c1]
    rcases c1 with rfl | rfl
    · cases o <;> simp [Fm.holds]
    · cases o <;> simp [Fm.holds]
  rw [if_neg c1]
  by_cases c2 : f = .tt o
  · rw [if_pos c2, c2]
    cases o <;> simp [Fm.holds]
  rw [if_neg c2]
  by_cases c3 : g = .tt o ∨ g = f
  · rw [if_pos c3]
    rcases c3 with rfl | rfl
    · cases o <;> simp [Fm.holds]
    · cases o <;> simp [Fm.holds]
  rw [if_neg c3]
theorem holds_plainL {ts : List (Str × Int)} {b : Int} {c : Str → Option Int} (w : ts ≠ [] ∧ ∀ p ∈ ts, p.2 ≠ 0 ∧ p.2.natAbs ≤ 20) (nn : ∀ p ∈ ts, 0 ≤ cv c p.1) : (plainL ts b).holds c = (Fm.least ts b).holds c := by
  have g0 := gcdT_pos w.1 fun p hp => (w.2 p hp).1
  have e := totC_quo c (g := (gcdT ts : Int)) (by omega) ts fun p hp => gcdT_dvd hp
  obtain ⟨T, eT⟩ : ∃ T, totC (ts.map fun p => (p.1, p.2 / (gcdT ts : Int))) c = T := ⟨_, rfl⟩
  rw [eT] at e
  have iff : loL ts b ≤ T ↔ b ≤ totC ts c := by
    unfold loL
    have gp : 0 < (gcdT ts : Int) := by omega
    rw [← e]
    have h1 : -T ≤ -b / (gcdT ts : Int) ↔ -T * (gcdT ts : Int) ≤ -b := Int.le_ediv_iff_mul_le gp
    rw [Int.neg_mul, Int.mul_comm] at h1
    constructor
    · intro h
      have := h1.mp (by omega)
      omega
    · intro h
      have := h1.mpr (by omega)
      omega
  unfold plainL
  by_cases c1 : (ts.all fun p => decide (0 < p.2)) = true ∧ loL ts b ≤ 0
  · rw [if_pos c1]
    have h := totC_pos (c := c) (ts := ts) (fun p hp => of_decide_eq_true (List.all_eq_true.mp c1.1 p hp)) nn
    have T0 : 0 ≤ T := by
      rcases Int.lt_or_le T 0 with l | l
      · have := Int.mul_neg_of_pos_of_neg (show 0 < (gcdT ts : Int) by omega) l
        omega
      · exact l
    show true = decide (b ≤ totC ts c)
    exact (decide_eq_true (iff.mp (by have := c1.2; omega))).symm
  rw [if_neg c1]
  by_cases c2 : (ts.all fun p => decide (p.2 < 0)) = true ∧ 0 < loL ts b
  · rw [if_pos c2]
    have h := totC_pos (c := c) (ts := ts.map fun p => (p.1, -p.2)) (fun p hp => by
      obtain ⟨q, hq, rfl⟩ := List.mem_map.mp hp
      have := of_decide_eq_true (List.all_eq_true.mp c2.1 q hq)
      show 0 < -q.2
      omega) (fun p hp => by
      obtain ⟨q, hq, rfl⟩ := List.mem_map.mp hp
      exact nn q hq)
    rw [totC_neg] at h
    have T0 : T ≤ 0 := by
      rcases Int.lt_or_le 0 T with l | l
      · have := Int.mul_pos (show 0 < (gcdT ts : Int) by omega) l
        omega
      · exact l
    show false = decide (b ≤ totC ts c)
    exact (decide_eq_false (fun h => by have := iff.mpr h; have := c2.2; omega)).symm
  rw [if_neg c2]
  show decide (loL ts b ≤ totC _ c) = decide (b ≤ totC ts c)
  rw [eT]
  exact decide_eq_decide.mpr iff
theorem holds_plainR (ts : List (Str × Int)) (r m : Int) (c : Str → Option Int) : (plainR ts r m).holds c = (Fm.rest ts r m).holds c := by
  unfold plainR rotF
  cases h : (restT ts m).isEmpty with
  | true =>
    have e : restT ts m = [] := List.isEmpty_iff.mp h
    have := totC_rest c ts m
    rw [e] at this
    have z : totC ([] : List (Str × Int)) c % m = 0 := by show (0 : Int) % m = 0; exact Int.zero_emod m
    rw [z] at this
    show decide (r = 0) = decide (totC ts c % m = r)
    rw [← this]
    exact decide_eq_decide.mpr ⟨Eq.symm, Eq.symm⟩
  | false =>
    show decide (totC (restT ts m) c % m = r) = decide (totC ts c % m = r)
    rw [totC_rest]
theorem Pln.holds {n : Nat} {f g : Fm} (h : Pln n f g) (w : f.wf) {c : Str → Option Int} (nn : ∀ p ∈ f.terms, 0 ≤ cv c p.1) : g.holds c = f.holds c := by
  induction h with
  | tt n b => rfl
  | least n ts b => exact holds_plainL w nn
  | rest n ts r m => exact holds_plainR ts r m c
  | @two n f f' g g' o _ _ ih1 ih2 =>
    have i1 := ih1 w.1 fun p hp => nn p (List.mem_append_left _ hp)
    have i2 := ih2 w.2 fun p hp => nn p (List.mem_append_right _ hp)
    rw [holds_pair]
    cases o <;> simp only [Fm.holds, i1, i2]
  | noR _ e ih => show (!_) = !_; rw [ih w nn]
  | @noX n f f' g p e _ ih1 ih2 =>
    have l := p.less w
    rw [ih2 (Fm.opp_wf l.wf) fun q hq => ?_, holds_opp, ih1 w nn]
    · rfl
    · obtain ⟨z, hz, ez⟩ := List.mem_map.mp (((Fm.sub_opp f').trans l.sub).2 q hq)
      rw [← ez]
      exact nn z hz
theorem Tups.keepD {α : Type} {enc : α → List V} {H H' : Hp} {xs : List V} {l : List α} {p : Addr} {ls : List (Key × V)} (h : Tups enc H xs l) (hp : H p = some (.dK ls)) (k : Keep [p] H H') : Tups enc H' xs l := ⟨h.1, fun i a e => by
  obtain ⟨t, h1, h2⟩ := h.2 i a e
  exact ⟨t, h1, k t _ (fun m => by rw [List.mem_singleton.mp m, hp] at h2; cases h2) h2⟩⟩
theorem sqT_keepD {K : PySem.W.Frag} {p : Addr} {ls : List (Key × V)} {H H' : Hp} (hp : H p = some (.dK ls)) (k : Keep [p] H H') {a : Addr} {xs : List V} (h : SqT K H a xs) : SqT K H' a xs := by
  rcases h with (h | ⟨o, h⟩) | h
  · exact .inl (.inl (k a _ (fun m => by rw [List.mem_singleton.mp m, hp] at h; cases h) h))
  · exact .inl (.inr ⟨o, k a _ (fun m => by rw [List.mem_singleton.mp m, hp] at h; cases h) h⟩)
  · exact .inr h
theorem FmK.keepD {K : PySem.W.Frag} {H H' : Hp} {p : Addr} {ls : List (Key × V)} (hp : H p = some (.dK ls)) (k : Keep [p] H H') : ∀ {f : Fm} {v : V}, FmK K H f v → FmK K H' f v := by
  have tp : ∀ {a : Addr} {xs : List V}, H a = some (.tup xs) → H' a = some (.tup xs) := fun {a xs} h => k a _ (fun m => by rw [List.mem_singleton.mp m, hp] at h; cases h) h
  intro f
  induction f with
  | tt b => rintro v ⟨a, e, h⟩; exact ⟨a, e, sqT_keepD hp k h⟩
  | least ts b => rintro v ⟨a, t, xs, e, h, g, tt⟩; exact ⟨a, t, xs, e, sqT_keepD hp k h, tp g, tt.keepD hp k⟩
  | rest ts r m => rintro v ⟨a, t, xs, e, h, g, tt⟩; exact ⟨a, t, xs, e, sqT_keepD hp k h, tp g, tt.keepD hp k⟩
  | no f ih => rintro v ⟨a, x, e, h, g⟩; exact ⟨a, x, e, sqT_keepD hp k h, ih g⟩
  | two o f g ih1 ih2 => rintro v ⟨a, x, y, e, h, g1, g2⟩; exact ⟨a, x, y, e, sqT_keepD hp k h, ih1 g1, ih2 g2⟩
theorem TldK.keepD {K : PySem.W.Frag} {H H' : Hp} {p : Addr} {ls : List (Key × V)} (hp : H p = some (.dK ls)) (k : Keep [p] H H') {o : Option Fm} {v : V} (h : TldK K H o v) : TldK K H' o v := by
  cases o with
  | none => obtain ⟨a, e, h⟩ := h; exact ⟨a, e, sqT_keepD hp k h⟩
  | some f => exact FmK.keepD hp k h
theorem TldK.keep1 {K : PySem.W.Frag} {H H' : Hp} {p : Addr} {ls : List V} (hp : H p = some (.lst ls)) (k : Keep [p] H H') {o : Option Fm} {v : V} (h : TldK K H o v) : TldK K H' o v := by
  cases o with
  | none => obtain ⟨a, e, h⟩ := h; exact ⟨a, e, sqT_keep hp k h⟩
  | some f => exact FmK.keep1 hp k h
/-- where a law stands that draws counts: pool, script, counts, and some formulas or refusals -/
structure RunC (K : PySem.W.Frag) (H : Hp) (pl dr a cd : Addr) (ds : List Int) (xs : List V) (D : List (Option Fm × V)) (c : Str → Option Int) (m : Nat) (n : Int) : Prop where
  P : PoolX H pl dr ds n
  S : Sq1 K pl H a xs
  F : ∀ p ∈ D, TldK K H p.1 p.2
  C : CntN H cd c m
section
variable {K : PySem.W.Frag} {H H' : Hp} {pl dr a cd : Addr} {ds : List Int} {xs : List V} {D : List (Option Fm × V)} {c : Str → Option Int} {m : Nat} {n n' : Int}
theorem RunC.ncd (R : RunC K H pl dr a cd ds xs D c m n) : cd ∉ [pl] := fun h => by
  obtain ⟨kvs, h1, _⟩ := R.C
  rw [List.mem_singleton.mp h, R.P.1] at h1
  cases h1
theorem RunC.keep (R : RunC K H pl dr a cd ds xs D c m n) (k : Keep [pl] H H') (P' : PoolX H' pl dr ds n') : RunC K H' pl dr a cd ds xs D c m n' := by
  refine ⟨P', R.S.keep k, fun p hp => (R.F p hp).keep1 R.P.1 k, ?_⟩
  have nc := R.ncd
  obtain ⟨kvs, h1, h2, h3⟩ := R.C
  exact ⟨kvs, k cd _ nc h1, h2, h3⟩
theorem RunC.same (R : RunC K H pl dr a cd ds xs D c m n) (s : Same H H') : RunC K H' pl dr a cd ds xs D c m n := R.keep (Keep.of s) (R.P.same s)
theorem RunC.put (R : RunC K H pl dr a cd ds xs D c m n) (hm : m ≤ 900) (x : Str) (z : Int) : ∃ kvs, DPut H cd (.str x) (.int z) (upd H cd (.dK kvs)) ∧ RunC K (upd H cd (.dK kvs)) pl dr a cd ds xs D (setC c x (some z)) (m + 1) n := by
  have C0 := R.C
  obtain ⟨kvs, h1, h2, h3⟩ := C0
  have kp : ∀ u, Keep [cd] H (upd H cd u) := fun u b o nb e => by rw [upd_ne (fun x => nb (by rw [x]; exact List.mem_singleton.mpr rfl))]; exact e
  have ncp : pl ≠ cd := fun e => R.ncd (by rw [e]; exact List.mem_singleton.mpr rfl)
  have ncd2 : dr ≠ cd := fun e => by rw [← e, R.P.2.1] at h1; cases h1
  refine ⟨_, DPut.k (k := Sum.inr x) h1 (Nat.lt_of_le_of_lt (Nat.le_trans h2 hm) (by decide)), ⟨R.P.put (fun e => ncp e.symm) ncd2, ?_, fun p hp => (R.F p hp).keepD h1 (kp _), _, upd_same, Nat.le_trans (length_putK ..) (by omega), fun y => ?_⟩⟩
  · have ne : ∀ {b : Addr} {o : HO}, H b = some o → (∀ z, o ≠ .dK z) → b ≠ cd := fun {b o} hb hn e => by
      rw [e, h1] at hb
      exact hn _ (Option.some.inj hb).symm
    refine ⟨?_, R.S.2⟩
    rcases R.S.1 with (g | ⟨o, g⟩) | g
    · exact .inl (.inl (by rw [upd_ne (ne g fun z => by simp)]; exact g))
    · exact .inl (.inr ⟨o, by rw [upd_ne (ne g fun z => by simp)]; exact g⟩)
    · exact .inr g
  rw [valV_put]
  unfold setC
  by_cases e : y = x
  · rw [if_pos (by rw [e]), if_pos e]
    rfl
  · rw [if_neg (fun i => e (Sum.inr.inj i)), if_neg e]
    exact h3 y
end
end Vf

namespace Vf
open PySem L2
/-! ### sums kept in a dict, by keys of any kind -/
section
variable {κ : Type} [DecidableEq κ]
abbrev LK (κ : Type) := List (κ × Int)
def gGet (L : LK κ) (k : κ) : Int := (L.map fun p => if p.1 = k then p.2 else 0).sum
def gAdd (L : LK κ) (k : κ) (z : Int) : LK κ := if k ∈ L.map Prod.fst then L.map (fun p => if p.1 = k then (p.1, p.2 + z) else p) else L ++ [(k, z)]
def gAll (C : LK κ) : LK κ := C.foldl (fun L p => gAdd L p.1 p.2) []
theorem gGet_app (L M : LK κ) (k : κ) : gGet (L ++ M) k = gGet L k + gGet M k := by
  unfold gGet
  rw [List.map_append, List.sum_append]
theorem gGet_out {L : LK κ} {k : κ} (h : k ∉ L.map Prod.fst) : gGet L k = 0 := by
  induction L with
  | nil => rfl
  | cons p r ih =>
    rw [List.map_cons, List.mem_cons, not_or] at h
    show (if p.1 = k then p.2 else 0) + gGet r k = 0
    rw [if_neg (fun e => h.1 e.symm), ih h.2]
    rfl
theorem gGet_in {L : LK κ} {p : κ × Int} (nd : (L.map Prod.fst).Nodup) (h : p ∈ L) : gGet L p.1 = p.2 := by
  induction L with
  | nil => cases h
  | cons q r ih =>
    rw [List.map_cons, List.nodup_cons] at nd
    show (if q.1 = p.1 then q.2 else 0) + gGet r p.1 = p.2
    rcases List.mem_cons.mp h with rfl | h
    · rw [if_pos rfl, gGet_out nd.1]
      omega
    · have ne : q.1 ≠ p.1 := fun e => nd.1 (by rw [e]; exact List.mem_map_of_mem h)
      rw [if_neg ne, ih nd.2 h]
      omega
theorem gAdd_keys (L : LK κ) (k : κ) (z : Int) : (gAdd L k z).map Prod.fst = if k ∈ L.map Prod.fst then L.map Prod.fst else L.map Prod.fst ++ [k] := by
  unfold gAdd
  split
  · rw [List.map_map]
    refine List.map_congr_left fun p hp => ?_
    show (if p.1 = k then (p.1, p.2 + z) else p).1 = p.1
    split <;> rfl
  · rw [List.map_append]
    rfl
theorem gAdd_nd {L : LK κ} (nd : (L.map Prod.fst).Nodup) (k : κ) (z : Int) : ((gAdd L k z).map Prod.fst).Nodup := by
  rw [gAdd_keys]
  split
  · exact nd
  · rename_i h
    rw [List.nodup_append]
    exact ⟨nd, by simp, fun a ha b hb e => h (by rw [← List.mem_singleton.mp hb, ← e]; exact ha)⟩
theorem gAdd_mem {L : LK κ} {k : κ} {z : Int} {s : κ} : s ∈ (gAdd L k z).map Prod.fst ↔ s ∈ L.map Prod.fst ∨ s = k := by
  rw [gAdd_keys]
  split
  · rename_i h
    exact ⟨.inl, fun e => e.elim id fun e => by rw [e]; exact h⟩
  · rw [List.mem_append, List.mem_singleton]
theorem gGet_add {L : LK κ} (nd : (L.map Prod.fst).Nodup) (k : κ) (z : Int) (s : κ) : gGet (gAdd L k z) s = gGet L s + if k = s then z else 0 := by
  unfold gAdd
  split
  · rename_i h
    induction L with
    | nil => cases h
    | cons p r ih =>
      rw [List.map_cons, List.nodup_cons] at nd
      rw [List.map_cons]
      show (if (if p.1 = k then (p.1, p.2 + z) else p).1 = s then (if p.1 = k then (p.1, p.2 + z) else p).2 else 0) + gGet (r.map fun p => if p.1 = k then (p.1, p.2 + z) else p) s = (if p.1 = s then p.2 else 0) + gGet r s + _
      by_cases e : p.1 = k
      · have nk : k ∉ r.map Prod.fst := by rw [← e]; exact nd.1
        have idr : (r.map fun p => if p.1 = k then (p.1, p.2 + z) else p) = r := by
          refine (List.map_congr_left fun q hq => ?_).trans (List.map_id r)
          exact if_neg fun x => nk (by rw [← x]; exact List.mem_map_of_mem hq)
        rw [if_pos e, idr]
        show (if p.1 = s then p.2 + z else 0) + gGet r s = _
        by_cases e2 : p.1 = s
        · rw [if_pos e2, if_pos e2, if_pos (e.symm.trans e2)]
          omega
        · rw [if_neg e2, if_neg e2, if_neg (fun x => e2 (e.trans x))]
          omega
      · rw [if_neg e]
        have hk : k ∈ r.map Prod.fst := by
          rw [List.map_cons, List.mem_cons] at h
          exact h.resolve_left fun x => e x.symm
        rw [ih nd.2 hk]
        omega
  · rw [gGet_app]
    unfold gGet
    simp
theorem gAll_app (C : LK κ) (k : κ) (z : Int) : gAll (C ++ [(k, z)]) = gAdd (gAll C) k z := by
  unfold gAll
  rw [List.foldl_append]
  rfl
theorem gAll_ok : ∀ C : LK κ, ((gAll C).map Prod.fst).Nodup ∧ (∀ s, s ∈ (gAll C).map Prod.fst ↔ s ∈ C.map Prod.fst) ∧ (∀ s, gGet (gAll C) s = gGet C s) ∧ (gAll C).length ≤ C.length := by
  have go : ∀ (C D : LK κ), ((gAll D).map Prod.fst).Nodup ∧ (∀ s, s ∈ (gAll D).map Prod.fst ↔ s ∈ D.map Prod.fst) ∧ (∀ s, gGet (gAll D) s = gGet D s) ∧ (gAll D).length ≤ D.length →
      ((gAll (D ++ C)).map Prod.fst).Nodup ∧ (∀ s, s ∈ (gAll (D ++ C)).map Prod.fst ↔ s ∈ (D ++ C).map Prod.fst) ∧ (∀ s, gGet (gAll (D ++ C)) s = gGet (D ++ C) s) ∧ (gAll (D ++ C)).length ≤ (D ++ C).length := by
    intro C
    induction C with
    | nil => intro D h; rw [List.append_nil]; exact h
    | cons p r ih =>
      intro D h
      obtain ⟨h1, h2, h3, h4⟩ := h
      rw [show D ++ p :: r = (D ++ [p]) ++ r by simp]
      refine ih (D ++ [p]) ?_
      have e : gAll (D ++ [p]) = gAdd (gAll D) p.1 p.2 := gAll_app D p.1 p.2
      rw [e]
      refine ⟨gAdd_nd h1 _ _, fun s => ?_, fun s => ?_, ?_⟩
      · rw [gAdd_mem, h2, List.map_append, List.mem_append]
        simp
      · rw [gGet_add h1, h3, gGet_app]
        unfold gGet
        simp
      · have := congrArg List.length (gAdd_keys (gAll D) p.1 p.2)
        rw [List.length_map] at this
        rw [this, List.length_append]
        split
        · rw [List.length_map]; show _ ≤ _ + 1; omega
        · rw [List.length_append, List.length_map]; show _ + 1 ≤ _ + 1; omega
  intro C
  have := go C [] ⟨List.nodup_nil, fun s => Iff.rfl, fun s => rfl, Nat.le_refl _⟩
  rwa [List.nil_append] at this
end
end Vf
namespace Vf
open PySem L2
section
variable {κ κ' : Type} [DecidableEq κ] [DecidableEq κ']
def encK (e : κ → κ') (L : LK κ) : List (κ' × V) := L.map fun p => (e p.1, V.int p.2)
theorem encK_len (e : κ → κ') (L : LK κ) : (encK e L).length = L.length := List.length_map ..
theorem encK_in {e : κ → κ'} (inj : ∀ a b, e a = e b → a = b) {L : LK κ} (nd : (L.map Prod.fst).Nodup) {p : κ × Int} (h : p ∈ L) : valV (encK e L) (e p.1) = some (.int p.2) := by
  induction L with
  | nil => cases h
  | cons q r ih =>
    rw [List.map_cons, List.nodup_cons] at nd
    rcases List.mem_cons.mp h with rfl | h
    · exact valV_pos rfl
    · have ne : q.1 ≠ p.1 := fun x => nd.1 (by rw [x]; exact List.mem_map_of_mem h)
      exact (valV_neg (fun x => ne (inj _ _ x))).trans (ih nd.2 h)
theorem encK_out {e : κ → κ'} (inj : ∀ a b, e a = e b → a = b) {L : LK κ} {k : κ} (h : k ∉ L.map Prod.fst) : valV (encK e L) (e k) = none := by
  induction L with
  | nil => rfl
  | cons q r ih =>
    rw [List.map_cons, List.mem_cons, not_or] at h
    exact (valV_neg (fun x => h.1 (inj _ _ x).symm)).trans (ih h.2)
theorem encK_get {e : κ → κ'} (inj : ∀ a b, e a = e b → a = b) {L : LK κ} (nd : (L.map Prod.fst).Nodup) (k : κ) : (valV (encK e L) (e k)).getD (.int 0) = .int (gGet L k) := by
  by_cases h : k ∈ L.map Prod.fst
  · obtain ⟨p, hp, rfl⟩ := List.mem_map.mp h
    rw [encK_in inj nd hp, gGet_in nd hp]
    rfl
  · rw [encK_out inj h, gGet_out h]
    rfl
theorem encK_put {e : κ → κ'} (inj : ∀ a b, e a = e b → a = b) {L : LK κ} (nd : (L.map Prod.fst).Nodup) (k : κ) (z : Int) : putK (encK e L) (e k) (.int (gGet L k + z)) = encK e (gAdd L k z) := by
  by_cases h : k ∈ L.map Prod.fst
  · obtain ⟨p, hp, rfl⟩ := List.mem_map.mp h
    have hv := encK_in (e := e) inj nd hp
    unfold gAdd
    rw [if_pos h]
    unfold putK
    rw [if_pos (by rw [valV_any, hv]; rfl)]
    unfold encK
    rw [List.map_map, List.map_map]
    refine List.map_congr_left fun q hq => ?_
    show (if e q.1 = e p.1 then (e q.1, V.int (gGet L p.1 + z)) else (e q.1, V.int q.2)) = (e (if q.1 = p.1 then (q.1, q.2 + z) else q).1, V.int (if q.1 = p.1 then (q.1, q.2 + z) else q).2)
    by_cases c : q.1 = p.1
    · rw [if_pos (by rw [c]), if_pos c, ← c, gGet_in nd hq]
    · rw [if_neg (fun x => c (inj _ _ x)), if_neg c]
  · unfold gAdd
    rw [if_neg h, putK_new _ (encK_out inj h), gGet_out h]
    unfold encK
    rw [List.map_append]
    show _ ++ [(e k, V.int (0 + z))] = _ ++ [(e k, V.int z)]
    rw [show (0 : Int) + z = z by omega]
end
/-! ### terms added up -/
theorem inr_inj : ∀ a b : Str, (Sum.inr a : Key) = Sum.inr b → a = b := fun a b h => Sum.inr.inj h
def tkv (L : LK Str) : List (Key × V) := encK Sum.inr L
theorem tkv_get {L : LK Str} {x : Str} (nd : (L.map Prod.fst).Nodup) (h : x ∈ L.map Prod.fst) : valV (tkv L) (Sum.inr x) = some (.int (gGet L x)) := by
  obtain ⟨p, hp, rfl⟩ := List.mem_map.mp h
  rw [show valV (tkv L) (Sum.inr p.1) = some (.int p.2) from encK_in inr_inj nd hp, gGet_in nd hp]
theorem tkv_out {L : LK Str} {x : Str} (h : x ∉ L.map Prod.fst) : valV (tkv L) (Sum.inr x) = none := encK_out inr_inj h
theorem tkv_put {L : LK Str} (nd : (L.map Prod.fst).Nodup) (x : Str) (z : Int) : putK (tkv L) (Sum.inr x) (.int (gGet L x + z)) = tkv (gAdd L x z) := encK_put inr_inj nd x z
theorem tkv_getD {L : LK Str} (nd : (L.map Prod.fst).Nodup) (x : Str) : (valV (tkv L) (Sum.inr x)).getD (.int 0) = .int (gGet L x) := encK_get inr_inj nd x
theorem tkv_keys (L : LK Str) : (tkv L).map (·.1) = (L.map Prod.fst).map Sum.inr := by
  unfold tkv encK
  rw [List.map_map, List.map_map]
  rfl
/-- the terms, added up: each name once, ascending, without those that vanish -/
structure AddT (ts us : List (Str × Int)) : Prop where
  asc : ascB (us.map Prod.fst) = true
  mem : ∀ p : Str × Int, p ∈ us ↔ p.2 = gGet ts p.1 ∧ p.2 ≠ 0
theorem ascB_nd {l : List Str} (h : ascB l = true) : l.Nodup := (of_decide_eq_true h).imp fun {x y} h e => by
  rw [e] at h
  exact List.lt_irrefl _ h
theorem ascB_le {l : List Str} (h : ascB l = true) : l.Pairwise fun x y => x.cps.toList ≤ y.cps.toList := (of_decide_eq_true h).imp fun {x y} h => List.le_of_lt h
theorem AddT.uniq {ts us vs : List (Str × Int)} (h : AddT ts us) (k : AddT ts vs) : us = vs := by
  have e : us.map Prod.fst = vs.map Prod.fst := asc_perm ((List.perm_ext_iff_of_nodup (ascB_nd h.asc) (ascB_nd k.asc)).mpr fun x => by
    constructor
    · intro m
      obtain ⟨p, hp, rfl⟩ := List.mem_map.mp m
      exact List.mem_map.mpr ⟨p, (k.mem p).mpr ((h.mem p).mp hp), rfl⟩
    · intro m
      obtain ⟨p, hp, rfl⟩ := List.mem_map.mp m
      exact List.mem_map.mpr ⟨p, (h.mem p).mpr ((k.mem p).mp hp), rfl⟩) (ascB_le h.asc) (ascB_le k.asc)
  have fix : ∀ {ws : List (Str × Int)}, AddT ts ws → ws = (ws.map Prod.fst).map fun x => (x, gGet ts x) := fun {ws} w => by
    rw [List.map_map]
    conv => lhs; rw [← List.map_id ws]
    refine List.map_congr_left fun p hp => ?_
    show p = (p.1, gGet ts p.1)
    rw [← ((w.mem p).mp hp).1]
  rw [fix h, fix k, e]
theorem AddT.congr {ts ts' us : List (Str × Int)} (h : AddT ts us) (e : ∀ x, gGet ts' x = gGet ts x) : AddT ts' us := ⟨h.asc, fun p => by rw [h.mem p, e]⟩
/-- what a table of sums makes, in the order of its sorted names -/
theorem AddT.made {ts : List (Str × Int)} {L : LK Str} {ls : List Str} (nd : (L.map Prod.fst).Nodup) (e : ∀ x, gGet L x = gGet ts x) (pm : ls.Perm (L.map Prod.fst)) (pw : ls.Pairwise fun x y => x.cps.toList ≤ y.cps.toList) :
    AddT ts ((ls.map fun x => (x, gGet L x)).filter fun p => decide (p.2 ≠ 0)) := by
  have ndl : ls.Nodup := pm.nodup_iff.mpr nd
  have nm : ((ls.map fun x => (x, gGet L x)).filter fun p => decide (p.2 ≠ 0)).map Prod.fst = ls.filter fun x => decide (gGet L x ≠ 0) := by
    rw [List.filter_map, List.map_map]
    exact List.map_id _
  refine ⟨?_, fun p => ?_⟩
  · rw [nm]
    refine decide_eq_true (List.Pairwise.filter _ ?_)
    exact (pw.and ndl).imp fun {x y} h => by
      rcases Classical.em (x.cps.toList < y.cps.toList) with h1 | h1
      · exact h1
      · have h1 := List.le_antisymm h.1 (List.not_lt.mp h1)
        refine absurd ?_ h.2
        obtain ⟨cx⟩ := x
        obtain ⟨cy⟩ := y
        have e2 : cx = cy := Array.toList_inj.mp h1
        rw [e2]
  · rw [List.mem_filter, decide_eq_true_eq, List.mem_map]
    constructor
    · rintro ⟨⟨x, hx, rfl⟩, h0⟩
      exact ⟨e x, h0⟩
    · rintro ⟨h1, h0⟩
      refine ⟨⟨p.1, pm.mem_iff.mpr ?_, ?_⟩, h0⟩
      · refine Classical.byContradiction fun no => h0 ?_
        rw [h1, ← e, gGet_out no]
      · rw [e, ← h1]
/-- terms that are right, once each, add up to themselves -/
theorem AddT.self {ts : List (Str × Int)} (a : ascB (ts.map Prod.fst) = true) (nz : ∀ p ∈ ts, p.2 ≠ 0) : AddT ts ts := ⟨a, fun p => by
  have nd := ascB_nd a
  constructor
  · intro h
    exact ⟨(gGet_in nd h).symm, nz p h⟩
  · rintro ⟨h1, h0⟩
    have m : p.1 ∈ ts.map Prod.fst := Classical.byContradiction fun no => h0 (by rw [h1, gGet_out no])
    obtain ⟨q, hq, e⟩ := List.mem_map.mp m
    have := gGet_in nd hq
    rw [e, ← h1] at this
    have : q = p := Prod.ext e this.symm
    rw [← this]
    exact hq⟩
theorem AddT.neg {ts us : List (Str × Int)} (h : AddT ts us) : AddT (ts.map fun p => (p.1, -p.2)) (us.map fun p => (p.1, -p.2)) := by
  have g : ∀ (ts : List (Str × Int)) (x : Str), gGet (ts.map fun p => (p.1, -p.2)) x = -gGet ts x := fun ts x => by
    induction ts with
    | nil => rfl
    | cons p r ih =>
      show (if p.1 = x then -p.2 else 0) + gGet (r.map _) x = -((if p.1 = x then p.2 else 0) + gGet r x)
      rw [ih]
      split <;> omega
  refine ⟨?_, fun p => ?_⟩
  · rw [List.map_map]
    exact h.asc
  · rw [g, List.mem_map]
    constructor
    · rintro ⟨q, hq, rfl⟩
      have := (h.mem q).mp hq
      exact ⟨by show -q.2 = _; rw [this.1], by show -q.2 ≠ 0; omega⟩
    · rintro ⟨h1, h0⟩
      exact ⟨(p.1, -p.2), (h.mem (p.1, -p.2)).mpr ⟨by show -p.2 = _; rw [h1]; exact Int.neg_neg _, by show -p.2 ≠ 0; omega⟩, by rw [Int.neg_neg]⟩
theorem AddT.len {ts us : List (Str × Int)} (h : AddT ts us) : us.length ≤ ts.length := by
  have := List.Nodup.length_le_of_subset (ascB_nd h.asc) (l₂ := ts.map Prod.fst) fun x hx => by
    obtain ⟨p, hp, rfl⟩ := List.mem_map.mp hx
    have := (h.mem p).mp hp
    exact Classical.byContradiction fun no => this.2 (by rw [this.1, gGet_out no])
  rw [List.length_map, List.length_map] at this
  exact this
theorem AddT.names {ts us : List (Str × Int)} (h : AddT ts us) : ∀ p ∈ us, p.1 ∈ ts.map Prod.fst := fun p hp => by
  have := (h.mem p).mp hp
  exact Classical.byContradiction fun no => this.2 (by rw [this.1, gGet_out no])
/-- the terms of a list, added up -/
theorem AddT.ex (ts : List (Str × Int)) : ∃ us, AddT ts us := by
  obtain ⟨n1, _, n3, _⟩ := gAll_ok ts
  have so : ∃ ls : List Str, ls.Perm ((gAll ts).map Prod.fst) ∧ ls.Pairwise fun x y => x.cps.toList ≤ y.cps.toList := by
    refine ⟨((gAll ts).map Prod.fst).mergeSort fun x y => decide (x.cps.toList ≤ y.cps.toList), List.mergeSort_perm _ _, ?_⟩
    refine (List.pairwise_mergeSort (le := fun (x y : Str) => decide (x.cps.toList ≤ y.cps.toList)) (fun a b c h1 h2 => ?_) (fun a b => ?_) _).imp fun {a b} h => of_decide_eq_true h
    · exact decide_eq_true (List.le_trans (of_decide_eq_true h1) (of_decide_eq_true h2))
    · rw [Bool.or_eq_true, decide_eq_true_eq, decide_eq_true_eq]
      exact List.le_total _ _
  obtain ⟨ls, pm, pw⟩ := so
  exact ⟨_, AddT.made n1 n3 pm pw⟩
end Vf
namespace Vf
open PySem L2
theorem gAll_snoc (ts : List (Str × Int)) (p : Str × Int) : gAll (ts ++ [p]) = gAdd (gAll ts) p.1 p.2 := by
  unfold gAll
  rw [List.foldl_append]
  rfl
end Vf

/-! ### set comprehensions with two clauses, by what a set tracks -/
namespace Vf
open PySem PySem.Spec PyProof.Rows L2
section
variable {prog : Program} {w : World} {A : Around} {R : Result → Shared → Prop} {s : Shared} {el ta ia tb ib : Expr} {fa fb : List Expr} {sco : Scope} {po : Pos} {it dst : Value} {env : Env}
abbrev Sc2 (el ta ia : Expr) (fa : List Expr) (tb ib : Expr) (fb : List Expr) (sco : Scope) (po : Pos) : Expr := .SetComp el [⟨ta, ia, fa, 0⟩, ⟨tb, ib, fb, 0⟩] sco po
abbrev NoteR (prog : Program) (w : World) (A : Around) (env : Env) (R : Result → Shared → Prop) : Value → Shared → Prop := notedBy (model prog w) A env fun ex u => R (.error ex) u
abbrev AllOf (fs : List Expr) (env : Env) : Sem Bool := forIn fs true fun d r => if r = true then do let z ← isTrue d env (eval d env); pure (ForInStep.yield z) else pure (ForInStep.yield r)
theorem turn_a : compTurn (Sc2 el ta ia fa tb ib fb sco po) 0 it dst env = (do
      standAt ia.pos
      match ← pyNext it with
      | none => pure (.done .next)
      | some y =>
        letOwnedTupleGo ta it y
        assign ta env y
        let mut fine := true
        for d in fa do
          if fine then fine ← isTrue d env (eval d env)
        if fine then
          let src ← eval ib env
          standAt ib.pos
          let src ← foldedSetIterable ib env src
          let _ ← runOwn (.compStart (Sc2 el ta ia fa tb ib fb sco po) 1 (← holding [src] (pyIter src)) dst env) env
        again (.compLoop (Sc2 el ta ia fa tb ib fb sco po) 0 it dst env)) := by rfl
theorem turn_b : compTurn (Sc2 el ta ia fa tb ib fb sco po) 1 it dst env = (do
      standAt ib.pos
      match ← pyNext it with
      | none => pure (.done .next)
      | some y =>
        letOwnedTupleGo tb it y
        assign tb env y
        let mut fine := true
        for d in fb do
          if fine then fine ← isTrue d env (eval d env)
        if fine then
          (do let y ← eval el env; standAt el.pos; let _ ← call (.builtin "set.add") [dst, y])
        again (.compLoop (Sc2 el ta ia fa tb ib fb sco po) 1 it dst env)) := by rfl
theorem loop_a (hs : ∀ x, foldedSetIterable ib env x = pure x) (J : Nat → Shared → Prop)
    (step : ∀ k u, J k u → wpAny (model prog w) A (pyNext it) (fun got u1 => match got with
      | none => R (.ok .next) u1
      | some y => wpAny (model prog w) A (letOwnedTupleGo ta it y) (fun _ u2 => wpAny (model prog w) A (assign ta env y) (fun _ u3 => wpAny (model prog w) A (AllOf fa env) (fun fine u4 =>
          if fine = true then wpAny (model prog w) A (eval ib env) (fun src u5 => wpAny (model prog w) A (pyIter src) (fun it2 u6 =>
              codeAny (model prog w) A (.compStart (Sc2 el ta ia fa tb ib fb sco po) 1 it2 dst env) (fun res u7 => match res with
                | .ok _ => ∃ m, m < k ∧ J m u7
                | .error _ => False) u6) (NoteR prog w A env R) u5) (NoteR prog w A env R) u4
          else ∃ m, m < k ∧ J m u4) (NoteR prog w A env R) u3) (NoteR prog w A env R) u2) (NoteR prog w A env R) u1) (NoteR prog w A env R) u) (k : Nat) (h : J k s) :
    codeAny (model prog w) A (.compLoop (Sc2 el ta ia fa tb ib fb sco po) 0 it dst env) R s := by
  refine codeAny_loop rfl J (fun k u hJ => ?_) k h
  show wpAny _ A ((compTurn (Sc2 el ta ia fa tb ib fb sco po) 0 it dst env).onRaise (fun x => do noteFrame x env; theTreesLotGoes x)) _ _ u
  refine wpAny_noted ?_
  rw [turn_a]
  refine wpAny_bind (wpAny_standAt (wpAny_bind (wpAny_mono (step k u hJ) (fun got u1 g1 => ?_) fun _ _ z => z)))
  cases got with
  | none => exact wpAny_pure g1
  | some y =>
    refine wpAny_bind (wpAny_mono g1 (fun _ u2 g2 => ?_) fun _ _ z => z)
    refine wpAny_bind (wpAny_mono g2 (fun _ u3 g3 => wpAny_bind (wpAny_mono g3 (fun fine u4 g4 => ?_) fun _ _ z => z)) fun _ _ z => z)
    cases fine with
    | false => exact wpAny_pure ⟨rfl, g4⟩
    | true =>
      refine wpAny_bind (wpAny_mono g4 (fun src u5 g5 => ?_) fun _ _ z => z)
      refine wpAny_bind (wpAny_standAt (wpAny_bind (wpAny_of_eq (hs src) (wpAny_bind (wpAny_holding (wpAny_mono g5 (fun it2 u6 g6 => ?_) fun _ _ z => z))))))
      refine wpAny_bind (wpAny_runOwn ?_)
      rw [Around.mark_none]
      refine codeAny_mono g6 fun res u7 gr => ?_
      cases res with
      | ok f => first | exact wpAny_pure ⟨rfl, gr⟩ | exact wpAny_bind (wpAny_pure (wpAny_pure ⟨rfl, gr⟩))
      | error e => exact gr.elim
theorem loop_b (J : Nat → Shared → Prop)
    (step : ∀ k u, J k u → wpAny (model prog w) A (pyNext it) (fun got u1 => match got with
      | none => R (.ok .next) u1
      | some y => wpAny (model prog w) A (letOwnedTupleGo tb it y) (fun _ u2 => wpAny (model prog w) A (assign tb env y) (fun _ u3 => wpAny (model prog w) A (AllOf fb env) (fun fine u4 =>
          if fine = true then wpAny (model prog w) A (eval el env) (fun val u5 => wpAny (model prog w) A (call (.builtin "set.add") [dst, val]) (fun _ u6 => ∃ m, m < k ∧ J m u6) (NoteR prog w A env R) u5) (NoteR prog w A env R) u4
          else ∃ m, m < k ∧ J m u4) (NoteR prog w A env R) u3) (NoteR prog w A env R) u2) (NoteR prog w A env R) u1) (NoteR prog w A env R) u) (k : Nat) (h : J k s) :
    codeAny (model prog w) A (.compLoop (Sc2 el ta ia fa tb ib fb sco po) 1 it dst env) R s := by
  refine codeAny_loop rfl J (fun k u hJ => ?_) k h
  show wpAny _ A ((compTurn (Sc2 el ta ia fa tb ib fb sco po) 1 it dst env).onRaise (fun x => do noteFrame x env; theTreesLotGoes x)) _ _ u
  refine wpAny_noted ?_
  rw [turn_b]
  refine wpAny_bind (wpAny_standAt (wpAny_bind (wpAny_mono (step k u hJ) (fun got u1 g1 => ?_) fun _ _ z => z)))
  cases got with
  | none => exact wpAny_pure g1
  | some y =>
    refine wpAny_bind (wpAny_mono g1 (fun _ u2 g2 => ?_) fun _ _ z => z)
    refine wpAny_bind (wpAny_mono g2 (fun _ u3 g3 => wpAny_bind (wpAny_mono g3 (fun fine u4 g4 => ?_) fun _ _ z => z)) fun _ _ z => z)
    cases fine with
    | false => exact wpAny_pure ⟨rfl, g4⟩
    | true => exact wpAny_bind (wpAny_bind (wpAny_mono g4 (fun val u5 g5 => wpAny_bind (wpAny_standAt (wpAny_bind (wpAny_mono g5 (fun _ u6 g6 => wpAny_pure (wpAny_pure ⟨rfl, g6⟩)) fun _ _ z => z)))) fun _ _ z => z))
theorem start_b (g0 : codeAny (model prog w) A (.compLoop (Sc2 el ta ia fa tb ib fb sco po) 1 it dst env) R s)
    (g1 : wpAny (model prog w) A (pyIter it) (fun it2 u => codeAny (model prog w) A (.compLoop (Sc2 el ta ia fa tb ib fb sco po) 1 it2 dst env) R u) (NoteR prog w A env R) s) :
    codeAny (model prog w) A (.compStart (Sc2 el ta ia fa tb ib fb sco po) 1 it dst env) R s := by
  refine codeAny_of_tree ?_
  show wpAny _ _ ((compStart (Sc2 el ta ia fa tb ib fb sco po) 1 it dst env).onRaise (fun x => do noteFrame x env; standAt theWindowsPlace)) _ _ s
  refine wpAny_notedAt ?_
  unfold compStart
  show wpAny _ _ (ask >>= _) _ _ s
  refine wpAny_bind (wpAny_askSetting (wpAny_ite ?_))
  split
  · first | exact wpAny_bind (wpAny_pure (wpAny_pure (And.intro rfl g0))) | exact wpAny_pure (And.intro rfl g0)
  · first
      | exact wpAny_bind (wpAny_rule (wpAny_bind (wpAny_standAt (wpAny_bind (wpAny_mono g1 (fun it2 u gu => wpAny_pure (And.intro rfl gu)) fun _ _ z => z)))))
      | (refine wpAny_bind (wpAny_rule ?_); show wpAny _ _ (standAt ib.pos >>= _) _ _ s; exact wpAny_bind (wpAny_standAt (wpAny_bind (wpAny_mono g1 (fun it2 u gu => wpAny_pure (And.intro rfl gu)) fun _ _ z => z))))
end
end Vf
namespace Vf
open PySem PySem.Spec PyProof.Rows L2
/-- what the inner source's loop wants -/
def ScIn {τ : Type} (SO : Addr → τ → HO) (grow : τ → V → τ → Prop) (g1 : TG) (tt1 : TT) (te : TE) (vs1 : List Nat) (D : Addr) (σ2 : L2.St) (Nx : Hp → Prop) : It → Hp → Prop := fun J1 H4 => ∃ W1 : Nat → Nat → Hp → Prop, (∃ m, W1 0 m H4) ∧ ∀ j k H, W1 j k H →
  (J1.stop j H ∧ Nx H) ∨ (J1.go j H ∧ ∃ Ny : Hp → Prop, (∀ H', Ny H' → ∃ k', k' < k ∧ W1 (j + 1) k' H') ∧ ∀ x H', J1.yld j H x H' → g1 x (wipe σ2 vs1) H' fun σ3 H5 => wipe σ3 vs1 = wipe σ2 vs1 ∧ tt1 σ3 H5 fun b H6 =>
    if b = true then te σ3 H6 fun y H7 => ∃ t t' : τ, H7 D = some (SO D t) ∧ grow t y t' ∧ Ny (upd H7 D (SO D t')) else Ny H6)
def tSc2G {τ : Type} (SO : Addr → τ → HO) (z : τ) (grow : τ → V → τ → Prop) (wi : TI) (g : TG) (tt : TT) (wi1 : TI) (g1 : TG) (tt1 : TT) (te : TE) (vs vs1 : List Nat) : TE := fun σ H Q => wi σ H fun J H1 => ∀ D, H1 D = none → ∃ W : Nat → Nat → Hp → Prop, (∃ m, W 0 m (upd H1 D (SO D z))) ∧ ∀ i m H, W i m H →
  (J.stop i H ∧ Q (.ref D) H) ∨ (J.go i H ∧ ∃ Nx : Hp → Prop, (∀ H', Nx H' → ∃ m', m' < m ∧ W (i + 1) m' H') ∧ ∀ x H', J.yld i H x H' → g x (wipe σ vs) H' fun σ2 H2 => wipe σ2 vs = wipe σ vs ∧ tt σ2 H2 fun b H3 =>
    if b = true then wi1 σ2 H3 (ScIn SO grow g1 tt1 te vs1 D σ2 Nx) else Nx H3)
section
variable {X : Cx} {τ : Type} {SO : Addr → τ → HO} {z : τ} {grow : τ → V → τ → Prop}
theorem pe_sc2G (L : SetLike X.prog X.w SO z grow) {el ta ia tb ib : Expr} {fa fb : List Expr} {sco : Scope} {own : List (Str × Nat)} {vs1 : List Nat} {po : Pos} {wi wi1 : TI} {g g1 : TG} {tt tt1 : TT} {te : TE} (hc : X.calm = true) (hN : X.N.Nodup) (hi : PI X ta ia wi) (ok : BlkOk X.N X.env.scope sco own) (hv : ∀ i ∈ vs1, i ∈ own.map (·.2))
    (hg : ∀ (u : Shared) (Hh : Hp) (Ca : Addr) (cls : List (Str × Addr)) (fs : List Addr), PG (X.blk u Hh sco (compEnvC sco cls Ca X.env) fs) ta g) (ht : ∀ (u : Shared) (Hh : Hp) (Ca : Addr) (cls : List (Str × Addr)) (fs : List Addr), PTs (X.blk u Hh sco (compEnvC sco cls Ca X.env) fs) fa tt)
    (hi1 : ∀ (u : Shared) (Hh : Hp) (Ca : Addr) (cls : List (Str × Addr)) (fs : List Addr), PI (X.blk u Hh sco (compEnvC sco cls Ca X.env) fs) tb ib wi1)
    (hg1 : ∀ (u : Shared) (Hh : Hp) (Ca : Addr) (cls : List (Str × Addr)) (fs : List Addr), PG (X.blk u Hh sco (compEnvC sco cls Ca X.env) fs) tb g1) (ht1 : ∀ (u : Shared) (Hh : Hp) (Ca : Addr) (cls : List (Str × Addr)) (fs : List Addr), PTs (X.blk u Hh sco (compEnvC sco cls Ca X.env) fs) fb tt1)
    (he : ∀ (u : Shared) (Hh : Hp) (Ca : Addr) (cls : List (Str × Addr)) (fs : List Addr), PE (X.blk u Hh sco (compEnvC sco cls Ca X.env) fs) el te) (hs : ∀ x, foldedSetIterable ia X.env x = pure x := by intro _; rfl) (hs1 : ∀ env x, foldedSetIterable ib env x = pure x := by intro _ _; rfl) :
    PE X (.SetComp el [⟨ta, ia, fa, 0⟩, ⟨tb, ib, fb, 0⟩] sco po) (tSc2G SO z grow wi g tt wi1 g1 tt1 te (own.map (·.2)) vs1) := by
  constructor
  intro pins s σ H Q I h
  rw [PpSet.eval_SetComp]
  have free : ∀ y ∈ sco.names, y.2 = .free → ∃ c, X.env.cells.lookup y.1 = some c := fun y hy e => I.ok.has _ (by exact ok.free y hy e)
  refine wpAny_comprehension_free (use := none) rfl hs (closure_ok free) ok.kind (fun y hy e => by rw [ok.uniq y hy, e]) (thn (hi.run pins s σ H _ I h) fun _ _ hx => thn hx fun _ s2 got => ?_)
  obtain ⟨it, fp, tn, J, H2, rfl, I2, T, st2, f2, q⟩ := got
  refine PpSet.newSet_ok (newEnv_comp ?_)
  obtain ⟨D, hD⟩ : ∃ D, D = s2.heap.objs.size := ⟨_, rfl⟩
  obtain ⟨W, ⟨m0, w0⟩, outer⟩ := q D (I2.hok.fresh (Nat.le_of_eq hD.symm))
  rw [← hD]
  obtain ⟨s3, es3⟩ : ∃ s3 : Shared, s3 = { s2 with heap := s2.heap.push (noneIn X.w) } := ⟨_, rfl⟩
  have h3 : s3.heap = s2.heap.push (noneIn X.w) := by rw [es3]
  have I3 : Inv X pins σ (upd H2 D (SO D z)) s3 := by
    rw [es3]
    refine I2.laid (t' := s2.toks) (fun b o e => Heap.get?_push_of_some _ e) (Nat.le_of_eq hD.symm) ?_
    have fr := L.fresh (upd H2 D (SO D z)) s2.heap
    rw [← hD] at fr
    exact fr
  have below : ∀ b ∈ fp, b < s2.heap.objs.size := fun b hb => Heap.lt_size (T.obj _ _ st2 b hb).choose_spec.1
  have f3 : ∀ b ∈ fp, FpOk X pins (upd H2 D (SO D z)) b ∧ b < s3.heap.objs.size := fun b hb => by
    have lt := below b hb
    have ne : b ≠ D := by rw [hD]; exact Nat.ne_of_lt lt
    refine ⟨⟨?_, (f2 b hb).2⟩, ?_⟩
    · rw [upd_ne ne]
      exact (f2 b hb).1
    · rw [h3, Heap.size_push]
      exact Nat.lt_succ_of_lt lt
  have st3 : tn 0 s3.heap := T.keep _ _ _ st2 fun b _ o e => by rw [h3]; exact Heap.get?_push_of_some _ e
  have I4 := block_start I3 ok hN f3
  obtain ⟨cl, ecl⟩ : ∃ cl, cl = cellsFrom (s3.heap.objs.size + 1) sco.names (cloFrom X.env.cells sco.names []) := ⟨_, rfl⟩
  rw [← ecl] at I4
  have pg := hg s3 (upd H2 D (SO D z)) s3.heap.objs.size cl fp
  have pt := ht s3 (upd H2 D (SO D z)) s3.heap.objs.size cl fp
  have pe := he s3 (upd H2 D (SO D z)) s3.heap.objs.size cl fp
  have qi := hi1 s3 (upd H2 D (SO D z)) s3.heap.objs.size cl fp
  have qg := hg1 s3 (upd H2 D (SO D z)) s3.heap.objs.size cl fp
  have qt := ht1 s3 (upd H2 D (SO D z)) s3.heap.objs.size cl fp
  have done : ∀ (s' : Shared) (m : Str → Option Value) (H' : Hp), Inv X pins σ H' s' → Q (.ref D) H' → s'.heap.Ns s3.heap.objs.size m → FpOk X pins H' s3.heap.objs.size → compPost (model X.prog X.w) X.A X.xe none (EP X pins σ Q) (.ref D) s3.heap.objs.size (.ok .next) s' := fun s' m H' I' qq hn f => ⟨m, hn, fun h'' sb => by
    obtain ⟨a0, a1, a2, a3, a4, a5⟩ := f
    exact ⟨.ref D, H', I'.turned (t' := s'.toks) (fun b o hb e => (sb.2 b hb).trans e) a0 a1 a3 a4 a5, rfl, qq⟩⟩
  have all : ∀ {s4 : Shared} {ce : Env}, ce = compEnvC sco cl s3.heap.objs.size X.env →
      s4 = { s3 with heap := pushCells (s3.heap.push { cls := .type "dict", data := .dict #[] }) sco.names } → codeAny (model X.prog X.w) X.A (.compStart (Sc2 el ta ia fa tb ib fb sco po) 0 (.ref it) (.ref D) ce) (compPost (model X.prog X.w) X.A X.xe none (EP X pins σ Q) (.ref D) s3.heap.objs.size) s4 := by
    intro s4 ce ece es4
    rw [← ece] at I4 pg pt pe qi qg qt
    rw [← es4] at I4
    have cL : ce.locals = s3.heap.objs.size := by rw [ece]; rfl
    have st4 : tn 0 s4.heap := T.keep _ _ _ st3 fun b _ o e => by rw [es4]; exact pushCells_keeps _ _ _ _ (Heap.get?_push_of_some _ e)
    have un : ∀ b ∈ fp, (upd H2 D (SO D z)) b = none := fun b hb => (f3 b hb).1.1
    generalize upd H2 D (SO D z) = H3 at I3 I4 pg pt pe qi qg qt w0 un f3
    obtain ⟨B, eB⟩ : ∃ B, B = X.blk s3 H3 sco ce fp := ⟨_, rfl⟩
    have stat : ∀ {σ' : L2.St} {H' : Hp} {s' : Shared}, Inv (X.blk s3 H3 sco ce fp) [] σ' H' s' → (∀ b ∈ fp, H' b = none) → ∀ b ∈ fp, FpOk (X.blk s3 H3 sco ce fp) [] H' b := fun {σ' H' s'} I' hn b hb => by
      refine ⟨hn b hb, (I'.ok.exf b hb).1, I'.ok.exfs b hb, .inl hb, fun x c e => (I'.ok.exf b hb).2 x c e, fun p hp => ?_⟩
      simp at hp
    have go : codeAny (model X.prog X.w) X.A (.compLoop (Sc2 el ta ia fa tb ib fb sco po) 0 (.ref it) (.ref D) ce) (compPost (model X.prog X.w) X.A X.xe none (EP X pins σ Q) (.ref D) s3.heap.objs.size) s4 := by
      refine loop_a (hs1 ce) (fun n u => ∃ i H', Inv (X.blk s3 H3 sco ce fp) [] (wipe σ (own.map (·.2))) H' u ∧ tn i u.heap ∧ (∀ b ∈ fp, H' b = none) ∧ W i n H') (fun n s5 hJ => ?_) m0 ⟨0, H3, I4, st4, un, w0⟩
      obtain ⟨i, H5, I5, st5, n5, w5⟩ := hJ
      rcases outer i n H5 w5 with ⟨stop, qq⟩ | ⟨more, Nx, hNx, step⟩
      · refine thnF (T.done (X.blk s3 H3 sco ce fp) rfl rfl rfl hc i [] s5 _ H5 (fun _ _ => False) I5 (stat I5 n5) st5 stop) fun r s6 ⟨hr, I6⟩ => ?_
        subst hr
        have I7 : Inv X pins σ H5 s6 := I3.call' (ch := fp) I6.os I6.base I6.hok I6.bare fun b hb => ⟨(f3 b hb).1.2.2.2.1, (f3 b hb).1.2.1, (f3 b hb).1.2.2.2.2.1, (f3 b hb).1.2.2.2.2.2⟩
        obtain ⟨m, hn, _⟩ := I6.loc
        have fr : H5 ce.locals = none := I6.free
        have hn : s6.heap.Ns ce.locals m := hn
        rw [cL] at hn fr
        exact done s6 m H5 I7 qq hn (I3.fpOk (Nat.le_refl _) fr)
      refine thnF (T.item (X.blk s3 H3 sco ce fp) rfl rfl rfl hc i [] s5 _ H5 (fun _ _ => False) I5 (stat I5 n5) st5 more) fun r s6 ⟨u, hr, h6⟩ => ?_
      subst hr
      refine thnF h6 fun _ s7 ⟨x, H7, I7, r7, y7, st7, n7⟩ => ?_
      have I8 := I7.pinned (stat I7 n7) (T.obj _ _ st7)
      refine thnF (pg.run _ s7 _ H7 x u _ I8 r7 (step x H7 y7)) fun _ s8 ⟨σ8, H8, I9, hw8, q8⟩ => ?_
      refine thnF (pt.run _ s8 σ8 H8 _ I9 q8) fun b s9 ⟨H9, I10, q9⟩ => ?_
      -- a turn of the outer loop is over
      have over : ∀ {σ9 : L2.St} {s' : Shared} {H' : Hp}, Inv (X.blk s3 H3 sco ce fp) ([] ++ pinsAt fp s7.heap) σ9 H' s' → (wipe σ (own.map (·.2))).length = σ9.length → (∀ (j : Nat) v, (wipe σ (own.map (·.2)))[j]? = some (some v) → σ9[j]? = some (some v)) → Nx H' →
          ∃ m, m < n ∧ ∃ i H', Inv (X.blk s3 H3 sco ce fp) [] (wipe σ (own.map (·.2))) H' s' ∧ tn i s'.heap ∧ (∀ b ∈ fp, H' b = none) ∧ W i m H' := by
        intro σ9 s' H' I' same know nx
        obtain ⟨m', hm, w'⟩ := hNx H' nx
        have held : ∀ b ∈ fp, ∀ o, s7.heap.get? b = some o → s'.heap.get? b = some o ∧ H' b = none := fun b hb o e => by
          have zz := I'.pin (b, o) (List.mem_append_right _ (List.mem_append_right _ (mem_pinsAt hb e)))
          exact ⟨zz.1, zz.2.1⟩
        refine ⟨m', hm, i + 1, H', (I'.unpinned (pins := [])).weak same know, T.keep _ _ _ st7 fun b hb o e => (held b hb o e).1, fun b hb => ?_, w'⟩
        obtain ⟨o, e, _⟩ := T.obj _ _ st7 b hb
        exact (held b hb o e).2
      have len8 : (wipe σ (own.map (·.2))).length = σ8.length := by rw [← hw8, wipe_length]
      have know8 : ∀ (j : Nat) v, (wipe σ (own.map (·.2)))[j]? = some (some v) → σ8[j]? = some (some v) := fun j v e => by
        rw [← hw8] at e
        exact (wipe_some e).1
      have know9 : ∀ (j : Nat) v, (wipe σ (own.map (·.2)))[j]? = some (some v) → (wipe σ8 vs1)[j]? = some (some v) := fun j v e => by
        rw [← hw8] at e
        rw [wipe_out fun m => (wipe_some e).2 (hv j m)]
        exact (wipe_some e).1
      cases b with
      | false =>
        simp only [Bool.false_eq_true, if_false] at q9 ⊢
        exact over I10 len8 know8 q9
      | true =>
        simp only [if_true] at q9 ⊢
        refine thnF (qi.run _ s9 σ8 H9 _ I10 q9) fun _ s10 hx => thnF hx fun _ s11 got => ?_
        obtain ⟨it2, gp, tn2, J2, H11, e2, I11, T2, st11, f11, W2, ⟨m2, w2⟩, inner⟩ := got
        subst e2
        have stat2 : ∀ {H' : Hp}, (∀ b ∈ gp, H' b = none) → ∀ b ∈ gp, FpOk (X.blk s3 H3 sco ce fp) ([] ++ pinsAt fp s7.heap) H' b := fun hn b hb => ⟨hn b hb, (f11 b hb).2⟩
        have sub : codeAny (model X.prog X.w) X.A (.compLoop (Sc2 el ta ia fa tb ib fb sco po) 1 (.ref it2) (.ref D) ce)
            (fun res u => match res with
              | .ok _ => ∃ m, m < n ∧ ∃ i H', Inv (X.blk s3 H3 sco ce fp) [] (wipe σ (own.map (·.2))) H' u ∧ tn i u.heap ∧ (∀ b ∈ fp, H' b = none) ∧ W i m H'
              | .error _ => False) s11 := by
          refine loop_b (fun k u => ∃ j H', Inv (X.blk s3 H3 sco ce fp) ([] ++ pinsAt fp s7.heap) (wipe σ8 vs1) H' u ∧ tn2 j u.heap ∧ (∀ b ∈ gp, H' b = none) ∧ W2 j k H') (fun k s12 hJ => ?_) m2 ⟨0, H11, I11.weak (wipe_length _ _) (fun j v e => (wipe_some e).1), st11, fun b hb => (f11 b hb).1, w2⟩
          obtain ⟨j, H12, I12, st12, n12, w12⟩ := hJ
          rcases inner j k H12 w12 with ⟨stop2, nx2⟩ | ⟨more2, Ny, hNy, step2⟩
          · refine thnF (T2.done (X.blk s3 H3 sco ce fp) rfl rfl rfl hc j _ s12 (wipe σ8 vs1) H12 (fun _ _ => False) I12 (stat2 n12) st12 stop2) fun r s13 ⟨hr, I13⟩ => ?_
            subst hr
            exact over I13 (len8.trans (wipe_length σ8 vs1).symm) know9 nx2
          refine thnF (T2.item (X.blk s3 H3 sco ce fp) rfl rfl rfl hc j _ s12 (wipe σ8 vs1) H12 (fun _ _ => False) I12 (stat2 n12) st12 more2) fun r s13 ⟨u2, hr, h13⟩ => ?_
          subst hr
          refine thnF h13 fun _ s14 ⟨x2, H14, I14, r14, y14, st14, n14⟩ => ?_
          have I15 := I14.pinned (stat2 n14) (T2.obj _ _ st14)
          refine thnF (qg.run _ s14 (wipe σ8 vs1) H14 x2 u2 _ I15 r14 (step2 x2 H14 y14)) fun _ s15 ⟨σ15, H15, I16, hw15, q15⟩ => ?_
          refine thnF (qt.run _ s15 σ15 H15 _ I16 q15) fun b2 s16 ⟨H16, I17, q16⟩ => ?_
          have over2 : ∀ {s' : Shared} {H' : Hp}, Inv (X.blk s3 H3 sco ce fp) (([] ++ pinsAt fp s7.heap) ++ pinsAt gp s14.heap) σ15 H' s' → Ny H' → ∃ m, m < k ∧ ∃ j H', Inv (X.blk s3 H3 sco ce fp) ([] ++ pinsAt fp s7.heap) (wipe σ8 vs1) H' s' ∧ tn2 j s'.heap ∧ (∀ b ∈ gp, H' b = none) ∧ W2 j m H' := by
            intro s' H' I' ny
            obtain ⟨m', hm, w'⟩ := hNy H' ny
            have held : ∀ b ∈ gp, ∀ o, s14.heap.get? b = some o → s'.heap.get? b = some o ∧ H' b = none := fun b hb o e => by
              have zz := I'.pin (b, o) (List.mem_append_right _ (List.mem_append_right _ (mem_pinsAt hb e)))
              exact ⟨zz.1, zz.2.1⟩
            refine ⟨m', hm, j + 1, H', I'.unpinned.weak (by rw [← hw15, wipe_length]) (fun j v e => by rw [← hw15] at e; exact (wipe_some e).1), T2.keep _ _ _ st14 fun b hb o e => (held b hb o e).1, fun b hb => ?_, w'⟩
            obtain ⟨o, e, _⟩ := T2.obj _ _ st14 b hb
            exact (held b hb o e).2
          cases b2 with
          | false =>
            simp only [Bool.false_eq_true, if_false] at q16 ⊢
            exact over2 I17 q16
          | true =>
            simp only [if_true] at q16 ⊢
            refine thnF (pe.run _ s16 σ15 H16 _ I17 q16) fun uv s17 ⟨yv, H17, I18, r17, t, t', hD17, gr, ny⟩ => ?_
            exact L.put (X := X.blk s3 H3 sco ce fp) rfl rfl I18 r17 hD17 gr fun s18 I19 => over2 I19 ny
        exact start_b sub (T2.self X.A 0 _ _ _ st11 sub)
    exact PpSet.codeAny_compStart_set go (T.self X.A 0 _ _ _ st4 go)
  have last := all rfl rfl
  subst ecl
  subst es3
  exact last
end
end Vf
namespace Vf
open PySem PySem.Spec PyProof.Rows L2
section
variable {τ : Type} {SO : Addr → τ → HO} {z : τ} {grow : τ → V → τ → Prop} {J : It} {n : Nat} {G : Hp → Prop} {Y : Nat → Hp → V → Hp → Prop} {g g1 : TG} {tt tt1 : TT} {te : TE} {wi1 : TI} {vs vs1 : List Nat} {σ : L2.St} {H1 : Hp} {D : Addr} {Qd : Hp → Prop}
theorem sc_in (w : Walk J n G Y) (Pv : Nat → Hp → Prop) (h0 : Pv 0 H1) (hG : ∀ i H, i ≤ n → Pv i H → G H)
    (hs : ∀ i x H H', i < n → Pv i H → Y i H x H' → g1 x (wipe σ vs1) H' fun σ2 H2 => wipe σ2 vs1 = wipe σ vs1 ∧ tt1 σ2 H2 fun b H3 =>
      if b = true then te σ2 H3 fun y H4 => ∃ t t' : τ, H4 D = some (SO D t) ∧ grow t y t' ∧ Pv (i + 1) (upd H4 D (SO D t')) else Pv (i + 1) H3) (hd : ∀ H, Pv n H → Qd H) : ScIn SO grow g1 tt1 te vs1 D σ Qd J H1 := by
  refine ⟨fun i m H => m = n - i ∧ i ≤ n ∧ Pv i H, ⟨n, by simp, Nat.zero_le _, h0⟩, ?_⟩
  rintro i m H ⟨rfl, hi, p⟩
  have q := hG i H hi p
  by_cases hlt : i < n
  · exact .inr ⟨w.goes i H hlt q, Pv (i + 1), fun H' p' => ⟨n - (i + 1), by omega, rfl, hlt, p'⟩, fun x H' y => hs i x H H' hlt p (w.yields i H x H' hlt q y)⟩
  · have e : i = n := by omega
    subst e
    exact .inl ⟨w.stops H q, hd H p⟩
theorem sc2_it (w : Walk J n G Y) (Pv : Nat → Hp → Prop) (h0 : Pv 0 (upd H1 D (SO D z))) (hG : ∀ i H, i ≤ n → Pv i H → G H)
    (hs : ∀ i x H H', i < n → Pv i H → Y i H x H' → g x (wipe σ vs) H' fun σ2 H2 => wipe σ2 vs = wipe σ vs ∧ tt σ2 H2 fun b H3 =>
      if b = true then wi1 σ2 H3 (ScIn SO grow g1 tt1 te vs1 D σ2 (Pv (i + 1))) else Pv (i + 1) H3) (hd : ∀ H, Pv n H → Qd H) :
    ∃ W : Nat → Nat → Hp → Prop, (∃ m, W 0 m (upd H1 D (SO D z))) ∧ ∀ i m H, W i m H →
      (J.stop i H ∧ Qd H) ∨ (J.go i H ∧ ∃ Nx : Hp → Prop, (∀ H', Nx H' → ∃ m', m' < m ∧ W (i + 1) m' H') ∧ ∀ x H', J.yld i H x H' → g x (wipe σ vs) H' fun σ2 H2 => wipe σ2 vs = wipe σ vs ∧ tt σ2 H2 fun b H3 =>
        if b = true then wi1 σ2 H3 (ScIn SO grow g1 tt1 te vs1 D σ2 Nx) else Nx H3) := by
  refine ⟨fun i m H => m = n - i ∧ i ≤ n ∧ Pv i H, ⟨n, by simp, Nat.zero_le _, h0⟩, ?_⟩
  rintro i m H ⟨rfl, hi, p⟩
  have q := hG i H hi p
  by_cases hlt : i < n
  · exact .inr ⟨w.goes i H hlt q, Pv (i + 1), fun H' p' => ⟨n - (i + 1), by omega, rfl, hlt, p'⟩, fun x H' y => hs i x H H' hlt p (w.yields i H x H' hlt q y)⟩
  · have e : i = n := by omega
    subst e
    exact .inl ⟨w.stops H q, hd H p⟩
end
theorem pe_sc2T {X : Cx} {el ta ia tb ib : Expr} {fa fb : List Expr} {sco : Scope} {own : List (Str × Nat)} {vs1 : List Nat} {po : Pos} {wi wi1 : TI} {g g1 : TG} {tt tt1 : TT} {te : TE} (hc : X.calm = true) (hN : X.N.Nodup) (hi : PI X ta ia wi) (ok : BlkOk X.N X.env.scope sco own) (hv : ∀ i ∈ vs1, i ∈ own.map (·.2))
    (hg : ∀ (u : Shared) (Hh : Hp) (Ca : Addr) (cls : List (Str × Addr)) (fs : List Addr), PG (X.blk u Hh sco (compEnvC sco cls Ca X.env) fs) ta g) (ht : ∀ (u : Shared) (Hh : Hp) (Ca : Addr) (cls : List (Str × Addr)) (fs : List Addr), PTs (X.blk u Hh sco (compEnvC sco cls Ca X.env) fs) fa tt)
    (hi1 : ∀ (u : Shared) (Hh : Hp) (Ca : Addr) (cls : List (Str × Addr)) (fs : List Addr), PI (X.blk u Hh sco (compEnvC sco cls Ca X.env) fs) tb ib wi1)
    (hg1 : ∀ (u : Shared) (Hh : Hp) (Ca : Addr) (cls : List (Str × Addr)) (fs : List Addr), PG (X.blk u Hh sco (compEnvC sco cls Ca X.env) fs) tb g1) (ht1 : ∀ (u : Shared) (Hh : Hp) (Ca : Addr) (cls : List (Str × Addr)) (fs : List Addr), PTs (X.blk u Hh sco (compEnvC sco cls Ca X.env) fs) fb tt1)
    (he : ∀ (u : Shared) (Hh : Hp) (Ca : Addr) (cls : List (Str × Addr)) (fs : List Addr), PE (X.blk u Hh sco (compEnvC sco cls Ca X.env) fs) el te) (hs : ∀ x, foldedSetIterable ia X.env x = pure x := by intro _; rfl) (hs1 : ∀ env x, foldedSetIterable ib env x = pure x := by intro _ _; rfl) :
    PE X (.SetComp el [⟨ta, ia, fa, 0⟩, ⟨tb, ib, fb, 0⟩] sco po) (tSc2G (SetT X.prog X.w) [] growT wi g tt wi1 g1 tt1 te (own.map (·.2)) vs1) := pe_sc2G (setLikeT X.prog X.w) hc hN hi ok hv hg ht hi1 hg1 ht1 he hs hs1
end Vf
namespace Vf
open PySem L2
theorem pi_tupK2 {X : Cx} {K : PySem.W.Frag} (hk : X.K = K) {tg l : Expr} {tl : TE} (hl : PE X l tl) : PI X tg l (iTup K tl) := by
  subst hk
  exact pi_tup hl
end Vf

namespace Vf
open PySem L2
/-! ### what a relation of all kinds means -/
inductive Rl where
  | ge | gt | le | lt | eq | md
  deriving DecidableEq
def Rl.txt : Rl → Str
  | .ge => ">="
  | .gt => ">"
  | .le => "<="
  | .lt => "<"
  | .eq => "="
  | .md => "mod"
def Rl.truth (b m : Int) : Rl → Bool
  | .ge => decide (b ≤ 0)
  | .gt => decide (b < 0)
  | .le => decide (0 ≤ b)
  | .lt => decide (0 < b)
  | .eq => decide (b = 0)
  | .md => decide (b % m = 0)
def negT (ts : List (Str × Int)) : List (Str × Int) := ts.map fun p => (p.1, -p.2)
def meantR (us : List (Str × Int)) (b m : Int) : Rl → Fm
  | .ge => .least us b
  | .gt => .least us (b + 1)
  | .le => .least (negT us) (-b)
  | .lt => .least (negT us) (1 - b)
  | .eq => .two true (.least us b) (.least (negT us) (-b))
  | .md => .rest us (b % m) m
def meantF (us : List (Str × Int)) (r : Rl) (b m : Int) : Fm := if us.isEmpty then .tt (r.truth b m) else meantR us b m r
theorem Rl.is (r s : Rl) : decide (V.str r.txt = V.str s.txt) = decide (r = s) := by
  cases r <;> cases s <;> decide +kernel
theorem one_map (us : List (Str × Int)) : (us.map fun p => (p.1, 1 * p.2)) = us := by
  conv => rhs; rw [← List.map_id us]
  exact List.map_congr_left fun p _ => by rw [Int.one_mul]; rfl
theorem neg_map (us : List (Str × Int)) : (us.map fun p => (p.1, -1 * p.2)) = negT us := List.map_congr_left fun p _ => by rw [Int.neg_mul, Int.one_mul]
/-- the truths of a relation without terms -/
def truthK (b m : Int) : List (Key × V) := [(Sum.inr ">=", .bl (decide (b ≤ 0))), (Sum.inr ">", .bl (decide (b < 0))), (Sum.inr "<=", .bl (decide (0 ≤ b))), (Sum.inr "<", .bl (decide (0 < b))), (Sum.inr "=", .bl (decide (V.int b = V.int 0))), (Sum.inr "mod", .bl (decide (V.int (b % m) = V.int 0)))]
theorem truthK_merge (b m : Int) : mergeK [] (truthK b m) = truthK b m := by
  unfold truthK
  generalize V.bl (decide (b ≤ 0)) = a1
  generalize V.bl (decide (b < 0)) = a2
  generalize V.bl (decide (0 ≤ b)) = a3
  generalize V.bl (decide (0 < b)) = a4
  generalize V.bl (decide (V.int b = V.int 0)) = a5
  generalize V.bl (decide (V.int (b % m) = V.int 0)) = a6
  rfl
theorem truthK_get (b m : Int) (r : Rl) : valV (truthK b m) (Sum.inr r.txt) = some (.bl (r.truth b m)) := by
  have e1 : decide (V.int b = V.int 0) = decide (b = 0) := decide_eq_decide.mpr ⟨fun h => V.int.inj h, fun h => by rw [h]⟩
  have e2 : decide (V.int (b % m) = V.int 0) = decide (b % m = 0) := decide_eq_decide.mpr ⟨fun h => V.int.inj h, fun h => by rw [h]⟩
  unfold truthK
  rw [e1, e2]
  cases r <;> rfl
end Vf

namespace Vf
open PySem L2
/-! ### counting functions -/
inductive Kd where
  | mn | mx | ls
  deriving DecidableEq
def Kd.word : Kd → Str
  | .mn => "min"
  | .mx => "max"
  | .ls => "less"
inductive Fq where
  | sum (ts : List (Str × Int))
  | quo (ts : List (Str × Int)) (d : Int)
  | two (k : Kd) (ts us : List (Str × Int))
def Fq.word : Fq → Str
  | .sum _ => "sum"
  | .quo .. => "quotient"
  | .two k .. => k.word
def TmAt (H : Hp) (ts : List (Str × Int)) (v : V) : Prop := ∃ t xs, v = .ref t ∧ H t = some (.tup xs) ∧ Tups encSI H xs ts
theorem TmAt.same {H H' : Hp} (s : Same H H') {ts : List (Str × Int)} {v : V} (h : TmAt H ts v) : TmAt H' ts v := by
  obtain ⟨t, xs, e, h, k⟩ := h
  exact ⟨t, xs, e, s _ _ h, k.same s⟩
def FqAt (H : Hp) : Fq → V → Prop
  | .sum ts, v => ∃ a x, v = .ref a ∧ H a = some (.tup [.str "sum", x]) ∧ TmAt H ts x
  | .quo ts d, v => ∃ a x, v = .ref a ∧ H a = some (.tup [.str "quotient", x, .int d]) ∧ TmAt H ts x
  | .two k ts us, v => ∃ a x y, v = .ref a ∧ H a = some (.tup [.str k.word, x, y]) ∧ TmAt H ts x ∧ TmAt H us y
theorem FqAt.same {H H' : Hp} (s : Same H H') : ∀ {f : Fq} {v : V}, FqAt H f v → FqAt H' f v
  | .sum _, _, ⟨a, x, e, h, k⟩ => ⟨a, x, e, s _ _ h, k.same s⟩
  | .quo .., _, ⟨a, x, e, h, k⟩ => ⟨a, x, e, s _ _ h, k.same s⟩
  | .two .., _, ⟨a, x, y, e, h, k, l⟩ => ⟨a, x, y, e, s _ _ h, k.same s, l.same s⟩
theorem TmAt.keep1 {H H' : Hp} {p : Addr} {ls : List V} (hp : H p = some (.lst ls)) (k : Keep [p] H H') {ts : List (Str × Int)} {v : V} (h : TmAt H ts v) : TmAt H' ts v := by
  obtain ⟨t, xs, e, h, l⟩ := h
  exact ⟨t, xs, e, k t _ (fun m => by rw [List.mem_singleton.mp m, hp] at h; cases h) h, l.keep1 hp k⟩
theorem FqAt.keep1 {H H' : Hp} {p : Addr} {ls : List V} (hp : H p = some (.lst ls)) (k : Keep [p] H H') : ∀ {f : Fq} {v : V}, FqAt H f v → FqAt H' f v := by
  have tp : ∀ {a : Addr} {xs : List V}, H a = some (.tup xs) → H' a = some (.tup xs) := fun {a xs} h => k a _ (fun m => by rw [List.mem_singleton.mp m, hp] at h; cases h) h
  intro f
  cases f with
  | sum ts => rintro v ⟨a, x, e, h, l⟩; exact ⟨a, x, e, tp h, l.keep1 hp k⟩
  | quo ts d => rintro v ⟨a, x, e, h, l⟩; exact ⟨a, x, e, tp h, l.keep1 hp k⟩
  | two w ts us => rintro v ⟨a, x, y, e, h, l, m⟩; exact ⟨a, x, y, e, tp h, l.keep1 hp k, m.keep1 hp k⟩
def Fq.sums : Fq → List (List (Str × Int))
  | .sum ts => [ts]
  | .quo ts _ => [ts]
  | .two _ ts us => [ts, us]
def Fq.all (f : Fq) : List (Str × Int) := f.sums.flatten
def Fq.divOk : Fq → Bool
  | .quo _ d => decide (2 ≤ d ∧ d ≤ 20)
  | _ => true
noncomputable def Fq.isFn (f : Fq) : Bool := (f.sums.map fun ts => okTerms ts 1 9).all id && (f.divOk && @decide (Fm.least f.all 0).fewV (Classical.propDecidable _))
structure Fq.Short (f : Fq) : Prop where
  few : f.all.length ≤ 1000
  nm : ∀ p ∈ f.all, p.1.length ≤ 1000000
def SumsAt (H : Hp) (ys : List V) (ss : List (List (Str × Int))) : Prop := ys.length = ss.length ∧ ∀ (i : Nat) (ts : List (Str × Int)), ss[i]? = some ts → ∃ x, ys[i]? = some x ∧ TmAt H ts x
theorem SumsAt.same {H H' : Hp} (s : Same H H') {ys : List V} {ss : List (List (Str × Int))} (h : SumsAt H ys ss) : SumsAt H' ys ss := ⟨h.1, fun i ts e => by
  obtain ⟨x, e1, e2⟩ := h.2 i ts e
  exact ⟨x, e1, e2.same s⟩⟩
theorem SumsAt.get {H : Hp} {ys : List V} {ss : List (List (Str × Int))} (h : SumsAt H ys ss) {i : Nat} {x : V} (e : ys[i]? = some x) : ∃ ts, ss[i]? = some ts ∧ TmAt H ts x := by
  have hi := (List.getElem?_eq_some_iff.mp e).1
  have hi2 : i < ss.length := by rw [← h.1]; exact hi
  have hf : ss[i]? = some (ss[i]'hi2) := List.getElem?_eq_getElem hi2
  obtain ⟨y, e1, e2⟩ := h.2 i _ hf
  rw [e] at e1
  cases e1
  exact ⟨_, hf, e2⟩
theorem SumsAt.one {H : Hp} {ts : List (Str × Int)} {x : V} (h : TmAt H ts x) : SumsAt H [x] [ts] := ⟨rfl, fun i g e => by
  cases i with
  | zero => cases e; exact ⟨x, rfl, h⟩
  | succ i => simp at e⟩
theorem SumsAt.pair {H : Hp} {ts us : List (Str × Int)} {x y : V} (h : TmAt H ts x) (k : TmAt H us y) : SumsAt H [x, y] [ts, us] := ⟨rfl, fun i z e => by
  match i, e with
  | 0, e => cases e; exact ⟨x, rfl, h⟩
  | 1, e => cases e; exact ⟨y, rfl, k⟩
  | i + 2, e => simp at e⟩
theorem Fq.part {f : Fq} {ts : List (Str × Int)} (h : ts ∈ f.sums) : ts.length ≤ f.all.length ∧ ∀ p ∈ ts, p ∈ f.all := by
  have m : ∀ p ∈ ts, p ∈ f.all := fun p hp => List.mem_flatten.mpr ⟨ts, h, hp⟩
  refine ⟨?_, m⟩
  cases f with
  | sum us => rw [List.mem_singleton.mp (show ts ∈ [us] from h)]; simp [Fq.all, Fq.sums]
  | quo us d => rw [List.mem_singleton.mp (show ts ∈ [us] from h)]; simp [Fq.all, Fq.sums]
  | two k us vs =>
    have : ts = us ∨ ts = vs := by simpa [Fq.sums] using h
    rcases this with rfl | rfl <;> simp [Fq.all, Fq.sums]
/-- the question whether a value is at least the bound -/
inductive Qst : Fq → Int → Fm → Prop
  | sum (ts : List (Str × Int)) (b : Int) : Qst (.sum ts) b (.least ts b)
  | quo (ts : List (Str × Int)) (d b : Int) : Qst (.quo ts d) b (.least ts (b * d))
  | mn (ts us : List (Str × Int)) (b : Int) : Qst (.two .mn ts us) b (.two true (.least ts b) (.least us b))
  | mx (ts us : List (Str × Int)) (b : Int) : Qst (.two .mx ts us) b (.two false (.least ts b) (.least us b))
  | ls0 (ts us : List (Str × Int)) {b : Int} : b ≤ 0 → Qst (.two .ls ts us) b (.tt true)
  | ls1 {ts us ws : List (Str × Int)} {b : Int} : 0 < b → AddT (ts ++ negT us) ws → Qst (.two .ls ts us) b (lotF ws b)
theorem Qst.ex (f : Fq) (b : Int) : ∃ g, Qst f b g := by
  cases f with
  | sum ts => exact ⟨_, .sum ts b⟩
  | quo ts d => exact ⟨_, .quo ts d b⟩
  | two k ts us =>
    cases k with
    | mn => exact ⟨_, .mn ts us b⟩
    | mx => exact ⟨_, .mx ts us b⟩
    | ls =>
      by_cases c : b ≤ 0
      · exact ⟨_, .ls0 ts us c⟩
      · obtain ⟨ws, h⟩ := AddT.ex (ts ++ negT us)
        exact ⟨_, .ls1 (by omega) h⟩
theorem negT_names (us : List (Str × Int)) : (negT us).map Prod.fst = us.map Prod.fst := by
  unfold negT
  rw [List.map_map]
  rfl
theorem Qst.facts {f : Fq} {b : Int} {g : Fm} (h : Qst f b g) : g.depth ≤ 2 ∧ g.terms.length ≤ f.all.length ∧ ∀ q ∈ g.terms, q.1 ∈ f.all.map Prod.fst := by
  cases h with
  | sum ts b => exact ⟨by simp only [Fm.depth]; omega, by simp [Fm.terms, Fq.all, Fq.sums], fun q hq => List.mem_map.mpr ⟨q, by simpa [Fm.terms, Fq.all, Fq.sums] using hq, rfl⟩⟩
  | quo ts d b => exact ⟨by simp only [Fm.depth]; omega, by simp [Fm.terms, Fq.all, Fq.sums], fun q hq => List.mem_map.mpr ⟨q, by simpa [Fm.terms, Fq.all, Fq.sums] using hq, rfl⟩⟩
  | mn ts us b => exact ⟨by simp only [Fm.depth]; omega, by simp [Fm.terms, Fq.all, Fq.sums], fun q hq => List.mem_map.mpr ⟨q, by simpa [Fm.terms, Fq.all, Fq.sums] using hq, rfl⟩⟩
  | mx ts us b => exact ⟨by simp only [Fm.depth]; omega, by simp [Fm.terms, Fq.all, Fq.sums], fun q hq => List.mem_map.mpr ⟨q, by simpa [Fm.terms, Fq.all, Fq.sums] using hq, rfl⟩⟩
  | ls0 ts us c => exact ⟨by simp only [Fm.depth]; omega, Nat.zero_le _, fun q hq => nomatch hq⟩
  | @ls1 ts us ws b c a =>
    have l := a.len
    have nl : (negT us).length = us.length := by unfold negT; rw [List.length_map]
    rw [List.length_append, nl] at l
    have nm : ∀ q ∈ ws, q.1 ∈ (Fq.two .ls ts us).all.map Prod.fst := fun q hq => by
      have := a.names q hq
      rw [List.map_append, negT_names, ← List.map_append] at this
      simpa [Fq.all, Fq.sums] using this
    cases ws with
    | nil => exact ⟨by show 1 ≤ 2; omega, Nat.zero_le _, fun q hq => nomatch hq⟩
    | cons w r => exact ⟨by show 1 ≤ 2; omega, by show (w :: r).length ≤ _; simp only [Fq.all, Fq.sums, List.flatten_cons, List.flatten_nil, List.length_append, List.append_nil]; exact l, nm⟩
theorem Qst.uniq {f : Fq} {b : Int} {g h : Fm} (p : Qst f b g) (q : Qst f b h) : g = h := by
  cases p with
  | sum => cases q; rfl
  | quo => cases q; rfl
  | mn => cases q; rfl
  | mx => cases q; rfl
  | ls0 _ _ c =>
    cases q with
    | ls0 => rfl
    | ls1 d => omega
  | ls1 c a =>
    cases q with
    | ls0 _ _ d => omega
    | ls1 _ a' => rw [a.uniq a']
/-- what a question about a value answers -/
def TlqK (K : PySem.W.Frag) (H : Hp) (o : Option (Option Fm)) (v : V) : Prop := match o with
  | some o => TldK K H o v
  | none => ∃ a, v = .ref a ∧ SqT K H a [.str ("nofunction" : Str)]
theorem TlqK.same {K : PySem.W.Frag} {H H' : Hp} (s : Same H H') {o : Option (Option Fm)} {v : V} (h : TlqK K H o v) : TlqK K H' o v := by
  cases o with
  | none => obtain ⟨a, e, h⟩ := h; exact ⟨a, e, sqT_same s h⟩
  | some f => exact TldK.same s h
def tlqD : Option (Option Fm) → PyData
  | some o => tldD o
  | none => .tuple [.str ("nofunction" : Str)]
theorem TlqK.dp {K : PySem.W.Frag} {H : Hp} {o : Option (Option Fm)} {v : V} (h : TlqK K H o v) : Dp K H v (tlqD o) := by
  cases o with
  | none => obtain ⟨a, e, h⟩ := h; rw [e]; exact .tup h (.cons (.str _) .nil)
  | some f => exact TldK.dp h
theorem nofn_ne (o : Option Fm) : PyData.eqv (tldD o) (.tuple [.str ("nofunction" : Str)]) = false := by
  cases o with
  | none => simp only [tldD, PyData.eqv, PyData.eqvAll]; decide
  | some f =>
    obtain ⟨xs, e⟩ := f.toD_head
    show PyData.eqv f.toD (.tuple [.str ("nofunction" : Str)]) = _
    rw [e, PyData.eqv, PyData.eqvAll, PyData.eqv, beq_eq_false_iff_ne.mpr (by
      cases f with
      | tt b => cases b <;> (simp only [Fm.word]; decide)
      | two o g k => cases o <;> (simp only [Fm.word]; decide)
      | _ => simp only [Fm.word]; decide), Bool.false_and]
theorem nofn_self : PyData.eqv (tlqD none) (.tuple [.str ("nofunction" : Str)]) = true := by
  simp only [tlqD, PyData.eqv, PyData.eqvAll]; decide
theorem nofn_pl : (PyData.tuple [.str ("nofunction" : Str)]).plain = true ∧ (PyData.tuple [.str ("nofunction" : Str)]).depth ≤ 64 := ⟨by simp [PyData.plain, PyData.plainAll], by simp [PyData.depth, PyData.depthAll]⟩
/-! ### functions that are drawn -/
def base4 : List Str := ["b", "x", "y", "z1"]
theorem base4_ok {l : List Str} (h : l.Sublist base4) : (∀ x ∈ l, isVar x = true) ∧ ascB l = true ∧ (∀ x ∈ l, x ∈ vars4) := by
  have a1 : ∀ x ∈ base4, isVar x = true := by decide +kernel
  have a2 : ∀ x ∈ base4, x ∈ vars4 := by decide +kernel
  have a3 : ascB base4 = true := by decide +kernel
  exact ⟨fun x hx => a1 x (h.subset hx), decide_eq_true ((of_decide_eq_true a3).sublist h), fun x hx => a2 x (h.subset hx)⟩
theorem okTerms_of {ts : List (Str × Int)} (ne : ts ≠ []) (h : (ts.map Prod.fst).Sublist base4) (b : ∀ p ∈ ts, 1 ≤ p.2 ∧ p.2 ≤ 9) : okTerms ts 1 9 = true := by
  obtain ⟨h1, h2, _⟩ := base4_ok h
  unfold okTerms
  rw [decide_eq_true (List.length_pos_iff.mpr ne), h2, Bool.true_and, Bool.true_and, Bool.and_eq_true, List.all_eq_true, List.all_eq_true]
  exact ⟨fun p hp => h1 _ (List.mem_map.mpr ⟨p, hp, rfl⟩), fun p hp => decide_eq_true (by have := b p hp; omega)⟩
/-- a drawn function: right, with few names -/
structure NiceQ (f : Fq) : Prop where
  ok : ∀ ts ∈ f.sums, okTerms ts 1 9 = true
  dv : f.divOk = true
  l : ∀ ts ∈ f.sums, ts.length ≤ 4
  v : ∀ p ∈ f.all, p.1 ∈ vars4
theorem NiceQ.len {f : Fq} (h : NiceQ f) : f.all.length ≤ 8 := by
  cases f with
  | sum ts => have := h.l ts (by simp [Fq.sums]); simp [Fq.all, Fq.sums]; omega
  | quo ts d => have := h.l ts (by simp [Fq.sums]); simp [Fq.all, Fq.sums]; omega
  | two k ts us =>
    have := h.l ts (by simp [Fq.sums])
    have := h.l us (by simp [Fq.sums])
    simp [Fq.all, Fq.sums]; omega
theorem NiceQ.short {f : Fq} (h : NiceQ f) : f.Short := ⟨by have := h.len; omega, fun p hp => by
  have all : ∀ nm ∈ vars4, nm.length ≤ 100 := by decide +kernel
  have := all _ (h.v p hp)
  omega⟩
theorem NiceQ.few {f : Fq} (h : NiceQ f) : (Fm.least f.all 0).fewV := by
  have ex : ∃ ls, VarsOf (Fm.least f.all 0) ls := by
    obtain ⟨n1, n2, _, _⟩ := gAll_ok f.all
    refine ⟨((gAll f.all).map Prod.fst).mergeSort fun x y => decide (x.cps.toList ≤ y.cps.toList), (List.mergeSort_perm _ _).nodup_iff.mpr n1, fun x => by rw [(List.mergeSort_perm _ _).mem_iff]; exact n2 x, ?_⟩
    refine (List.pairwise_mergeSort (le := fun (x y : Str) => decide (x.cps.toList ≤ y.cps.toList)) (fun a b c h1 h2 => ?_) (fun a b => ?_) _).imp fun {a b} h => of_decide_eq_true h
    · exact decide_eq_true (List.le_trans (of_decide_eq_true h1) (of_decide_eq_true h2))
    · rw [Bool.or_eq_true, decide_eq_true_eq, decide_eq_true_eq]
      exact List.le_total _ _
  obtain ⟨ls, v⟩ := ex
  refine ⟨ls, v, ?_⟩
  have := List.Nodup.length_le_of_subset v.nd (l₂ := vars4) fun x hx => by
    obtain ⟨p, hp, rfl⟩ := List.mem_map.mp ((v.mem x).mp hx)
    exact h.v p hp
  exact Nat.le_trans this (by decide)
theorem NiceQ.isFn {f : Fq} (h : NiceQ f) : f.isFn = true := by
  unfold Fq.isFn
  rw [h.dv, @decide_eq_true _ (Classical.propDecidable _) h.few, Bool.and_true, Bool.and_true, List.all_map, List.all_eq_true]
  exact h.ok
theorem bad_sum {f : Fq} {ts : List (Str × Int)} (h : ts ∈ f.sums) (b : okTerms ts 1 9 = false) : f.isFn = false := by
  unfold Fq.isFn
  have : (f.sums.map fun ts => okTerms ts 1 9).all id = false := by
    rw [List.all_map, List.all_eq_false]
    exact ⟨ts, h, by rw [show (id ∘ fun ts => okTerms ts 1 9) ts = okTerms ts 1 9 from rfl, b]; decide⟩
  rw [this, Bool.false_and]
theorem bad_div {f : Fq} (h : f.divOk = false) : f.isFn = false := by
  unfold Fq.isFn
  rw [h, Bool.false_and, Bool.and_false]
end Vf
namespace Vf
open PySem L2
theorem Tups.cat {α : Type} {enc : α → List V} {H : Hp} {xs ys : List V} {l m : List α} (h : Tups enc H xs l) (k : Tups enc H ys m) : Tups enc H (xs ++ ys) (l ++ m) := by
  refine ⟨by rw [List.length_append, List.length_append, h.1, k.1], fun i a e => ?_⟩
  by_cases c : i < l.length
  · rw [List.getElem?_append_left c] at e
    obtain ⟨t, h1, h2⟩ := h.2 i a e
    exact ⟨t, by rw [List.getElem?_append_left (by rw [h.1]; exact c)]; exact h1, h2⟩
  · rw [List.getElem?_append_right (by omega)] at e
    obtain ⟨t, h1, h2⟩ := k.2 _ a e
    exact ⟨t, by rw [List.getElem?_append_right (by rw [h.1]; omega), h.1]; exact h1, h2⟩
def DrawQ (nm9 : List Str) (Hb : Hp) (p d : Addr) (ds : List Int) (C : Addr) (lo st : Int) (i : Nat) (H' : Hp) : Prop := ∃ (acc : List V) (ts : List (Str × Int)) (m : Int), H' C = some (.lst acc) ∧ PoolX H' p d ds m ∧ lo ≤ m ∧ m ≤ lo + st * (i : Int) ∧ Keep [p] Hb H' ∧ Tups encSI H' acc ts ∧ ts.length = i ∧ (ts.map Prod.fst = nm9.take i ∧ ∀ q ∈ ts, 1 ≤ q.2 ∧ q.2 ≤ 9)
theorem DrawQ.start {Hb : Hp} {p d C : Addr} {ds : List Int} {lo st : Int} {nm9 : List Str} (P : PoolX Hb p d ds lo) (hC : Hb C = none) : DrawQ nm9 Hb p d ds C lo st 0 (upd Hb C (.lst [])) :=
  ⟨[], [], lo, upd_same, P.same (Same.new (Same.refl _) hC), Int.le_refl _, by simp, Keep.id.nw hC, Tups.nil, rfl, rfl, fun q h => (nomatch h)⟩
theorem DrawQ.step {Hb Ha H5 : Hp} {p d C t : Addr} {ds : List Int} {lo st m m' z : Int} {i : Nat} {acc : List V} {ts : List (Str × Int)} {nm : Str} {nm9 : List Str} (hC : Hb C = none) (nC : C ∉ [p]) (nD : d ≠ C) (i9 : i < 1000)
    (hCa : Ha C = some (.lst acc)) (Pa : PoolX Ha p d ds m) (m0 : lo ≤ m) (m1 : m ≤ lo + st * (i : Int)) (ka : Keep [p] Hb Ha) (ta : Tups encSI Ha acc ts) (tl : ts.length = i) (tn : ts.map Prod.fst = nm9.take i ∧ ∀ q ∈ ts, 1 ≤ q.2 ∧ q.2 ≤ 9)
    (k5 : Keep [p] Ha H5) (P5 : PoolX H5 p d ds m') (n0 : m ≤ m') (n1 : m' ≤ m + st) (nt : H5 t = none) (nl : nm9[i]? = some nm) (z0 : 1 ≤ z ∧ z ≤ 9) :
    ∃ acc', (upd H5 t (.tup [.str nm, .int z])) C = some (.lst acc') ∧ acc'.length < sizeLine ∧ DrawQ nm9 Hb p d ds C lo st (i + 1) (upd (upd H5 t (.tup [.str nm, .int z])) C (.lst (acc' ++ [.ref t]))) := by
  have s6 := Same.new (o := .tup [.str nm, .int z]) (Same.refl H5) nt
  have ka6 := k5.nw (o := .tup [.str nm, .int z]) nt
  have hC6 := ka6 C _ nC hCa
  have tCne : t ≠ C := fun e => by rw [e, k5 C _ nC hCa] at nt; cases nt
  have T6 := (ta.keep1 Pa.1 ka6).snoc (a := (nm, z)) (t := t) upd_same
  have Cp : C ≠ p := fun e => nC (List.mem_singleton.mpr e)
  have e1 : st * ((i + 1 : Nat) : Int) = st * (i : Int) + st := by rw [Int.natCast_add, Int.mul_add]; simp
  refine ⟨acc, hC6, Nat.lt_of_le_of_lt (show acc.length ≤ 1000 by rw [ta.1, tl]; omega) (by decide), acc ++ [.ref t], ts ++ [(nm, z)], m', upd_same, (P5.same s6).put Cp nD, by omega, by rw [e1]; omega, ?_, ?_, by rw [List.length_append, tl]; rfl, ?_, fun q hq => ?_⟩
  · exact fun b o nb e => by
      have e2 := ka6 b o nb (ka b o nb e)
      rw [upd_ne (fun x => by rw [x, hC] at e; cases e)]
      exact e2
  · refine ⟨T6.1, fun i a e => ?_⟩
    obtain ⟨w', h1, h2⟩ := T6.2 i a e
    refine ⟨w', h1, ?_⟩
    rw [upd_ne (fun x => by rw [x, hC6] at h2; cases h2)]
    exact h2
  · rw [List.map_append, tn.1, take_snoc nl]
    rfl
  · rcases List.mem_append.mp hq with h | h
    · exact tn.2 q h
    · rw [List.mem_singleton.mp h]
      exact z0
theorem Keep.chg {p C : Addr} {Hb H : Hp} {o : HO} (hC : Hb C = none) (k : Keep [p] Hb H) : Keep [p] Hb (upd H C o) := fun b u nb e => by
  rw [upd_ne (fun x => by rw [x, hC] at e; cases e)]
  exact k b u nb e
theorem meant_ge (us : List (Str × Int)) (b m : Int) : meantF us .ge b m = lotF us b := by
  cases us <;> rfl
theorem take_fresh {ts : List (Str × Int)} (nd : (ts.map Prod.fst).Nodup) {i : Nat} {p : Str × Int} (e : ts[i]? = some p) : p.1 ∉ (ts.take i).map Prod.fst := fun h => by
  rw [← List.take_append_drop i ts, List.map_append, List.nodup_append] at nd
  exact nd.2.2 _ h _ (List.mem_map.mpr ⟨p, List.mem_of_getElem? (i := 0) (by rw [List.getElem?_drop]; exact e), rfl⟩) rfl
/-! ### functions that are spoilt -/
def Fq.put : Fq → List (Str × Int) → Fq
  | .sum _, us => .sum us
  | .quo _ d, us => .quo us d
  | .two k _ vs, us => .two k us vs
def Fq.first : Fq → List (Str × Int)
  | .sum ts => ts
  | .quo ts _ => ts
  | .two _ ts _ => ts
theorem FqAt.parts {H : Hp} {f : Fq} {v : V} (F : FqAt H f v) : ∃ (a : Addr) (w x : V) (rest : List V), v = .ref a ∧ H a = some (.tup (w :: x :: rest)) ∧ rest.length ≤ 1 ∧ TmAt H f.first x ∧ ∀ (H' : Hp), Same H H' → ∀ (us : List (Str × Int)) (z : V) (p : Addr), TmAt H' us z → H' p = some (.tup (w :: z :: rest)) → FqAt H' (f.put us) (.ref p) := by
  cases f with
  | sum ts =>
    obtain ⟨a, x, rfl, ha, X⟩ := F
    exact ⟨a, _, x, [], rfl, ha, by decide, X, fun H' s us z p T h => ⟨p, z, rfl, h, T⟩⟩
  | quo ts d =>
    obtain ⟨a, x, rfl, ha, X⟩ := F
    exact ⟨a, _, x, [.int d], rfl, ha, Nat.le_refl 1, X, fun H' s us z p T h => ⟨p, z, rfl, h, T⟩⟩
  | two k ts vs =>
    obtain ⟨a, x, y, rfl, ha, X, Y⟩ := F
    exact ⟨a, _, x, [y], rfl, ha, by simp, X, fun H' s us z p T h => ⟨p, z, y, rfl, h, T, Y.same s⟩⟩
theorem slT_one {K : PySem.W.Frag} {H : Hp} {a : Addr} {w x : V} {r : List V} {Q : VK} (hx : H a = some (.tup (w :: x :: r))) (k : ∀ (p : Addr) (H' : Hp), Same H H' → H' p = some (.tup [w]) → Q (.ref p) H') : rSlT K (.ref a) none (some 1) H Q := by
  refine ⟨a, _, rfl, SqT.of hx, ?_, fun p np => k p _ (Vf.Same.new (Same.refl H) np) ?_⟩
  · intro e
    have e1 : HT.sIx (w :: x :: r).length (w :: x :: r).length (some ((1 : Nat) : Int)) = min 1 (w :: x :: r).length := HT.sIx_nat _ _ _
    have e2 : HT.sIx (w :: x :: r).length (w :: x :: r).length (some (1 : Int)) = (w :: x :: r).length := e.2
    rw [show ((1 : Nat) : Int) = (1 : Int) from rfl, e2] at e1
    simp only [List.length_cons] at e1
    omega
  · rw [upd_same]
    exact congrArg (fun z => some (HO.tup z)) (Vf.cut_to (w :: x :: r) 1 (by simp))
theorem slT_two {K : PySem.W.Frag} {H : Hp} {a : Addr} {w x : V} {r : List V} {Q : VK} (hx : H a = some (.tup (w :: x :: r))) (k : ∀ (p : Addr) (H' : Hp), Same H H' → H' p = some (.tup r) → Q (.ref p) H') : rSlT K (.ref a) (some 2) none H Q := by
  refine ⟨a, _, rfl, SqT.of hx, ?_, fun p np => k p _ (Vf.Same.new (Same.refl H) np) ?_⟩
  · intro e
    have e1 : HT.sIx (w :: x :: r).length 0 (some ((2 : Nat) : Int)) = min 2 (w :: x :: r).length := HT.sIx_nat _ _ _
    have e2 : HT.sIx (w :: x :: r).length 0 (some (2 : Int)) = 0 := e.1
    rw [show ((2 : Nat) : Int) = (2 : Int) from rfl, e2] at e1
    simp only [List.length_cons] at e1
    omega
  · rw [upd_same]
    exact congrArg (fun z => some (HO.tup z)) (Vf.cut_from (w :: x :: r) 2 (by simp))
theorem catL {K : PySem.W.Frag} {H : Hp} {a b : Addr} {xs ys : List V} {Q : VK} (hx : H a = some (.tup xs)) (hy : H b = some (.tup ys)) (ne : xs ≠ []) (hs : xs.length + ys.length ≤ sizeLine)
    (k : ∀ (p : Addr) (H' : Hp), Same H H' → H' p = some (.tup (xs ++ ys)) → Q (.ref p) H') : rCatA K (.ref a) (.ref b) H Q := by
  refine ⟨a, b, xs, ys, rfl, rfl, SqT.of hx, SqT.of hy, hs, fun e => absurd e ne, fun _ e => ?_, fun _ _ p np => k p _ (Vf.Same.new (Same.refl H) np) upd_same⟩
  refine k a H (Same.refl H) ?_
  rw [e, List.append_nil]
  exact hx
theorem bad_made {K : PySem.W.Frag} {f : Fq} {v : V} {us : List (Str × Int)} {tm : TE} {σ : St} {H : Hp} {Q : VK} (hσ : σ[3]? = some (some v)) (F : FqAt H f v) (ht : ∀ H1, Same H H1 → ∀ Q' : VK, (∀ z H', Same H1 H' → TmAt H' us z → Q' z H') → tm σ H1 Q') (q : ∀ p H', Same H H' → FqAt H' (f.put us) (.ref p) → Q (.ref p) H') :
    tOp (rCatA K) (tOp (rCatA K) (tSl (rSlT K) (tVar 3) tNoPart (tPart (tC (V.int 1)))) (tTup (tCons tm tNil))) (tSl (rSlT K) (tVar 3) (tPart (tC (V.int 2))) tNoPart) σ H Q := by
  obtain ⟨a, w, x, r, rfl, ha, rl, _, mk⟩ := F.parts
  refine ⟨_, hσ, 1, rfl, slT_one ha fun p1 H1 s1 h1 => ?_⟩
  refine ht H1 s1 _ fun z H2 s2 T2 => ⟨(by show 1 ≤ sizeLine; decide), fun p2 n2 => ?_⟩
  have s3 := Vf.Same.new (o := .tup [z]) (Same.refl H2) n2
  refine catL (s3 _ _ (s2 _ _ h1)) upd_same (by simp) (by show 2 ≤ sizeLine; decide) fun p3 H4 s4 h4 => ?_
  have s14 := ((s1.trans s2).trans s3).trans s4
  refine ⟨_, hσ, 2, rfl, ?_⟩
  dsimp only [tNoPart]
  refine slT_two (s14 _ _ ha) fun p5 H5 s5 h5 => ?_
  refine catL (s5 _ _ h4) h5 (by simp) (Nat.le_trans (show _ ≤ 3 by simp only [List.length_append, List.length_cons, List.length_nil]; omega) (by decide)) fun p6 H6 s6 h6 => ?_
  exact q p6 H6 ((s14.trans s5).trans s6) (mk H6 ((s14.trans s5).trans s6) us z p6 (((T2.same s3).same s4).same (s5.trans s6)) h6)
theorem put_bad {f : Fq} {us : List (Str × Int)} (N : NiceQ f) (b : okTerms us 1 9 = false) (l : us.length ≤ 2) (n : ∀ p ∈ us, p.1.length ≤ 100) : (f.put us).isFn = false ∧ (f.put us).Short := by
  refine ⟨bad_sum (ts := us) (by cases f <;> simp [Fq.put, Fq.sums]) b, ?_, fun p hp => ?_⟩
  · have := N.len
    cases f <;> simp [Fq.put, Fq.all, Fq.sums] at this ⊢ <;> omega
  · have : p ∈ us ∨ p ∈ f.all := by cases f <;> simp [Fq.put, Fq.all, Fq.sums] at hp ⊢ <;> first | exact .inl hp | exact hp.elim .inl fun h => .inr (.inr h)
    rcases this with h | h
    · have := n p h; omega
    · exact N.short.nm p h
theorem quo_bad {f : Fq} {d : Int} (N : NiceQ f) (b : ¬ (2 ≤ d ∧ d ≤ 20)) : (Fq.quo f.first d).isFn = false ∧ (Fq.quo f.first d).Short := by
  have sub : ∀ p ∈ f.first, p ∈ f.all := fun p hp => by cases f <;> simp [Fq.first, Fq.all, Fq.sums] at hp ⊢ <;> first | exact hp | exact .inl hp
  refine ⟨bad_div (decide_eq_false b), ?_, fun p hp => N.short.nm p (sub p (by simpa [Fq.all, Fq.sums] using hp))⟩
  have := N.len
  cases f <;> simp [Fq.first, Fq.all, Fq.sums] at this ⊢ <;> omega
theorem bads : okTerms [(("x" : Str), 10)] 1 9 = false ∧ okTerms [] 1 9 = false ∧ okTerms [(("x" : Str), 1), (("and" : Str), 1)] 1 9 = false ∧ okTerms [(("y" : Str), 1), (("x" : Str), 1)] 1 9 = false := by
  refine ⟨?_, ?_, ?_, ?_⟩ <;> decide +kernel
theorem Tups.pair {α : Type} {enc : α → List V} {H : Hp} {t u : Addr} {a b : α} (h : H t = some (.tup (enc a))) (k : H u = some (.tup (enc b))) : Tups enc H [.ref t, .ref u] [a, b] :=
  Tups.snoc (xs := [.ref t]) (l := [a]) (Tups.snoc (xs := []) (l := []) Tups.nil h) k
theorem Tups.sgl {α : Type} {enc : α → List V} {H : Hp} {t : Addr} {a : α} (h : H t = some (.tup (enc a))) : Tups enc H [.ref t] [a] := Tups.snoc (xs := []) (l := []) Tups.nil h
end Vf

namespace Vf
open PySem L2
/-! ### sums of terms that are added up -/
theorem totC_group (c : Str → Option Int) {ls : List Str} (nd : ls.Nodup) : ∀ ts : List (Str × Int), (∀ p ∈ ts, p.1 ∈ ls) → totC ts c = (ls.map fun x => gGet ts x * cv c x).sum := by
  intro ts
  induction ts with
  | nil =>
    intro _
    have z : ∀ l : List Str, (l.map fun x => gGet ([] : List (Str × Int)) x * cv c x).sum = 0 := fun l => by
      induction l with
      | nil => rfl
      | cons x r ih =>
        rw [List.map_cons, List.sum_cons, ih]
        show 0 * cv c x + 0 = 0
        omega
    rw [z]
    rfl
  | cons p r ih =>
    intro h
    rw [totC_cons, ih fun q hq => h q (List.mem_cons_of_mem _ hq)]
    have one : ∀ l : List Str, l.Nodup → (l.map fun x => gGet (p :: r) x * cv c x).sum = (if p.1 ∈ l then p.2 * cv c p.1 else 0) + (l.map fun x => gGet r x * cv c x).sum := fun l => by
      induction l with
      | nil => intro _; rfl
      | cons x l ih2 =>
        intro nd
        rw [List.nodup_cons] at nd
        rw [List.map_cons, List.sum_cons, List.map_cons, List.sum_cons, ih2 nd.2]
        have e : gGet (p :: r) x = (if p.1 = x then p.2 else 0) + gGet r x := by
          unfold gGet
          rw [List.map_cons, List.sum_cons]
        rw [e]
        by_cases c1 : p.1 = x
        · subst c1
          rw [if_pos rfl, if_neg nd.1, if_pos (List.mem_cons_self ..), Int.add_mul]
          omega
        · have : (p.1 ∈ x :: l) ↔ p.1 ∈ l := by rw [List.mem_cons]; exact ⟨fun h => h.resolve_left c1, .inr⟩
          rw [if_neg c1, Int.zero_add]
          by_cases c2 : p.1 ∈ l
          · rw [if_pos c2, if_pos (this.mpr c2)]; omega
          · rw [if_neg c2, if_neg (fun h => c2 (this.mp h))]; omega
    rw [one ls nd, if_pos (h p (List.mem_cons_self ..))]
theorem gAll_names (ts : List (Str × Int)) : ((gAll ts).map Prod.fst).Nodup ∧ ∀ p ∈ ts, p.1 ∈ (gAll ts).map Prod.fst := by
  obtain ⟨n1, n2, _, _⟩ := gAll_ok ts
  exact ⟨n1, fun p hp => (n2 p.1).mpr (List.mem_map.mpr ⟨p, hp, rfl⟩)⟩
theorem AddT.tot {ts us : List (Str × Int)} (h : AddT ts us) (c : Str → Option Int) : totC us c = totC ts c := by
  obtain ⟨nd, m⟩ := gAll_names ts
  have mu : ∀ p ∈ us, p.1 ∈ (gAll ts).map Prod.fst := fun p hp => by
    obtain ⟨q, hq, e⟩ := List.mem_map.mp (h.names p hp)
    rw [← e]
    exact m q hq
  rw [totC_group c nd ts m, totC_group c nd us mu]
  congr 1
  refine List.map_congr_left fun x _ => ?_
  have e : gGet us x = gGet ts x := by
    by_cases c1 : x ∈ us.map Prod.fst
    · obtain ⟨p, hp, rfl⟩ := List.mem_map.mp c1
      rw [gGet_in (ascB_nd h.asc) hp, ((h.mem p).mp hp).1]
    · rw [gGet_out c1]
      refine Classical.byContradiction fun no => c1 ?_
      exact List.mem_map.mpr ⟨(x, gGet ts x), (h.mem (x, gGet ts x)).mpr ⟨rfl, fun z => no z.symm⟩, rfl⟩
  rw [e]
theorem valV_cons {k k' : Key} {v : V} {r : List (Key × V)} : valV ((k', v) :: r) k = if k' = k then some v else valV r k := by
  by_cases e : k' = k
  · rw [if_pos e]; exact valV_pos e
  · rw [if_neg e]; exact valV_neg e
theorem totC_app (ts us : List (Str × Int)) (c : Str → Option Int) : totC (ts ++ us) c = totC ts c + totC us c := by
  unfold totC
  rw [List.map_append, List.sum_append]
theorem totC_negT (us : List (Str × Int)) (c : Str → Option Int) : totC (negT us) c = - totC us c := by
  induction us with
  | nil => rfl
  | cons p r ih =>
    show -p.2 * cv c p.1 + totC (negT r) c = -(p.2 * cv c p.1 + totC r c)
    rw [ih, Int.neg_mul]
    omega
/-! ### values of functions -/
def Fq.val (c : Str → Option Int) : Fq → Int
  | .sum ts => totC ts c
  | .quo ts d => totC ts c / d
  | .two .mn ts us => if totC us c < totC ts c then totC us c else totC ts c
  | .two .mx ts us => if totC ts c < totC us c then totC us c else totC ts c
  | .two .ls ts us => if 0 < totC ts c - totC us c then totC ts c - totC us c else 0
theorem lotF_holds (ts : List (Str × Int)) (b : Int) (c : Str → Option Int) : (lotF ts b).holds c = decide (b ≤ totC ts c) := by
  cases ts with
  | nil => rfl
  | cons p r => rfl
theorem Qst.val {f : Fq} {b : Int} {g : Fm} (h : Qst f b g) (d : f.divOk = true) (c : Str → Option Int) : g.holds c = decide (b ≤ f.val c) := by
  cases h with
  | sum => rfl
  | quo ts d' b =>
    have d2 : 2 ≤ d' ∧ d' ≤ 20 := of_decide_eq_true d
    show decide (b * d' ≤ totC ts c) = decide (b ≤ totC ts c / d')
    exact decide_eq_decide.mpr (Int.le_ediv_iff_mul_le (by omega)).symm
  | mn ts us b =>
    show (decide (b ≤ totC ts c) && decide (b ≤ totC us c)) = decide (b ≤ if totC us c < totC ts c then totC us c else totC ts c)
    rw [← Bool.decide_and]
    refine decide_eq_decide.mpr ?_
    split <;> omega
  | mx ts us b =>
    show (decide (b ≤ totC ts c) || decide (b ≤ totC us c)) = decide (b ≤ if totC ts c < totC us c then totC us c else totC ts c)
    rw [← Bool.decide_or]
    refine decide_eq_decide.mpr ?_
    split <;> omega
  | ls0 ts us h0 =>
    show true = decide (b ≤ if 0 < totC ts c - totC us c then totC ts c - totC us c else 0)
    refine (decide_eq_true ?_).symm
    split <;> omega
  | @ls1 ts us ws b h0 a =>
    rw [lotF_holds, a.tot, totC_app, totC_negT]
    show _ = decide (b ≤ if 0 < totC ts c - totC us c then totC ts c - totC us c else 0)
    refine decide_eq_decide.mpr ?_
    split <;> omega
theorem Qst.val2 {f : Fq} {b : Int} {g h : Fm} (p : Qst f b g) (q : Qst f (b + 1) h) (d : f.divOk = true) (c : Str → Option Int) : (Fm.two true g (.no h)).holds c = decide (f.val c = b) := by
  show (g.holds c && !h.holds c) = _
  rw [p.val d, q.val d, ← decide_not, ← Bool.decide_and]
  exact decide_eq_decide.mpr (by omega)
/-! ### the counts that are drawn -/
def names4 : List Str := ["x", "y", "z1", "b"]
def cnt4 (rs : List Int) (x : Str) : Option Int := if x = "zz" then some (-1) else (names4.zip rs).lookup x
def cnt4K (rs : List Int) : List (Key × V) := (Sum.inr ("zz" : Str), V.int (-1)) :: (names4.zip rs).map fun p => (Sum.inr p.1, .int p.2)
theorem cnt4_val (rs : List Int) (x : Str) : valV (cnt4K rs) (Sum.inr x) = (cnt4 rs x).map V.int := by
  have inj : ∀ y : Str, ((Sum.inr y : Key) = Sum.inr x) = (x = y) := fun y => propext ⟨fun h => (Sum.inr.inj h).symm, fun h => by rw [h]⟩
  unfold cnt4K cnt4
  simp only [valV_cons, inj]
  split
  · rfl
  · induction names4.zip rs with
    | nil => rfl
    | cons p r ih =>
      obtain ⟨y, z⟩ := p
      simp only [List.map_cons, valV_cons, inj, List.lookup_cons]
      by_cases e : x = y
      · rw [if_pos e, beq_iff_eq.mpr e]; rfl
      · rw [if_neg e, beq_eq_false_iff_ne.mpr e]; exact ih
theorem cnt4_put {rs : List Int} {x : Str} {r : Int} (h : names4[rs.length]? = some x) : putK (cnt4K rs) (Sum.inr x) (.int r) = cnt4K (rs ++ [r]) := by
  have : rs.length < 4 := (List.getElem?_eq_some_iff.mp h).1
  match rs, this, h with
  | [], _, h => cases h; rfl
  | [a], _, h => cases h; rfl
  | [a, b], _, h => cases h; rfl
  | [a, b, d], _, h => cases h; rfl
theorem cnt4_all {rs : List Int} (l : rs.length = 4) (p : ∀ r ∈ rs, 0 ≤ r) : (∀ x ∈ names4, ∃ z, cnt4 rs x = some z ∧ 0 ≤ z) := by
  match rs, l, p with
  | [a, b, d, e], _, p =>
    intro x hx
    have : x = "x" ∨ x = "y" ∨ x = "z1" ∨ x = "b" := by simpa [names4] using hx
    rcases this with rfl | rfl | rfl | rfl
    · exact ⟨a, rfl, p _ (by simp)⟩
    · exact ⟨b, rfl, p _ (by simp)⟩
    · exact ⟨d, rfl, p _ (by simp)⟩
    · exact ⟨e, rfl, p _ (by simp)⟩
theorem base_names {x : Str} (h : x ∈ base4) : x ∈ names4 := by
  have : ∀ x ∈ base4, x ∈ names4 := by decide +kernel
  exact this x h
theorem FqAt.keepD {H H' : Hp} {p : Addr} {kvs : List (Key × V)} (hp : H p = some (.dK kvs)) (k : Keep [p] H H') : ∀ {f : Fq} {v : V}, FqAt H f v → FqAt H' f v := by
  have tp : ∀ {a : Addr} {xs : List V}, H a = some (.tup xs) → H' a = some (.tup xs) := fun {a xs} h => k a _ (fun m => by rw [List.mem_singleton.mp m, hp] at h; cases h) h
  have tm : ∀ {ts : List (Str × Int)} {x : V}, TmAt H ts x → TmAt H' ts x := fun {ts x} ⟨t, xs, e, h, l⟩ => ⟨t, xs, e, tp h, l.1, fun i q hq => by
    obtain ⟨w, e1, e2⟩ := l.2 i q hq
    exact ⟨w, e1, tp e2⟩⟩
  intro f
  cases f with
  | sum ts => rintro v ⟨a, x, e, h, l⟩; exact ⟨a, x, e, tp h, tm l⟩
  | quo ts d => rintro v ⟨a, x, e, h, l⟩; exact ⟨a, x, e, tp h, tm l⟩
  | two w ts us => rintro v ⟨a, x, y, e, h, l, m⟩; exact ⟨a, x, y, e, tp h, tm l, tm m⟩
/-- where the law stands that asks for values -/
structure RunV (K : PySem.W.Frag) (H : Hp) (pl dr a cd : Addr) (ds : List Int) (xs : List V) (f : Fq) (v : V) (rs : List Int) (n : Int) : Prop where
  P : PoolX H pl dr ds n
  S : Sq1 K pl H a xs
  F : FqAt H f v
  C : H cd = some (.dK (cnt4K rs))
section
variable {K : PySem.W.Frag} {H H' : Hp} {pl dr a cd : Addr} {ds : List Int} {xs : List V} {f : Fq} {v : V} {rs : List Int} {n n' : Int}
theorem RunV.ncd (R : RunV K H pl dr a cd ds xs f v rs n) : cd ∉ [pl] := fun h => by
  have h1 := R.C
  rw [List.mem_singleton.mp h, R.P.1] at h1
  cases h1
theorem RunV.keep (R : RunV K H pl dr a cd ds xs f v rs n) (k : Keep [pl] H H') (P' : PoolX H' pl dr ds n') : RunV K H' pl dr a cd ds xs f v rs n' :=
  ⟨P', R.S.keep k, R.F.keep1 R.P.1 k, k cd _ R.ncd R.C⟩
theorem RunV.same (R : RunV K H pl dr a cd ds xs f v rs n) (s : Same H H') : RunV K H' pl dr a cd ds xs f v rs n := R.keep (Keep.of s) (R.P.same s)
theorem RunV.wr {k0 : List (Key × V)} (P : PoolX H pl dr ds n) (S : Sq1 K pl H a xs) (F : FqAt H f v) (hc : H cd = some (.dK k0)) (rs : List Int) : RunV K (upd H cd (.dK (cnt4K rs))) pl dr a cd ds xs f v rs n := by
  have kp : Keep [cd] H (upd H cd (.dK (cnt4K rs))) := fun b o nb e => by rw [upd_ne (fun x => nb (by rw [x]; exact List.mem_singleton.mpr rfl))]; exact e
  have ne : ∀ {b : Addr} {o : HO}, H b = some o → (∀ z, o ≠ .dK z) → b ≠ cd := fun {b o} hb hn e => by
    rw [e, hc] at hb
    exact hn _ (Option.some.inj hb).symm
  refine ⟨P.put (fun e => ne P.1 (fun z => by simp) e.symm) (ne P.2.1 fun z => by simp), ⟨?_, S.2⟩, F.keepD hc kp, upd_same⟩
  rcases S.1 with (g | ⟨o, g⟩) | g
  · exact .inl (.inl (by rw [upd_ne (ne g fun z => by simp)]; exact g))
  · exact .inl (.inr ⟨o, by rw [upd_ne (ne g fun z => by simp)]; exact g⟩)
  · exact .inr g
theorem RunV.put (R : RunV K H pl dr a cd ds xs f v rs n) {x : Str} {r : Int} (h : names4[rs.length]? = some x) : DPut H cd (.str x) (.int r) (upd H cd (.dK (cnt4K (rs ++ [r])))) ∧ RunV K (upd H cd (.dK (cnt4K (rs ++ [r])))) pl dr a cd ds xs f v (rs ++ [r]) n := by
  have g : (cnt4K rs).length ≤ 5 := by
    have := List.length_zip (l₁ := names4) (l₂ := rs)
    have e : names4.length = 4 := rfl
    unfold cnt4K
    rw [List.length_cons, List.length_map]
    omega
  have := DPut.k (k := Sum.inr x) (v := .int r) R.C (Nat.lt_of_le_of_lt g (by decide))
  rw [cnt4_put h] at this
  exact ⟨this, RunV.wr R.P R.S R.F R.C _⟩
theorem RunV.cnt (R : RunV K H pl dr a cd ds xs f v rs n) : CntAt H cd (cnt4 rs) := ⟨_, R.C, by
    have := List.length_zip (l₁ := names4) (l₂ := rs)
    have e : names4.length = 4 := rfl
    unfold cnt4K
    rw [List.length_cons, List.length_map]
    omega, cnt4_val rs⟩
end
theorem cnt4_ok {rs : List Int} (l : rs.length = 4) (p : ∀ r ∈ rs, 0 ≤ r) {x : Str} (hx : x ∈ vars4) : (∃ z, cnt4 rs x = some z) ∧ 0 ≤ cv (cnt4 rs) x := by
  obtain ⟨z, e, z0⟩ := cnt4_all l p x hx
  refine ⟨⟨z, e⟩, ?_⟩
  unfold cv
  rw [e]
  exact z0
theorem base_totC (c : Str → Option Int) {ts : List (Str × Int)} (n : ts.length ≤ 4) (b : ∀ p ∈ ts, 0 ≤ p.2 ∧ p.2 ≤ 9) (h : ∀ p ∈ ts, 0 ≤ cv c p.1 ∧ cv c p.1 ≤ 10) : 0 ≤ totC ts c ∧ totC ts c ≤ 90 * ts.length := by
  clear n
  induction ts with
  | nil => exact ⟨Int.le_refl 0, Int.le_refl 0⟩
  | cons p r ih =>
    obtain ⟨i1, i2⟩ := ih (fun q hq => b q (List.mem_cons_of_mem _ hq)) (fun q hq => h q (List.mem_cons_of_mem _ hq))
    obtain ⟨b1, b2⟩ := b p (List.mem_cons_self ..)
    obtain ⟨h1, h2⟩ := h p (List.mem_cons_self ..)
    have m0 := Int.mul_nonneg b1 h1
    have m1 : p.2 * cv c p.1 ≤ 9 * 10 := Int.mul_le_mul b2 h2 h1 (by decide)
    show 0 ≤ p.2 * cv c p.1 + totC r c ∧ p.2 * cv c p.1 + totC r c ≤ 90 * ((r.length + 1 : Nat) : Int)
    omega
theorem val_small {f : Fq} (N : NiceQ f) {c : Str → Option Int} (h : ∀ x ∈ vars4, 0 ≤ cv c x ∧ cv c x ≤ 10) : 0 ≤ f.val c ∧ f.val c ≤ 1000 := by
  have one : ∀ ts ∈ f.sums, 0 ≤ totC ts c ∧ totC ts c ≤ 360 := fun ts hts => by
    have l := N.l ts hts
    have := base_totC c l (fun p hp => by
      have ok := N.ok ts hts
      unfold okTerms at ok
      simp only [Bool.and_eq_true, List.all_eq_true, decide_eq_true_eq] at ok
      have := ok.2.2.2 p hp
      omega) (fun p hp => h _ (N.v p ((Fq.part hts).2 p hp)))
    omega
  cases f with
  | sum ts => have := one ts (by simp [Fq.sums]); show 0 ≤ totC ts c ∧ totC ts c ≤ 1000; omega
  | quo ts d =>
    have t := one ts (by simp [Fq.sums])
    have d2 : 2 ≤ d ∧ d ≤ 20 := of_decide_eq_true N.dv
    show 0 ≤ totC ts c / d ∧ totC ts c / d ≤ 1000
    exact ⟨Int.ediv_nonneg t.1 (by omega), Int.le_trans (Int.ediv_le_self _ t.1) (by omega)⟩
  | two k ts us =>
    have t := one ts (by simp [Fq.sums])
    have u := one us (by simp [Fq.sums])
    cases k
    · show 0 ≤ (if totC us c < totC ts c then totC us c else totC ts c) ∧ (if totC us c < totC ts c then totC us c else totC ts c) ≤ 1000
      split <;> omega
    · show 0 ≤ (if totC ts c < totC us c then totC us c else totC ts c) ∧ (if totC ts c < totC us c then totC us c else totC ts c) ≤ 1000
      split <;> omega
    · show 0 ≤ (if 0 < totC ts c - totC us c then totC ts c - totC us c else 0) ∧ (if 0 < totC ts c - totC us c then totC ts c - totC us c else 0) ≤ 1000
      split <;> omega
theorem cnt4_le {rs : List Int} (l : rs.length = 4) (p : ∀ r ∈ rs, 0 ≤ r ∧ r ≤ 10) {x : Str} (hx : x ∈ vars4) : 0 ≤ cv (cnt4 rs) x ∧ cv (cnt4 rs) x ≤ 10 := by
  match rs, l, p with
  | [a, b, d, e], _, p =>
    have : x = "x" ∨ x = "y" ∨ x = "z1" ∨ x = "b" := by simpa [vars4] using hx
    rcases this with rfl | rfl | rfl | rfl
    · exact p a (by simp)
    · exact p b (by simp)
    · exact p d (by simp)
    · exact p e (by simp)
end Vf

namespace Pf
open PySem L2
def top (i : Nat) : Stmt := PySem.Challenge.pw_mingle_k96_whole_questions_tell_the_valu.main.body.getD i (.Pass ⟨0, 0, 0, 0⟩)
abbrev s__law_draws : Stmt := (top 52)
abbrev s__law_cell : Stmt := (top 51)
abbrev s__law_pool : Stmt := (top 57)
abbrev s__law_pick : Stmt := (top 58)
abbrev s__law_good_terms : Stmt := (top 60)
abbrev s__law_qfunction : Stmt := (top 59)
abbrev s__law_sum : Stmt := (top 56)
abbrev s__law_value : Stmt := (top 62)
abbrev s__law_is_int : Stmt := (top 53)
abbrev s__law_is_number : Stmt := (top 55)
abbrev s_UnknownName___init__ : Stmt := (inClass (top 4) 0)
abbrev s_check_counts : Stmt := (top 28)
abbrev s__sums : Stmt := (top 40)
abbrev s_function_variables : Stmt := (top 42)
abbrev s_total : Stmt := (top 29)
abbrev s_value : Stmt := (top 43)
abbrev s_is_name : Stmt := (top 10)
abbrev s_is_variable : Stmt := (top 18)
abbrev s_are_terms : Stmt := (top 19)
abbrev s_is_function : Stmt := (top 41)
abbrev s__check_function : Stmt := (top 45)
abbrev s__is_least : Stmt := (top 20)
abbrev s__is_rest : Stmt := (top 21)
abbrev s__parts : Stmt := (top 22)
abbrev s__is_sound : Stmt := (top 23)
abbrev s__all_terms : Stmt := (top 26)
abbrev s_variables : Stmt := (top 27)
abbrev s_is_formula : Stmt := (top 24)
abbrev s_checked : Stmt := (top 25)
abbrev s__truth : Stmt := (top 34)
abbrev s_least_or_truth : Stmt := (top 35)
abbrev s_added_up : Stmt := (top 33)
abbrev s__less_question : Stmt := (top 46)
abbrev s__question : Stmt := (top 47)
abbrev s_at_least : Stmt := (top 48)
abbrev s_exactly : Stmt := (top 49)
abbrev s__law_told_question : Stmt := (top 61)
abbrev s__law_is_bool : Stmt := (top 54)
abbrev s_holds : Stmt := (top 30)
abbrev s_answer : Stmt := (top 31)
abbrev s_law : Stmt := (top 63)
structure Ad where
  f__law_draws : Addr
  d__law_draws : FuncData
  f__law_cell : Addr
  d__law_cell : FuncData
  f__law_pool : Addr
  d__law_pool : FuncData
  f__law_pick : Addr
  d__law_pick : FuncData
  f__law_good_terms : Addr
  d__law_good_terms : FuncData
  f__law_qfunction : Addr
  d__law_qfunction : FuncData
  f__law_sum : Addr
  d__law_sum : FuncData
  f__law_value : Addr
  d__law_value : FuncData
  f__law_is_int : Addr
  d__law_is_int : FuncData
  f__law_is_number : Addr
  d__law_is_number : FuncData
  f_UnknownName___init__ : Addr
  d_UnknownName___init__ : FuncData
  cc_UnknownName___init__ : Addr
  cda_UnknownName___init__ : Addr
  f_check_counts : Addr
  d_check_counts : FuncData
  f__sums : Addr
  d__sums : FuncData
  f_function_variables : Addr
  d_function_variables : FuncData
  f_total : Addr
  d_total : FuncData
  f_value : Addr
  d_value : FuncData
  f_is_name : Addr
  d_is_name : FuncData
  f_is_variable : Addr
  d_is_variable : FuncData
  f_are_terms : Addr
  d_are_terms : FuncData
  f_is_function : Addr
  d_is_function : FuncData
  f__check_function : Addr
  d__check_function : FuncData
  f__is_least : Addr
  d__is_least : FuncData
  f__is_rest : Addr
  d__is_rest : FuncData
  f__parts : Addr
  d__parts : FuncData
  f__is_sound : Addr
  d__is_sound : FuncData
  f__all_terms : Addr
  d__all_terms : FuncData
  f_variables : Addr
  d_variables : FuncData
  f_is_formula : Addr
  d_is_formula : FuncData
  f_checked : Addr
  d_checked : FuncData
  f__truth : Addr
  d__truth : FuncData
  f_least_or_truth : Addr
  d_least_or_truth : FuncData
  f_added_up : Addr
  d_added_up : FuncData
  f__less_question : Addr
  d__less_question : FuncData
  f__question : Addr
  d__question : FuncData
  f_at_least : Addr
  d_at_least : FuncData
  f_exactly : Addr
  d_exactly : FuncData
  f__law_told_question : Addr
  d__law_told_question : FuncData
  f__law_is_bool : Addr
  d__law_is_bool : FuncData
  f_holds : Addr
  d_holds : FuncData
  f_answer : Addr
  d_answer : FuncData
  f_law : Addr
  d_law : FuncData
  c_WrongCounts : Addr
  c_InvalidFormula : Addr
  c_UnknownName : Addr
  c_InvalidFunction : Addr
  t_WORDS : Addr
structure Txt (P : Program) (K : PySem.W.Frag) (mg : Str → Option Value) (A : Ad) : Prop where
  F__law_draws : Fun K "_law_draws" "_law_draws" s__law_draws A.f__law_draws A.d__law_draws
  B__law_draws : Binds K A.d__law_draws ["cell", "count"] []
  G__law_draws : mg "_law_draws" = some (.ref A.f__law_draws)
  F__law_cell : Fun K "_law_cell" "_law_cell" s__law_cell A.f__law_cell A.d__law_cell
  B__law_cell : Binds K A.d__law_cell ["script", "k"] []
  G__law_cell : mg "_law_cell" = some (.ref A.f__law_cell)
  F__law_pool : Fun K "_law_pool" "_law_pool" s__law_pool A.f__law_pool A.d__law_pool
  B__law_pool : Binds K A.d__law_pool ["script"] []
  G__law_pool : mg "_law_pool" = some (.ref A.f__law_pool)
  F__law_pick : Fun K "_law_pick" "_law_pick" s__law_pick A.f__law_pick A.d__law_pick
  B__law_pick : Binds K A.d__law_pick ["pool", "many"] []
  G__law_pick : mg "_law_pick" = some (.ref A.f__law_pick)
  F__law_good_terms : Fun K "_law_good_terms" "_law_good_terms" s__law_good_terms A.f__law_good_terms A.d__law_good_terms
  B__law_good_terms : Binds K A.d__law_good_terms ["pool"] []
  G__law_good_terms : mg "_law_good_terms" = some (.ref A.f__law_good_terms)
  F__law_qfunction : Fun K "_law_qfunction" "_law_qfunction" s__law_qfunction A.f__law_qfunction A.d__law_qfunction
  B__law_qfunction : Binds K A.d__law_qfunction ["pool"] []
  G__law_qfunction : mg "_law_qfunction" = some (.ref A.f__law_qfunction)
  F__law_sum : Fun K "_law_sum" "_law_sum" s__law_sum A.f__law_sum A.d__law_sum
  B__law_sum : Binds K A.d__law_sum ["terms", "counts"] []
  G__law_sum : mg "_law_sum" = some (.ref A.f__law_sum)
  F__law_value : Fun K "_law_value" "_law_value" s__law_value A.f__law_value A.d__law_value
  B__law_value : Binds K A.d__law_value ["function", "counts"] []
  G__law_value : mg "_law_value" = some (.ref A.f__law_value)
  F__law_is_int : Fun K "_law_is_int" "_law_is_int" s__law_is_int A.f__law_is_int A.d__law_is_int
  B__law_is_int : Binds K A.d__law_is_int ["x"] []
  G__law_is_int : mg "_law_is_int" = some (.ref A.f__law_is_int)
  F__law_is_number : Fun K "_law_is_number" "_law_is_number" s__law_is_number A.f__law_is_number A.d__law_is_number
  B__law_is_number : Binds K A.d__law_is_number ["x", "due"] []
  G__law_is_number : mg "_law_is_number" = some (.ref A.f__law_is_number)
  D_UnknownName___init__ : Vf.InitAt P K "UnknownName.__init__" s_UnknownName___init__ A.c_UnknownName A.f_UnknownName___init__ A.cc_UnknownName___init__ A.cda_UnknownName___init__ A.d_UnknownName___init__
  B_UnknownName___init__ : Binds K A.d_UnknownName___init__ ["self", "name"] []
  O_UnknownName : OexC K A.c_UnknownName
  S_UnknownName : Vf.SupCls K A.c_UnknownName
  X_UnknownName : XfC K A.c_UnknownName
  I_UnknownName : PySem.W.findIn K (.ref A.c_UnknownName) "__init__" = some (some (.ref A.f_UnknownName___init__))
  Y_UnknownName : PySem.W.typeIn K (.ref A.f_UnknownName___init__) = some (.type "function")
  N_UnknownName_name : PySem.W.findIn K (.ref A.c_UnknownName) "name" = some none
  F_check_counts : Fun K "check_counts" "check_counts" s_check_counts A.f_check_counts A.d_check_counts
  B_check_counts : Binds K A.d_check_counts ["names", "counts"] []
  G_check_counts : mg "check_counts" = some (.ref A.f_check_counts)
  F__sums : Fun K "_sums" "_sums" s__sums A.f__sums A.d__sums
  B__sums : Binds K A.d__sums ["function"] []
  G__sums : mg "_sums" = some (.ref A.f__sums)
  F_function_variables : Fun K "function_variables" "function_variables" s_function_variables A.f_function_variables A.d_function_variables
  B_function_variables : Binds K A.d_function_variables ["function"] []
  G_function_variables : mg "function_variables" = some (.ref A.f_function_variables)
  F_total : Fun K "total" "total" s_total A.f_total A.d_total
  B_total : Binds K A.d_total ["terms", "counts"] []
  G_total : mg "total" = some (.ref A.f_total)
  F_value : Fun K "value" "value" s_value A.f_value A.d_value
  B_value : Binds K A.d_value ["function", "counts"] []
  G_value : mg "value" = some (.ref A.f_value)
  F_is_name : Fun K "is_name" "is_name" s_is_name A.f_is_name A.d_is_name
  B_is_name : Binds K A.d_is_name ["name"] []
  G_is_name : mg "is_name" = some (.ref A.f_is_name)
  F_is_variable : Fun K "is_variable" "is_variable" s_is_variable A.f_is_variable A.d_is_variable
  B_is_variable : Binds K A.d_is_variable ["name"] []
  G_is_variable : mg "is_variable" = some (.ref A.f_is_variable)
  F_are_terms : Fun K "are_terms" "are_terms" s_are_terms A.f_are_terms A.d_are_terms
  B_are_terms : Binds K A.d_are_terms ["terms", "lowest", "highest"] []
  G_are_terms : mg "are_terms" = some (.ref A.f_are_terms)
  F_is_function : Fun K "is_function" "is_function" s_is_function A.f_is_function A.d_is_function
  B_is_function : Binds K A.d_is_function ["function"] []
  G_is_function : mg "is_function" = some (.ref A.f_is_function)
  F__check_function : Fun K "_check_function" "_check_function" s__check_function A.f__check_function A.d__check_function
  B__check_function : Binds K A.d__check_function ["function"] []
  G__check_function : mg "_check_function" = some (.ref A.f__check_function)
  F__is_least : Fun K "_is_least" "_is_least" s__is_least A.f__is_least A.d__is_least
  B__is_least : Binds K A.d__is_least ["terms", "bound"] []
  G__is_least : mg "_is_least" = some (.ref A.f__is_least)
  F__is_rest : Fun K "_is_rest" "_is_rest" s__is_rest A.f__is_rest A.d__is_rest
  B__is_rest : Binds K A.d__is_rest ["terms", "rest", "modulus"] []
  G__is_rest : mg "_is_rest" = some (.ref A.f__is_rest)
  F__parts : Fun K "_parts" "_parts" s__parts A.f__parts A.d__parts
  B__parts : Binds K A.d__parts ["formula"] []
  G__parts : mg "_parts" = some (.ref A.f__parts)
  F__is_sound : Fun K "_is_sound" "_is_sound" s__is_sound A.f__is_sound A.d__is_sound
  B__is_sound : Binds K A.d__is_sound ["formula", "room"] []
  G__is_sound : mg "_is_sound" = some (.ref A.f__is_sound)
  F__all_terms : Fun K "_all_terms" "_all_terms" s__all_terms A.f__all_terms A.d__all_terms
  B__all_terms : Binds K A.d__all_terms ["formula"] []
  G__all_terms : mg "_all_terms" = some (.ref A.f__all_terms)
  F_variables : Fun K "variables" "variables" s_variables A.f_variables A.d_variables
  B_variables : Binds K A.d_variables ["formula"] []
  G_variables : mg "variables" = some (.ref A.f_variables)
  F_is_formula : Fun K "is_formula" "is_formula" s_is_formula A.f_is_formula A.d_is_formula
  B_is_formula : Binds K A.d_is_formula ["formula"] []
  G_is_formula : mg "is_formula" = some (.ref A.f_is_formula)
  F_checked : Fun K "checked" "checked" s_checked A.f_checked A.d_checked
  B_checked : Binds K A.d_checked ["formula"] []
  G_checked : mg "checked" = some (.ref A.f_checked)
  F__truth : Fun K "_truth" "_truth" s__truth A.f__truth A.d__truth
  B__truth : Binds K A.d__truth ["holds"] []
  G__truth : mg "_truth" = some (.ref A.f__truth)
  F_least_or_truth : Fun K "least_or_truth" "least_or_truth" s_least_or_truth A.f_least_or_truth A.d_least_or_truth
  B_least_or_truth : Binds K A.d_least_or_truth ["terms", "bound"] []
  G_least_or_truth : mg "least_or_truth" = some (.ref A.f_least_or_truth)
  F_added_up : Fun K "added_up" "added_up" s_added_up A.f_added_up A.d_added_up
  B_added_up : Binds K A.d_added_up ["terms"] []
  G_added_up : mg "added_up" = some (.ref A.f_added_up)
  F__less_question : Fun K "_less_question" "_less_question" s__less_question A.f__less_question A.d__less_question
  B__less_question : Binds K A.d__less_question ["left", "right", "bound"] []
  G__less_question : mg "_less_question" = some (.ref A.f__less_question)
  F__question : Fun K "_question" "_question" s__question A.f__question A.d__question
  B__question : Binds K A.d__question ["function", "bound"] []
  G__question : mg "_question" = some (.ref A.f__question)
  F_at_least : Fun K "at_least" "at_least" s_at_least A.f_at_least A.d_at_least
  B_at_least : Binds K A.d_at_least ["function", "bound"] []
  G_at_least : mg "at_least" = some (.ref A.f_at_least)
  F_exactly : Fun K "exactly" "exactly" s_exactly A.f_exactly A.d_exactly
  B_exactly : Binds K A.d_exactly ["function", "number"] []
  G_exactly : mg "exactly" = some (.ref A.f_exactly)
  F__law_told_question : Fun K "_law_told_question" "_law_told_question" s__law_told_question A.f__law_told_question A.d__law_told_question
  B__law_told_question : Binds K A.d__law_told_question ["function", "number", "way"] []
  G__law_told_question : mg "_law_told_question" = some (.ref A.f__law_told_question)
  F__law_is_bool : Fun K "_law_is_bool" "_law_is_bool" s__law_is_bool A.f__law_is_bool A.d__law_is_bool
  B__law_is_bool : Binds K A.d__law_is_bool ["x", "due"] []
  G__law_is_bool : mg "_law_is_bool" = some (.ref A.f__law_is_bool)
  F_holds : Fun K "holds" "holds" s_holds A.f_holds A.d_holds
  B_holds : Binds K A.d_holds ["formula", "counts"] []
  G_holds : mg "holds" = some (.ref A.f_holds)
  F_answer : Fun K "answer" "answer" s_answer A.f_answer A.d_answer
  B_answer : Binds K A.d_answer ["formula", "counts"] []
  G_answer : mg "answer" = some (.ref A.f_answer)
  F_law : Fun K "law" "law" s_law A.f_law A.d_law
  G_law : mg "law" = some (.ref A.f_law)
  G_WrongCounts : mg "WrongCounts" = some (.ref A.c_WrongCounts)
  x_WrongCounts : PySem.W.excIn K A.c_WrongCounts [.type "ValueError", .type "Exception", .type "BaseException", .type "object"] "ValueError.__new__" = true
  k_WrongCounts : PySem.W.keepIn K (.ref A.c_WrongCounts) = true
  b_WrongCounts : PySem.W.subIn K (.ref A.c_WrongCounts) (.type "BaseException") = some true
  t_WrongCounts : PySem.W.typeIn K (.ref A.c_WrongCounts) = some (.type "type")
  e_WrongCounts : PySem.W.exmOne K (.ref A.c_WrongCounts) (.ref A.c_WrongCounts) = some true
  G_InvalidFormula : mg "InvalidFormula" = some (.ref A.c_InvalidFormula)
  x_InvalidFormula : PySem.W.excIn K A.c_InvalidFormula [.type "ValueError", .type "Exception", .type "BaseException", .type "object"] "ValueError.__new__" = true
  k_InvalidFormula : PySem.W.keepIn K (.ref A.c_InvalidFormula) = true
  b_InvalidFormula : PySem.W.subIn K (.ref A.c_InvalidFormula) (.type "BaseException") = some true
  t_InvalidFormula : PySem.W.typeIn K (.ref A.c_InvalidFormula) = some (.type "type")
  e_InvalidFormula : PySem.W.exmOne K (.ref A.c_InvalidFormula) (.ref A.c_InvalidFormula) = some true
  G_UnknownName : mg "UnknownName" = some (.ref A.c_UnknownName)
  k_UnknownName : PySem.W.keepIn K (.ref A.c_UnknownName) = true
  b_UnknownName : PySem.W.subIn K (.ref A.c_UnknownName) (.type "BaseException") = some true
  t_UnknownName : PySem.W.typeIn K (.ref A.c_UnknownName) = some (.type "type")
  e_UnknownName : PySem.W.exmOne K (.ref A.c_UnknownName) (.ref A.c_UnknownName) = some true
  G_InvalidFunction : mg "InvalidFunction" = some (.ref A.c_InvalidFunction)
  x_InvalidFunction : PySem.W.excIn K A.c_InvalidFunction [.type "ValueError", .type "Exception", .type "BaseException", .type "object"] "ValueError.__new__" = true
  k_InvalidFunction : PySem.W.keepIn K (.ref A.c_InvalidFunction) = true
  b_InvalidFunction : PySem.W.subIn K (.ref A.c_InvalidFunction) (.type "BaseException") = some true
  t_InvalidFunction : PySem.W.typeIn K (.ref A.c_InvalidFunction) = some (.type "type")
  e_InvalidFunction : PySem.W.exmOne K (.ref A.c_InvalidFunction) (.ref A.c_InvalidFunction) = some true
  e_InvalidFormula_InvalidFunction : PySem.W.exmOne K (.ref A.c_InvalidFormula) (.ref A.c_InvalidFunction) = some false
  N_all : mg "all" = none
  N_bool : mg "bool" = none
  N_int : mg "int" = none
  N_isinstance : mg "isinstance" = none
  N_len : mg "len" = none
  N_list : mg "list" = none
  N_max : mg "max" = none
  N_min : mg "min" = none
  N_range : mg "range" = none
  N_set : mg "set" = none
  N_sorted : mg "sorted" = none
  N_str : mg "str" = none
  N_sum : mg "sum" = none
  N_super : mg "super" = none
  N_tuple : mg "tuple" = none
  W_WORDS : mg "WORDS" = some (.ref A.t_WORDS)
  Z_WORDS : Vf.TupK K A.t_WORDS ["and", "or", "not", "true", "false", "mod"]
  V_DIGITS : ∃ t, mg "DIGITS" = some (.str "0123456789" t)
  V_GREATEST_DEPTH : ∃ t, mg "GREATEST_DEPTH" = some (.int 8 t)
  V_GREATEST_DIVISOR : ∃ t, mg "GREATEST_DIVISOR" = some (.int 20 t)
  V_GREATEST_FACTOR : ∃ t, mg "GREATEST_FACTOR" = some (.int 9 t)
  V_GREATEST_MODULUS : ∃ t, mg "GREATEST_MODULUS" = some (.int 20 t)
  V_GREATEST_NUMBER : ∃ t, mg "GREATEST_NUMBER" = some (.int 20 t)
  V_LEAST_DIVISOR : ∃ t, mg "LEAST_DIVISOR" = some (.int 2 t)
  V_LEAST_MODULUS : ∃ t, mg "LEAST_MODULUS" = some (.int 2 t)
  V_LETTERS : ∃ t, mg "LETTERS" = some (.str "abcdefghijklmnopqrstuvwxyz" t)
  V_LONGEST_NAME : ∃ t, mg "LONGEST_NAME" = some (.int 12 t)
  V_MOST_VARIABLES : ∃ t, mg "MOST_VARIABLES" = some (.int 8 t)
section
variable {P : Program} {w : World} {K : PySem.W.Frag} {mg : Str → Option Value} {base : Heap}
theorem sc__law_draws : FnScope ["cell", "count", "rows", "left", "k", "mixed"] ["cell", "count"] (defScope s__law_draws) := ⟨rfl, rfl, rfl, by decide +kernel, rfl, by decide +kernel, by decide +kernel⟩
theorem sc__law_cell : FnScope ["script", "k"] ["script", "k"] (defScope s__law_cell) := ⟨rfl, rfl, rfl, by decide +kernel, rfl, by decide +kernel, by decide +kernel⟩
theorem sc__law_pool : FnScope ["script", "draws", "k"] ["script"] (defScope s__law_pool) := ⟨rfl, rfl, rfl, by decide +kernel, rfl, by decide +kernel, by decide +kernel⟩
theorem sc__law_pick : FnScope ["pool", "many", "at", "turn"] ["pool", "many"] (defScope s__law_pick) := ⟨rfl, rfl, rfl, by decide +kernel, rfl, by decide +kernel, by decide +kernel⟩
theorem sc__law_good_terms : FnScope ["pool", "names", "name"] ["pool"] (defScope s__law_good_terms) := ⟨rfl, rfl, rfl, by decide +kernel, rfl, by decide +kernel, by decide +kernel⟩
theorem sc__law_qfunction : FnScope ["pool", "kind", "first"] ["pool"] (defScope s__law_qfunction) := ⟨rfl, rfl, rfl, by decide +kernel, rfl, by decide +kernel, by decide +kernel⟩
theorem sc__law_sum : FnScope ["terms", "counts", "total_v", "name", "factor"] ["terms", "counts"] (defScope s__law_sum) := ⟨rfl, rfl, rfl, by decide +kernel, rfl, by decide +kernel, by decide +kernel⟩
theorem sc__law_value : FnScope ["function", "counts", "first", "second"] ["function", "counts"] (defScope s__law_value) := ⟨rfl, rfl, rfl, by decide +kernel, rfl, by decide +kernel, by decide +kernel⟩
theorem sc__law_is_int : FnScope ["x"] ["x"] (defScope s__law_is_int) := ⟨rfl, rfl, rfl, by decide +kernel, rfl, by decide +kernel, by decide +kernel⟩
theorem sc__law_is_number : FnScope ["x", "due"] ["x", "due"] (defScope s__law_is_number) := ⟨rfl, rfl, rfl, by decide +kernel, rfl, by decide +kernel, by decide +kernel⟩
theorem sc_UnknownName___init__ : NdefX.NScope ["self", "name", "__class__"] ["self", "name"] ["__class__"] (defScope s_UnknownName___init__) := NdefX.nscope_by (by decide +kernel)
theorem sc_check_counts : FnScope ["names", "counts", "name"] ["names", "counts"] (defScope s_check_counts) := ⟨rfl, rfl, rfl, by decide +kernel, rfl, by decide +kernel, by decide +kernel⟩
theorem sc__sums : FnScope ["function"] ["function"] (defScope s__sums) := ⟨rfl, rfl, rfl, by decide +kernel, rfl, by decide +kernel, by decide +kernel⟩
theorem sc_function_variables : FnScope ["function", "terms", "name", "_"] ["function"] (defScope s_function_variables) := ⟨rfl, rfl, rfl, by decide +kernel, rfl, by decide +kernel, by decide +kernel⟩
theorem sc_total : FnScope ["terms", "counts", "name", "factor"] ["terms", "counts"] (defScope s_total) := ⟨rfl, rfl, rfl, by decide +kernel, rfl, by decide +kernel, by decide +kernel⟩
theorem sc_value : FnScope ["function", "counts", "sums", "word", "terms"] ["function", "counts"] (defScope s_value) := ⟨rfl, rfl, rfl, by decide +kernel, rfl, by decide +kernel, by decide +kernel⟩
theorem sc_is_name : FnScope ["name", "sign"] ["name"] (defScope s_is_name) := ⟨rfl, rfl, rfl, by decide +kernel, rfl, by decide +kernel, by decide +kernel⟩
theorem sc_is_variable : FnScope ["name"] ["name"] (defScope s_is_variable) := ⟨rfl, rfl, rfl, by decide +kernel, rfl, by decide +kernel, by decide +kernel⟩
theorem sc_are_terms : FnScope ["terms", "lowest", "highest", "names", "name", "_", "factor"] ["terms", "lowest", "highest"] (defScope s_are_terms) := ⟨rfl, rfl, rfl, by decide +kernel, rfl, by decide +kernel, by decide +kernel⟩
theorem sc_is_function : FnScope ["function", "terms"] ["function"] (defScope s_is_function) := ⟨rfl, rfl, rfl, by decide +kernel, rfl, by decide +kernel, by decide +kernel⟩
theorem sc__check_function : FnScope ["function"] ["function"] (defScope s__check_function) := ⟨rfl, rfl, rfl, by decide +kernel, rfl, by decide +kernel, by decide +kernel⟩
theorem sc__is_least : FnScope ["terms", "bound"] ["terms", "bound"] (defScope s__is_least) := ⟨rfl, rfl, rfl, by decide +kernel, rfl, by decide +kernel, by decide +kernel⟩
theorem sc__is_rest : FnScope ["terms", "rest", "modulus"] ["terms", "rest", "modulus"] (defScope s__is_rest) := ⟨rfl, rfl, rfl, by decide +kernel, rfl, by decide +kernel, by decide +kernel⟩
theorem sc__parts : FnScope ["formula"] ["formula"] (defScope s__parts) := ⟨rfl, rfl, rfl, by decide +kernel, rfl, by decide +kernel, by decide +kernel⟩
theorem sc__is_sound : FnScope ["formula", "room", "part"] ["formula", "room"] (defScope s__is_sound) := ⟨rfl, rfl, rfl, by decide +kernel, rfl, by decide +kernel, by decide +kernel⟩
theorem sc__all_terms : FnScope ["formula", "part", "term"] ["formula"] (defScope s__all_terms) := ⟨rfl, rfl, rfl, by decide +kernel, rfl, by decide +kernel, by decide +kernel⟩
theorem sc_variables : FnScope ["formula", "name", "_"] ["formula"] (defScope s_variables) := ⟨rfl, rfl, rfl, by decide +kernel, rfl, by decide +kernel, by decide +kernel⟩
theorem sc_is_formula : FnScope ["formula"] ["formula"] (defScope s_is_formula) := ⟨rfl, rfl, rfl, by decide +kernel, rfl, by decide +kernel, by decide +kernel⟩
theorem sc_checked : FnScope ["formula"] ["formula"] (defScope s_checked) := ⟨rfl, rfl, rfl, by decide +kernel, rfl, by decide +kernel, by decide +kernel⟩
theorem sc__truth : FnScope ["holds"] ["holds"] (defScope s__truth) := ⟨rfl, rfl, rfl, by decide +kernel, rfl, by decide +kernel, by decide +kernel⟩
theorem sc_least_or_truth : FnScope ["terms", "bound"] ["terms", "bound"] (defScope s_least_or_truth) := ⟨rfl, rfl, rfl, by decide +kernel, rfl, by decide +kernel, by decide +kernel⟩
theorem sc_added_up : FnScope ["terms", "factors", "name", "factor"] ["terms"] (defScope s_added_up) := ⟨rfl, rfl, rfl, by decide +kernel, rfl, by decide +kernel, by decide +kernel⟩
theorem sc__less_question : FnScope ["left", "right", "bound", "name", "factor"] ["left", "right", "bound"] (defScope s__less_question) := ⟨rfl, rfl, rfl, by decide +kernel, rfl, by decide +kernel, by decide +kernel⟩
theorem sc__question : FnScope ["function", "bound", "word"] ["function", "bound"] (defScope s__question) := ⟨rfl, rfl, rfl, by decide +kernel, rfl, by decide +kernel, by decide +kernel⟩
theorem sc_at_least : FnScope ["function", "bound"] ["function", "bound"] (defScope s_at_least) := ⟨rfl, rfl, rfl, by decide +kernel, rfl, by decide +kernel, by decide +kernel⟩
theorem sc_exactly : FnScope ["function", "number"] ["function", "number"] (defScope s_exactly) := ⟨rfl, rfl, rfl, by decide +kernel, rfl, by decide +kernel, by decide +kernel⟩
theorem sc__law_told_question : FnScope ["function", "number", "way"] ["function", "number", "way"] (defScope s__law_told_question) := ⟨rfl, rfl, rfl, by decide +kernel, rfl, by decide +kernel, by decide +kernel⟩
theorem sc__law_is_bool : FnScope ["x", "due"] ["x", "due"] (defScope s__law_is_bool) := ⟨rfl, rfl, rfl, by decide +kernel, rfl, by decide +kernel, by decide +kernel⟩
theorem sc_holds : FnScope ["formula", "counts", "word"] ["formula", "counts"] (defScope s_holds) := ⟨rfl, rfl, rfl, by decide +kernel, rfl, by decide +kernel, by decide +kernel⟩
theorem sc_answer : FnScope ["formula", "counts"] ["formula", "counts"] (defScope s_answer) := ⟨rfl, rfl, rfl, by decide +kernel, rfl, by decide +kernel, by decide +kernel⟩
theorem sc_law : FnScope ["script", "pool", "turn", "function", "counts", "name", "due", "number", "asked"] ["script"] (defScope s_law) := ⟨rfl, rfl, rfl, by decide +kernel, rfl, by decide +kernel, by decide +kernel⟩
end
local macro_rules | `(tactic| walk_at "hp") => `(tactic| ((try dsimp only); repeat (first | exact upd_same | assumption | (rw [upd_ne] <;> first | (show _ ≠ _; first | assumption | exact Ne.symm (by assumption)) | skip))))
local macro_rules | `(tactic| walk_at "sm") => `(tactic| first | with_reducible assumption | (with_reducible refine Vf.sm_num ?_; first | with_reducible assumption | decide +kernel) | (with_reducible refine Vf.sm_lit ?_; decide +kernel))
local macro_rules | `(tactic| walk_at "fit") => `(tactic| first | (with_reducible refine Vf.fit1 ?_ <;> walk_at "sm") | (with_reducible refine Vf.fit2 ?_ ?_ <;> walk_at "sm") | (with_reducible refine Vf.fit3 ?_ ?_ ?_ <;> walk_at "sm") | (with_reducible refine Vf.fit4 ?_ ?_ ?_ ?_ <;> walk_at "sm") | (with_reducible refine Vf.fit5 ?_ ?_ ?_ ?_ ?_ <;> walk_at "sm") | (with_reducible refine Vf.fit6 ?_ ?_ ?_ ?_ ?_ ?_ <;> walk_at "sm") | (with_reducible refine Vf.fit7 ?_ ?_ ?_ ?_ ?_ ?_ ?_ <;> walk_at "sm") | (with_reducible refine Vf.fit8 ?_ ?_ ?_ ?_ ?_ ?_ ?_ ?_ <;> walk_at "sm") | (with_reducible refine Vf.fit9 ?_ ?_ ?_ ?_ ?_ ?_ ?_ ?_ ?_ <;> walk_at "sm") | (with_reducible refine Vf.fit10 ?_ ?_ ?_ ?_ ?_ ?_ ?_ ?_ ?_ ?_ <;> walk_at "sm"))
def sp__law_draws (K : PySem.W.Frag) (A : Ad) : Sp := fun vs H Q _ => ∃ (cell count : Int), vs = [.int cell, .int count] ∧ 0 ≤ count ∧ count ≤ 10000 ∧ Vf.NewInts H Q fun ds => (ds.length : Int) = count ∧ ∀ d ∈ ds, 0 ≤ d ∧ d < 4096
theorem len__law_draws {K : PySem.W.Frag} {A : Ad} (vs : List V) (H : Hp) (Q : VK) (E : XK) (h : sp__law_draws K A vs H Q E) : vs.length = ["cell", "count"].length := by
  obtain ⟨a, b, rfl, _⟩ := h
  rfl

section
variable {P : Program} {w : World} {K : PySem.W.Frag} {mg : Str → Option Value} {base : Heap}
set_option maxHeartbeats 4000000 in
theorem ok__law_draws {A : Ad} (T : Txt P K mg A) : FnOk P w K mg base CX0 1 A.f__law_draws A.d__law_draws ["cell", "count"] (sp__law_draws K A) := by
  refine T.F__law_draws.ok sc__law_draws len__law_draws (fun cdv Ar outer s H vs Q E hr h => ?_)
  have hu := hu_of hr
  obtain ⟨cell, count, rfl, h0, h1, q⟩ := h
  refine ⟨_, (pss_cons (ps_set (i := 2) sc__law_draws.nd rfl (Or.inl rfl) (pe_lst pa_nil))
      (pss_cons (ps_set (i := 3) sc__law_draws.nd rfl (Or.inl rfl) (pv 0))
      (pss_cons (ps_for PassesOwn.never rfl (pi_range1 rfl T.N_range (pa_cons (pv 1) pa_nil)) (pg_name (i := 4) sc__law_draws.nd rfl (Or.inl rfl))
        (pss_one (ps_if (PW.pt (pw_and (pt_cmpR op_ge (pv 0) (pe_op op_pow pe_int pe_int) (nomark _)) (pw_and1 (pt_cmpR op_gt (pv 3) pe_int (nomark _))))) (pss_cons (ps_expr (pe_bm PySem.F.plainAttrs_list PySem.F.slot_list_append PySem.F.type_list_append mt_append (pv 2) (pa_cons (pe_op op_mod (pe_callTy call_int1 (by rfl) T.N_int (by decide +kernel) (pa_cons (pv 3) pa_nil)) pe_int) pa_nil)))
      (pss_one (ps_set (i := 3) sc__law_draws.nd rfl (Or.inl rfl) (pe_op op_fdiv (pv 3) pe_int)))) (pss_cons (ps_set (i := 5) sc__law_draws.nd rfl (Or.inl rfl) (pe_op op_mod (pe_callTy call_int1 (by rfl) T.N_int (by decide +kernel) (pa_cons (pe_op op_add (pe_op op_mul (pv 0) pe_int) (pe_op op_mul (pe_op op_add (pv 4) pe_int) pe_int)) pa_nil)) pe_int))
      (pss_cons (ps_set (i := 5) sc__law_draws.nd rfl (Or.inl rfl) (pe_op op_mod (pe_callTy call_int1 (by rfl) T.N_int (by decide +kernel) (pa_cons (pe_op op_add (pe_op op_add (pe_op op_mul (pv 5) (pv 5)) (pe_op op_mul (pv 5) pe_int)) (pe_op op_mul (pv 4) pe_int)) pa_nil)) pe_int))
      (pss_cons (ps_set (i := 5) sc__law_draws.nd rfl (Or.inl rfl) (pe_op op_mod (pe_callTy call_int1 (by rfl) T.N_int (by decide +kernel) (pa_cons (pe_op op_add (pe_op op_add (pe_op op_mul (pv 5) (pv 5)) (pv 0)) (pe_op op_mul pe_int (pv 4))) pa_nil)) pe_int))
      (pss_one (ps_expr (pe_bm PySem.F.plainAttrs_list PySem.F.slot_list_append PySem.F.type_list_append mt_append (pv 2) (pa_cons (pe_op op_mod (pe_op op_fdiv (pv 5) pe_int) pe_int) pa_nil))))))))))
      (pss_one (ps_ret (pv 2)))))), ?_⟩
  refine ⟨(by show 0 ≤ sizeLine; decide), fun p hp => ?_⟩
  refine ⟨_, rfl, _, rfl, count, rfl, by omega, by omega, for_range (lo := 0) (n := count.toNat) (fun i σ H' => ∃ (ds : List Int) (left : Int) (k m : Option V), σ = [some (.int cell), some (.int count), some (.ref p), some (.int left), k, m] ∧ Same H H' ∧ H' p = some (.lst (ds.map V.int)) ∧ ds.length = i ∧ ∀ d ∈ ds, 0 ≤ d ∧ d < 4096) ?_ ?_ ?_⟩
  · exact ⟨[], cell, none, none, rfl, Vf.Same.new (Same.refl H) hp, upd_same, rfl, fun d hd => nomatch hd⟩
  · rintro i σ H' hi ⟨ds, left, k, m, rfl, s1, hl, rfl, hr1⟩
    -- the word again, with one more
    have fin : ∀ (z left' : Int) (m' : Option V), 0 ≤ z → z < 4096 → ∃ (ds' : List Int) (l' : Int) (k' m'' : Option V), [some (V.int cell), some (.int count), some (.ref p), some (.int left'), some (.int (0 + (ds.length : Int))), m'] = [some (.int cell), some (.int count), some (.ref p), some (.int l'), k', m''] ∧
        Same H (upd H' p (.lst (ds.map V.int ++ [V.int z]))) ∧ (upd H' p (.lst (ds.map V.int ++ [V.int z]))) p = some (.lst (ds'.map V.int)) ∧ ds'.length = ds.length + 1 ∧ ∀ d ∈ ds', 0 ≤ d ∧ d < 4096 := by
      intro z left' m' z0 z1
      refine ⟨ds ++ [z], left', _, m', rfl, Vf.Same.chg s1 hp, by rw [upd_same, List.map_append]; rfl, by simp, fun d hd => ?_⟩
      rcases List.mem_append.mp hd with hd | hd
      · exact hr1 d hd
      · obtain rfl : d = z := by simpa using hd
        exact ⟨z0, z1⟩
    have big : (ds.map V.int).length < sizeLine := by rw [List.length_map]; exact Nat.lt_of_lt_of_le (show ds.length < 10000 by omega) (by decide)
    refine Vf.st_if (b := decide ((10 : Int) ^ (18 : Int).toNat ≤ cell) && decide ((0 : Int) < left)) (ans_and2 (fun Q q => ⟨_, rfl, _, _, rfl, rfl, ⟨by decide, by decide, by decide⟩, _, _, rfl, rfl, _, rfl, q⟩) (fun Q q => ⟨_, rfl, _, _, rfl, rfl, _, rfl, q⟩)) (fun hb => ?_) (fun hb => ?_)
    · refine ⟨_, rfl, .inl ⟨rfl, _, SqL.of hl⟩, _, rfl, .inl ⟨_, rfl, _, _, rfl, rfl, (by show (0 : Int) < 4096; decide), p, _, _, rfl, rfl, hl, big, ?_⟩⟩
      refine ⟨_, rfl, _, _, rfl, rfl, ⟨by decide, by decide⟩, ?_⟩
      exact fin _ _ _ (Int.emod_nonneg _ (by decide)) (Int.emod_lt_of_pos _ (by decide))
    · refine ⟨_, rfl, _, _, rfl, rfl, .inr ⟨by decide, by decide⟩, _, rfl, _, _, rfl, rfl, _, _, rfl, rfl, .inr ⟨by decide, by decide⟩, _, _, rfl, rfl, .inl ⟨_, rfl, _, _, rfl, rfl, (by show (0 : Int) < 2147483647; decide), ?_⟩⟩
      refine ⟨_, rfl, _, rfl, _, _, rfl, rfl, .inl (Vf.mod_w (by decide) (by decide)), _, rfl, _, _, rfl, rfl, .inl (Vf.mod_w (by decide) (by decide)), _, _, rfl, rfl, _, rfl, _, _, rfl, rfl, .inr ⟨by decide, by decide⟩, _, _, rfl, rfl, .inl ⟨_, rfl, _, _, rfl, rfl, (by show (0 : Int) < 2147483629; decide), ?_⟩⟩
      refine ⟨_, rfl, _, rfl, _, _, rfl, rfl, .inl (Vf.mod_w (by decide) (by decide)), _, rfl, _, _, rfl, rfl, _, rfl, _, _, rfl, rfl, .inl ⟨by decide, by decide⟩, _, _, rfl, rfl, .inl ⟨_, rfl, _, _, rfl, rfl, (by show (0 : Int) < 2147483587; decide), ?_⟩⟩
      refine ⟨_, rfl, .inl ⟨rfl, _, SqL.of hl⟩, _, rfl, _, _, rfl, rfl, ⟨by decide, by decide⟩, _, _, rfl, rfl, (by show (0 : Int) < 4096; decide), p, _, _, rfl, rfl, hl, big, ?_⟩
      exact fin _ _ _ (Int.emod_nonneg _ (by decide)) (Int.emod_lt_of_pos _ (by decide))
  · rintro σ H' ⟨ds, left, k, m, rfl, s1, hl, hn, hr1⟩
    exact ⟨_, rfl, q p H' ds hp s1 hl ⟨by omega, hr1⟩⟩
end

def sp__law_cell (K : PySem.W.Frag) (A : Ad) : Sp := fun vs H Q _ => ∃ (a : Addr) (ns : List Int) (k : Int), vs = [.ref a, .int k] ∧ SqL K H a (ns.map V.int) ∧ 0 ≤ k ∧ Q (.int (ns.getD k.toNat 0)) H
theorem len__law_cell {K : PySem.W.Frag} {A : Ad} (vs : List V) (H : Hp) (Q : VK) (E : XK) (h : sp__law_cell K A vs H Q E) : vs.length = ["script", "k"].length := by
  obtain ⟨a, ns, k, rfl, _⟩ := h
  rfl

section
variable {P : Program} {w : World} {K : PySem.W.Frag} {mg : Str → Option Value} {base : Heap}
set_option maxHeartbeats 4000000 in
theorem ok__law_cell {A : Ad} (T : Txt P K mg A) : FnOk P w K mg base CX0 1 A.f__law_cell A.d__law_cell ["script", "k"] (sp__law_cell K A) := by
  refine T.F__law_cell.ok sc__law_cell len__law_cell (fun cdv Ar outer s H vs Q E hr h => ?_)
  have hu := hu_of hr
  obtain ⟨a, ns, k, rfl, hS, h0, q⟩ := h
  refine ⟨_, (pss_cons (ps_if (pt_cmpR op_lt (pv 1) (pe_callB call_len_seq (by rfl) T.N_len PySem.boot_len (pa_cons (pv 0) pa_nil)) (nomark _)) (pss_one (ps_ret (pe_ix ix_list (pv 0) (pv 1) (fun _ _ => rfl)))) pss_nil)
      (pss_one (ps_ret pe_int))), ?_⟩
  refine ⟨_, rfl, _, rfl, a, _, rfl, .inl hS, _, _, rfl, rfl, _, rfl, ?_⟩
  refine Vf.ite_d (fun h1 => ?_) (fun h1 => ?_)
  · rw [List.length_map] at h1
    exact ⟨_, rfl, _, rfl, a, _, _, _, rfl, rfl, hS, Vf.int_at h0 h1, q⟩
  · rw [List.length_map] at h1
    have e : ns.getD k.toNat 0 = 0 := by
      rw [List.getD_eq_getElem?_getD, List.getElem?_eq_none (by omega)]
      rfl
    rw [e] at q
    exact q
end

def sp__law_pool (K : PySem.W.Frag) (A : Ad) : Sp := fun vs H Q _ => ∃ (a : Addr) (ns : List Int), vs = [.ref a] ∧ SqL K H a (ns.map V.int) ∧ ∀ (p : Addr) (H' : Hp), H p = none → Same H H' → Vf.PoolAt H' p 0 → Q (.ref p) H'
theorem len__law_pool {K : PySem.W.Frag} {A : Ad} (vs : List V) (H : Hp) (Q : VK) (E : XK) (h : sp__law_pool K A vs H Q E) : vs.length = ["script"].length := by
  obtain ⟨a, b, rfl, _⟩ := h
  rfl

section
variable {P : Program} {w : World} {K : PySem.W.Frag} {mg : Str → Option Value} {base : Heap}
set_option maxHeartbeats 4000000 in
theorem ok__law_pool {A : Ad} (T : Txt P K mg A) : FnOk P w K mg base CX0 2 A.f__law_pool A.d__law_pool ["script"] (sp__law_pool K A) := by
  have G__law_draws := ok__law_draws (P := P) (w := w) (base := base) T
  have G__law_cell := ok__law_cell (P := P) (w := w) (base := base) T
  refine T.F__law_pool.ok sc__law_pool len__law_pool (fun cdv Ar outer s H vs Q E hr h => ?_)
  have hu := hu_of hr
  obtain ⟨a, ns, rfl, hS, q⟩ := h
  refine ⟨_, (pss_cons (ps_set (i := 1) sc__law_pool.nd rfl (Or.inl rfl) (pe_lst pa_nil))
      (pss_cons (ps_for PassesOwn.never rfl (pi_range1 rfl T.N_range (pa_cons pe_int pa_nil)) (pg_name (i := 2) sc__law_pool.nd rfl (Or.inl rfl))
        (pss_one (ps_set (i := 1) sc__law_pool.nd rfl (Or.inl rfl) (pe_op op_cat (pv 1) (pe_call G__law_draws hr (by rfl) T.G__law_draws T.F__law_draws.kp T.B__law_draws .nil pass0 (pa_cons (pe_call G__law_cell hr (by rfl) T.G__law_cell T.F__law_cell.kp T.B__law_cell .nil pass0 (pa_cons (pv 0) (pa_cons (pv 2) pa_nil))) (pa_cons pe_int pa_nil)))))))
      (pss_one (ps_ret (pe_lst (pa_cons (pv 1) (pa_cons pe_int pa_nil))))))), ?_⟩
  refine ⟨(by show 0 ≤ sizeLine; decide), fun l0 n0 => ?_⟩
  refine ⟨_, rfl, by decide, by decide, for_range (lo := 0) (n := ((4 : Int)).toNat) (fun i σ H' => ∃ (l : Addr) (ds : List Int) (k : Option V), σ = [some (.ref a), some (.ref l), k] ∧ Same H H' ∧ H l = none ∧ H' l = some (.lst (ds.map V.int)) ∧ ds.length = 40 * i ∧ ∀ d ∈ ds, 0 ≤ d ∧ d < 4096) ?_ ?_ ?_⟩
  · exact ⟨l0, [], none, rfl, Vf.Same.new (Same.refl H) n0, n0, upd_same, rfl, fun d hd => nomatch hd⟩
  · rintro i σ H' hi ⟨l, ds, k, rfl, s1, nl, hl, hlen, hr1⟩
    have hi4 : i < 4 := hi
    refine ⟨_, rfl, _, rfl, _, rfl, a, ns, _, rfl, s1.seq hS, by omega, _, 40, rfl, by decide, by decide, fun p H2 es np s2 hp ⟨el, eb⟩ => ?_⟩
    refine ⟨l, p, _, _, rfl, rfl, s2 _ _ hl, hp, ?_, fun t nt => ?_⟩
    · rw [List.length_map, List.length_map]
      exact Nat.le_trans (show ds.length + es.length ≤ 200 by omega) (by decide)
    · have s3 := Vf.Same.new (o := .lst (ds.map V.int ++ es.map V.int)) (s1.trans s2) nt
      refine ⟨t, ds ++ es, _, rfl, s3, (s1.trans s2).free nt, ?_, ?_, fun d hd => ?_⟩
      · rw [upd_same, List.map_append]
      · rw [List.length_append]
        omega
      · rcases List.mem_append.mp hd with hd | hd
        · exact hr1 d hd
        · exact eb d hd
  · rintro σ H' ⟨l, ds, k, rfl, s1, nl, hl, hlen, hr1⟩
    refine ⟨_, rfl, (by show 2 ≤ sizeLine; decide), fun p np => ?_⟩
    have np' := s1.free np
    have ne : l ≠ p := fun e => by rw [e, np] at hl; cases hl
    refine q p _ np' (Vf.Same.new s1 np) ⟨l, ds, upd_same, ?_, ne, hlen, hr1⟩
    rw [upd_ne ne]
    exact hl
end

def sp__law_pick (K : PySem.W.Frag) (A : Ad) : Sp := fun vs H Q _ => ∃ (p d : Addr) (ds : List Int) (n many : Int), vs = [.ref p, .int many] ∧ Vf.PoolX H p d ds n ∧ 0 ≤ n ∧ n ≤ 1000000 ∧ 0 < many ∧ many ≤ 1000000000 ∧ ∀ (r : Int) (H' : Hp), 0 ≤ r → r < many → Vf.PoolX H' p d ds (n + 1) → Vf.Keep [p] H H' → Q (.int r) H'
theorem len__law_pick {K : PySem.W.Frag} {A : Ad} (vs : List V) (H : Hp) (Q : VK) (E : XK) (h : sp__law_pick K A vs H Q E) : vs.length = ["pool", "many"].length := by
  obtain ⟨a, b, c, d, e, rfl, _⟩ := h
  rfl

section
variable {P : Program} {w : World} {K : PySem.W.Frag} {mg : Str → Option Value} {base : Heap}
set_option maxHeartbeats 4000000 in
theorem ok__law_pick {A : Ad} (T : Txt P K mg A) : FnOk P w K mg base CX0 1 A.f__law_pick A.d__law_pick ["pool", "many"] (sp__law_pick K A) := by
  refine T.F__law_pick.ok sc__law_pick len__law_pick (fun cdv Ar outer s H vs Q E hr h => ?_)
  have hu := hu_of hr
  obtain ⟨p, d, ds, n, many, rfl, P1, n0, n1, m0, m1, q⟩ := h
  obtain ⟨h1, h2, h3, h4, h5⟩ := P1
  refine ⟨_, (pss_cons (ps_set (i := 2) sc__law_pick.nd rfl (Or.inl rfl) (pe_ix ix_list (pv 0) pe_int (fun _ _ => rfl)))
      (pss_cons (ps_asg (pe_op op_add (pv 2) pe_int) (pg_sub (pv 0) pe_int set_list))
      (pss_cons (ps_set (i := 3) sc__law_pick.nd rfl (Or.inl rfl) (pe_op op_fdiv (pv 2) (pe_callB call_len_seq (by rfl) T.N_len PySem.boot_len (pa_cons (pe_ix ix_list (pv 0) pe_int (fun _ _ => rfl)) pa_nil))))
      (pss_one (ps_ret (pe_op op_mod (pe_op op_add (pe_op op_add (pe_ix ix_list (pe_ix ix_list (pv 0) pe_int (fun _ _ => rfl)) (pe_op op_mod (pv 2) (pe_callB call_len_seq (by rfl) T.N_len PySem.boot_len (pa_cons (pe_ix ix_list (pv 0) pe_int (fun _ _ => rfl)) pa_nil))) (fun _ _ => rfl)) (pe_op op_mul (pv 3) pe_int)) (pe_op op_mul (pv 3) (pv 2))) (pv 1))))))), ?_⟩
  have lenM : ((ds.map V.int).length : Int) = 160 := by rw [List.length_map, h4]; rfl
  have d0 : 0 ≤ n / 160 := Int.ediv_nonneg n0 (by decide)
  have d1 : n / 160 ≤ 10000 := by omega
  have g0 : 0 ≤ n % 160 := Int.emod_nonneg n (by decide)
  have g1 : n % 160 < 160 := Int.emod_lt_of_pos n (by decide)
  refine ⟨_, rfl, p, _, 1, .int n, rfl, rfl, SqL.of h1, atI_nat (j := 1) rfl, ?_⟩
  refine ⟨_, rfl, _, _, rfl, rfl, ?_⟩
  refine ⟨_, rfl, p, _, 1, 1, rfl, rfl, h1, rfl, ?_⟩
  have h1' : (upd H p (.lst [.ref d, .int (n + 1)])) p = some (.lst [.ref d, .int (n + 1)]) := upd_same
  have h2' : (upd H p (.lst [.ref d, .int (n + 1)])) d = some (.lst (ds.map V.int)) := by rw [upd_ne h3]; exact h2
  have k' : Vf.Keep [p] H (upd H p (.lst [.ref d, .int (n + 1)])) := (Vf.Keep.refl H).put (List.mem_singleton.mpr rfl)
  show tSeq _ _ _ _ (upd H p (.lst [.ref d, .int (n + 1)]))
  generalize upd H p (.lst [.ref d, .int (n + 1)]) = H' at h1' h2' k'
  refine ⟨_, rfl, _, rfl, p, _, 0, .ref d, rfl, rfl, SqL.of h1', atI_nat (j := 0) rfl, d, _, rfl, .inl (SqL.of h2'), n, _, rfl, rfl, ?_, ?_⟩
  · rw [lenM]
    exact ⟨by decide, by decide⟩
  rw [lenM]
  refine ⟨_, rfl, p, _, 0, .ref d, rfl, rfl, SqL.of h1', atI_nat (j := 0) rfl, _, rfl, _, rfl, p, _, 0, .ref d, rfl, rfl, SqL.of h1', atI_nat (j := 0) rfl, d, _, rfl, .inl (SqL.of h2'), n, _, rfl, rfl, ?_, ?_⟩
  · rw [lenM]
    show (0 : Int) < 160
    decide
  rw [lenM]
  refine ⟨d, _, _, _, rfl, rfl, SqL.of h2', Vf.int_at g0 (by rw [h4]; exact g1), ?_⟩
  refine ⟨_, rfl, _, _, rfl, rfl, .inr ⟨by decide, by decide⟩, _, _, rfl, rfl, ?_⟩
  refine ⟨_, rfl, _, rfl, _, _, rfl, rfl, .inl ⟨by omega, by omega⟩, _, _, rfl, rfl, ?_⟩
  refine ⟨_, rfl, _, _, rfl, rfl, m0, ?_⟩
  exact q _ H' (Int.emod_nonneg _ (by omega)) (Int.emod_lt_of_pos _ m0) ⟨h1', h2', h3, h4, h5⟩ k'
end

def sp__law_good_terms (K : PySem.W.Frag) (A : Ad) : Sp := fun vs H Q _ => ∃ (p d : Addr) (ds : List Int) (n : Int), vs = [.ref p] ∧ Vf.PoolX H p d ds n ∧ 0 ≤ n ∧ n ≤ 800000 ∧ ∀ (v : V) (ts : List (Str × Int)) (n' : Int) (H' : Hp), Vf.PoolX H' p d ds n' → n ≤ n' → n' ≤ n + 12 → Vf.Keep [p] H H' → Vf.TmAt H' ts v → Vf.okTerms ts 1 9 = true → ts.length ≤ 4 → (∀ q ∈ ts, q.1 ∈ Vf.vars4) → Q v H'
theorem len__law_good_terms {K : PySem.W.Frag} {A : Ad} (vs : List V) (H : Hp) (Q : VK) (E : XK) (h : sp__law_good_terms K A vs H Q E) : vs.length = ["pool"].length := by
  obtain ⟨p, d, ds, n, rfl, _⟩ := h
  rfl

section
variable {P : Program} {w : World} {K : PySem.W.Frag} {mg : Str → Option Value} {base : Heap}
set_option maxHeartbeats 4000000 in
theorem ok__law_good_terms {A : Ad} (T : Txt P K mg A) : FnOk P w K mg base CX0 2 A.f__law_good_terms A.d__law_good_terms ["pool"] (sp__law_good_terms K A) := by
  have G__law_pick := ok__law_pick (P := P) (w := w) (base := base) T
  refine T.F__law_good_terms.ok sc__law_good_terms len__law_good_terms (fun cdv Ar outer s H vs Q E hr h => ?_)
  have hu := hu_of hr
  obtain ⟨p, d, ds, n, rfl, PX, n0, nm, q⟩ := h
  refine ⟨_, (pss_cons (ps_setLc (i := 1) (own := [("name", 2)]) (g := (gName 2)) (tt := _) rfl sc__law_good_terms.nd rfl rfl (sw_true rfl rfl rfl (by decide +kernel)) (pi_list (pe_lst (pa_cons pe_str (pa_cons pe_str (pa_cons pe_str (pa_cons pe_str pa_nil)))))) (blkOk_by (N := ["pool", "names", "name"]) (sc := defScope s__law_good_terms) (by decide +kernel)) (fun _ _ _ _ _ => (pg_name (i := 2) sc__law_good_terms.nd rfl (Or.inl rfl))) (fun _ _ _ _ _ => pts_one (pt_cmpR op_eq (pe_call G__law_pick hr (by rfl) T.G__law_pick T.F__law_pick.kp T.B__law_pick .nil pass0 (pa_cons (pv 0) (pa_cons pe_int pa_nil))) pe_int (nomark _))) (fun _ _ _ _ _ => (pv 2)))
      (pss_cons (ps_if (pt_cmpR (Vf.op_eqP hr.units) (pv 1) (pe_lst pa_nil) (nomark _)) (pss_one (ps_set (i := 1) sc__law_good_terms.nd rfl (Or.inl rfl) (pe_lst (pa_cons pe_str pa_nil)))) pss_nil)
      (pss_one (ps_ret (pe_callTy call_tuple_of (by rfl) T.N_tuple (by decide +kernel) (pa_cons (pe_lc (own := [("name", 2)]) (g := (gName 2)) (tt := tYes) rfl sc__law_good_terms.nd (pi_list (pv 1)) (blkOk_by (N := ["pool", "names", "name"]) (sc := defScope s__law_good_terms) (by decide +kernel)) (fun _ _ _ _ _ => (pg_name (i := 2) sc__law_good_terms.nd rfl (Or.inl rfl))) (fun _ _ _ _ _ => pts_nil) (fun _ _ _ _ _ => (pe_tup (pa_cons (pv 2) (pa_cons (pe_op op_add pe_int (pe_call G__law_pick hr (by rfl) T.G__law_pick T.F__law_pick.kp T.B__law_pick .nil pass0 (pa_cons (pv 0) (pa_cons (pe_ix (Vf.ix_listK (K := K) rfl) (pe_lst (pa_cons pe_int (pa_cons pe_int pa_nil))) (pe_call G__law_pick hr (by rfl) T.G__law_pick T.F__law_pick.kp T.B__law_pick .nil pass0 (pa_cons (pv 0) (pa_cons pe_int pa_nil))) (fun _ _ => rfl)) pa_nil)))) pa_nil))))) pa_nil)))))), ?_⟩
  refine ⟨(by show 4 ≤ sizeLine; decide), fun N hN => ⟨N, rfl, ⟨_, SqL.of upd_same⟩, fun C hC => ?_⟩⟩
  have nM : ∀ {H9 : Hp} {x : Addr} {n9 : Int}, H9 x = none → Vf.PoolX H9 p d ds n9 → x ∉ [p] ∧ d ≠ x := fun {H9 x n9} hx hh => by
    refine ⟨fun mm => ?_, fun e => ?_⟩
    · rw [List.mem_singleton.mp mm, hh.1] at hx; cases hx
    · rw [← e, hh.2.1] at hx; cases hx
  have kN : Vf.Keep [p] H (upd H N (.lst (Vf.base4.map V.str))) := Vf.Keep.id.nw hN
  have PN := PX.same (Vf.Same.new (o := .lst (Vf.base4.map V.str)) (Same.refl H) hN)
  have hNN := upd_same (H := H) (a := N) (o := .lst (Vf.base4.map V.str))
  obtain ⟨nN, dN⟩ := nM hN PX
  change (∃ W : Nat → Nat → Hp → Prop, (∃ m, W 0 m (upd (upd H N (.lst (Vf.base4.map V.str))) C (.lst []))) ∧ _)
  change (upd H N (.lst (Vf.base4.map V.str))) C = none at hC
  generalize upd H N (.lst (Vf.base4.map V.str)) = H1 at kN PN hNN hC ⊢
  obtain ⟨nC, dC⟩ := nM hC PN
  refine lc_it (walk_list (K := K) (a := N) (xs := Vf.base4.map V.str)) (fun i H' => ∃ (l : List Str) (m : Int), H' C = some (.lst (l.map V.str)) ∧ l.Sublist (Vf.base4.take i) ∧ Vf.PoolX H' p d ds m ∧ n ≤ m ∧ m ≤ n + (i : Int) ∧ Vf.Keep [p] H1 H') ⟨[], n, upd_same, List.nil_sublist _, PN.put (fun e => nC (List.mem_singleton.mpr e)) dC, Int.le_refl _, by omega, Vf.Keep.id.nw hC⟩ (fun i H' _ ⟨_, _, _, _, _, _, _, k⟩ => SqL.of (k _ _ nN hNN)) ?_ ?_
  · rintro i x Ha Hb hi ⟨l, m, hCa, sl, Pa, m0, m1, ka⟩ ⟨rfl, hx⟩
    have hi4 : i < 4 := hi
    obtain ⟨nm', e1, rfl⟩ : ∃ s, Vf.base4[i]? = some s ∧ x = V.str s := by
      rw [List.getElem?_map] at hx
      cases e : Vf.base4[i]? with
      | none => rw [e] at hx; cases hx
      | some s => rw [e] at hx; exact ⟨s, rfl, (Option.some.inj hx).symm⟩
    refine ⟨rfl, _, rfl, p, d, ds, m, 2, rfl, Pa, by omega, by omega, by decide, by decide, fun r Hc r0 r1 Pc kc => ?_⟩
    have hCc := kc C _ nC hCa
    have tk : Vf.base4.take (i + 1) = Vf.base4.take i ++ [nm'] := Vf.take_snoc e1
    refine ⟨rfl, _, rfl, Vf.ite_d (fun c => ?_) (fun c => ?_)⟩
    · refine ⟨_, rfl, _, hCc, ?_, l ++ [nm'], m + 1, ?_, ?_, Pc.put (fun e => nC (List.mem_singleton.mpr e)) dC, by omega, by omega, Vf.Keep.chg hC (ka.go kc)⟩
      · have := sl.length_le
        rw [List.length_map]
        exact Nat.lt_of_le_of_lt (show l.length ≤ 4 by rw [List.length_take] at this; omega) (by decide)
      · rw [upd_same, List.map_append]
        rfl
      · rw [tk]
        exact sl.append (List.Sublist.refl _)
    · refine ⟨l, m + 1, hCc, ?_, Pc, by omega, by omega, ka.go kc⟩
      rw [tk]
      exact sl.trans (List.sublist_append_left _ _)
  rintro Ha ⟨l, m, hCa, sl, Pa, m0, m1, ka⟩
  have sl : l.Sublist Vf.base4 := sl
  have m1 : m ≤ n + 4 := m1
  have kk := kN.go ka
  clear ka kN PN hNN nN dN hC hN
  dsimp only [gName]
  refine Vf.seq_join (fun σ' H' => ∃ (B : Addr) (l : List Str), σ' = [some (.ref p), some (.ref B), none] ∧ H' B = some (.lst (l.map V.str)) ∧ l ≠ [] ∧ l.Sublist Vf.base4 ∧ Vf.PoolX H' p d ds m ∧ Vf.Keep [p] H H' ∧ B ≠ p) (fun nx hn => ?_) ?_
  · refine ⟨_, rfl, (by show 0 ≤ sizeLine; decide), fun u1 hu1 => ?_⟩
    have z1 := Vf.Same.new (o := .lst []) (Same.refl Ha) hu1
    have hC1 := z1 _ _ hCa
    have P1 := Pa.same z1
    have k1 : Vf.Keep [p] H (upd Ha u1 (.lst [])) := kk.nw hu1
    refine Vf.eqS hC1 upd_same ⟨_, rfl, Vf.ite_b (fun c1 => ?_) (fun c1 => hn _ _ ⟨C, l, rfl, hC1, ?_, sl, P1, k1, fun e => nC (List.mem_singleton.mpr e)⟩)⟩
    · refine ⟨(by show 1 ≤ sizeLine; decide), fun B hB => ?_⟩
      have z2 := Vf.Same.new (o := .lst ((["x"] : List Str).map V.str)) (Same.refl _) hB
      exact hn _ _ ⟨B, ["x"], rfl, upd_same, by simp, by decide, P1.same z2, k1.nw hB, fun e => (nM hB P1).1 (List.mem_singleton.mpr e)⟩
    · intro e
      rw [e] at c1
      cases c1
  rintro σ' H2 ⟨B, l, rfl, hB, ne, sl, P2, k2, nB⟩
  have le4 : l.length ≤ 4 := sl.length_le
  refine ⟨_, rfl, B, rfl, ⟨_, SqL.of hB⟩, fun C2 hC2 => ?_⟩
  obtain ⟨nC2, dC2⟩ := nM hC2 P2
  have nBm : B ∉ [p] := fun e => nB (List.mem_singleton.mp e)
  refine lc_it (walk_list (K := K) (a := B) (xs := l.map V.str)) (fun i H' => Vf.DrawQ l H2 p d ds C2 m 2 i H') (Vf.DrawQ.start P2 hC2) (fun i H' _ ⟨_, _, _, _, _, _, _, k, _⟩ => SqL.of (k _ _ nBm hB)) ?_ ?_
  · rintro i x Hb Hc hi ⟨acc, ts, m', hCb, Pb, b0, b1, kb, tb, tl, tn⟩ ⟨rfl, hx⟩
    have hi4 : i < l.length := by rw [List.length_map] at hi; exact hi
    obtain ⟨nm', e1, rfl⟩ : ∃ s, l[i]? = some s ∧ x = V.str s := by
      rw [List.getElem?_map] at hx
      cases e : l[i]? with
      | none => rw [e] at hx; cases hx
      | some s => rw [e] at hx; exact ⟨s, rfl, (Option.some.inj hx).symm⟩
    refine ⟨rfl, Vf.tyes ?_⟩
    refine ⟨_, rfl, _, rfl, (by show 2 ≤ sizeLine; decide), fun L hL => ?_⟩
    have nb : ∃ n9, Vf.PoolX Hc p d ds n9 := ⟨_, Pb⟩
    obtain ⟨nL, dL⟩ := nM hL Pb
    have zL := Vf.Same.new (o := .lst [V.int 3, V.int 9]) (Same.refl Hc) hL
    refine ⟨_, rfl, p, d, ds, m', 2, rfl, Pb.same zL, by omega, by omega, by decide, by decide, fun r H4 r0 r1 P4 k4 => ?_⟩
    have hL4 := k4 L _ nL upd_same
    obtain ⟨w, ew, w1, w9⟩ : ∃ w : Int, atI [V.int 3, V.int 9] r = some (.int w) ∧ 1 ≤ w ∧ w ≤ 9 := by
      have : r = 0 ∨ r = 1 := by omega
      rcases this with rfl | rfl
      · exact ⟨3, rfl, by decide, by decide⟩
      · exact ⟨9, rfl, by decide, by decide⟩
    refine ⟨L, _, r, .int w, rfl, rfl, SqL.of hL4, ew, p, d, ds, m' + 1, w, rfl, P4, by omega, by omega, by omega, by omega, fun r' H5 r0' r1' P5 k5 => ⟨_, _, rfl, rfl, (by show 2 ≤ sizeLine; decide), fun t nt => ?_⟩⟩
    exact Vf.DrawQ.step (m' := m' + 1 + 1) (z := 1 + r') hC2 nC2 dC2 (by omega) hCb Pb b0 b1 kb tb tl tn (((Vf.Keep.id.nw hL).go k4).go k5) P5 (by omega) (by omega) nt e1 (by omega)
  rintro Hb ⟨acc, ts, m', hCb, Pb, b0, b1, kb, tb, tl, tn, tz⟩
  rw [List.length_map] at b1 tl tn
  rw [List.take_length] at tn
  refine ⟨C2, acc, rfl, .inl ⟨SqL.of hCb, fun u nu => ?_⟩⟩
  have zu := Vf.Same.new (o := .tup acc) (Same.refl Hb) nu
  refine q (.ref u) ts m' _ (Pb.same zu) (by omega) (by omega) ((k2.go kb).nw nu) ⟨u, acc, rfl, upd_same, tb.same zu⟩ ?_ (by omega) fun x hx => ?_
  · refine Vf.okTerms_of (fun e => ?_) (by rw [tn]; exact sl) tz
    rw [e] at tl
    exact ne (List.length_eq_zero_iff.mp tl.symm)
  · refine (Vf.base4_ok sl).2.2 _ ?_
    rw [← tn]
    exact List.mem_map.mpr ⟨x, hx, rfl⟩
end

def sp__law_qfunction (K : PySem.W.Frag) (A : Ad) : Sp := fun vs H Q _ => ∃ (p d : Addr) (ds : List Int) (n : Int), vs = [.ref p] ∧ Vf.PoolX H p d ds n ∧ 0 ≤ n ∧ n ≤ 700000 ∧ ∀ (v : V) (f : Vf.Fq) (n' : Int) (H' : Hp), Vf.PoolX H' p d ds n' → n ≤ n' → n' ≤ n + 30 → Vf.Keep [p] H H' → Vf.FqAt H' f v → Vf.NiceQ f → Q v H'
theorem len__law_qfunction {K : PySem.W.Frag} {A : Ad} (vs : List V) (H : Hp) (Q : VK) (E : XK) (h : sp__law_qfunction K A vs H Q E) : vs.length = ["pool"].length := by
  obtain ⟨p, d, ds, n, rfl, _⟩ := h
  rfl

section
variable {P : Program} {w : World} {K : PySem.W.Frag} {mg : Str → Option Value} {base : Heap}
set_option maxHeartbeats 4000000 in
theorem ok__law_qfunction {A : Ad} (T : Txt P K mg A) : FnOk P w K mg base CX0 3 A.f__law_qfunction A.d__law_qfunction ["pool"] (sp__law_qfunction K A) := by
  have G__law_pick := ok__law_pick (P := P) (w := w) (base := base) T
  have G__law_good_terms := ok__law_good_terms (P := P) (w := w) (base := base) T
  refine T.F__law_qfunction.ok sc__law_qfunction len__law_qfunction (fun cdv Ar outer s H vs Q E hr h => ?_)
  have hu := hu_of hr
  obtain ⟨p, d, ds, n, rfl, PX, n0, nm, q⟩ := h
  refine ⟨_, (pss_cons (ps_set (i := 1) sc__law_qfunction.nd rfl (Or.inl rfl) (pe_ix ix_list (pe_lst (pa_cons pe_str (pa_cons pe_str (pa_cons pe_str (pa_cons pe_str (pa_cons pe_str pa_nil)))))) (pe_call G__law_pick (hr.mono (by decide)) (by rfl) T.G__law_pick T.F__law_pick.kp T.B__law_pick .nil pass0 (pa_cons (pv 0) (pa_cons pe_int pa_nil))) (fun _ _ => rfl)))
      (pss_cons (ps_set (i := 2) sc__law_qfunction.nd rfl (Or.inl rfl) (pe_call G__law_good_terms hr (by rfl) T.G__law_good_terms T.F__law_good_terms.kp T.B__law_good_terms .nil pass0 (pa_cons (pv 0) pa_nil)))
      (pss_cons (ps_if (pt_cmpR op_eq (pv 1) pe_str (nomark _)) (pss_one (ps_ret (pe_tup (pa_cons (pv 1) (pa_cons (pv 2) pa_nil))))) pss_nil)
      (pss_cons (ps_if (pt_cmpR op_eq (pv 1) pe_str (nomark _)) (pss_one (ps_ret (pe_tup (pa_cons (pv 1) (pa_cons (pv 2) (pa_cons (pe_op op_add pe_int (pe_call G__law_pick (hr.mono (by decide)) (by rfl) T.G__law_pick T.F__law_pick.kp T.B__law_pick .nil pass0 (pa_cons (pv 0) (pa_cons (pe_ix ix_list (pe_lst (pa_cons pe_int (pa_cons pe_int pa_nil))) (pe_call G__law_pick (hr.mono (by decide)) (by rfl) T.G__law_pick T.F__law_pick.kp T.B__law_pick .nil pass0 (pa_cons (pv 0) (pa_cons pe_int pa_nil))) (fun _ _ => rfl)) pa_nil)))) pa_nil)))))) pss_nil)
      (pss_one (ps_ret (pe_tup (pa_cons (pv 1) (pa_cons (pv 2) (pa_cons (pe_call G__law_good_terms hr (by rfl) T.G__law_good_terms T.F__law_good_terms.kp T.B__law_good_terms .nil pass0 (pa_cons (pv 0) pa_nil)) pa_nil)))))))))), ?_⟩
  refine ⟨(by show 5 ≤ sizeLine; decide), fun L hL => ?_⟩
  have zL := Vf.Same.new (o := .lst [V.str "sum", V.str "quotient", V.str "min", V.str "max", V.str "less"]) (Same.refl H) hL
  have nL : L ∉ [p] := fun mm => by
    rw [List.mem_singleton.mp mm, PX.1] at hL; cases hL
  refine ⟨_, rfl, p, d, ds, n, 5, rfl, PX.same zL, by omega, by omega, by decide, by decide, fun r H2 r0 r1 P2 k2 => ?_⟩
  have hL2 := k2 L _ nL upd_same
  have kk2 : Vf.Keep [p] H H2 := (Vf.Keep.id.nw hL).go k2
  obtain ⟨w, hw, ew⟩ : ∃ w : Str, (w = "sum" ∨ w = "quotient" ∨ w = "min" ∨ w = "max" ∨ w = "less") ∧ atI [V.str "sum", V.str "quotient", V.str "min", V.str "max", V.str "less"] r = some (.str w) := by
    have : r = 0 ∨ r = 1 ∨ r = 2 ∨ r = 3 ∨ r = 4 := by omega
    rcases this with rfl | rfl | rfl | rfl | rfl
    · exact ⟨"sum", .inl rfl, rfl⟩
    · exact ⟨"quotient", .inr (.inl rfl), rfl⟩
    · exact ⟨"min", .inr (.inr (.inl rfl)), rfl⟩
    · exact ⟨"max", .inr (.inr (.inr (.inl rfl))), rfl⟩
    · exact ⟨"less", .inr (.inr (.inr (.inr rfl))), rfl⟩
  refine ⟨L, _, r, .str w, rfl, rfl, SqL.of hL2, ew, ?_⟩
  dsimp only [gName]
  refine ⟨_, rfl, p, d, ds, n + 1, rfl, P2, by omega, by omega, fun v ts n3 H3 P3 a1 a2 k3 T3 ok3 l3 m3 => ?_⟩
  dsimp only [gName]
  refine ⟨_, rfl, rfl, _, rfl, Vf.ite_d (fun c => ?_) (fun c => ?_)⟩
  · have ew := V.str.inj c
    subst ew
    refine ⟨_, rfl, _, rfl, (by show 2 ≤ sizeLine; decide), fun t nt => ?_⟩
    have z := Vf.Same.new (o := .tup [.str "sum", v]) (Same.refl H3) nt
    exact q (.ref t) (.sum ts) n3 _ (P3.same z) (by omega) (by omega) ((kk2.go k3).nw nt) ⟨t, v, rfl, upd_same, T3.same z⟩ ⟨fun s hs => by rw [List.mem_singleton.mp hs]; exact ok3, rfl, fun s hs => by rw [List.mem_singleton.mp hs]; exact l3, fun x hx => m3 x (by simpa [Vf.Fq.all, Vf.Fq.sums] using hx)⟩
  refine ⟨_, rfl, rfl, _, rfl, Vf.ite_d (fun c2 => ?_) (fun c2 => ?_)⟩
  · have ew := V.str.inj c2
    subst ew
    refine ⟨_, rfl, _, rfl, _, rfl, (by show 2 ≤ sizeLine; decide), fun L2 hL2 => ?_⟩
    have z2 := Vf.Same.new (o := .lst [V.int 4, V.int 19]) (Same.refl H3) hL2
    have nL2 : L2 ∉ [p] := fun mm => by
      rw [List.mem_singleton.mp mm, P3.1] at hL2; cases hL2
    refine ⟨_, rfl, p, d, ds, n3, 2, rfl, P3.same z2, by omega, by omega, by decide, by decide, fun r H4 r0 r1 P4 k4 => ?_⟩
    have hL4 := k4 L2 _ nL2 upd_same
    obtain ⟨w, ew, w1, w9⟩ : ∃ w : Int, atI [V.int 4, V.int 19] r = some (.int w) ∧ 1 ≤ w ∧ w ≤ 19 := by
      have : r = 0 ∨ r = 1 := by omega
      rcases this with rfl | rfl
      · exact ⟨4, rfl, by decide, by decide⟩
      · exact ⟨19, rfl, by decide, by decide⟩
    refine ⟨L2, _, r, .int w, rfl, rfl, SqL.of hL4, ew, p, d, ds, n3 + 1, w, rfl, P4, by omega, by omega, by omega, by omega, fun r' H5 r0' r1' P5 k5 => ⟨_, _, rfl, rfl, (by show 3 ≤ sizeLine; decide), fun t nt => ?_⟩⟩
    have z := Vf.Same.new (o := .tup [.str "quotient", v, .int (2 + r')]) (Same.refl H5) nt
    exact q (.ref t) (.quo ts (2 + r')) (n3 + 1 + 1) _ (P5.same z) (by omega) (by omega) (((((kk2.go k3).nw hL2).go k4).go k5).nw nt) ⟨t, v, rfl, upd_same, (((T3.same z2).keep1 (P3.same z2).1 k4).keep1 P4.1 k5).same z⟩ ⟨fun s hs => by rw [List.mem_singleton.mp hs]; exact ok3, decide_eq_true (by omega), fun s hs => by rw [List.mem_singleton.mp hs]; exact l3, fun x hx => m3 x (by simpa [Vf.Fq.all, Vf.Fq.sums] using hx)⟩
  obtain ⟨k, rfl⟩ : ∃ k : Vf.Kd, k.word = w := by
    rcases hw with rfl | rfl | rfl | rfl | rfl
    · exact absurd rfl c
    · exact absurd rfl c2
    · exact ⟨.mn, rfl⟩
    · exact ⟨.mx, rfl⟩
    · exact ⟨.ls, rfl⟩
  refine ⟨_, rfl, _, rfl, _, rfl, p, d, ds, n3, rfl, P3, by omega, by omega, fun v2 us n4 H4 P4 b1 b2 k4 T4 ok4 l4 m4 => ⟨(by show 3 ≤ sizeLine; decide), fun t nt => ?_⟩⟩
  have z := Vf.Same.new (o := .tup [.str k.word, v, v2]) (Same.refl H4) nt
  refine q (.ref t) (.two k ts us) n4 _ (P4.same z) (by omega) (by omega) (((kk2.go k3).go k4).nw nt) ⟨t, v, v2, rfl, upd_same, (T3.keep1 P3.1 k4).same z, T4.same z⟩ ⟨fun s hs => ?_, rfl, fun s hs => ?_, fun x hx => ?_⟩
  · have hs : s = ts ∨ s = us := by simpa [Vf.Fq.sums] using hs
    rcases hs with rfl | rfl
    · exact ok3
    · exact ok4
  · have hs : s = ts ∨ s = us := by simpa [Vf.Fq.sums] using hs
    rcases hs with rfl | rfl
    · exact l3
    · exact l4
  · have hx : x ∈ ts ∨ x ∈ us := by simpa [Vf.Fq.all, Vf.Fq.sums] using hx
    exact hx.elim (m3 x) (m4 x)
end

def sp__law_sum (K : PySem.W.Frag) (A : Ad) : Sp := fun vs H Q _ => ∃ (a cd : Addr) (xs : List V) (ts : List (Str × Int)) (c : Str → Option Int), vs = [.ref a, .ref cd] ∧ H a = some (.tup xs) ∧ Vf.Tups Vf.encSI H xs ts ∧ Vf.CntAt H cd c ∧ (∀ p ∈ ts, -20 ≤ p.2 ∧ p.2 ≤ 20) ∧ (∀ p ∈ ts, ∃ z, c p.1 = some z) ∧ ts.length ≤ 4000 ∧ ∀ H', Same H H' → Q (.int (Vf.totC ts c)) H'
theorem len__law_sum {K : PySem.W.Frag} {A : Ad} (vs : List V) (H : Hp) (Q : VK) (E : XK) (h : sp__law_sum K A vs H Q E) : vs.length = ["terms", "counts"].length := by
  obtain ⟨a, b, c, d, e, rfl, _⟩ := h
  rfl

section
variable {P : Program} {w : World} {K : PySem.W.Frag} {mg : Str → Option Value} {base : Heap}
set_option maxHeartbeats 4000000 in
theorem ok__law_sum {A : Ad} (T : Txt P K mg A) : FnOk P w K mg base CX0 1 A.f__law_sum A.d__law_sum ["terms", "counts"] (sp__law_sum K A) := by
  refine T.F__law_sum.ok sc__law_sum len__law_sum (fun cdv Ar outer s H vs Q E hr h => ?_)
  have hu := hu_of hr
  obtain ⟨a, cd, xs, ts, c, rfl, ha, tt, hc, fb, fu, tl, q⟩ := h
  refine ⟨_, (pss_cons (ps_set (i := 2) sc__law_sum.nd rfl (Or.inl rfl) pe_int)
      (pss_cons (ps_for PassesOwn.never rfl (pi_tup (pv 0)) (pg_tup (by rfl) (pgs_cons (pg_name (i := 3) sc__law_sum.nd rfl (Or.inl rfl)) (pgs_cons (pg_name (i := 4) sc__law_sum.nd rfl (Or.inl rfl)) pgs_nil)))
        (pss_one (ps_set (i := 2) sc__law_sum.nd rfl (Or.inl rfl) (pe_op op_add (pv 2) (pe_op op_mul (pv 4) (pe_dget (by exact hu) (pv 1) (pv 3) (fun _ _ => rfl)))))))
      (pss_one (ps_ret (pv 2))))), ?_⟩
  refine ⟨_, rfl, a, rfl, ⟨_, SqT.of ha⟩, ?_⟩
  refine for_tup (K := K) (a := a) (xs := xs) (fun i σ H' => (∃ v3 v4 : Option V, σ = [some (.ref a), some (.ref cd), some (.int (Vf.totC (ts.take i) c)), v3, v4]) ∧ Same H H') ⟨⟨none, none, rfl⟩, Same.refl H⟩ (fun i σ H' _ h => SqT.of (h.2 _ _ ha)) ?_ ?_
  · rintro i x σ Ha hx ⟨⟨v3, v4, rfl⟩, sa⟩
    obtain ⟨p, t, hp, rfl, ht⟩ := tt.get hx
    obtain ⟨z, hz⟩ := fu p (List.mem_of_getElem? hp)
    have pb := fb p (List.mem_of_getElem? hp)
    have g := (hc.same sa).get p.1
    rw [hz] at g
    refine ⟨t, _, rfl, SqT.of (sa _ _ ht), rfl, _, _, rfl, _, _, rfl, rfl, ?_⟩
    refine ⟨_, rfl, _, rfl, _, rfl, _, rfl, cd, .int z, rfl, g, _, _, rfl, rfl, .inl ⟨by omega, by omega⟩, ?_⟩
    refine ⟨_, _, rfl, rfl, ?_, sa⟩
    rw [show Vf.totC (ts.take (i + 1)) c = Vf.totC (ts.take i) c + p.2 * z by
      unfold Vf.totC
      rw [Vf.take_snoc hp, List.map_append, List.sum_append]
      show _ + (p.2 * Vf.cv c p.1 + 0) = _
      unfold Vf.cv
      rw [hz, Int.add_zero]
      rfl]
    exact ⟨_, _, rfl⟩
  rintro σ Ha ⟨⟨v3, v4, rfl⟩, sa⟩
  rw [tt.1, List.take_length]
  exact ⟨_, rfl, q _ sa⟩
end

def sp__law_value (K : PySem.W.Frag) (A : Ad) : Sp := fun vs H Q _ => ∃ (f : Vf.Fq) (v : V) (cd : Addr) (c : Str → Option Int), vs = [v, .ref cd] ∧ Vf.FqAt H f v ∧ Vf.NiceQ f ∧ Vf.CntAt H cd c ∧ (∀ p ∈ f.all, ∃ z, c p.1 = some z) ∧ ∀ H', Same H H' → Q (.int (f.val c)) H'
theorem len__law_value {K : PySem.W.Frag} {A : Ad} (vs : List V) (H : Hp) (Q : VK) (E : XK) (h : sp__law_value K A vs H Q E) : vs.length = ["function", "counts"].length := by
  obtain ⟨f, v, cd, c, rfl, _⟩ := h
  rfl

section
variable {P : Program} {w : World} {K : PySem.W.Frag} {mg : Str → Option Value} {base : Heap}
set_option maxHeartbeats 4000000 in
theorem ok__law_value {A : Ad} (T : Txt P K mg A) : FnOk P w K mg base CX0 2 A.f__law_value A.d__law_value ["function", "counts"] (sp__law_value K A) := by
  have G__law_sum := ok__law_sum (P := P) (w := w) (base := base) T
  refine T.F__law_value.ok sc__law_value len__law_value (fun cdv Ar outer s H vs Q E hr h => ?_)
  have hu := hu_of hr
  obtain ⟨f, v, cd, c, rfl, F, N, hc, cs, q⟩ := h
  refine ⟨_, (pss_cons (ps_set (i := 2) sc__law_value.nd rfl (Or.inl rfl) (pe_call G__law_sum hr (by rfl) T.G__law_sum T.F__law_sum.kp T.B__law_sum .nil pass0 (pa_cons (pe_ix ix_tup (pv 0) pe_int (fun _ _ => rfl)) (pa_cons (pv 1) pa_nil))))
      (pss_cons (ps_if (pt_cmpR op_eq (pe_ix ix_tup (pv 0) pe_int (fun _ _ => rfl)) pe_str (nomark _)) (pss_one (ps_ret (pv 2))) pss_nil)
      (pss_cons (ps_if (pt_cmpR op_eq (pe_ix ix_tup (pv 0) pe_int (fun _ _ => rfl)) pe_str (nomark _)) (pss_one (ps_ret (pe_op op_fdiv (pv 2) (pe_ix ix_tup (pv 0) pe_int (fun _ _ => rfl))))) pss_nil)
      (pss_cons (ps_set (i := 3) sc__law_value.nd rfl (Or.inl rfl) (pe_call G__law_sum hr (by rfl) T.G__law_sum T.F__law_sum.kp T.B__law_sum .nil pass0 (pa_cons (pe_ix ix_tup (pv 0) pe_int (fun _ _ => rfl)) (pa_cons (pv 1) pa_nil))))
      (pss_cons (ps_if (pt_cmpR op_eq (pe_ix ix_tup (pv 0) pe_int (fun _ _ => rfl)) pe_str (nomark _)) (pss_one (ps_ret (pe_callB (call_min2 rfl) (by rfl) T.N_min (by decide +kernel) (pa_cons (pv 2) (pa_cons (pv 3) pa_nil))))) pss_nil)
      (pss_cons (ps_if (pt_cmpR op_eq (pe_ix ix_tup (pv 0) pe_int (fun _ _ => rfl)) pe_str (nomark _)) (pss_one (ps_ret (pe_callB (call_max2 rfl) (by rfl) T.N_max (by decide +kernel) (pa_cons (pv 2) (pa_cons (pv 3) pa_nil))))) pss_nil)
      (pss_one (ps_ret (pe_callB (call_max2 rfl) (by rfl) T.N_max (by decide +kernel) (pa_cons pe_int (pa_cons (pe_op op_sub (pv 2) (pv 3)) pa_nil))))))))))), ?_⟩
  have fb : ∀ ts ∈ f.sums, ∀ p ∈ ts, -20 ≤ p.2 ∧ p.2 ≤ 20 := fun ts hts p hp => by
    have ok := N.ok ts hts
    unfold Vf.okTerms at ok
    simp only [Bool.and_eq_true, List.all_eq_true, decide_eq_true_eq] at ok
    have := ok.2.2.2 p hp
    omega
  have cf : ∀ ts ∈ f.sums, ∀ p ∈ ts, ∃ z, c p.1 = some z := fun ts hts p hp => cs p ((Vf.Fq.part hts).2 p hp)
  have ll : ∀ ts ∈ f.sums, ts.length ≤ 4000 := fun ts hts => by have := N.l ts hts; omega
  have sg : ∀ {w u : Str}, w ≠ u → V.str w = V.str u → False := fun h e => h (V.str.inj e)
  cases f with
  | sum ts =>
    obtain ⟨a, x, rfl, ha, t, xs, rfl, ht, tt⟩ := F
    have m := List.mem_singleton.mpr (rfl : ts = ts)
    refine ⟨_, rfl, a, _, 1, .ref t, rfl, rfl, SqT.of ha, atI_nat (j := 1) rfl, _, rfl, t, cd, xs, ts, c, rfl, ht, tt, hc, fb ts m, cf ts m, ll ts m, fun H1 s1 => ?_⟩
    dsimp only [gName]
    refine ⟨_, rfl, a, _, 0, .str "sum", rfl, rfl, SqT.of (s1 _ _ ha), atI_nat (j := 0) rfl, rfl, _, rfl, Vf.ite_d (fun _ => ⟨_, rfl, q _ s1⟩) (fun e => absurd rfl e)⟩
  | quo ts d =>
    obtain ⟨a, x, rfl, ha, t, xs, rfl, ht, tt⟩ := F
    have m := List.mem_singleton.mpr (rfl : ts = ts)
    have d2 : 2 ≤ d ∧ d ≤ 20 := of_decide_eq_true N.dv
    refine ⟨_, rfl, a, _, 1, .ref t, rfl, rfl, SqT.of ha, atI_nat (j := 1) rfl, _, rfl, t, cd, xs, ts, c, rfl, ht, tt, hc, fb ts m, cf ts m, ll ts m, fun H1 s1 => ?_⟩
    dsimp only [gName]
    refine ⟨_, rfl, a, _, 0, .str "quotient", rfl, rfl, SqT.of (s1 _ _ ha), atI_nat (j := 0) rfl, rfl, _, rfl, Vf.ite_d (fun e => (sg (by decide) e).elim) (fun _ => ?_)⟩
    refine ⟨_, rfl, a, _, 0, .str "quotient", rfl, rfl, SqT.of (s1 _ _ ha), atI_nat (j := 0) rfl, rfl, _, rfl, Vf.ite_d (fun _ => ?_) (fun e => absurd rfl e)⟩
    refine ⟨_, rfl, _, rfl, a, _, 2, .int d, rfl, rfl, SqT.of (s1 _ _ ha), atI_nat (j := 2) rfl, _, _, rfl, rfl, ?_, q _ s1⟩
    exact ⟨by omega, by omega⟩
  | two k ts us =>
    obtain ⟨a, x, y, rfl, ha, ⟨t, xs, rfl, ht, tt⟩, u, ys, rfl, hu, tu⟩ := F
    have m : ts ∈ (Vf.Fq.two k ts us).sums := by simp [Vf.Fq.sums]
    have m2 : us ∈ (Vf.Fq.two k ts us).sums := by simp [Vf.Fq.sums]
    refine ⟨_, rfl, a, _, 1, .ref t, rfl, rfl, SqT.of ha, atI_nat (j := 1) rfl, _, rfl, t, cd, xs, ts, c, rfl, ht, tt, hc, fb ts m, cf ts m, ll ts m, fun H1 s1 => ?_⟩
    dsimp only [gName]
    refine ⟨_, rfl, a, _, 0, .str k.word, rfl, rfl, SqT.of (s1 _ _ ha), atI_nat (j := 0) rfl, rfl, _, rfl, Vf.ite_d (fun e => (sg (by cases k <;> simp only [Vf.Kd.word] <;> decide) e).elim) (fun _ => ?_)⟩
    refine ⟨_, rfl, a, _, 0, .str k.word, rfl, rfl, SqT.of (s1 _ _ ha), atI_nat (j := 0) rfl, rfl, _, rfl, Vf.ite_d (fun e => (sg (by cases k <;> simp only [Vf.Kd.word] <;> decide) e).elim) (fun _ => ?_)⟩
    refine ⟨_, rfl, a, _, 2, .ref u, rfl, rfl, SqT.of (s1 _ _ ha), atI_nat (j := 2) rfl, _, rfl, u, cd, ys, us, c, rfl, s1 _ _ hu, tu.same s1, hc.same s1, fb us m2, cf us m2, ll us m2, fun H2 s2 => ?_⟩
    dsimp only [gName]
    have q := q _ (s1.trans s2)
    have ha2 := (s1.trans s2) _ _ ha
    refine ⟨_, rfl, a, _, 0, .str k.word, rfl, rfl, SqT.of ha2, atI_nat (j := 0) rfl, rfl, _, rfl, Vf.ite_d (fun e => ?_) (fun e => ?_)⟩
    · have ek : k = .mn := by cases k <;> first | rfl | exact (sg (by simp only [Vf.Kd.word]; decide) e).elim
      subst ek
      exact ⟨_, rfl, _, rfl, _, _, rfl, q⟩
    refine ⟨_, rfl, a, _, 0, .str k.word, rfl, rfl, SqT.of ha2, atI_nat (j := 0) rfl, rfl, _, rfl, Vf.ite_d (fun e2 => ?_) (fun e2 => ?_)⟩
    · have ek : k = .mx := by cases k <;> first | rfl | exact (sg (by simp only [Vf.Kd.word]; decide) e2).elim
      subst ek
      exact ⟨_, rfl, _, rfl, _, _, rfl, q⟩
    have ek : k = .ls := by cases k <;> first | rfl | exact absurd rfl e | exact absurd rfl e2
    subst ek
    exact ⟨_, rfl, _, rfl, _, _, rfl, rfl, _, _, rfl, q⟩
end

def sp__law_is_int (K : PySem.W.Frag) (A : Ad) : Sp := fun vs H Q _ => ∃ i : Int, vs = [.int i] ∧ Q (.bl true) H
theorem len__law_is_int {K : PySem.W.Frag} {A : Ad} (vs : List V) (H : Hp) (Q : VK) (E : XK) (h : sp__law_is_int K A vs H Q E) : vs.length = ["x"].length := by
  obtain ⟨a, rfl, _⟩ := h
  rfl

section
variable {P : Program} {w : World} {K : PySem.W.Frag} {mg : Str → Option Value} {base : Heap}
set_option maxHeartbeats 4000000 in
theorem ok__law_is_int {A : Ad} (T : Txt P K mg A) : FnOk P w K mg base CX0 1 A.f__law_is_int A.d__law_is_int ["x"] (sp__law_is_int K A) := by
  refine T.F__law_is_int.ok sc__law_is_int len__law_is_int (fun cdv Ar outer s H vs Q E hr h => ?_)
  have hu := hu_of hr
  obtain ⟨i, rfl, q⟩ := h
  refine ⟨_, (pss_one (ps_ret (pe_and (pe_callB call_isi (by rfl) T.N_isinstance (by decide +kernel) (pa_cons (pv 0) (pa_cons (pe_bltn (v := .ty "int") (u := .type "int") (by rfl) T.N_int (by decide +kernel) rfl) pa_nil))) (pe_one (pe_not (pe_callB call_isi (by rfl) T.N_isinstance (by decide +kernel) (pa_cons (pv 0) (pa_cons (pe_bltn (v := .ty "bool") (u := .type "bool") (by rfl) T.N_bool (by decide +kernel) rfl) pa_nil)))))))), ?_⟩
  refine ⟨_, rfl, _, _, .type "int", .type "int", true, rfl, ClsV.ty _, TyX.base (TyOf.int i), rfl, _, rfl, ?_⟩
  refine iteT ⟨_, rfl, _, _, .type "int", .type "bool", false, rfl, ClsV.ty _, TyX.base (TyOf.int i), rfl, _, rfl, ?_⟩
  exact q
end

def sp__law_is_number (K : PySem.W.Frag) (A : Ad) : Sp := fun vs H Q _ => ∃ x y : Int, vs = [.int x, .int y] ∧ Q (.bl (decide (x = y))) H
theorem len__law_is_number {K : PySem.W.Frag} {A : Ad} (vs : List V) (H : Hp) (Q : VK) (E : XK) (h : sp__law_is_number K A vs H Q E) : vs.length = ["x", "due"].length := by
  obtain ⟨a, b, rfl, _⟩ := h
  rfl

section
variable {P : Program} {w : World} {K : PySem.W.Frag} {mg : Str → Option Value} {base : Heap}
set_option maxHeartbeats 4000000 in
theorem ok__law_is_number {A : Ad} (T : Txt P K mg A) : FnOk P w K mg base CX0 2 A.f__law_is_number A.d__law_is_number ["x", "due"] (sp__law_is_number K A) := by
  have G__law_is_int := ok__law_is_int (P := P) (w := w) (base := base) T
  refine T.F__law_is_number.ok sc__law_is_number len__law_is_number (fun cdv Ar outer s H vs Q E hr h => ?_)
  have hu := hu_of hr
  obtain ⟨x, y, rfl, q⟩ := h
  refine ⟨_, (pss_one (ps_ret (pe_and (pe_call G__law_is_int hr (by rfl) T.G__law_is_int T.F__law_is_int.kp T.B__law_is_int .nil pass0 (pa_cons (pv 0) pa_nil)) (pe_one (pe_cmpR op_eq (pv 0) (pv 1) (nomark _)))))), ?_⟩
  refine ⟨_, rfl, x, rfl, _, rfl, iteT ⟨_, rfl, _, rfl, rfl, ?_⟩⟩
  have e : decide (V.int x = V.int y) = decide (x = y) := decide_eq_decide.mpr ⟨fun h => V.int.inj h, fun h => congrArg _ h⟩
  show Q (.bl (decide (V.int x = V.int y))) H
  rw [e]
  exact q
end

def sp_UnknownName___init__ (K : PySem.W.Frag) (A : Ad) : Sp := fun vs H Q _ => ∃ (a : Addr) (s : Str), vs = [.ref a, .str s] ∧ s.length ≤ 1000000 ∧ H a = some (exo a A.c_UnknownName none) ∧ ∀ dx, H dx = none → dx ≠ a → Q .non (upd (upd H dx (exd dx [("name", .str s)])) a (exo a A.c_UnknownName (some dx)))
theorem len_UnknownName___init__ {K : PySem.W.Frag} {A : Ad} (vs : List V) (H : Hp) (Q : VK) (E : XK) (h : sp_UnknownName___init__ K A vs H Q E) : vs.length = ["self", "name"].length := by
  obtain ⟨a, b, rfl, _⟩ := h
  rfl

section
variable {P : Program} {w : World} {K : PySem.W.Frag} {mg : Str → Option Value} {base : Heap}
set_option maxHeartbeats 4000000 in
theorem ok_UnknownName___init__ {A : Ad} (T : Txt P K mg A) : FnOk P w K mg base CX0 1 A.f_UnknownName___init__ A.d_UnknownName___init__ ["self", "name"] (sp_UnknownName___init__ K A) := by
  refine Vf.init_of (k := 0) T.D_UnknownName___init__ sc_UnknownName___init__ rfl rfl rfl rfl (by decide +kernel) T.N_super T.O_UnknownName T.S_UnknownName len_UnknownName___init__ fun Ar outer s H vs Q E hr h => ?_
  obtain ⟨a, s1, rfl, hs, ha, q⟩ := h
  refine ⟨a, _, _, ⟨⟨_, rfl⟩, rfl, rfl, rfl, rfl⟩, rfl, ha, (pa_cons (Vf.pe_join (.cons pe_str (.cons (pe_fmt (pv 1)) (.cons pe_str .nil)))) pa_nil), (pss_one (ps_ost (pv 0) (pv 1))), ?_⟩
  refine ⟨_, rfl, (by walk_at "fit"), _, rfl, .inl ⟨_, rfl, Vf.fits hs (by decide), _, rfl, (by walk_at "fit"), _, rfl, (by walk_at "fit"), ?_⟩⟩
  refine ⟨(by show 1 ≤ 1000; decide), ha, ?_⟩
  exact ⟨_, rfl, _, rfl, a, A.c_UnknownName, rfl, T.O_UnknownName, T.N_UnknownName_name, .inl ⟨ha, fun dx n ne => q dx n ne⟩⟩
end

def sp_check_counts (K : PySem.W.Frag) (A : Ad) : Sp := fun vs H Q E => ∃ (a cd : Addr) (ls : List Str) (c : Str → Option Int), vs = [.ref a, .ref cd] ∧ H a = some (.lst (ls.map V.str)) ∧ Vf.CntAt H cd c ∧ ls.length ≤ 100000 ∧ (∀ x ∈ ls, x.length ≤ 1000000) ∧
  (∀ x, Vf.gone c ls = some x → ∀ (d : Addr) (H' : Hp), Same H H' → H' d = some (.xd [("name", .str x)]) → E (.ref A.c_UnknownName) (some d) H') ∧
  (Vf.gone c ls = none → (∃ x ∈ ls, Vf.cv c x < 0) → ∀ H', Same H H' → E (.ref A.c_WrongCounts) none H') ∧
  (Vf.gone c ls = none → (∀ x ∈ ls, 0 ≤ Vf.cv c x) → ∀ H', Same H H' → Q .non H')
theorem len_check_counts {K : PySem.W.Frag} {A : Ad} (vs : List V) (H : Hp) (Q : VK) (E : XK) (h : sp_check_counts K A vs H Q E) : vs.length = ["names", "counts"].length := by
  obtain ⟨a, b, c, d, rfl, _⟩ := h
  rfl

section
variable {P : Program} {w : World} {K : PySem.W.Frag} {mg : Str → Option Value} {base : Heap}
set_option maxHeartbeats 4000000 in
theorem ok_check_counts {A : Ad} (T : Txt P K mg A) : FnOk P w K mg base (L2.CX P w) 3 A.f_check_counts A.d_check_counts ["names", "counts"] (sp_check_counts K A) := by
  have G_UnknownName___init__ := ok_UnknownName___init__ (P := P) (w := w) (base := base) T
  refine T.F_check_counts.okX sc_check_counts len_check_counts (fun cdv Ar outer s H vs Q E hr h => ?_)
  have hu := hu_of hr
  obtain ⟨a, cd, ls, c, rfl, ha, hc, ll, lx, q1, q2, q3⟩ := h
  refine ⟨_, (pss_cons (ps_for (passes_of rfl) rfl (pi_list (pv 0)) (pg_name (i := 2) sc_check_counts.nd rfl (Or.inl rfl))
        (pss_one (ps_if (pt_cmp (pc_dnotin hu (pv 2) (pv 1))) (pss_one (ps_raise rfl (takes_of rfl rfl rfl rfl) (pmk_oex T.O_UnknownName T.I_UnknownName T.Y_UnknownName G_UnknownName___init__ hr T.B_UnknownName___init__ .nil pass0 (by rfl) T.G_UnknownName (pa_cons (pv 2) pa_nil)))) pss_nil)))
      (pss_one (ps_if (pt_cmpR op_lt (pe_callBK (Vf.cr_leastD (by exact hr.units)) (by rfl) T.N_min (by decide +kernel) (pa_cons (pe_lc (own := [("name", 2)]) (g := (gName 2)) (tt := tYes) rfl sc_check_counts.nd (pi_list (pv 0)) (blkOk_by (N := ["names", "counts", "name"]) (sc := defScope s_check_counts) (by decide +kernel)) (fun _ _ _ _ _ => (pg_name (i := 2) sc_check_counts.nd rfl (Or.inl rfl))) (fun _ _ _ _ _ => pts_nil) (fun _ _ _ _ _ => (pe_dget (by exact hu) (pv 1) (pv 2) (fun _ _ => rfl)))) pa_nil) (pk_cons pe_int pk_nil)) pe_int (nomark _)) (pss_one (ps_raise rfl (takes_of rfl rfl rfl rfl) (pmk_own PySem.F.excBase_ValueError T.x_WrongCounts T.G_WrongCounts T.k_WrongCounts (raises_own T.b_WrongCounts T.t_WrongCounts) (by rfl)))) pss_nil))), ?_⟩
  refine ⟨_, rfl, a, rfl, ⟨_, SqL.of ha⟩, ?_⟩
  refine for_list (K := K) (a := a) (xs := ls.map V.str) (fun i σ H' => (∃ v2 : Option V, σ = [some (.ref a), some (.ref cd), v2]) ∧ Same H H' ∧ Vf.gone c ls = Vf.gone c (ls.drop i)) ⟨⟨none, rfl⟩, Same.refl H, rfl⟩ (fun i σ H' _ h => SqL.of (h.2.1 _ _ ha)) ?_ ?_
  · rintro i x σ H1 hx ⟨⟨v2, rfl⟩, s, eg⟩
    obtain ⟨y, hy, rfl⟩ := Vf.map_get hx
    rw [Vf.gone_step hy] at eg
    refine ⟨_, rfl, _, rfl, cd, _, rfl, (hc.same s).get y, _, rfl, ?_⟩
    cases ec : c y with
    | none =>
      rw [ec] at eg
      refine Vf.ite_b (fun _ => ?_) (fun x => absurd x (by decide))
      refine ⟨_, rfl, (by show 1 ≤ 1000; decide), fun b nb => ?_⟩
      refine ⟨b, y, rfl, lx y (List.mem_of_getElem? hy), upd_same, fun d nd ne => ⟨rfl, d, [("name", .str y)], upd_same, ?_, ?_, ?_⟩⟩
      · rw [upd_ne ne, upd_same]
      · rw [upd_ne ne] at nd
        exact nd
      · rw [upd_ne ne] at nd
        refine q1 y eg d _ (fun x o e => ?_) upd_same
        have xe := s _ _ e
        have xd : x ≠ d := Vf.neq_none xe nd
        have xa : x ≠ b := Vf.neq_none xe nb
        rw [upd_ne xd, del_ne xa, upd_ne xa, upd_ne xd, upd_ne xa]
        exact xe
    | some z =>
      rw [ec] at eg
      exact Vf.ite_b (fun x => absurd (show false = true from x) (by decide)) fun _ => ⟨⟨_, rfl⟩, s, eg⟩
  rintro σ H2 ⟨⟨v2, rfl⟩, s, eg⟩
  rw [List.drop_of_length_le (by rw [List.length_map]; exact Nat.le_refl _)] at eg
  have hz := Vf.gone_none.mp eg
  have hv : ∀ x ∈ ls, c x = some (Vf.cv c x) := fun x hx => by
    obtain ⟨z, e⟩ := hz x hx
    unfold Vf.cv
    rw [e]
    rfl
  refine ⟨_, rfl, a, rfl, ⟨_, SqL.of (s _ _ ha)⟩, fun C hC => ?_⟩
  refine Vf.lc_val (walk_list (K := K) (a := a) (xs := ls.map V.str)) (fun i => .int ((ls.map fun x => Vf.cv c x).getD i 0)) hC (by rw [List.length_map]; omega) (fun H3 s3 => SqL.of (s3 _ _ (s _ _ ha))) ?_ ?_
  · rintro i x Ha Hb hi sa ⟨rfl, hx⟩ Q' q'
    obtain ⟨y, hy, rfl⟩ := Vf.map_get hx
    have g := ((hc.same s).same sa).get y
    rw [hv y (List.mem_of_getElem? hy)] at g
    refine ⟨rfl, _, rfl, _, rfl, cd, _, rfl, g, ?_⟩
    have e : (ls.map fun x => Vf.cv c x).getD i 0 = Vf.cv c y := by
      rw [List.getD_eq_getElem?_getD, List.getElem?_map, hy]
      rfl
    rw [e] at q'
    exact q' _ (Same.refl _)
  intro Ha sa h1
  rw [List.length_map, Vf.range_map (ls.map fun x => Vf.cv c x) V.int 0 _ (by rw [List.length_map])] at h1
  refine ⟨C, ls.map fun x => Vf.cv c x, 0, rfl, rfl, .inl (SqL.of h1), fun m hm => ?_⟩
  refine ⟨_, _, rfl, rfl, _, rfl, Vf.ite_d (fun neg => ?_) (fun pos => ?_)⟩
  · refine q2 eg ?_ _ (s.trans sa)
    rcases hm with ⟨_, rfl⟩ | ⟨hm, _⟩
    · exact absurd neg (by decide)
    · obtain ⟨x, hx, e⟩ := List.mem_map.mp hm
      exact ⟨x, hx, by rw [e]; exact neg⟩
  · refine q3 eg (fun x hx => ?_) _ (s.trans sa)
    rcases hm with ⟨e, rfl⟩ | ⟨_, hm⟩
    · rw [List.map_eq_nil_iff] at e
      rw [e] at hx
      cases hx
    · have := hm _ (List.mem_map.mpr ⟨x, hx, rfl⟩)
      omega
end

def sp__sums (K : PySem.W.Frag) (A : Ad) : Sp := fun vs H Q _ => ∃ (f : Vf.Fq) (v : V), vs = [v] ∧ Vf.FqAt H f v ∧ ∀ (p : Addr) (ys : List V) (H' : Hp), Same H H' → H' p = some (.lst ys) → Vf.SumsAt H' ys f.sums → Q (.ref p) H'
theorem len__sums {K : PySem.W.Frag} {A : Ad} (vs : List V) (H : Hp) (Q : VK) (E : XK) (h : sp__sums K A vs H Q E) : vs.length = ["function"].length := by
  obtain ⟨f, v, rfl, _⟩ := h
  rfl

section
variable {P : Program} {w : World} {K : PySem.W.Frag} {mg : Str → Option Value} {base : Heap}
set_option maxHeartbeats 4000000 in
theorem ok__sums {A : Ad} (T : Txt P K mg A) : FnOk P w K mg base CX0 1 A.f__sums A.d__sums ["function"] (sp__sums K A) := by
  refine T.F__sums.ok sc__sums len__sums (fun cdv Ar outer s H vs Q E hr h => ?_)
  have hu := hu_of hr
  obtain ⟨f, v, rfl, F, q⟩ := h
  refine ⟨_, (pss_cons (ps_if (pt_cmpR op_in_seq (pe_ix ix_tup (pv 0) pe_int (fun _ _ => rfl)) (pe_tup (pa_cons pe_str (pa_cons pe_str pa_nil))) (by rfl)) (pss_one (ps_ret (pe_lst (pa_cons (pe_ix ix_tup (pv 0) pe_int (fun _ _ => rfl)) pa_nil)))) pss_nil)
      (pss_one (ps_ret (pe_lst (pa_cons (pe_ix ix_tup (pv 0) pe_int (fun _ _ => rfl)) (pa_cons (pe_ix ix_tup (pv 0) pe_int (fun _ _ => rfl)) pa_nil)))))), ?_⟩
  have two : ∀ {w : Str} {a : Addr} {xs : List V} {σ : St} (G : TS) (D : Ends), True := fun _ _ => trivial
  cases f with
  | sum ts =>
    obtain ⟨a, x, rfl, ha, X⟩ := F
    refine ⟨_, rfl, a, _, 0, .str "sum", rfl, rfl, SqT.of ha, atI_nat (j := 0) rfl, (by show 2 ≤ sizeLine; decide), fun t nt => ?_⟩
    have s1 := Vf.Same.new (o := .tup [V.str ("sum" : Str), V.str ("quotient" : Str)]) (Same.refl H) nt
    refine ⟨t, (["sum", "quotient"] : List Str).map V.str, rfl, .inr (SqT.of upd_same), rfl, Vf.flat_str _, ?_⟩
    rw [Vf.inV_str, decide_eq_true (by decide)]
    refine ⟨_, rfl, Vf.ite_b (fun _ => ?_) (fun c => absurd c (by decide))⟩
    refine ⟨_, rfl, a, _, 1, x, rfl, rfl, SqT.of (s1 _ _ ha), atI_nat (j := 1) rfl, (by show 1 ≤ sizeLine; decide), fun p hp => ?_⟩
    have s2 := Vf.Same.new (o := .lst [x]) s1 hp
    exact q p _ _ s2 upd_same (.one (X.same s2))
  | quo ts d =>
    obtain ⟨a, x, rfl, ha, X⟩ := F
    refine ⟨_, rfl, a, _, 0, .str "quotient", rfl, rfl, SqT.of ha, atI_nat (j := 0) rfl, (by show 2 ≤ sizeLine; decide), fun t nt => ?_⟩
    have s1 := Vf.Same.new (o := .tup [V.str ("sum" : Str), V.str ("quotient" : Str)]) (Same.refl H) nt
    refine ⟨t, (["sum", "quotient"] : List Str).map V.str, rfl, .inr (SqT.of upd_same), rfl, Vf.flat_str _, ?_⟩
    rw [Vf.inV_str, decide_eq_true (by decide)]
    refine ⟨_, rfl, Vf.ite_b (fun _ => ?_) (fun c => absurd c (by decide))⟩
    refine ⟨_, rfl, a, _, 1, x, rfl, rfl, SqT.of (s1 _ _ ha), atI_nat (j := 1) rfl, (by show 1 ≤ sizeLine; decide), fun p hp => ?_⟩
    have s2 := Vf.Same.new (o := .lst [x]) s1 hp
    exact q p _ _ s2 upd_same (.one (X.same s2))
  | two k ts us =>
    obtain ⟨a, x, y, rfl, ha, X, Y⟩ := F
    refine ⟨_, rfl, a, _, 0, .str k.word, rfl, rfl, SqT.of ha, atI_nat (j := 0) rfl, (by show 2 ≤ sizeLine; decide), fun t nt => ?_⟩
    have s1 := Vf.Same.new (o := .tup [V.str ("sum" : Str), V.str ("quotient" : Str)]) (Same.refl H) nt
    refine ⟨t, (["sum", "quotient"] : List Str).map V.str, rfl, .inr (SqT.of upd_same), rfl, Vf.flat_str _, ?_⟩
    rw [Vf.inV_str, decide_eq_false (by cases k <;> decide)]
    refine ⟨_, rfl, Vf.ite_b (fun c => absurd c (by decide)) fun _ => ?_⟩
    refine ⟨_, rfl, a, _, 1, x, rfl, rfl, SqT.of (s1 _ _ ha), atI_nat (j := 1) rfl, _, rfl, a, _, 2, y, rfl, rfl, SqT.of (s1 _ _ ha), atI_nat (j := 2) rfl, (by show 2 ≤ sizeLine; decide), fun p hp => ?_⟩
    have s2 := Vf.Same.new (o := .lst [x, y]) s1 hp
    exact q p _ _ s2 upd_same (.pair (X.same s2) (Y.same s2))
end

def sp_function_variables (K : PySem.W.Frag) (A : Ad) : Sp := fun vs H Q _ => ∃ (f : Vf.Fq) (v : V), vs = [v] ∧ Vf.FqAt H f v ∧ f.Short ∧ ∀ (p : Addr) (ls : List Str) (H' : Hp), Same H H' → H' p = some (.lst (ls.map V.str)) → Vf.VarsOf (.least f.all 0) ls → Q (.ref p) H'
theorem len_function_variables {K : PySem.W.Frag} {A : Ad} (vs : List V) (H : Hp) (Q : VK) (E : XK) (h : sp_function_variables K A vs H Q E) : vs.length = ["function"].length := by
  obtain ⟨f, v, rfl, _⟩ := h
  rfl

section
variable {P : Program} {w : World} {K : PySem.W.Frag} {mg : Str → Option Value} {base : Heap}
set_option maxHeartbeats 4000000 in
theorem ok_function_variables {A : Ad} (T : Txt P K mg A) : FnOk P w K mg base CX0 2 A.f_function_variables A.d_function_variables ["function"] (sp_function_variables K A) := by
  have G__sums := ok__sums (P := P) (w := w) (base := base) T
  refine T.F_function_variables.ok sc_function_variables len_function_variables (fun cdv Ar outer s H vs Q E hr h => ?_)
  have hu := hu_of hr
  obtain ⟨f, v, rfl, F, sh, q⟩ := h
  refine ⟨_, (pss_one (ps_ret (pe_callB (Vf.cr_sortT rfl (by exact hr.units)) (by rfl) T.N_sorted (by decide +kernel) (pa_cons (Vf.pe_sc2T (own := [("terms", 1), ("name", 2), ("_", 3)]) (vs1 := [2, 3]) (g := (gName 1)) (g1 := (gTup K 2 (gCons (gName 2) (gCons (gName 3) gNil)))) (tt := tYes) (tt1 := tYes) rfl sc_function_variables.nd (pi_list (pe_call G__sums hr (by rfl) T.G__sums T.F__sums.kp T.B__sums .nil pass0 (pa_cons (pv 0) pa_nil))) (blkOk_by (N := ["function", "terms", "name", "_"]) (sc := defScope s_function_variables) (by decide +kernel)) (by decide) (fun _ _ _ _ _ => (pg_name (i := 1) sc_function_variables.nd rfl (Or.inl rfl))) (fun _ _ _ _ _ => pts_nil) (fun _ _ _ _ _ => (Vf.pi_tupK2 (K := K) rfl (pv 1))) (fun _ _ _ _ _ => (pg_tup (by rfl) (pgs_cons (pg_name (i := 2) sc_function_variables.nd rfl (Or.inl rfl)) (pgs_cons (pg_name (i := 3) sc_function_variables.nd rfl (Or.inl rfl)) pgs_nil)))) (fun _ _ _ _ _ => pts_nil) (fun _ _ _ _ _ => (pv 2))) pa_nil)))), ?_⟩
  have few := sh.few
  refine ⟨_, rfl, f, v, rfl, F, fun p ys H1 s1 hp S1 => ?_⟩
  refine ⟨p, rfl, ⟨_, SqL.of hp⟩, fun C hC => ?_⟩
  refine Vf.sc2_it (walk_list (K := K) (a := p) (xs := ys)) (fun i H' => ∃ l : List Str, H' C = some (Vf.SetT P w C l) ∧ Same H1 H' ∧ l.Nodup ∧ l.length ≤ ((f.sums.take i).flatten).length ∧ ∀ x, x ∈ l ↔ x ∈ ((f.sums.take i).flatten).map Prod.fst) ⟨[], upd_same, Vf.Same.new (Same.refl H1) hC, List.nodup_nil, Nat.zero_le _, fun x => by simp⟩ (fun i H' _ ⟨_, _, s, _⟩ => SqL.of (s _ _ hp)) ?_ ?_
  · rintro i x Ha Hb hi ⟨l, hc, sa, nd, ll, lm⟩ ⟨rfl, hx⟩
    obtain ⟨ts, hts, X⟩ := S1.get hx
    obtain ⟨t, xs, rfl, ht, tt⟩ := X.same sa
    obtain ⟨tl, tm⟩ := Vf.Fq.part (List.mem_of_getElem? hts)
    have tk : (f.sums.take (i + 1)).flatten = (f.sums.take i).flatten ++ ts := by
      rw [Vf.take_snoc hts, List.flatten_append]
      simp
    have le : ((f.sums.take i).flatten).length ≤ f.all.length := by
      unfold Vf.Fq.all
      conv => rhs; rw [← List.take_append_drop i f.sums]
      rw [List.flatten_append, List.length_append]
      omega
    refine ⟨rfl, Vf.tyes ?_⟩
    refine ⟨_, rfl, t, rfl, ⟨_, SqT.of ht⟩, ?_⟩
    refine Vf.sc_in (walk_tup (K := K) (a := t) (xs := xs)) (fun j H' => ∃ l2 : List Str, H' C = some (Vf.SetT P w C l2) ∧ Same H1 H' ∧ H' t = some (.tup xs) ∧ Vf.Tups Vf.encSI H' xs ts ∧ l2.Nodup ∧ l2.length ≤ ((f.sums.take i).flatten).length + j ∧ ∀ x, x ∈ l2 ↔ x ∈ ((f.sums.take i).flatten ++ ts.take j).map Prod.fst) ⟨l, hc, sa, ht, tt, nd, by omega, fun x => by rw [lm x]; simp⟩ (fun j H' _ ⟨_, _, _, h, _⟩ => SqT.of h) ?_ ?_
    · rintro j y Hx Hy hj ⟨l2, hc2, s2, ht2, tt2, nd2, ll2, lm2⟩ ⟨rfl, hy⟩
      obtain ⟨pr, u, epr, rfl, hu⟩ := tt2.get hy
      rw [tt.1] at hj
      refine ⟨u, _, rfl, SqT.of hu, rfl, _, _, rfl, _, _, rfl, rfl, rfl, Vf.tyes ?_⟩
      refine ⟨_, rfl, l2, _, hc2, ⟨pr.1, rfl, by unfold scanBound; omega, rfl⟩, ?_⟩
      have nt : t ≠ C := fun e => by rw [e, hc2] at ht2; cases ht2
      refine ⟨_, upd_same, Vf.Same.chg s2 hC, by rw [upd_ne nt]; exact ht2, ?_, ?_, ?_, fun x => ?_⟩
      · refine ⟨tt2.1, fun k z e => ?_⟩
        obtain ⟨w', h1, h2⟩ := tt2.2 k z e
        refine ⟨w', h1, ?_⟩
        rw [upd_ne (fun x => by rw [x, hc2] at h2; cases h2)]
        exact h2
      · split
        · exact nd2
        · rename_i c
          exact List.nodup_cons.mpr ⟨c, nd2⟩
      · split
        · omega
        · rw [List.length_cons]; omega
      · rw [Vf.take_snoc epr, ← List.append_assoc, List.map_append, List.mem_append, ← lm2 x]
        split
        · rename_i c
          refine ⟨.inl, fun e => e.elim id fun e => ?_⟩
          have : x = pr.1 := by simpa using e
          rw [this]
          exact c
        · rw [List.mem_cons]
          constructor
          · rintro (e | e)
            · exact .inr (by rw [e]; simp)
            · exact .inl e
          · rintro (e | e)
            · exact .inr e
            · exact .inl (by simpa using e)
    · rintro Hx ⟨l2, hc2, s2, ht2, tt2, nd2, ll2, lm2⟩
      rw [tt.1] at ll2 lm2
      rw [List.take_length] at lm2
      exact ⟨l2, hc2, s2, nd2, by rw [tk, List.length_append]; exact ll2, fun x => by rw [tk]; exact lm2 x⟩
  · rintro Ha ⟨l, hc, sa, nd, ll, lm⟩
    rw [S1.1, List.take_length] at ll lm
    have ll : l.length ≤ f.all.length := ll
    refine ⟨C, l, rfl, hc, by unfold scanBound; omega, fun ls p hp pm pw => ?_⟩
    refine q p ls _ (Vf.Same.new (s1.trans sa) hp) upd_same ⟨pm.nodup_iff.mpr nd, fun x => ?_, pw⟩
    rw [pm.mem_iff, lm x]
    rfl
end

def sp_total (K : PySem.W.Frag) (A : Ad) : Sp := fun vs H Q _ => ∃ (a cd : Addr) (xs : List V) (ts : List (Str × Int)) (c : Str → Option Int), vs = [.ref a, .ref cd] ∧ H a = some (.tup xs) ∧ Vf.Tups Vf.encSI H xs ts ∧ Vf.CntAt H cd c ∧ (∀ p ∈ ts, -20 ≤ p.2 ∧ p.2 ≤ 20) ∧ (∀ p ∈ ts, ∃ z, c p.1 = some z) ∧ ts.length ≤ 4000 ∧ ∀ H', Same H H' → Q (.int (Vf.totC ts c)) H'
theorem len_total {K : PySem.W.Frag} {A : Ad} (vs : List V) (H : Hp) (Q : VK) (E : XK) (h : sp_total K A vs H Q E) : vs.length = ["terms", "counts"].length := by
  obtain ⟨a, b, c, d, e, rfl, _⟩ := h
  rfl

section
variable {P : Program} {w : World} {K : PySem.W.Frag} {mg : Str → Option Value} {base : Heap}
set_option maxHeartbeats 4000000 in
theorem ok_total {A : Ad} (T : Txt P K mg A) : FnOk P w K mg base CX0 1 A.f_total A.d_total ["terms", "counts"] (sp_total K A) := by
  refine T.F_total.ok sc_total len_total (fun cdv Ar outer s H vs Q E hr h => ?_)
  have hu := hu_of hr
  obtain ⟨a, cd, xs, ts, c, rfl, ha, tt, hc, fb, fu, tl, q⟩ := h
  refine ⟨_, (pss_one (ps_ret (pe_callB (cr_sum rfl) (by rfl) T.N_sum (by decide +kernel) (pa_cons (pe_lc (own := [("name", 2), ("factor", 3)]) (g := (gTup K 2 (gCons (gName 2) (gCons (gName 3) gNil)))) (tt := tYes) rfl sc_total.nd (pi_tup (pv 0)) (blkOk_by (N := ["terms", "counts", "name", "factor"]) (sc := defScope s_total) (by decide +kernel)) (fun _ _ _ _ _ => (pg_tup (by rfl) (pgs_cons (pg_name (i := 2) sc_total.nd rfl (Or.inl rfl)) (pgs_cons (pg_name (i := 3) sc_total.nd rfl (Or.inl rfl)) pgs_nil)))) (fun _ _ _ _ _ => pts_nil) (fun _ _ _ _ _ => (pe_op op_mul (pv 3) (pe_dget (by exact hu) (pv 1) (pv 2) (fun _ _ => rfl))))) pa_nil)))), ?_⟩
  refine ⟨_, rfl, a, rfl, ⟨_, SqT.of ha⟩, fun C hC => ?_⟩
  refine Vf.lc_val (walk_tup (K := K) (a := a) (xs := xs)) (fun i => .int ((ts.map fun p => p.2 * Vf.cv c p.1).getD i 0)) hC (by rw [tt.1]; omega) (fun H2 s2 => SqT.of (s2 _ _ ha)) ?_ ?_
  · rintro i x Ha Hb hi sa ⟨rfl, hx⟩ Q' q'
    obtain ⟨p, t, hp, rfl, ht⟩ := tt.get hx
    obtain ⟨z, hz⟩ := fu p (List.mem_of_getElem? hp)
    have pb := fb p (List.mem_of_getElem? hp)
    refine ⟨t, _, rfl, SqT.of (sa _ _ ht), rfl, _, _, rfl, _, _, rfl, rfl, rfl, ?_⟩
    have g := (hc.same sa).get p.1
    rw [hz] at g
    refine ⟨_, rfl, _, rfl, _, rfl, cd, .int z, rfl, g, _, _, rfl, rfl, .inl ⟨by omega, by omega⟩, ?_⟩
    have e : (ts.map fun p => p.2 * Vf.cv c p.1).getD i 0 = p.2 * z := by
      rw [List.getD_eq_getElem?_getD, List.getElem?_map, hp]
      show p.2 * Vf.cv c p.1 = _
      unfold Vf.cv
      rw [hz]
      rfl
    rw [e] at q'
    exact q' _ (Same.refl _)
  intro Ha sa h1
  have hL : (ts.map fun p => p.2 * Vf.cv c p.1).length = xs.length := by
    rw [List.length_map, tt.1]
  rw [Vf.range_map (ts.map fun p => p.2 * Vf.cv c p.1) V.int 0 _ hL.symm] at h1
  exact ⟨C, _, rfl, SqL.of h1, q _ sa⟩
end

def sp_value (K : PySem.W.Frag) (A : Ad) : Sp := fun vs H Q _ => ∃ (f : Vf.Fq) (v : V) (cd : Addr) (c : Str → Option Int), vs = [v, .ref cd] ∧ Vf.FqAt H f v ∧ Vf.NiceQ f ∧ Vf.CntAt H cd c ∧ (∀ p ∈ f.all, ∃ z, c p.1 = some z) ∧ (∀ p ∈ f.all, 0 ≤ Vf.cv c p.1) ∧ ∀ H', Same H H' → Q (.int (f.val c)) H'
theorem len_value {K : PySem.W.Frag} {A : Ad} (vs : List V) (H : Hp) (Q : VK) (E : XK) (h : sp_value K A vs H Q E) : vs.length = ["function", "counts"].length := by
  obtain ⟨f, v, cd, c, rfl, _⟩ := h
  rfl

section
variable {P : Program} {w : World} {K : PySem.W.Frag} {mg : Str → Option Value} {base : Heap}
set_option maxHeartbeats 4000000 in
theorem ok_value {A : Ad} (T : Txt P K mg A) : FnOk P w K mg base (L2.CX P w) 4 A.f_value A.d_value ["function", "counts"] (sp_value K A) := by
  have G_check_counts := ok_check_counts (P := P) (w := w) (base := base) T
  have G_function_variables := ok_function_variables (P := P) (w := w) (base := base) T
  have G_total := ok_total (P := P) (w := w) (base := base) T
  have G__sums := ok__sums (P := P) (w := w) (base := base) T
  refine T.F_value.okX sc_value len_value (fun cdv Ar outer s H vs Q E hr h => ?_)
  have hu := hu_of hr
  obtain ⟨f, v, cd, c, rfl, F, N, hc, cs, cp, q⟩ := h
  refine ⟨_, (pss_cons (ps_expr (pe_call G_check_counts hr (by rfl) T.G_check_counts T.F_check_counts.kp T.B_check_counts .nil (passes_call (takes_of rfl rfl rfl rfl) fun _ _ _ _ h => h) (pa_cons (pe_call G_function_variables (hr.mono (by decide)) (by rfl) T.G_function_variables T.F_function_variables.kp T.B_function_variables .nil pass0 (pa_cons (pv 0) pa_nil)) (pa_cons (pv 1) pa_nil))))
      (pss_cons (ps_setLc (i := 2) (own := [("terms", 4)]) (g := (gName 4)) (tt := tYes) rfl sc_value.nd rfl rfl (sw_true rfl rfl rfl (by decide +kernel)) (pi_list (pe_call G__sums (hr.mono (by decide)) (by rfl) T.G__sums T.F__sums.kp T.B__sums .nil pass0 (pa_cons (pv 0) pa_nil))) (blkOk_by (N := ["function", "counts", "sums", "word", "terms"]) (sc := defScope s_value) (by decide +kernel)) (fun _ _ _ _ _ => (pg_name (i := 4) sc_value.nd rfl (Or.inl rfl))) (fun _ _ _ _ _ => pts_nil) (fun _ _ _ _ _ => (pe_call G_total (hr.mono (by decide)) (by rfl) T.G_total T.F_total.kp T.B_total .nil pass0 (pa_cons (pv 4) (pa_cons (pv 1) pa_nil)))))
      (pss_cons (ps_set (i := 3) sc_value.nd rfl (Or.inl rfl) (pe_ix ix_tup (pv 0) pe_int (fun _ _ => rfl)))
      (pss_cons (ps_if (pt_cmpR op_eq (pv 3) pe_str (nomark _)) (pss_one (ps_ret (pe_ix ix_list (pv 2) pe_int (fun _ _ => rfl)))) pss_nil)
      (pss_cons (ps_if (pt_cmpR op_eq (pv 3) pe_str (nomark _)) (pss_one (ps_ret (pe_op op_fdiv (pe_ix ix_list (pv 2) pe_int (fun _ _ => rfl)) (pe_ix ix_tup (pv 0) pe_int (fun _ _ => rfl))))) pss_nil)
      (pss_cons (ps_if (pt_cmpR op_eq (pv 3) pe_str (nomark _)) (pss_one (ps_ret (pe_callB (cr_min rfl) (by rfl) T.N_min (by decide +kernel) (pa_cons (pv 2) pa_nil)))) pss_nil)
      (pss_cons (ps_if (pt_cmpR op_eq (pv 3) pe_str (nomark _)) (pss_one (ps_ret (pe_callB (cr_max rfl) (by rfl) T.N_max (by decide +kernel) (pa_cons (pv 2) pa_nil)))) pss_nil)
      (pss_one (ps_ret (pe_callB (call_max2 rfl) (by rfl) T.N_max (by decide +kernel) (pa_cons pe_int (pa_cons (pe_op op_sub (pe_ix ix_list (pv 2) pe_int (fun _ _ => rfl)) (pe_ix ix_list (pv 2) pe_int (fun _ _ => rfl))) pa_nil)))))))))))), ?_⟩
  have fb : ∀ ts ∈ f.sums, ∀ p ∈ ts, -20 ≤ p.2 ∧ p.2 ≤ 20 := fun ts hts p hp => by
    have ok := N.ok ts hts
    unfold Vf.okTerms at ok
    simp only [Bool.and_eq_true, List.all_eq_true, decide_eq_true_eq] at ok
    have := ok.2.2.2 p hp
    omega
  have cf : ∀ ts ∈ f.sums, ∀ p ∈ ts, ∃ z, c p.1 = some z := fun ts hts p hp => cs p ((Vf.Fq.part hts).2 p hp)
  have ll : ∀ ts ∈ f.sums, ts.length ≤ 4000 := fun ts hts => by have := N.l ts hts; omega
  have sg : ∀ {w u : Str}, w ≠ u → V.str w = V.str u → False := fun h e => h (V.str.inj e)
  have sh := N.short
  have few := N.len
  have sl : f.sums.length ≤ 2 := by cases f <;> simp [Vf.Fq.sums]
  refine ⟨_, rfl, f, v, rfl, F, sh, fun p ls H1 s1 hp vo => ?_⟩
  have lsl : ls.length ≤ 8 := by
    have := List.Nodup.length_le_of_subset vo.nd (l₂ := f.all.map Prod.fst) fun x hx => (vo.mem x).mp hx
    rw [List.length_map] at this
    omega
  have gn : Vf.gone c ls = none := Vf.gone_none.mpr fun x hx => by
    obtain ⟨r, hr, rfl⟩ := List.mem_map.mp ((vo.mem x).mp hx)
    exact cs r hr
  refine ⟨_, rfl, p, cd, ls, c, rfl, hp, hc.same s1, by omega, fun x hx => ?_, fun x e => (by rw [gn] at e; cases e), fun _ ⟨x, hx, e⟩ => absurd e (by
    obtain ⟨r, hr, rfl⟩ := List.mem_map.mp ((vo.mem x).mp hx)
    have := cp r hr
    omega), fun _ _ H2 s2 => ?_⟩
  · obtain ⟨r, hr, rfl⟩ := List.mem_map.mp ((vo.mem x).mp hx)
    exact sh.nm r hr
  have s12 := s1.trans s2
  refine ⟨_, rfl, f, v, rfl, F.same s12, fun p2 ys H3 s3 hp2 SA => ⟨p2, rfl, ⟨_, SqL.of hp2⟩, fun C hC => ?_⟩⟩
  have s13 := s12.trans s3
  refine Vf.lc_val (walk_list (K := K) (a := p2) (xs := ys)) (fun i => .int ((f.sums.map fun ts => Vf.totC ts c).getD i 0)) hC (by rw [SA.1]; omega) (fun H1 s => SqL.of (s _ _ hp2)) ?_ ?_
  · rintro i x H4 H5 hi s ⟨rfl, hx⟩ Q' q'
    obtain ⟨ts, e, t, xs, rfl, ht, tt⟩ := SA.get hx
    have m := List.mem_of_getElem? e
    have e2 : (f.sums.map fun ts => Vf.totC ts c).getD i 0 = Vf.totC ts c := by
      rw [List.getD_eq_getElem?_getD, List.getElem?_map, e]
      rfl
    rw [e2] at q'
    exact ⟨rfl, _, rfl, _, rfl, t, cd, xs, ts, c, rfl, s _ _ ht, tt.same s, hc.same (s13.trans s), fb ts m, cf ts m, ll ts m, fun H6 s6 => q' _ s6⟩
  intro H4 s4 h4
  rw [Vf.range_map (f.sums.map fun ts => Vf.totC ts c) V.int 0 ys.length (by rw [List.length_map, SA.1])] at h4
  have s14 := s13.trans s4
  dsimp only [gName]
  clear SA hp2 s4 s3 s13 s12 s2 s1 hp lsl gn vo
  cases f with
  | sum ts =>
    obtain ⟨a, x, rfl, ha, _⟩ := F
    refine ⟨_, rfl, a, _, 0, .str "sum", rfl, rfl, SqT.of (s14 _ _ ha), atI_nat (j := 0) rfl, ?_⟩
    dsimp only [gName]
    exact ⟨_, rfl, rfl, _, rfl, Vf.ite_d (fun _ => ⟨_, rfl, C, _, 0, .int (Vf.totC ts c), rfl, rfl, SqL.of h4, atI_nat (j := 0) rfl, q _ s14⟩) (fun e => absurd rfl e)⟩
  | quo ts d =>
    obtain ⟨a, x, rfl, ha, _⟩ := F
    have d2 : 2 ≤ d ∧ d ≤ 20 := of_decide_eq_true N.dv
    refine ⟨_, rfl, a, _, 0, .str "quotient", rfl, rfl, SqT.of (s14 _ _ ha), atI_nat (j := 0) rfl, ?_⟩
    dsimp only [gName]
    refine ⟨_, rfl, rfl, _, rfl, Vf.ite_d (fun e => (sg (by decide) e).elim) (fun _ => ?_)⟩
    refine ⟨_, rfl, rfl, _, rfl, Vf.ite_d (fun _ => ?_) (fun e => absurd rfl e)⟩
    exact ⟨_, rfl, C, _, 0, .int (Vf.totC ts c), rfl, rfl, SqL.of h4, atI_nat (j := 0) rfl, _, rfl, a, _, 2, .int d, rfl, rfl, SqT.of (s14 _ _ ha), atI_nat (j := 2) rfl, _, _, rfl, rfl, ⟨by omega, by omega⟩, q _ s14⟩
  | two k ts us =>
    obtain ⟨a, x, y, rfl, ha, _⟩ := F
    have q := q _ s14
    refine ⟨_, rfl, a, _, 0, .str k.word, rfl, rfl, SqT.of (s14 _ _ ha), atI_nat (j := 0) rfl, ?_⟩
    dsimp only [gName]
    refine ⟨_, rfl, rfl, _, rfl, Vf.ite_d (fun e => (sg (by cases k <;> simp only [Vf.Kd.word] <;> decide) e).elim) (fun _ => ?_)⟩
    refine ⟨_, rfl, rfl, _, rfl, Vf.ite_d (fun e => (sg (by cases k <;> simp only [Vf.Kd.word] <;> decide) e).elim) (fun _ => ?_)⟩
    refine ⟨_, rfl, rfl, _, rfl, Vf.ite_d (fun e => ?_) (fun e => ?_)⟩
    · have ek : k = .mn := by cases k <;> first | rfl | exact (sg (by simp only [Vf.Kd.word]; decide) e).elim
      subst ek
      refine ⟨_, rfl, C, [Vf.totC ts c, Vf.totC us c], rfl, SqL.of h4, Nat.zero_lt_succ 1, fun m hm hle => ?_⟩
      have h1 := hle _ (by simp : Vf.totC ts c ∈ [Vf.totC ts c, Vf.totC us c])
      have h2 := hle _ (by simp : Vf.totC us c ∈ [Vf.totC ts c, Vf.totC us c])
      have hm : m = Vf.totC ts c ∨ m = Vf.totC us c := by simpa using hm
      have em : m = (if Vf.totC us c < Vf.totC ts c then Vf.totC us c else Vf.totC ts c) := by split <;> omega
      rw [em]
      exact q
    refine ⟨_, rfl, rfl, _, rfl, Vf.ite_d (fun e2 => ?_) (fun e2 => ?_)⟩
    · have ek : k = .mx := by cases k <;> first | rfl | exact (sg (by simp only [Vf.Kd.word]; decide) e2).elim
      subst ek
      refine ⟨_, rfl, C, [Vf.totC ts c, Vf.totC us c], rfl, SqL.of h4, Nat.zero_lt_succ 1, fun m hm hle => ?_⟩
      have h1 := hle _ (by simp : Vf.totC ts c ∈ [Vf.totC ts c, Vf.totC us c])
      have h2 := hle _ (by simp : Vf.totC us c ∈ [Vf.totC ts c, Vf.totC us c])
      have hm : m = Vf.totC ts c ∨ m = Vf.totC us c := by simpa using hm
      have em : m = (if Vf.totC ts c < Vf.totC us c then Vf.totC us c else Vf.totC ts c) := by split <;> omega
      rw [em]
      exact q
    have ek : k = .ls := by cases k <;> first | rfl | exact absurd rfl e | exact absurd rfl e2
    subst ek
    exact ⟨_, rfl, C, _, 0, .int (Vf.totC ts c), rfl, rfl, SqL.of h4, atI_nat (j := 0) rfl, _, rfl, C, _, 1, .int (Vf.totC us c), rfl, rfl, SqL.of h4, atI_nat (j := 1) rfl, _, _, rfl, rfl, _, _, rfl, q⟩
end

def sp_is_name (K : PySem.W.Frag) (A : Ad) : Sp := fun vs H Q _ => ∃ (s : Str), vs = [.str s] ∧ s.length ≤ 1000000 ∧ ∀ H', Same H H' → Q (.bl (Vf.isName s)) H'
theorem len_is_name {K : PySem.W.Frag} {A : Ad} (vs : List V) (H : Hp) (Q : VK) (E : XK) (h : sp_is_name K A vs H Q E) : vs.length = ["name"].length := by
  obtain ⟨a, rfl, _⟩ := h
  rfl

section
variable {P : Program} {w : World} {K : PySem.W.Frag} {mg : Str → Option Value} {base : Heap}
set_option maxHeartbeats 4000000 in
theorem ok_is_name {A : Ad} (T : Txt P K mg A) : FnOk P w K mg base CX0 1 A.f_is_name A.d_is_name ["name"] (sp_is_name K A) := by
  obtain ⟨_, v_DIGITS⟩ := T.V_DIGITS
  obtain ⟨_, v_LETTERS⟩ := T.V_LETTERS
  obtain ⟨_, v_LONGEST_NAME⟩ := T.V_LONGEST_NAME
  refine T.F_is_name.ok sc_is_name len_is_name (fun cdv Ar outer s H vs Q E hr h => ?_)
  have hu := hu_of hr
  obtain ⟨z, rfl, hz, q⟩ := h
  refine ⟨_, (pss_cons (ps_if (pt_not (pt_chain op_le op_le pe_int (pe_callB call_len_str (by rfl) T.N_len PySem.boot_len (pa_cons (pv 0) pa_nil)) (pe_glob (v := .int 12) rfl v_LONGEST_NAME ⟨_, rfl⟩))) (pss_one (ps_ret pe_bl)) pss_nil)
      (pss_one (ps_ret (pe_and (pe_cmpR op_inS (pe_ix ix_str (pv 0) pe_int (fun _ _ => rfl)) (pe_glob (v := .str "abcdefghijklmnopqrstuvwxyz") rfl v_LETTERS ⟨_, rfl⟩) (by rfl)) (pe_one (pe_callB (cr_all rfl) (by rfl) T.N_all (by decide +kernel) (pa_cons (pe_lc (own := [("sign", 1)]) (g := (gName 1)) (tt := tYes) rfl sc_is_name.nd (pi_str (pv 0)) (blkOk_by (N := ["name", "sign"]) (sc := defScope s_is_name) (by decide +kernel)) (fun _ _ _ _ _ => (pg_name (i := 1) sc_is_name.nd rfl (Or.inl rfl))) (fun _ _ _ _ _ => pts_nil) (fun _ _ _ _ _ => (pe_or (pe_cmpR op_inS (pv 1) (pe_glob (v := .str "abcdefghijklmnopqrstuvwxyz") rfl v_LETTERS ⟨_, rfl⟩) (by rfl)) (pe_one (pe_cmpR op_inS (pv 1) (pe_glob (v := .str "0123456789") rfl v_DIGITS ⟨_, rfl⟩) (by rfl)))))) pa_nil))))))), ?_⟩
  have hzl : z.length ≤ sizeLine := Vf.fits hz (by decide)
  have hsz : z.cps.size = z.cps.toList.length := by simp
  have hlen : z.length = z.cps.toList.length := hsz
  refine Vf.st_if (b := !(decide ((1 : Int) ≤ (z.length : Int)) && decide ((z.length : Int) ≤ 12))) (ans_not fun R r => ⟨_, rfl, z, rfl, hzl, _, _, rfl, rfl, _, rfl, ?_⟩) (fun hb => ?_) (fun hb => ?_)
  · by_cases h1 : (1 : Int) ≤ (z.length : Int)
    · rw [decide_eq_true h1] at r ⊢
      refine iteT ⟨_, _, rfl, rfl, _, rfl, ?_⟩
      simpa using r
    · rw [decide_eq_false h1] at r ⊢
      exact iteF ⟨_, rfl, r⟩
  · rw [hlen] at hb
    have e : Vf.isName z = false := Vf.isNameL_bad hb
    exact e ▸ q H (Same.refl H)
  · rw [hlen] at hb
    obtain ⟨c, r, hc, ei⟩ := Vf.isNameL_ok hb
    have ei : Vf.isName z = (Vf.lowC c && z.cps.toList.all fun c => Vf.lowC c || Vf.digC c) := ei
    refine ⟨_, rfl, z, 0, c, rfl, rfl, hzl, atI_nat (j := 0) (by rw [hc]; rfl), c, _, rfl, rfl, _, rfl, ?_⟩
    rw [show decide (c ∈ (Str.ofString "abcdefghijklmnopqrstuvwxyz").cps.toList) = Vf.lowC c from Vf.in_letters c]
    refine Vf.ite_b (fun hl => ?_) (fun hl => ?_)
    · refine ⟨_, rfl, z, rfl, fun D hD => ?_⟩
      refine Vf.lc_val (walk_str (z := z)) (fun i => .bl (Vf.lowC (z.cps.toList.getD i 0) || Vf.digC (z.cps.toList.getD i 0))) hD (by omega) (fun _ _ => trivial) ?_ ?_
      · rintro i x H1 H2 hi s1 ⟨rfl, c', hc', rfl⟩ Q' q'
        have ec : z.cps.toList.getD i 0 = c' := by
          rw [List.getD_eq_getElem?_getD, Array.getElem?_toList, hc']
          rfl
        rw [ec] at q'
        refine ⟨rfl, _, rfl, c', _, rfl, rfl, _, rfl, ?_⟩
        rw [show decide (c' ∈ (Str.ofString "abcdefghijklmnopqrstuvwxyz").cps.toList) = Vf.lowC c' from Vf.in_letters c']
        refine Vf.ite_b (fun h1 => ?_) (fun h1 => ?_)
        · rw [h1] at q'
          exact q' _ (Same.refl _)
        · refine ⟨_, rfl, c', _, rfl, rfl, ?_⟩
          rw [show decide (c' ∈ (Str.ofString "0123456789").cps.toList) = Vf.digC c' from Vf.in_digits c']
          rw [h1] at q'
          exact q' _ (Same.refl _)
      · intro H1 s1 hl1
        refine ⟨D, (List.range z.cps.size).map fun i => Vf.lowC (z.cps.toList.getD i 0) || Vf.digC (z.cps.toList.getD i 0), rfl, SqL.of (by rw [hl1, List.map_map]; rfl), ?_⟩
        rw [Vf.name_any _ _ hsz]
        have q2 := q H1 (fun a o e => s1 a o e)
        rw [ei, hl] at q2
        exact q2
    · rw [hl] at ei
      have q2 := q H (Same.refl H)
      rw [ei] at q2
      exact q2
end

def sp_is_variable (K : PySem.W.Frag) (A : Ad) : Sp := fun vs H Q _ => ∃ s : Str, vs = [.str s] ∧ s.length ≤ 1000000 ∧ ∀ H', Same H H' → Q (.bl (Vf.isVar s)) H'
theorem len_is_variable {K : PySem.W.Frag} {A : Ad} (vs : List V) (H : Hp) (Q : VK) (E : XK) (h : sp_is_variable K A vs H Q E) : vs.length = ["name"].length := by
  obtain ⟨s, rfl, _⟩ := h
  rfl

section
variable {P : Program} {w : World} {K : PySem.W.Frag} {mg : Str → Option Value} {base : Heap}
set_option maxHeartbeats 4000000 in
theorem ok_is_variable {A : Ad} (T : Txt P K mg A) : FnOk P w K mg base CX0 2 A.f_is_variable A.d_is_variable ["name"] (sp_is_variable K A) := by
  have G_is_name := ok_is_name (P := P) (w := w) (base := base) T
  refine T.F_is_variable.ok sc_is_variable len_is_variable (fun cdv Ar outer s H vs Q E hr h => ?_)
  have hu := hu_of hr
  obtain ⟨s, rfl, sl, q⟩ := h
  refine ⟨_, (pss_one (ps_ret (pe_and (pe_call G_is_name hr (by rfl) T.G_is_name T.F_is_name.kp T.B_is_name .nil pass0 (pa_cons (pv 0) pa_nil)) (pe_one (pe_cmpR (Vf.op_notIn_seqK (K := K) rfl) (pv 0) (pe_glob (v := .ref A.t_WORDS) rfl T.W_WORDS rfl) (by rfl)))))), ?_⟩
  refine ⟨_, rfl, s, rfl, sl, fun H1 s1 => ⟨_, rfl, Vf.ite_b (fun c => ?_) (fun c => ?_)⟩⟩
  · refine ⟨_, rfl, A.t_WORDS, Vf.wordsF.map V.str, rfl, .inr (T.Z_WORDS.seq _), rfl, Vf.flat_str _, ?_⟩
    rw [Vf.inV_str]
    have e : Vf.isVar s = !decide (s ∈ Vf.wordsF) := by
      unfold Vf.isVar
      rw [c]
      simp
    rw [e] at q
    exact q H1 s1
  · have e : Vf.isVar s = false := by
      unfold Vf.isVar
      rw [c]
      rfl
    rw [e] at q
    exact q H1 s1
end

def sp_are_terms (K : PySem.W.Frag) (A : Ad) : Sp := fun vs H Q _ => ∃ (t : Addr) (xs : List V) (ts : List (Str × Int)) (lo hi : Int), vs = [.ref t, .int lo, .int hi] ∧ H t = some (.tup xs) ∧ Vf.Tups Vf.encSI H xs ts ∧ ts.length ≤ 2000 ∧ (∀ p ∈ ts, p.1.length ≤ 1000000) ∧ ∀ H', Same H H' → Q (.bl (Vf.okTerms ts lo hi)) H'
theorem len_are_terms {K : PySem.W.Frag} {A : Ad} (vs : List V) (H : Hp) (Q : VK) (E : XK) (h : sp_are_terms K A vs H Q E) : vs.length = ["terms", "lowest", "highest"].length := by
  obtain ⟨t, xs, ts, lo, hi, rfl, _⟩ := h
  rfl

section
variable {P : Program} {w : World} {K : PySem.W.Frag} {mg : Str → Option Value} {base : Heap}
set_option maxHeartbeats 4000000 in
theorem ok_are_terms {A : Ad} (T : Txt P K mg A) : FnOk P w K mg base CX0 3 A.f_are_terms A.d_are_terms ["terms", "lowest", "highest"] (sp_are_terms K A) := by
  have G_is_variable := ok_is_variable (P := P) (w := w) (base := base) T
  refine T.F_are_terms.ok sc_are_terms len_are_terms (fun cdv Ar outer s H vs Q E hr h => ?_)
  have hu := hu_of hr
  obtain ⟨t, xs, ts, lo, hi, rfl, ht, tt, tl, nl, q⟩ := h
  refine ⟨_, (pss_cons (ps_setLc (i := 3) (own := [("name", 4), ("_", 5)]) (g := (gTup K 2 (gCons (gName 4) (gCons (gName 5) gNil)))) (tt := tYes) rfl sc_are_terms.nd rfl rfl (sw_true rfl rfl rfl (by decide +kernel)) (pi_tup (pv 0)) (blkOk_by (N := ["terms", "lowest", "highest", "names", "name", "_", "factor"]) (sc := defScope s_are_terms) (by decide +kernel)) (fun _ _ _ _ _ => (pg_tup (by rfl) (pgs_cons (pg_name (i := 4) sc_are_terms.nd rfl (Or.inl rfl)) (pgs_cons (pg_name (i := 5) sc_are_terms.nd rfl (Or.inl rfl)) pgs_nil)))) (fun _ _ _ _ _ => pts_nil) (fun _ _ _ _ _ => (pv 4)))
      (pss_one (ps_ret (pe_and (pe_cmpR op_gt (pe_callB call_len_seq (by rfl) T.N_len PySem.boot_len (pa_cons (pv 0) pa_nil)) pe_int (nomark _)) (pe_and (pe_callB (cr_all rfl) (by rfl) T.N_all (by decide +kernel) (pa_cons (pe_lc (own := [("name", 4)]) (g := (gName 4)) (tt := tYes) rfl sc_are_terms.nd (pi_list (pv 3)) (blkOk_by (N := ["terms", "lowest", "highest", "names", "name", "_", "factor"]) (sc := defScope s_are_terms) (by decide +kernel)) (fun _ _ _ _ _ => (pg_name (i := 4) sc_are_terms.nd rfl (Or.inl rfl))) (fun _ _ _ _ _ => pts_nil) (fun _ _ _ _ _ => (pe_call G_is_variable hr (by rfl) T.G_is_variable T.F_is_variable.kp T.B_is_variable .nil pass0 (pa_cons (pv 4) pa_nil)))) pa_nil)) (pe_and (pe_cmpR (Vf.op_eqP hr.units) (pv 3) (pe_callB (Vf.cr_sortT rfl (by exact hr.units)) (by rfl) T.N_sorted (by decide +kernel) (pa_cons (pe_callTy (Vf.cr_setTx rfl) (by rfl) T.N_set (by decide +kernel) (pa_cons (pv 3) pa_nil)) pa_nil)) (nomark _)) (pe_one (pe_callB (cr_all rfl) (by rfl) T.N_all (by decide +kernel) (pa_cons (pe_lc (own := [("_", 5), ("factor", 6)]) (g := (gTup K 2 (gCons (gName 5) (gCons (gName 6) gNil)))) (tt := tYes) rfl sc_are_terms.nd (pi_tup (pv 0)) (blkOk_by (N := ["terms", "lowest", "highest", "names", "name", "_", "factor"]) (sc := defScope s_are_terms) (by decide +kernel)) (fun _ _ _ _ _ => (pg_tup (by rfl) (pgs_cons (pg_name (i := 5) sc_are_terms.nd rfl (Or.inl rfl)) (pgs_cons (pg_name (i := 6) sc_are_terms.nd rfl (Or.inl rfl)) pgs_nil)))) (fun _ _ _ _ _ => pts_nil) (fun _ _ _ _ _ => (pe_and (pe_cmpR op_ne (pv 6) pe_int (nomark _)) (pe_one (pe_chain op_le op_le (pv 1) (pv 6) (pv 2)))))) pa_nil))))))))), ?_⟩
  have no : ∀ {H'}, Same H H' → Vf.okTerms ts lo hi = false → Q (.bl false) H' := fun s e => by
    rw [e] at q
    exact q _ s
  refine ⟨_, rfl, t, rfl, ⟨_, SqT.of ht⟩, fun N hN => ?_⟩
  refine Vf.lc_val (walk_tup (K := K) (a := t) (xs := xs)) (fun i => .str ((ts.map Prod.fst).getD i Str.empty)) hN (by rw [tt.1]; omega) (fun H1 s => SqT.of (s _ _ ht)) ?_ ?_
  · rintro i x H1 H2 hi s ⟨rfl, hx⟩ Q' q'
    obtain ⟨pr, u, epr, rfl, hu⟩ := tt.get hx
    refine ⟨u, _, rfl, SqT.of (s _ _ hu), rfl, _, _, rfl, _, _, rfl, rfl, rfl, _, rfl, ?_⟩
    have e : (ts.map Prod.fst).getD i Str.empty = pr.1 := by
      rw [List.getD_eq_getElem?_getD, List.getElem?_map, epr]
      rfl
    rw [e] at q'
    exact q' _ (Same.refl _)
  intro H1 s1 h1
  rw [Vf.range_map (ts.map Prod.fst) V.str Str.empty xs.length (by rw [List.length_map, tt.1])] at h1
  refine ⟨_, rfl, t, _, rfl, .inr (SqT.of (s1 _ _ ht)), _, _, rfl, rfl, _, rfl, Vf.ite_d (fun c1 => ?_) (fun c1 => ?_)⟩
  rotate_left
  · refine no s1 ?_
    unfold Vf.okTerms
    rw [decide_eq_false (by rw [tt.1] at c1; omega)]
    rfl
  have k1 : decide (0 < ts.length) = true := decide_eq_true (by rw [tt.1] at c1; omega)
  refine ⟨_, rfl, N, rfl, ⟨_, SqL.of h1⟩, fun C hC => ?_⟩
  refine Vf.lc_val (walk_list (K := K) (a := N) (xs := (ts.map Prod.fst).map V.str)) (fun i => .bl ((ts.map fun p => Vf.isVar p.1).getD i false)) hC (by rw [List.length_map, List.length_map]; omega) (fun H2 s => SqL.of (s _ _ h1)) ?_ ?_
  · rintro i x H2 H3 hi s ⟨rfl, hx⟩ Q' q'
    obtain ⟨nm, hnm, rfl⟩ := Vf.map_get hx
    obtain ⟨pr, epr, rfl⟩ := Vf.map_get hnm
    refine ⟨rfl, _, rfl, pr.1, rfl, nl pr (List.mem_of_getElem? epr), fun H4 s4 => ?_⟩
    have e : (ts.map fun p => Vf.isVar p.1).getD i false = Vf.isVar pr.1 := by
      rw [List.getD_eq_getElem?_getD, List.getElem?_map, epr]
      rfl
    rw [e] at q'
    exact q' _ s4
  intro H2 s2 h2
  rw [List.length_map, List.length_map, Vf.range_map (ts.map fun p => Vf.isVar p.1) V.bl false ts.length (by rw [List.length_map])] at h2
  have s02 := s1.trans s2
  refine ⟨C, _, rfl, SqL.of h2, _, rfl, Vf.ite_b (fun c2 => ?_) (fun c2 => ?_)⟩
  rotate_left
  · refine no s02 ?_
    rw [List.all_map] at c2
    unfold Vf.okTerms
    rw [k1, show (ts.all fun p => Vf.isVar p.1) = false from c2]
    rfl
  have k2 : (ts.all fun p => Vf.isVar p.1) = true := by
    rw [List.all_map] at c2
    exact c2
  have h12 := s2 _ _ h1
  have nln : (ts.map Prod.fst).length = ts.length := List.length_map _
  refine ⟨_, rfl, _, rfl, N, ts.map Prod.fst, rfl, SqL.of h12, by omega, fun p l hp nd mem ll => ?_⟩
  have s3 := Vf.Same.new (o := Vf.SetT P w p l) s02 hp
  refine ⟨p, l, rfl, upd_same, by unfold PySem.scanBound; omega, fun ls u hu pm pw => ?_⟩
  have s4 := Vf.Same.new (o := .lst (ls.map V.str)) s3 hu
  have h14 := (Vf.Same.new (o := .lst (ls.map V.str)) (Vf.Same.new (o := Vf.SetT P w p l) (Same.refl H2) hp) hu) _ _ h12
  have ee : PyData.eqv (PySem.W.Datum.toD (ts.map Prod.fst)) (PySem.W.Datum.toD ls) = Vf.ascB (ts.map Prod.fst) := (PySem.W.Datum.eqv (α := List Str) _ _).trans (Vf.asc_iff pm nd mem pw)
  refine ⟨PySem.W.Datum.toD (ts.map Prod.fst), PySem.W.Datum.toD ls, .lst (SqL.of h14) (Vf.dpAll_strs _), .lst (SqL.of upd_same) (Vf.dpAll_strs _), Vf.datum_pl _ (by decide), Vf.datum_pl _ (by decide), _, rfl, Vf.ite_b (fun c3 => ?_) (fun c3 => ?_)⟩
  rotate_left
  · refine no s4 ?_
    have k3 : Vf.ascB (ts.map Prod.fst) = false := ee.symm.trans c3
    unfold Vf.okTerms
    rw [k1, k2, k3]
    rfl
  have k3 : Vf.ascB (ts.map Prod.fst) = true := ee.symm.trans c3
  have ht4 := s4 _ _ ht
  have tt4 := tt.same s4
  refine ⟨_, rfl, t, rfl, ⟨_, SqT.of ht4⟩, fun D hD => ?_⟩
  refine Vf.lc_val (walk_tup (K := K) (a := t) (xs := xs)) (fun i => .bl ((ts.map fun p => decide (p.2 ≠ 0 ∧ lo ≤ p.2 ∧ p.2 ≤ hi)).getD i false)) hD (by rw [tt.1]; omega) (fun H1 s => SqT.of (s _ _ ht4)) ?_ ?_
  · rintro i x H3 H4 hi' s ⟨rfl, hx⟩ Q' q'
    obtain ⟨pr, u, epr, rfl, hu⟩ := tt4.get hx
    have e : (ts.map fun p => decide (p.2 ≠ 0 ∧ lo ≤ p.2 ∧ p.2 ≤ hi)).getD i false = decide (pr.2 ≠ 0 ∧ lo ≤ pr.2 ∧ pr.2 ≤ hi) := by
      rw [List.getD_eq_getElem?_getD, List.getElem?_map, epr]
      rfl
    rw [e] at q'
    refine ⟨u, _, rfl, SqT.of (s _ _ hu), rfl, _, _, rfl, _, _, rfl, rfl, rfl, _, rfl, rfl, _, rfl, Vf.ite_b (fun c => ?_) (fun c => ?_)⟩
    · have c' : pr.2 ≠ 0 := fun e => by
        have : V.int pr.2 = V.int 0 := by rw [e]
        rw [decide_eq_true this] at c
        cases c
      refine ⟨_, rfl, _, rfl, _, _, rfl, rfl, _, rfl, Vf.ite_d (fun c4 => ?_) (fun c4 => ?_)⟩
      · refine ⟨_, rfl, _, _, rfl, rfl, ?_⟩
        have : decide (pr.2 ≤ hi) = decide (pr.2 ≠ 0 ∧ lo ≤ pr.2 ∧ pr.2 ≤ hi) := by
          rw [decide_eq_decide]
          exact ⟨fun h => ⟨c', c4, h⟩, fun h => h.2.2⟩
        rw [← this] at q'
        exact q' _ (Same.refl _)
      · rw [decide_eq_false (fun h => c4 h.2.1)] at q'
        exact q' _ (Same.refl _)
    · have c' : pr.2 = 0 := by
        have : decide (V.int pr.2 = V.int 0) = true := by simpa using c
        exact V.int.inj (of_decide_eq_true this)
      rw [decide_eq_false (fun h => h.1 c')] at q'
      exact q' _ (Same.refl _)
  intro H3 s5 h5
  rw [Vf.range_map (ts.map fun p => decide (p.2 ≠ 0 ∧ lo ≤ p.2 ∧ p.2 ≤ hi)) V.bl false xs.length (by rw [List.length_map, tt.1])] at h5
  refine ⟨D, _, rfl, SqL.of h5, ?_⟩
  have e : Vf.okTerms ts lo hi = (ts.map fun p => decide (p.2 ≠ 0 ∧ lo ≤ p.2 ∧ p.2 ≤ hi)).all id := by
    unfold Vf.okTerms
    rw [k1, k2, k3, List.all_map]
    rfl
  rw [e] at q
  exact q H3 (s4.trans s5)
end

def sp_is_function (K : PySem.W.Frag) (A : Ad) : Sp := fun vs H Q _ => ∃ (f : Vf.Fq) (v : V), vs = [v] ∧ Vf.FqAt H f v ∧ f.Short ∧ ∀ H', Same H H' → Q (.bl f.isFn) H'
theorem len_is_function {K : PySem.W.Frag} {A : Ad} (vs : List V) (H : Hp) (Q : VK) (E : XK) (h : sp_is_function K A vs H Q E) : vs.length = ["function"].length := by
  obtain ⟨f, v, rfl, _⟩ := h
  rfl

section
variable {P : Program} {w : World} {K : PySem.W.Frag} {mg : Str → Option Value} {base : Heap}
set_option maxHeartbeats 4000000 in
theorem ok_is_function {A : Ad} (T : Txt P K mg A) : FnOk P w K mg base CX0 4 A.f_is_function A.d_is_function ["function"] (sp_is_function K A) := by
  have G_are_terms := ok_are_terms (P := P) (w := w) (base := base) T
  have G__sums := ok__sums (P := P) (w := w) (base := base) T
  have G_function_variables := ok_function_variables (P := P) (w := w) (base := base) T
  obtain ⟨_, v_GREATEST_DIVISOR⟩ := T.V_GREATEST_DIVISOR
  obtain ⟨_, v_GREATEST_FACTOR⟩ := T.V_GREATEST_FACTOR
  obtain ⟨_, v_LEAST_DIVISOR⟩ := T.V_LEAST_DIVISOR
  obtain ⟨_, v_MOST_VARIABLES⟩ := T.V_MOST_VARIABLES
  refine T.F_is_function.ok sc_is_function len_is_function (fun cdv Ar outer s H vs Q E hr h => ?_)
  have hu := hu_of hr
  obtain ⟨f, v, rfl, F, sh, q⟩ := h
  refine ⟨_, (pss_one (ps_ret (pe_and (pe_callB (cr_all rfl) (by rfl) T.N_all (by decide +kernel) (pa_cons (pe_lc (own := [("terms", 1)]) (g := (gName 1)) (tt := tYes) rfl sc_is_function.nd (pi_list (pe_call G__sums (hr.mono (by decide)) (by rfl) T.G__sums T.F__sums.kp T.B__sums .nil pass0 (pa_cons (pv 0) pa_nil))) (blkOk_by (N := ["function", "terms"]) (sc := defScope s_is_function) (by decide +kernel)) (fun _ _ _ _ _ => (pg_name (i := 1) sc_is_function.nd rfl (Or.inl rfl))) (fun _ _ _ _ _ => pts_nil) (fun _ _ _ _ _ => (pe_call G_are_terms hr (by rfl) T.G_are_terms T.F_are_terms.kp T.B_are_terms .nil pass0 (pa_cons (pv 1) (pa_cons pe_int (pa_cons (pe_glob (v := .int 9) rfl v_GREATEST_FACTOR ⟨_, rfl⟩) pa_nil)))))) pa_nil)) (pe_and (pe_or (pe_cmpR op_ne (pe_ix ix_tup (pv 0) pe_int (fun _ _ => rfl)) pe_str (nomark _)) (pe_one (pe_chain op_le op_le (pe_glob (v := .int 2) rfl v_LEAST_DIVISOR ⟨_, rfl⟩) (pe_ix ix_tup (pv 0) pe_int (fun _ _ => rfl)) (pe_glob (v := .int 20) rfl v_GREATEST_DIVISOR ⟨_, rfl⟩)))) (pe_one (pe_cmpR op_le (pe_callB call_len_seq (by rfl) T.N_len PySem.boot_len (pa_cons (pe_call G_function_variables (hr.mono (by decide)) (by rfl) T.G_function_variables T.F_function_variables.kp T.B_function_variables .nil pass0 (pa_cons (pv 0) pa_nil)) pa_nil)) (pe_glob (v := .int 8) rfl v_MOST_VARIABLES ⟨_, rfl⟩) (nomark _))))))), ?_⟩
  refine ⟨_, rfl, f, v, rfl, F, fun p ys H1 s1 hp S1 => ?_⟩
  refine ⟨p, rfl, ⟨_, SqL.of hp⟩, fun C hC => ?_⟩
  have sl : f.sums.length ≤ 2 := by cases f <;> simp [Vf.Fq.sums]
  refine Vf.lc_val (walk_list (K := K) (a := p) (xs := ys)) (fun i => .bl ((f.sums.map fun ts => Vf.okTerms ts 1 9).getD i false)) hC (by rw [S1.1]; omega) (fun H2 s2 => SqL.of (s2 _ _ hp)) ?_ ?_
  · rintro i x H2 H3 hi s2 ⟨rfl, hx⟩ Q' q'
    obtain ⟨ts, hts, X⟩ := S1.get hx
    obtain ⟨t, xs, rfl, ht, tt⟩ := X.same s2
    obtain ⟨tl, tm⟩ := Vf.Fq.part (List.mem_of_getElem? hts)
    have few := sh.few
    refine ⟨rfl, _, rfl, t, xs, ts, 1, 9, rfl, ht, tt, by omega, fun p hp => sh.nm p (tm p hp), fun H4 s4 => ?_⟩
    have e : (f.sums.map fun ts => Vf.okTerms ts 1 9).getD i false = Vf.okTerms ts 1 9 := by
      rw [List.getD_eq_getElem?_getD, List.getElem?_map, hts]
      rfl
    rw [e] at q'
    exact q' _ s4
  intro H2 s2 h2
  rw [Vf.range_map (f.sums.map fun ts => Vf.okTerms ts 1 9) V.bl false ys.length (by rw [List.length_map, S1.1])] at h2
  have s12 := s1.trans s2
  refine ⟨C, _, rfl, SqL.of h2, _, rfl, Vf.ite_b (fun c => ?_) (fun c => ?_)⟩
  rotate_left
  · have e : f.isFn = false := by unfold Vf.Fq.isFn; rw [c]; rfl
    rw [e] at q
    exact q H2 s12
  have F2 := F.same s12
  have fin : ∀ H3, Same H H3 → f.divOk = true → tOp (rI0 fun i j => V.bl (decide (i ≤ j))) (tCB (fun xs H_1 Q => ∃ p ys, xs = [V.ref p] ∧ (SqL K H_1 p ys ∨ SqT K H_1 p ys) ∧ Q (V.int (ys.length : Int)) H_1) (tCons (tCall (sp_function_variables K A) [] E0 (tCons (tVar 0) tNil)) tNil)) (tC (V.int 8)) (L2.start ["function", "terms"] [v]) H3 Q := fun H3 s3 dv => by
    refine ⟨_, rfl, f, v, rfl, F.same s3, sh, fun p ls H4 s4 hp vo => ?_⟩
    refine ⟨p, _, rfl, .inl (SqL.of hp), _, _, rfl, rfl, ?_⟩
    have e : f.isFn = decide (((ls.map V.str).length : Int) ≤ 8) := by
      unfold Vf.Fq.isFn
      rw [c, dv, vo.few, Bool.true_and, Bool.true_and, decide_eq_decide, List.length_map]
      omega
    rw [e] at q
    exact q H4 (s3.trans s4)
  cases f with
  | sum ts =>
    obtain ⟨a, x, rfl, ha, X⟩ := F2
    refine ⟨_, rfl, a, _, 0, .str "sum", rfl, rfl, SqT.of ha, atI_nat (j := 0) rfl, rfl, ?_⟩
    rw [show (!decide (V.str ("sum" : Str) = V.str ("quotient" : Str))) = true by decide]
    exact ⟨_, rfl, Vf.ite_b (fun _ => ⟨_, rfl, Vf.ite_b (fun _ => fin H2 s12 rfl) (fun c => absurd c (by decide))⟩) (fun c => absurd c (by decide))⟩
  | quo ts d =>
    obtain ⟨a, x, rfl, ha, X⟩ := F2
    refine ⟨_, rfl, a, _, 0, .str "quotient", rfl, rfl, SqT.of ha, atI_nat (j := 0) rfl, rfl, ?_⟩
    rw [show (!decide (V.str ("quotient" : Str) = V.str ("quotient" : Str))) = false by decide]
    have no : (Vf.Fq.quo ts d).divOk = false → Q (.bl false) H2 := fun h => by
      rw [Vf.bad_div h] at q
      exact q H2 s12
    refine ⟨_, rfl, Vf.ite_b (fun c => absurd c (by decide)) fun _ => ?_⟩
    refine ⟨_, rfl, a, _, 2, .int d, rfl, rfl, SqT.of ha, atI_nat (j := 2) rfl, _, _, rfl, rfl, _, rfl, Vf.ite_d (fun c1 => ?_) (fun c1 => ?_)⟩
    · refine ⟨_, _, rfl, rfl, _, rfl, Vf.ite_d (fun c2 => ?_) (fun c2 => no (decide_eq_false fun h => c2 h.2))⟩
      exact fin H2 s12 (decide_eq_true ⟨c1, c2⟩)
    · exact ⟨_, rfl, Vf.ite_b (fun c => absurd c (by decide)) fun _ => no (decide_eq_false fun h => c1 h.1)⟩
  | two k ts us =>
    obtain ⟨a, x, y, rfl, ha, X, Y⟩ := F2
    refine ⟨_, rfl, a, _, 0, .str k.word, rfl, rfl, SqT.of ha, atI_nat (j := 0) rfl, rfl, ?_⟩
    rw [show (!decide (V.str k.word = V.str ("quotient" : Str))) = true by cases k <;> decide +kernel]
    exact ⟨_, rfl, Vf.ite_b (fun _ => ⟨_, rfl, Vf.ite_b (fun _ => fin H2 s12 rfl) (fun c => absurd c (by decide))⟩) (fun c => absurd c (by decide))⟩
end

def sp__check_function (K : PySem.W.Frag) (A : Ad) : Sp := fun vs H Q E => ∃ (f : Vf.Fq) (v : V), vs = [v] ∧ Vf.FqAt H f v ∧ f.Short ∧ (f.isFn = true → ∀ H', Same H H' → Q .non H') ∧ (f.isFn = false → ∀ H', Same H H' → E (.ref A.c_InvalidFunction) none H')
theorem len__check_function {K : PySem.W.Frag} {A : Ad} (vs : List V) (H : Hp) (Q : VK) (E : XK) (h : sp__check_function K A vs H Q E) : vs.length = ["function"].length := by
  obtain ⟨f, v, rfl, _⟩ := h
  rfl

section
variable {P : Program} {w : World} {K : PySem.W.Frag} {mg : Str → Option Value} {base : Heap}
set_option maxHeartbeats 4000000 in
theorem ok__check_function {A : Ad} (T : Txt P K mg A) : FnOk P w K mg base (L2.CX P w) 5 A.f__check_function A.d__check_function ["function"] (sp__check_function K A) := by
  have G_is_function := ok_is_function (P := P) (w := w) (base := base) T
  refine T.F__check_function.okX sc__check_function len__check_function (fun cdv Ar outer s H vs Q E hr h => ?_)
  have hu := hu_of hr
  obtain ⟨f, v, rfl, F, sh, q1, q2⟩ := h
  refine ⟨_, (pss_one (ps_if (pt_not (pt_val (pe_call G_is_function hr (by rfl) T.G_is_function T.F_is_function.kp T.B_is_function .nil pass0 (pa_cons (pv 0) pa_nil)))) (pss_one (ps_raise rfl (takes_of rfl rfl rfl rfl) (pmk_own PySem.F.excBase_ValueError T.x_InvalidFunction T.G_InvalidFunction T.k_InvalidFunction (raises_own T.b_InvalidFunction T.t_InvalidFunction) (by rfl)))) pss_nil)), ?_⟩
  refine ⟨_, rfl, f, v, rfl, F, sh, fun H1 s1 => ⟨_, rfl, Vf.ite_b (fun c => ?_) (fun c => ?_)⟩⟩
  · exact q2 (by simpa using c) H1 s1
  · exact q1 (by simpa using c) H1 s1
end

def sp__is_least (K : PySem.W.Frag) (A : Ad) : Sp := fun vs H Q _ => ∃ (t : Addr) (xs : List V) (ts : List (Str × Int)) (b : Int), vs = [.ref t, .int b] ∧ H t = some (.tup xs) ∧ Vf.Tups Vf.encSI H xs ts ∧ ts.length ≤ 2000 ∧ (∀ p ∈ ts, p.1.length ≤ 1000000) ∧ ∀ H', Same H H' → Q (.bl (Vf.okLeast ts b)) H'
theorem len__is_least {K : PySem.W.Frag} {A : Ad} (vs : List V) (H : Hp) (Q : VK) (E : XK) (h : sp__is_least K A vs H Q E) : vs.length = ["terms", "bound"].length := by
  obtain ⟨t, xs, ts, lo, rfl, _⟩ := h
  rfl

section
variable {P : Program} {w : World} {K : PySem.W.Frag} {mg : Str → Option Value} {base : Heap}
set_option maxHeartbeats 4000000 in
theorem ok__is_least {A : Ad} (T : Txt P K mg A) : FnOk P w K mg base CX0 4 A.f__is_least A.d__is_least ["terms", "bound"] (sp__is_least K A) := by
  have G_are_terms := ok_are_terms (P := P) (w := w) (base := base) T
  obtain ⟨_, v_GREATEST_NUMBER⟩ := T.V_GREATEST_NUMBER
  refine T.F__is_least.ok sc__is_least len__is_least (fun cdv Ar outer s H vs Q E hr h => ?_)
  have hu := hu_of hr
  obtain ⟨t, xs, ts, b, rfl, ht, tt, tl, nl, q⟩ := h
  refine ⟨_, (pss_one (ps_ret (pe_and (pe_call G_are_terms hr (by rfl) T.G_are_terms T.F_are_terms.kp T.B_are_terms .nil pass0 (pa_cons (pv 0) (pa_cons (pe_un un_neg (pe_glob (v := .int 20) rfl v_GREATEST_NUMBER ⟨_, rfl⟩)) (pa_cons (pe_glob (v := .int 20) rfl v_GREATEST_NUMBER ⟨_, rfl⟩) pa_nil)))) (pe_one (pe_chain op_le op_le (pe_un un_neg (pe_glob (v := .int 20) rfl v_GREATEST_NUMBER ⟨_, rfl⟩)) (pv 1) (pe_glob (v := .int 20) rfl v_GREATEST_NUMBER ⟨_, rfl⟩)))))), ?_⟩
  refine ⟨_, rfl, _, rfl, t, xs, ts, -20, 20, rfl, ht, tt, tl, nl, fun H1 s1 => ⟨_, rfl, Vf.ite_b (fun c => ?_) (fun c => ?_)⟩⟩
  rotate_left
  · have e : Vf.okLeast ts b = false := by unfold Vf.okLeast; rw [c]; rfl
    rw [e] at q
    exact q H1 s1
  refine ⟨_, rfl, _, rfl, _, _, rfl, rfl, _, rfl, Vf.ite_d (fun c1 => ?_) (fun c1 => ?_)⟩
  · refine ⟨_, _, rfl, rfl, ?_⟩
    have e : Vf.okLeast ts b = decide (b ≤ 20) := by
      unfold Vf.okLeast
      rw [c, Bool.true_and, decide_eq_decide]
      exact ⟨fun h => h.2, fun h => ⟨c1, h⟩⟩
    rw [e] at q
    exact q H1 s1
  · have e : Vf.okLeast ts b = false := by
      unfold Vf.okLeast
      rw [c, Bool.true_and]
      exact decide_eq_false fun h => c1 h.1
    rw [e] at q
    exact q H1 s1
end

def sp__is_rest (K : PySem.W.Frag) (A : Ad) : Sp := fun vs H Q _ => ∃ (t : Addr) (xs : List V) (ts : List (Str × Int)) (r m : Int), vs = [.ref t, .int r, .int m] ∧ H t = some (.tup xs) ∧ Vf.Tups Vf.encSI H xs ts ∧ ts.length ≤ 2000 ∧ (∀ p ∈ ts, p.1.length ≤ 1000000) ∧ ∀ H', Same H H' → Q (.bl (Vf.okRest ts r m)) H'
theorem len__is_rest {K : PySem.W.Frag} {A : Ad} (vs : List V) (H : Hp) (Q : VK) (E : XK) (h : sp__is_rest K A vs H Q E) : vs.length = ["terms", "rest", "modulus"].length := by
  obtain ⟨t, xs, ts, lo, hi, rfl, _⟩ := h
  rfl

section
variable {P : Program} {w : World} {K : PySem.W.Frag} {mg : Str → Option Value} {base : Heap}
set_option maxHeartbeats 4000000 in
theorem ok__is_rest {A : Ad} (T : Txt P K mg A) : FnOk P w K mg base CX0 4 A.f__is_rest A.d__is_rest ["terms", "rest", "modulus"] (sp__is_rest K A) := by
  have G_are_terms := ok_are_terms (P := P) (w := w) (base := base) T
  obtain ⟨_, v_GREATEST_MODULUS⟩ := T.V_GREATEST_MODULUS
  obtain ⟨_, v_GREATEST_NUMBER⟩ := T.V_GREATEST_NUMBER
  obtain ⟨_, v_LEAST_MODULUS⟩ := T.V_LEAST_MODULUS
  refine T.F__is_rest.ok sc__is_rest len__is_rest (fun cdv Ar outer s H vs Q E hr h => ?_)
  have hu := hu_of hr
  obtain ⟨t, xs, ts, r, m, rfl, ht, tt, tl, nl, q⟩ := h
  refine ⟨_, (pss_one (ps_ret (pe_and (pe_call G_are_terms hr (by rfl) T.G_are_terms T.F_are_terms.kp T.B_are_terms .nil pass0 (pa_cons (pv 0) (pa_cons (pe_un un_neg (pe_glob (v := .int 20) rfl v_GREATEST_NUMBER ⟨_, rfl⟩)) (pa_cons (pe_glob (v := .int 20) rfl v_GREATEST_NUMBER ⟨_, rfl⟩) pa_nil)))) (pe_and (pe_chain op_le op_le (pe_glob (v := .int 2) rfl v_LEAST_MODULUS ⟨_, rfl⟩) (pv 2) (pe_glob (v := .int 20) rfl v_GREATEST_MODULUS ⟨_, rfl⟩)) (pe_one (pe_chain op_le op_lt pe_int (pv 1) (pv 2))))))), ?_⟩
  have no : ∀ {H'}, Same H H' → (Vf.okTerms ts (-20) 20 = true → ¬ ((2 ≤ m ∧ m ≤ 20) ∧ 0 ≤ r ∧ r < m)) → Q (.bl false) H' := fun s h => by
    have e : Vf.okRest ts r m = false := by
      unfold Vf.okRest
      cases c : Vf.okTerms ts (-20) 20 with
      | false => rfl
      | true => exact decide_eq_false (h c)
    rw [e] at q
    exact q _ s
  refine ⟨_, rfl, _, rfl, t, xs, ts, -20, 20, rfl, ht, tt, tl, nl, fun H1 s1 => ⟨_, rfl, Vf.ite_b (fun c => ?_) (fun c => no s1 fun h => by rw [c] at h; cases h)⟩⟩
  have chain : ∀ (k : Bool), (k = true ↔ (2 ≤ m ∧ m ≤ 20)) → (if k = true then tChain (rI0 fun i j => V.bl (decide (i ≤ j))) (rI0 fun i j => V.bl (decide (i < j))) (tC (V.int 0)) (tVar 1) (tVar 2) [some (.ref t), some (.int r), some (.int m)] H1 Q else Q (.bl false) H1) := fun k hk => by
    refine Vf.ite_b (fun c1 => ?_) (fun c1 => no s1 fun _ h => by rw [hk.mpr h.1] at c1; cases c1)
    refine ⟨_, rfl, _, _, rfl, rfl, _, rfl, Vf.ite_d (fun c2 => ?_) (fun c2 => no s1 fun _ h => c2 h.2.1)⟩
    refine ⟨_, rfl, _, _, rfl, rfl, ?_⟩
    have e : Vf.okRest ts r m = decide (r < m) := by
      unfold Vf.okRest
      rw [c, Bool.true_and, decide_eq_decide]
      exact ⟨fun h => h.2.2, fun h => ⟨hk.mp c1, c2, h⟩⟩
    rw [e] at q
    exact q H1 s1
  refine ⟨_, rfl, _, _, rfl, rfl, _, rfl, Vf.ite_d (fun c1 => ?_) (fun c1 => ?_)⟩
  · refine ⟨_, _, rfl, rfl, _, rfl, ?_⟩
    exact chain _ (by rw [decide_eq_true_eq]; exact ⟨fun h => ⟨c1, h⟩, fun h => h.2⟩)
  · exact ⟨_, rfl, chain false ⟨fun h => (nomatch h), fun h => absurd h.1 c1⟩⟩
end

def sp__parts (K : PySem.W.Frag) (A : Ad) : Sp := fun vs H Q _ => ∃ (f : Vf.Fm) (v : V), vs = [v] ∧ Vf.FmK K H f v ∧ ∀ (p : Addr) (xs : List V) (H' : Hp), Same H H' → H' p = some (.tup xs) → Vf.FmsK K H' xs f.parts → Q (.ref p) H'
theorem len__parts {K : PySem.W.Frag} {A : Ad} (vs : List V) (H : Hp) (Q : VK) (E : XK) (h : sp__parts K A vs H Q E) : vs.length = ["formula"].length := by
  obtain ⟨f, v, rfl, _⟩ := h
  rfl

section
variable {P : Program} {w : World} {K : PySem.W.Frag} {mg : Str → Option Value} {base : Heap}
set_option maxHeartbeats 4000000 in
theorem ok__parts {A : Ad} (T : Txt P K mg A) : FnOk P w K mg base CX0 1 A.f__parts A.d__parts ["formula"] (sp__parts K A) := by
  refine T.F__parts.ok sc__parts len__parts (fun cdv Ar outer s H vs Q E hr h => ?_)
  have hu := hu_of hr
  obtain ⟨f, v, rfl, F, q⟩ := h
  obtain ⟨a, xs, rfl, ha, xl, hp⟩ := F.head
  refine ⟨_, (pss_cons (ps_if (pt_cmpR op_in_seq (pe_ix ix_tup (pv 0) pe_int (fun _ _ => rfl)) (pe_tup (pa_cons pe_str (pa_cons pe_str (pa_cons pe_str pa_nil)))) (by rfl)) (pss_one (ps_ret (pe_slice sl_tup (pv 0) (po_some pe_int) po_none))) pss_nil)
      (pss_one (ps_ret (pe_tup pa_nil)))), ?_⟩
  refine ⟨_, rfl, a, _, 0, .str f.word, rfl, rfl, ha, atI_nat (j := 0) rfl, (by show 3 ≤ sizeLine; decide), fun t nt => ?_⟩
  have s1 := Vf.Same.new (o := .tup ((["not", "and", "or"] : List Str).map V.str)) (Same.refl H) nt
  refine ⟨t, (["not", "and", "or"] : List Str).map V.str, rfl, .inr (SqT.of upd_same), rfl, Vf.flat_str _, ?_⟩
  rw [Vf.inV_str]
  refine ⟨_, rfl, Vf.ite_b (fun c => ?_) (fun c => ?_)⟩
  · have m : f.word ∈ (["not", "and", "or"] : List Str) := by simpa using c
    obtain ⟨P, ne⟩ := hp m
    refine ⟨_, rfl, 1, rfl, a, _, rfl, (Vf.sqT_same s1 ha), ?_, fun p hp => ?_⟩
    · rintro ⟨h, _⟩
      have : 0 < (V.str f.word :: xs).length := by simp
      simp [HT.sIx] at h
    · have ec : cutV (V.str f.word :: xs) (some 1) none = xs := Vf.cut_from _ 1 (by simp)
      rw [ec]
      have s2 := Vf.Same.new (o := .tup xs) s1 hp
      exact q p _ _ s2 upd_same (P.same s2)
  · have m : f.word ∉ (["not", "and", "or"] : List Str) := by simpa using c
    refine ⟨(by show 0 ≤ sizeLine; decide), fun p hp => ?_⟩
    refine q p [] _ (Vf.Same.new s1 hp) upd_same ?_
    rw [Vf.Fm.leaf m]
    exact ⟨rfl, fun i g e => by simp at e⟩
end

def sp__is_sound (K : PySem.W.Frag) (A : Ad) (n : Nat) : Sp := fun vs H Q _ => ∃ (f : Vf.Fm) (v : V) (k : Nat), vs = [v, .int k] ∧ Vf.FmK K H f v ∧ f.Short ∧ k + 1 ≤ n ∧ ∀ H', Same H H' → Q (.bl (f.sound k)) H'
theorem len__is_sound {K : PySem.W.Frag} {A : Ad} {n : Nat} (vs : List V) (H : Hp) (Q : VK) (E : XK) (h : sp__is_sound K A n vs H Q E) : vs.length = ["formula", "room"].length := by
  obtain ⟨f, v, k, rfl, _⟩ := h
  rfl
theorem no__is_sound {K : PySem.W.Frag} {A : Ad} {vs : List V} {H : Hp} {Q : VK} {E : XK} (h : sp__is_sound K A 0 vs H Q E) : False := by
  obtain ⟨f, v, k, _, _, _, d, _⟩ := h
  omega

section
variable {P : Program} {w : World} {K : PySem.W.Frag} {mg : Str → Option Value} {base : Heap}
set_option maxHeartbeats 4000000 in
theorem ok__is_sound {A : Ad} (T : Txt P K mg A) (n : Nat) : FnOk P w K mg base CX0 (4 + n) A.f__is_sound A.d__is_sound ["formula", "room"] (sp__is_sound K A n) := by
  have G__is_least := ok__is_least (P := P) (w := w) (base := base) T
  have G__is_rest := ok__is_rest (P := P) (w := w) (base := base) T
  have G__parts := ok__parts (P := P) (w := w) (base := base) T
  induction n with
  | zero => exact ⟨fun _ _ _ _ h => (no__is_sound h).elim, fun _ _ _ _ _ _ _ _ _ _ _ _ _ h => (no__is_sound h).elim⟩
  | succ n G__is_sound =>
  refine T.F__is_sound.ok sc__is_sound len__is_sound (fun cdv Ar outer s H vs Q E hr h => ?_)
  have hu := hu_of hr
  obtain ⟨f, v, k, rfl, F, sh, kn, q⟩ := h
  obtain ⟨a, ys, rfl, ha, yl, hp⟩ := F.head
  refine ⟨_, (pss_cons (ps_if (pt_cmpR op_eq (pv 1) pe_int (nomark _)) (pss_one (ps_ret pe_bl)) pss_nil)
      (pss_cons (ps_if (pt_cmpR op_eq (pe_ix ix_tup (pv 0) pe_int (fun _ _ => rfl)) pe_str (nomark _)) (pss_one (ps_ret (pe_call G__is_least (hr.mono (j := 4) (Nat.le_trans (by decide) (Nat.le_add_right 4 n))) (by rfl) T.G__is_least T.F__is_least.kp T.B__is_least .nil pass0 (pa_cons (pe_ix ix_tup (pv 0) pe_int (fun _ _ => rfl)) (pa_cons (pe_ix ix_tup (pv 0) pe_int (fun _ _ => rfl)) pa_nil))))) pss_nil)
      (pss_cons (ps_if (pt_cmpR op_eq (pe_ix ix_tup (pv 0) pe_int (fun _ _ => rfl)) pe_str (nomark _)) (pss_one (ps_ret (pe_call G__is_rest (hr.mono (j := 4) (Nat.le_trans (by decide) (Nat.le_add_right 4 n))) (by rfl) T.G__is_rest T.F__is_rest.kp T.B__is_rest .nil pass0 (pa_cons (pe_ix ix_tup (pv 0) pe_int (fun _ _ => rfl)) (pa_cons (pe_ix ix_tup (pv 0) pe_int (fun _ _ => rfl)) (pa_cons (pe_ix ix_tup (pv 0) pe_int (fun _ _ => rfl)) pa_nil)))))) pss_nil)
      (pss_one (ps_ret (pe_callB (cr_all rfl) (by rfl) T.N_all (by decide +kernel) (pa_cons (pe_lc (own := [("part", 2)]) (g := (gName 2)) (tt := tYes) rfl sc__is_sound.nd (pi_tup (pe_call G__parts (hr.mono (j := 1) (Nat.le_trans (by decide) (Nat.le_add_right 4 n))) (by rfl) T.G__parts T.F__parts.kp T.B__parts .nil pass0 (pa_cons (pv 0) pa_nil))) (blkOk_by (N := ["formula", "room", "part"]) (sc := defScope s__is_sound) (by decide +kernel)) (fun _ _ _ _ _ => (pg_name (i := 2) sc__is_sound.nd rfl (Or.inl rfl))) (fun _ _ _ _ _ => pts_nil) (fun _ _ _ _ _ => (pe_call G__is_sound hr (by rfl) T.G__is_sound T.F__is_sound.kp T.B__is_sound .nil pass0 (pa_cons (pv 2) (pa_cons (pe_op op_sub (pv 1) pe_int) pa_nil))))) pa_nil))))))), ?_⟩
  refine ⟨_, rfl, rfl, _, rfl, Vf.ite_d (fun c => ?_) (fun c => ?_)⟩
  · have : k = 0 := by have := V.int.inj c; omega
    subst this
    have e : f.sound 0 = false := by cases f <;> rfl
    rw [e] at q
    exact q H (Same.refl H)
  obtain ⟨j, rfl⟩ : ∃ j, k = j + 1 := ⟨k - 1, by
    have : k ≠ 0 := fun e => c (by rw [e]; rfl)
    omega⟩
  refine ⟨_, rfl, a, _, 0, .str f.word, rfl, rfl, ha, atI_nat (j := 0) rfl, rfl, _, rfl, Vf.ite_d (fun c1 => ?_) (fun c1 => ?_)⟩
  · have w : f.word = "least" := V.str.inj c1
    obtain ⟨a', t, xs, ts, b, ef, e, h1, h2, tt⟩ := F.isLeast w
    cases e
    subst ef
    refine ⟨_, rfl, a, _, 1, .ref t, rfl, rfl, h1, atI_nat (j := 1) rfl, _, rfl, a, _, 2, .int b, rfl, rfl, h1, atI_nat (j := 2) rfl, t, xs, ts, b, rfl, h2, tt, sh.few, sh.nm, q⟩
  refine ⟨_, rfl, a, _, 0, .str f.word, rfl, rfl, ha, atI_nat (j := 0) rfl, rfl, _, rfl, Vf.ite_d (fun c2 => ?_) (fun c2 => ?_)⟩
  · have w : f.word = "rest" := V.str.inj c2
    obtain ⟨a', t, xs, ts, r, m, ef, e, h1, h2, tt⟩ := F.isRest w
    cases e
    subst ef
    refine ⟨_, rfl, a, _, 1, .ref t, rfl, rfl, h1, atI_nat (j := 1) rfl, _, rfl, a, _, 2, .int r, rfl, rfl, h1, atI_nat (j := 2) rfl, _, rfl, a, _, 3, .int m, rfl, rfl, h1, atI_nat (j := 3) rfl, t, xs, ts, r, m, rfl, h2, tt, sh.few, sh.nm, q⟩
  have es := Vf.Fm.sound_parts (f := f) (fun e => c1 (by rw [e])) (fun e => c2 (by rw [e])) j
  refine ⟨_, rfl, f, .ref a, rfl, F, fun p xs H1 s1 hp P => ?_⟩
  refine ⟨p, rfl, ⟨_, SqT.of hp⟩, fun C hC => ?_⟩
  have pl : f.parts.length ≤ 2 := by cases f <;> simp [Vf.Fm.parts]
  refine Vf.lc_val (walk_tup (K := K) (a := p) (xs := xs)) (fun i => .bl ((f.parts.map fun g => g.sound j).getD i false)) hC (by rw [P.1]; omega) (fun H2 s2 => SqT.of (s2 _ _ hp)) ?_ ?_
  · rintro i x H2 H3 hi s2 ⟨rfl, hx⟩ Q' q'
    obtain ⟨g, hg, G⟩ := P.get hx
    refine ⟨rfl, _, rfl, _, rfl, _, _, rfl, rfl, g, x, j, ?_, G.same s2, sh.part (List.mem_of_getElem? hg), by omega, fun H4 s4 => ?_⟩
    · show [x, V.int (((j + 1 : Nat) : Int) - 1)] = [x, V.int (j : Int)]
      rw [show ((j + 1 : Nat) : Int) - 1 = (j : Int) by omega]
    have e : (f.parts.map fun g => g.sound j).getD i false = g.sound j := by
      rw [List.getD_eq_getElem?_getD, List.getElem?_map, hg]
      rfl
    rw [e] at q'
    exact q' _ s4
  intro H2 s2 h2
  rw [Vf.range_map (f.parts.map fun g => g.sound j) V.bl false xs.length (by rw [List.length_map, P.1])] at h2
  refine ⟨C, _, rfl, SqL.of h2, ?_⟩
  rw [es] at q
  exact q H2 (s1.trans s2)
end

def sp__all_terms (K : PySem.W.Frag) (A : Ad) (n : Nat) : Sp := fun vs H Q _ => ∃ (f : Vf.Fm) (v : V), vs = [v] ∧ Vf.FmK K H f v ∧ f.depth ≤ n ∧ f.small ∧ ∀ (p : Addr) (xs : List V) (H' : Hp), Same H H' → H' p = some (.lst xs) → H p = none → Vf.Tups Vf.encSI H' xs f.terms → Q (.ref p) H'
theorem len__all_terms {K : PySem.W.Frag} {A : Ad} {n : Nat} (vs : List V) (H : Hp) (Q : VK) (E : XK) (h : sp__all_terms K A n vs H Q E) : vs.length = ["formula"].length := by
  obtain ⟨f, v, rfl, _⟩ := h
  rfl
theorem no__all_terms {K : PySem.W.Frag} {A : Ad} {vs : List V} {H : Hp} {Q : VK} {E : XK} (h : sp__all_terms K A 0 vs H Q E) : False := by
  obtain ⟨f, v, _, _, d, _⟩ := h
  have := f.depth_pos
  omega

section
variable {P : Program} {w : World} {K : PySem.W.Frag} {mg : Str → Option Value} {base : Heap}
set_option maxHeartbeats 4000000 in
theorem ok__all_terms {A : Ad} (T : Txt P K mg A) (n : Nat) : FnOk P w K mg base CX0 (1 + n) A.f__all_terms A.d__all_terms ["formula"] (sp__all_terms K A n) := by
  have G__parts := ok__parts (P := P) (w := w) (base := base) T
  induction n with
  | zero => exact ⟨fun _ _ _ _ h => (no__all_terms h).elim, fun _ _ _ _ _ _ _ _ _ _ _ _ _ h => (no__all_terms h).elim⟩
  | succ n G__all_terms =>
  refine T.F__all_terms.ok sc__all_terms len__all_terms (fun cdv Ar outer s H vs Q E hr h => ?_)
  have hu := hu_of hr
  obtain ⟨f, v, rfl, F, dn, sm, q⟩ := h
  obtain ⟨a, ys, rfl, ha, yl, hp⟩ := F.head
  refine ⟨_, (pss_cons (ps_if (pt_cmpR op_in_seq (pe_ix ix_tup (pv 0) pe_int (fun _ _ => rfl)) (pe_tup (pa_cons pe_str (pa_cons pe_str pa_nil))) (by rfl)) (pss_one (ps_ret (pe_callTy call_list_of (by rfl) T.N_list (by decide +kernel) (pa_cons (pe_ix ix_tup (pv 0) pe_int (fun _ _ => rfl)) pa_nil)))) pss_nil)
      (pss_one (ps_ret (pe_lc2 (own := [("part", 1), ("term", 2)]) (vs1 := [2]) (g := (gName 1)) (g1 := (gName 2)) (tt := tYes) (tt1 := tYes) rfl sc__all_terms.nd (pi_tup (pe_call G__parts (hr.mono (j := 1) (Nat.le_trans (by decide) (Nat.le_add_right 1 n))) (by rfl) T.G__parts T.F__parts.kp T.B__parts .nil pass0 (pa_cons (pv 0) pa_nil))) (blkOk_by (N := ["formula", "part", "term"]) (sc := defScope s__all_terms) (by decide +kernel)) (by decide) (fun _ _ _ _ _ => (pg_name (i := 1) sc__all_terms.nd rfl (Or.inl rfl))) (fun _ _ _ _ _ => pts_nil) (fun _ _ _ _ _ => (Vf.pi_listK (K := K) rfl (pe_call G__all_terms hr (by rfl) T.G__all_terms T.F__all_terms.kp T.B__all_terms .nil pass0 (pa_cons (pv 1) pa_nil)))) (fun _ _ _ _ _ => (pg_name (i := 2) sc__all_terms.nd rfl (Or.inl rfl))) (fun _ _ _ _ _ => pts_nil) (fun _ _ _ _ _ => (pv 2)))))), ?_⟩
  refine ⟨_, rfl, a, _, 0, .str f.word, rfl, rfl, ha, atI_nat (j := 0) rfl, (by show 2 ≤ sizeLine; decide), fun t nt => ?_⟩
  have s1 := Vf.Same.new (o := .tup ((["least", "rest"] : List Str).map V.str)) (Same.refl H) nt
  refine ⟨t, (["least", "rest"] : List Str).map V.str, rfl, .inr (SqT.of upd_same), rfl, Vf.flat_str _, ?_⟩
  rw [Vf.inV_str]
  refine ⟨_, rfl, Vf.ite_b (fun c => ?_) (fun c => ?_)⟩
  · have m : f.word ∈ (["least", "rest"] : List Str) := by simpa using c
    obtain ⟨a', u, r, xs, e, h1, h2, tt⟩ := F.leafT m
    cases e
    refine ⟨_, rfl, a, _, 1, .ref u, rfl, rfl, (Vf.sqT_same s1 h1), atI_nat (j := 1) rfl, u, xs, rfl, .inr (SqT.of (s1 _ _ h2)), fun p hp => ?_⟩
    exact q p xs _ (Vf.Same.new s1 hp) upd_same (s1.free hp) (tt.same (Vf.Same.new s1 hp))
  have m : f.word ∉ (["least", "rest"] : List Str) := by simpa using c
  have et := Vf.Fm.terms_parts m
  refine ⟨_, rfl, f, .ref a, rfl, F.same s1, fun p xs H1 s2 hp P => ?_⟩
  have pl : f.parts.length ≤ 2 := by cases f <;> simp [Vf.Fm.parts]
  have s01 := s1.trans s2
  refine ⟨p, rfl, ⟨_, SqT.of hp⟩, fun C hC => ?_⟩
  have tl : ∀ i, ((f.parts.take i).flatMap Vf.Fm.terms).length ≤ 4000 := fun i => by
    have h1 : ((f.parts.take i).flatMap Vf.Fm.terms).length ≤ (f.parts.flatMap Vf.Fm.terms).length := by
      conv => rhs; rw [← List.take_append_drop i f.parts]
      rw [List.flatMap_append, List.length_append]
      omega
    rw [← et] at h1
    exact Nat.le_trans h1 sm
  refine Vf.lc2_it (walk_tup (K := K) (a := p) (xs := xs)) (fun i H' => ∃ acc, H' C = some (.lst acc) ∧ Same H1 H' ∧ Vf.Tups Vf.encSI H' acc ((f.parts.take i).flatMap Vf.Fm.terms)) ⟨[], upd_same, Vf.Same.new (Same.refl H1) hC, Vf.Tups.nil⟩ (fun i H' _ ⟨_, _, s, _⟩ => SqT.of (s _ _ hp)) ?_ ?_
  · rintro i x Ha Hb hi ⟨acc, hc, sa, ta⟩ ⟨rfl, hx⟩
    obtain ⟨g, hg, G⟩ := P.get hx
    have gd := Vf.Fm.parts_depth (List.mem_of_getElem? hg)
    have tk : (f.parts.take (i + 1)).flatMap Vf.Fm.terms = (f.parts.take i).flatMap Vf.Fm.terms ++ g.terms := by
      rw [Vf.take_snoc hg, List.flatMap_append]
      simp
    have tl1 := tl (i + 1)
    rw [tk, List.length_append] at tl1
    refine ⟨rfl, Vf.tyes ?_⟩
    refine ⟨_, rfl, g, x, rfl, G.same sa, by omega, Vf.Fm.small_part sm (List.mem_of_getElem? hg), fun u xu Hq sq hu nu tu => ?_⟩
    have hcq := sq _ _ hc
    have uC : u ≠ C := fun e => by rw [e, hc] at nu; cases nu
    have e0 : Same (Vf.Er C Hq) Hq := fun x o h => (Vf.er_some h).2
    have G_u : Vf.Er C Hq u = _ := (if_neg uC).trans hu
    have G_H := Vf.er_same hC (sa.trans sq)
    have Tu := Vf.Tups.er hcq tu
    have Ta := Vf.Tups.er hcq (ta.same sq)
    refine ⟨u, rfl, ⟨_, SqL.of hu⟩, Vf.lc_in (walk_list (K := K) (a := u) (xs := xu)) (fun j H' => ∃ zs : List V, H' C = some (.lst zs) ∧ Same (Vf.Er C Hq) H' ∧ Vf.Tups Vf.encSI (Vf.Er C Hq) zs ((f.parts.take i).flatMap Vf.Fm.terms ++ g.terms.take j)) ⟨acc, hcq, e0, by simpa using Ta⟩ (fun j H' _ ⟨_, _, s, _⟩ => SqL.of (s _ _ G_u)) ?_ ?_⟩
    · rintro j y Hx Hy hj ⟨zs, hz, sz, tz⟩ ⟨rfl, hy⟩
      obtain ⟨pr, tt, epr, rfl, htt⟩ := Tu.get hy
      refine ⟨rfl, Vf.tyes ?_⟩
      have zl := tz.1
      rw [List.length_append, List.length_take] at zl
      refine ⟨_, rfl, zs, hz, Nat.lt_of_le_of_lt (show zs.length ≤ 4000 by omega) (by decide), zs ++ [.ref tt], upd_same, Vf.Same.chg sz Vf.er_self, ?_⟩
      rw [Vf.take_snoc epr, ← List.append_assoc]
      exact tz.snoc htt
    · rintro Hx ⟨zs, hz, sz, tz⟩
      rw [Tu.1, List.take_length] at tz
      refine ⟨zs, hz, G_H.trans sz, ?_⟩
      rw [tk]
      exact tz.same sz
  · rintro Ha ⟨acc, hc, sa, ta⟩
    rw [P.1, List.take_length, ← et] at ta
    exact q C acc Ha (s01.trans sa) hc (s01.free hC) ta
end

def sp_variables (K : PySem.W.Frag) (A : Ad) : Sp := fun vs H Q _ => ∃ (f : Vf.Fm) (v : V), vs = [v] ∧ Vf.FmK K H f v ∧ f.depth ≤ 20 ∧ f.small ∧ ∀ (p : Addr) (ls : List Str) (H' : Hp), Same H H' → H' p = some (.lst (ls.map V.str)) → Vf.VarsOf f ls → Q (.ref p) H'
theorem len_variables {K : PySem.W.Frag} {A : Ad} (vs : List V) (H : Hp) (Q : VK) (E : XK) (h : sp_variables K A vs H Q E) : vs.length = ["formula"].length := by
  obtain ⟨f, v, rfl, _⟩ := h
  rfl

section
variable {P : Program} {w : World} {K : PySem.W.Frag} {mg : Str → Option Value} {base : Heap}
set_option maxHeartbeats 4000000 in
theorem ok_variables {A : Ad} (T : Txt P K mg A) : FnOk P w K mg base CX0 22 A.f_variables A.d_variables ["formula"] (sp_variables K A) := by
  have G__all_terms := ok__all_terms (P := P) (w := w) (base := base) T 20
  refine T.F_variables.ok sc_variables len_variables (fun cdv Ar outer s H vs Q E hr h => ?_)
  have hu := hu_of hr
  obtain ⟨f, v, rfl, F, dn, sm, q⟩ := h
  refine ⟨_, (pss_one (ps_ret (pe_callB (Vf.cr_sortT rfl (by exact hr.units)) (by rfl) T.N_sorted (by decide +kernel) (pa_cons (Vf.pe_scT (own := [("name", 1), ("_", 2)]) (g := (gTup K 2 (gCons (gName 1) (gCons (gName 2) gNil)))) (tt := tYes) rfl sc_variables.nd (pi_list (pe_call G__all_terms hr (by rfl) T.G__all_terms T.F__all_terms.kp T.B__all_terms .nil pass0 (pa_cons (pv 0) pa_nil))) (blkOk_by (N := ["formula", "name", "_"]) (sc := defScope s_variables) (by decide +kernel)) (fun _ _ _ _ _ => (pg_tup (by rfl) (pgs_cons (pg_name (i := 1) sc_variables.nd rfl (Or.inl rfl)) (pgs_cons (pg_name (i := 2) sc_variables.nd rfl (Or.inl rfl)) pgs_nil)))) (fun _ _ _ _ _ => pts_nil) (fun _ _ _ _ _ => (pv 1))) pa_nil)))), ?_⟩
  refine ⟨_, rfl, f, v, rfl, F, dn, sm, fun u xu H1 s1 hu nu tu => ?_⟩
  refine ⟨u, rfl, ⟨_, SqL.of hu⟩, fun C hC => ?_⟩
  have nl : f.terms.length ≤ 4000 := sm
  refine Vf.sc_it (walk_list (K := K) (a := u) (xs := xu)) (fun i H' => ∃ l : List Str, H' C = some (Vf.SetT P w C l) ∧ Same H1 H' ∧ l.Nodup ∧ l.length ≤ i ∧ ∀ x, x ∈ l ↔ x ∈ (f.terms.take i).map Prod.fst) ⟨[], upd_same, Vf.Same.new (Same.refl H1) hC, List.nodup_nil, Nat.le_refl _, fun x => by simp⟩ (fun i H' _ ⟨_, _, s, _⟩ => SqL.of (s _ _ hu)) ?_ ?_
  · rintro i x Ha Hb hi ⟨l, hc, sa, nd, ll, lm⟩ ⟨rfl, hx⟩
    obtain ⟨pr, t, epr, rfl, ht⟩ := tu.get hx
    rw [tu.1] at hi
    refine ⟨t, _, rfl, SqT.of (sa _ _ ht), rfl, _, _, rfl, _, _, rfl, rfl, rfl, Vf.tyes ?_⟩
    refine ⟨_, rfl, l, _, hc, ⟨pr.1, rfl, by unfold scanBound; omega, rfl⟩, ?_⟩
    refine ⟨_, upd_same, Vf.Same.chg sa hC, ?_, ?_, fun x => ?_⟩
    · split
      · exact nd
      · rename_i c
        exact List.nodup_cons.mpr ⟨c, nd⟩
    · split
      · omega
      · rw [List.length_cons]; omega
    · rw [Vf.take_snoc epr, List.map_append, List.mem_append, ← lm x]
      split
      · rename_i c
        refine ⟨.inl, fun e => e.elim id fun e => ?_⟩
        have : x = pr.1 := by simpa using e
        rw [this]
        exact c
      · rw [List.mem_cons]
        constructor
        · rintro (e | e)
          · exact .inr (by rw [e]; simp)
          · exact .inl e
        · rintro (e | e)
          · exact .inr e
          · exact .inl (by simpa using e)
  · rintro Ha ⟨l, hc, sa, nd, ll, lm⟩
    rw [tu.1] at ll lm
    rw [List.take_length] at lm
    refine ⟨C, l, rfl, hc, by unfold scanBound; omega, fun ls p hp pm pw => ?_⟩
    refine q p ls _ (Vf.Same.new (s1.trans sa) hp) upd_same ⟨pm.nodup_iff.mpr nd, fun x => ?_, pw⟩
    rw [pm.mem_iff, lm x]
end

def sp_is_formula (K : PySem.W.Frag) (A : Ad) : Sp := fun vs H Q _ => ∃ (f : Vf.Fm) (v : V), vs = [v] ∧ Vf.FmK K H f v ∧ f.Short ∧ f.depth ≤ 20 ∧ ∀ H', Same H H' → Q (.bl f.isF) H'
theorem len_is_formula {K : PySem.W.Frag} {A : Ad} (vs : List V) (H : Hp) (Q : VK) (E : XK) (h : sp_is_formula K A vs H Q E) : vs.length = ["formula"].length := by
  obtain ⟨f, v, rfl, _⟩ := h
  rfl

section
variable {P : Program} {w : World} {K : PySem.W.Frag} {mg : Str → Option Value} {base : Heap}
set_option maxHeartbeats 4000000 in
theorem ok_is_formula {A : Ad} (T : Txt P K mg A) : FnOk P w K mg base CX0 25 A.f_is_formula A.d_is_formula ["formula"] (sp_is_formula K A) := by
  have G__is_sound := ok__is_sound (P := P) (w := w) (base := base) T 20
  have G_variables := ok_variables (P := P) (w := w) (base := base) T
  obtain ⟨_, v_GREATEST_DEPTH⟩ := T.V_GREATEST_DEPTH
  obtain ⟨_, v_MOST_VARIABLES⟩ := T.V_MOST_VARIABLES
  refine T.F_is_formula.ok sc_is_formula len_is_formula (fun cdv Ar outer s H vs Q E hr h => ?_)
  have hu := hu_of hr
  obtain ⟨f, v, rfl, F, sh, dn, q⟩ := h
  refine ⟨_, (pss_one (ps_ret (pe_and (pe_call G__is_sound hr (by rfl) T.G__is_sound T.F__is_sound.kp T.B__is_sound .nil pass0 (pa_cons (pv 0) (pa_cons (pe_glob (v := .int 8) rfl v_GREATEST_DEPTH ⟨_, rfl⟩) pa_nil))) (pe_one (pe_cmpR op_le (pe_callB call_len_seq (by rfl) T.N_len PySem.boot_len (pa_cons (pe_call G_variables (hr.mono (by decide)) (by rfl) T.G_variables T.F_variables.kp T.B_variables .nil pass0 (pa_cons (pv 0) pa_nil)) pa_nil)) (pe_glob (v := .int 8) rfl v_MOST_VARIABLES ⟨_, rfl⟩) (nomark _)))))), ?_⟩
  refine ⟨_, rfl, f, v, 8, rfl, F, sh, by decide, fun H1 s1 => ⟨_, rfl, Vf.ite_b (fun c => ?_) (fun c => ?_)⟩⟩
  rotate_left
  · have e : f.isF = false := by unfold Vf.Fm.isF; rw [c]; rfl
    rw [e] at q
    exact q H1 s1
  refine ⟨_, rfl, f, v, rfl, F.same s1, dn, sh.small, fun p ls H2 s2 hp vo => ?_⟩
  refine ⟨p, _, rfl, .inl (SqL.of hp), _, _, rfl, rfl, ?_⟩
  have e : f.isF = decide (((ls.map V.str).length : Int) ≤ 8) := by
    unfold Vf.Fm.isF
    rw [c, vo.few, Bool.true_and, decide_eq_decide, List.length_map]
    omega
  rw [e] at q
  exact q H2 (s1.trans s2)
end

def sp_checked (K : PySem.W.Frag) (A : Ad) : Sp := fun vs H Q E => ∃ (f : Vf.Fm) (v : V), vs = [v] ∧ Vf.FmK K H f v ∧ f.Short ∧ f.depth ≤ 20 ∧ (f.isF = true → ∀ H', Same H H' → Q v H') ∧ (f.isF = false → ∀ H', Same H H' → E (.ref A.c_InvalidFormula) none H')
theorem len_checked {K : PySem.W.Frag} {A : Ad} (vs : List V) (H : Hp) (Q : VK) (E : XK) (h : sp_checked K A vs H Q E) : vs.length = ["formula"].length := by
  obtain ⟨f, v, rfl, _⟩ := h
  rfl

section
variable {P : Program} {w : World} {K : PySem.W.Frag} {mg : Str → Option Value} {base : Heap}
set_option maxHeartbeats 4000000 in
theorem ok_checked {A : Ad} (T : Txt P K mg A) : FnOk P w K mg base (L2.CX P w) 26 A.f_checked A.d_checked ["formula"] (sp_checked K A) := by
  have G_is_formula := ok_is_formula (P := P) (w := w) (base := base) T
  refine T.F_checked.okX sc_checked len_checked (fun cdv Ar outer s H vs Q E hr h => ?_)
  have hu := hu_of hr
  obtain ⟨f, v, rfl, F, sh, dn, q1, q2⟩ := h
  refine ⟨_, (pss_cons (ps_if (pt_not (pt_val (pe_call G_is_formula hr (by rfl) T.G_is_formula T.F_is_formula.kp T.B_is_formula .nil pass0 (pa_cons (pv 0) pa_nil)))) (pss_one (ps_raise rfl (takes_of rfl rfl rfl rfl) (pmk_own PySem.F.excBase_ValueError T.x_InvalidFormula T.G_InvalidFormula T.k_InvalidFormula (raises_own T.b_InvalidFormula T.t_InvalidFormula) (by rfl)))) pss_nil)
      (pss_one (ps_ret (pv 0)))), ?_⟩
  refine ⟨_, rfl, f, v, rfl, F, sh, dn, fun H1 s1 => ⟨_, rfl, Vf.ite_b (fun c => ?_) (fun c => ?_)⟩⟩
  · exact q2 (by simpa using c) H1 s1
  · exact ⟨_, rfl, q1 (by simpa using c) H1 s1⟩
end

def sp__truth (K : PySem.W.Frag) (A : Ad) : Sp := fun vs H Q _ => ∃ b : Bool, vs = [.bl b] ∧ ∀ (v : V) (H' : Hp), Same H H' → Vf.FmK K H' (.tt b) v → Q v H'
theorem len__truth {K : PySem.W.Frag} {A : Ad} (vs : List V) (H : Hp) (Q : VK) (E : XK) (h : sp__truth K A vs H Q E) : vs.length = ["holds"].length := by
  obtain ⟨b, rfl, _⟩ := h
  rfl

section
variable {P : Program} {w : World} {K : PySem.W.Frag} {mg : Str → Option Value} {base : Heap}
set_option maxHeartbeats 4000000 in
theorem ok__truth {A : Ad} (T : Txt P K mg A) : FnOk P w K mg base CX0 1 A.f__truth A.d__truth ["holds"] (sp__truth K A) := by
  refine T.F__truth.ok sc__truth len__truth (fun cdv Ar outer s H vs Q E hr h => ?_)
  have hu := hu_of hr
  obtain ⟨b, rfl, q⟩ := h
  refine ⟨_, (pss_one (ps_ret (pe_ifExp (pt_val (pv 0)) (pe_tup (pa_cons pe_str pa_nil)) (pe_tup (pa_cons pe_str pa_nil))))), ?_⟩
  refine ⟨_, rfl, _, rfl, Vf.ite_b (fun c => ?_) (fun c => ?_)⟩
  · refine ⟨(by show 1 ≤ sizeLine; decide), fun t nt => ?_⟩
    rw [c] at q
    exact q (.ref t) _ (Vf.Same.new (Same.refl H) nt) ⟨t, rfl, SqT.of upd_same⟩
  · refine ⟨(by show 1 ≤ sizeLine; decide), fun t nt => ?_⟩
    rw [c] at q
    exact q (.ref t) _ (Vf.Same.new (Same.refl H) nt) ⟨t, rfl, SqT.of upd_same⟩
end

def sp_least_or_truth (K : PySem.W.Frag) (A : Ad) : Sp := fun vs H Q _ => ∃ (t : Addr) (xs : List V) (ts : List (Str × Int)) (b : Int), vs = [.ref t, .int b] ∧ H t = some (.tup xs) ∧ Vf.Tups Vf.encSI H xs ts ∧ ∀ (v : V) (H' : Hp), Same H H' → Vf.FmK K H' (Vf.lotF ts b) v → Q v H'
theorem len_least_or_truth {K : PySem.W.Frag} {A : Ad} (vs : List V) (H : Hp) (Q : VK) (E : XK) (h : sp_least_or_truth K A vs H Q E) : vs.length = ["terms", "bound"].length := by
  obtain ⟨b, c, d, e, rfl, _⟩ := h
  rfl

section
variable {P : Program} {w : World} {K : PySem.W.Frag} {mg : Str → Option Value} {base : Heap}
set_option maxHeartbeats 4000000 in
theorem ok_least_or_truth {A : Ad} (T : Txt P K mg A) : FnOk P w K mg base CX0 2 A.f_least_or_truth A.d_least_or_truth ["terms", "bound"] (sp_least_or_truth K A) := by
  have G__truth := ok__truth (P := P) (w := w) (base := base) T
  refine T.F_least_or_truth.ok sc_least_or_truth len_least_or_truth (fun cdv Ar outer s H vs Q E hr h => ?_)
  have hu := hu_of hr
  obtain ⟨t, xs, ts, b, rfl, ht, tt, q⟩ := h
  refine ⟨_, (pss_one (ps_ret (pe_ifExp (pt_truth (pv 0) (by intro _; rfl)) (pe_tup (pa_cons pe_str (pa_cons (pv 0) (pa_cons (pv 1) pa_nil)))) (pe_call G__truth hr (by rfl) T.G__truth T.F__truth.kp T.B__truth .nil pass0 (pa_cons (pe_cmpR op_ge pe_int (pv 1) (nomark _)) pa_nil))))), ?_⟩
  have xe : xs.isEmpty = ts.isEmpty := by
    have := tt.1
    rw [Bool.eq_iff_iff, List.isEmpty_iff_length_eq_zero, List.isEmpty_iff_length_eq_zero, this]
  refine ⟨_, rfl, !xs.isEmpty, .inr (.inl ⟨xs, SqT.of ht, rfl⟩), Vf.ite_b (fun c => ?_) (fun c => ?_)⟩
  · refine ⟨_, rfl, _, rfl, (by show 3 ≤ sizeLine; decide), fun u nu => ?_⟩
    have s1 := Vf.Same.new (o := .tup [.str ("least" : Str), .ref t, .int b]) (Same.refl H) nu
    refine q (.ref u) _ s1 ?_
    unfold Vf.lotF
    rw [← xe, show xs.isEmpty = false by simpa using c]
    exact ⟨u, t, xs, rfl, SqT.of upd_same, s1 _ _ ht, tt.same s1⟩
  · refine ⟨_, rfl, _, _, rfl, rfl, _, rfl, fun v' H' s F => q v' _ s ?_⟩
    unfold Vf.lotF
    rw [← xe, show xs.isEmpty = true by simpa using c]
    exact F
end

def sp_added_up (K : PySem.W.Frag) (A : Ad) : Sp := fun vs H Q _ => ∃ (a : Addr) (xs : List V) (ts : List (Str × Int)), vs = [.ref a] ∧ SqL K H a xs ∧ Vf.Tups Vf.encSI H xs ts ∧ ts.length ≤ 4000 ∧ ∀ (t : Addr) (ys : List V) (us : List (Str × Int)) (H' : Hp), Same H H' → H' t = some (.tup ys) → Vf.Tups Vf.encSI H' ys us → Vf.AddT ts us → Q (.ref t) H'
theorem len_added_up {K : PySem.W.Frag} {A : Ad} (vs : List V) (H : Hp) (Q : VK) (E : XK) (h : sp_added_up K A vs H Q E) : vs.length = ["terms"].length := by
  obtain ⟨b, c, d, rfl, _⟩ := h
  rfl

section
variable {P : Program} {w : World} {K : PySem.W.Frag} {mg : Str → Option Value} {base : Heap}
set_option maxHeartbeats 4000000 in
theorem ok_added_up {A : Ad} (T : Txt P K mg A) : FnOk P w K mg base CX0 1 A.f_added_up A.d_added_up ["terms"] (sp_added_up K A) := by
  refine T.F_added_up.ok sc_added_up len_added_up (fun cdv Ar outer s H vs Q E hr h => ?_)
  have hu := hu_of hr
  obtain ⟨a, xs, ts, rfl, ha, tt, tl, q⟩ := h
  refine ⟨_, (pss_cons (ps_set (i := 1) sc_added_up.nd rfl (Or.inr rfl) pe_dnewK)
      (pss_cons (ps_for PassesOwn.never rfl (pi_list (pv 0)) (pg_tup (by rfl) (pgs_cons (pg_name (i := 2) sc_added_up.nd rfl (Or.inl rfl)) (pgs_cons (pg_name (i := 3) sc_added_up.nd rfl (Or.inl rfl)) pgs_nil)))
        (pss_one (ps_dput hu (pv 1) (pv 2) (pe_op op_add (pe_dget2 (by exact hu) (pv 1) (pv 2) pe_int ⟨by rfl, by rfl, by rfl, by rfl⟩) (pv 3)) rfl)))
      (pss_one (ps_ret (pe_callTy call_tuple_of (by rfl) T.N_tuple (by decide +kernel) (pa_cons (pe_lc (own := [("name", 2)]) (g := (gName 2)) (tt := _) rfl sc_added_up.nd (pi_list (pe_callB (Vf.cr_sortDS rfl (by exact hr.units)) (by rfl) T.N_sorted (by decide +kernel) (pa_cons (pv 1) pa_nil))) (blkOk_by (N := ["terms", "factors", "name", "factor"]) (sc := defScope s_added_up) (by decide +kernel)) (fun _ _ _ _ _ => (pg_name (i := 2) sc_added_up.nd rfl (Or.inl rfl))) (fun _ _ _ _ _ => pts_one (pt_cmpR op_ne (pe_dget (by exact hu) (pv 1) (pv 2) (fun _ _ => rfl)) pe_int (nomark _))) (fun _ _ _ _ _ => (pe_tup (pa_cons (pv 2) (pa_cons (pe_dget (by exact hu) (pv 1) (pv 2) (fun _ _ => rfl)) pa_nil))))) pa_nil)))))), ?_⟩
  refine fun fd hfd => ?_
  have s0 := Vf.Same.new (o := .dK []) (Same.refl H) hfd
  dsimp only [gName]
  refine ⟨_, rfl, a, rfl, ⟨_, s0.seq ha⟩, ?_⟩
  refine for_list (K := K) (a := a) (xs := xs) (fun i σ H' => (∃ v2 v3 : Option V, σ = [some (.ref a), some (.ref fd), v2, v3]) ∧ Same H H' ∧ H' fd = some (.dK (Vf.tkv (Vf.gAll (ts.take i))))) ⟨⟨none, none, rfl⟩, s0, upd_same⟩ (fun i σ H' _ h => h.2.1.seq ha) ?_ ?_
  · rintro i x σ Ha hx ⟨⟨v2, v3, rfl⟩, sa, hf⟩
    obtain ⟨pr, u, epr, rfl, hu⟩ := tt.get hx
    obtain ⟨nd, _, _, gl⟩ := Vf.gAll_ok (ts.take i)
    have tk : (ts.take i).length ≤ 4000 := Nat.le_trans (List.length_take_le' ..) tl
    refine ⟨u, _, rfl, SqT.of (sa _ _ hu), rfl, _, _, rfl, _, _, rfl, rfl, ?_⟩
    refine ⟨_, rfl, fd, rfl, .inl ⟨_, .inl hf⟩, _, rfl, _, DGet.k (k := Sum.inr pr.1) hf, ?_⟩
    rw [Vf.tkv_getD nd]
    refine ⟨_, rfl, _, _, rfl, rfl, _, rfl, _, rfl, fd, _, rfl, DPut.k (k := Sum.inr pr.1) hf (by unfold Vf.tkv; rw [Vf.encK_len]; exact Nat.lt_of_le_of_lt (show _ ≤ 4000 by omega) (by decide)), ?_⟩
    rw [Vf.tkv_put nd, Vf.take_snoc epr, Vf.gAll_snoc]
    exact ⟨⟨_, _, rfl⟩, Vf.Same.chg sa hfd, upd_same⟩
  rintro σ Ha ⟨⟨v2, v3, rfl⟩, s0, hf⟩
  rw [tt.1, List.take_length] at hf
  obtain ⟨nd, _, eg, gl⟩ := Vf.gAll_ok ts
  generalize Vf.gAll ts = L at hf nd eg gl
  have ll : L.length ≤ 4000 := by omega
  refine ⟨_, rfl, fd, _, L.map Prod.fst, rfl, .inl hf, Vf.tkv_keys L, by rw [List.length_map]; omega, fun ls p pm pw hp => ?_⟩
  have sp := Vf.Same.new (o := .lst (ls.map V.str)) (Same.refl Ha) hp
  refine ⟨p, rfl, ⟨_, SqL.of upd_same⟩, fun C hC => ?_⟩
  have hpp := upd_same (H := Ha) (a := p) (o := .lst (ls.map V.str))
  have hf1 := sp _ _ hf
  have pmem : ∀ x ∈ ls, x ∈ L.map Prod.fst := fun x hx => pm.mem_iff.mp hx
  have lk : ls.length ≤ 4000 := by rw [pm.length_eq, List.length_map]; exact ll
  refine lc_it (walk_list (K := K) (a := p) (xs := ls.map V.str)) (fun j H' => ∃ (acc : List V), H' C = some (.lst acc) ∧ Same (upd Ha p (.lst (ls.map V.str))) H' ∧ Vf.Tups Vf.encSI H' acc ((((ls.take j).map fun x => (x, Vf.gGet L x)).filter fun p => decide (p.2 ≠ 0)))) ⟨[], upd_same, Vf.Same.new (Same.refl _) hC, Vf.Tups.nil⟩ (fun j H' _ ⟨_, _, s, _⟩ => SqL.of (s _ _ hpp)) ?_ ?_
  · rintro j x Hb Hc hj ⟨acc, hCa, s1, ta⟩ ⟨rfl, hx⟩
    obtain ⟨y, hy, rfl⟩ := Vf.map_get hx
    have ym := pmem y (List.mem_of_getElem? hy)
    have g := DGet.k (k := Sum.inr y) (s1 _ _ hf1)
    rw [Vf.tkv_get nd ym] at g
    have al : acc.length ≤ 4000 := by
      rw [ta.1]
      exact Nat.le_trans (List.length_filter_le ..) (by rw [List.length_map]; exact Nat.le_trans (List.length_take_le' ..) lk)
    have fl : ((ls.take (j + 1)).map fun x => (x, Vf.gGet L x)).filter (fun p => decide (p.2 ≠ 0)) = ((ls.take j).map fun x => (x, Vf.gGet L x)).filter (fun p => decide (p.2 ≠ 0)) ++ [(y, Vf.gGet L y)].filter (fun p => decide (p.2 ≠ 0)) := by
      rw [Vf.take_snoc hy, List.map_append, List.filter_append]
      rfl
    refine ⟨rfl, ?_⟩
    refine ⟨_, rfl, _, rfl, fd, _, rfl, g, rfl, _, rfl, Vf.ite_b (fun c => ?_) (fun c => ?_)⟩
    · have c' : Vf.gGet L y ≠ 0 := fun e => by
        have : (!decide (V.int (Vf.gGet L y) = V.int 0)) = true := c
        rw [e] at this
        exact absurd this (by decide)
      refine ⟨_, rfl, _, rfl, _, rfl, fd, _, rfl, g, (by show 2 ≤ sizeLine; decide), fun z nz => ?_⟩
      have s4 := Vf.Same.new (o := .tup [.str y, .int (Vf.gGet L y)]) (Same.refl Hc) nz
      have T2 := (ta.same s4).snoc (a := (y, Vf.gGet L y)) (t := z) upd_same
      have hC2 := s4 _ _ hCa
      refine ⟨acc, hC2, Nat.lt_of_le_of_lt al (by decide), acc ++ [.ref z], upd_same, Vf.Same.chg (s1.trans s4) hC, ?_⟩
      rw [fl, show List.filter (fun p : Str × Int => decide (p.2 ≠ 0)) [(y, Vf.gGet L y)] = [(y, Vf.gGet L y)] by rw [List.filter_cons, if_pos (decide_eq_true c')]; rfl]
      refine ⟨T2.1, fun i a e => ?_⟩
      obtain ⟨w', h1, h2⟩ := T2.2 i a e
      refine ⟨w', h1, ?_⟩
      rw [upd_ne (fun x => by rw [x, hC2] at h2; cases h2)]
      exact h2
    · have c' : Vf.gGet L y = 0 := by
        have : (!decide (V.int (Vf.gGet L y) = V.int 0)) = false := c
        cases hd : decide (V.int (Vf.gGet L y) = V.int 0) with
        | true => exact V.int.inj (of_decide_eq_true hd)
        | false => rw [hd] at this; cases this
      refine ⟨acc, hCa, s1, ?_⟩
      rw [fl, show List.filter (fun p : Str × Int => decide (p.2 ≠ 0)) [(y, Vf.gGet L y)] = [] by rw [List.filter_cons, if_neg (by rw [decide_eq_false (fun h => h c')]; decide)]; rfl, List.append_nil]
      exact ta
  rintro Hb ⟨acc, hCa, s1, ta⟩
  rw [List.length_map, List.take_length] at ta
  refine ⟨C, acc, rfl, .inl ⟨SqL.of hCa, fun t nt => ?_⟩⟩
  have s3 := Vf.Same.new (o := .tup acc) (Same.refl Hb) nt
  exact q t acc _ _ (((s0.trans sp).trans s1).trans s3) upd_same (ta.same s3) (Vf.AddT.made nd eg pm pw)
end

def sp__less_question (K : PySem.W.Frag) (A : Ad) : Sp := fun vs H Q _ => ∃ (ts us : List (Str × Int)) (g : Vf.Fm) (x y : V) (b : Int), vs = [x, y, .int b] ∧ Vf.TmAt H ts x ∧ Vf.TmAt H us y ∧ ts.length + us.length ≤ 4000 ∧ Vf.Qst (.two .ls ts us) b g ∧ ∀ (v : V) (H' : Hp), Same H H' → Vf.FmK K H' g v → Q v H'
theorem len__less_question {K : PySem.W.Frag} {A : Ad} (vs : List V) (H : Hp) (Q : VK) (E : XK) (h : sp__less_question K A vs H Q E) : vs.length = ["left", "right", "bound"].length := by
  obtain ⟨a, b, c, d, e, f, rfl, _⟩ := h
  rfl

section
variable {P : Program} {w : World} {K : PySem.W.Frag} {mg : Str → Option Value} {base : Heap}
set_option maxHeartbeats 4000000 in
theorem ok__less_question {A : Ad} (T : Txt P K mg A) : FnOk P w K mg base CX0 3 A.f__less_question A.d__less_question ["left", "right", "bound"] (sp__less_question K A) := by
  have G_least_or_truth := ok_least_or_truth (P := P) (w := w) (base := base) T
  have G_added_up := ok_added_up (P := P) (w := w) (base := base) T
  refine T.F__less_question.ok sc__less_question len__less_question (fun cdv Ar outer s H vs Q E hr h => ?_)
  have hu := hu_of hr
  obtain ⟨ts, us, g, x, y, b, rfl, X, Y, tl, qs, q⟩ := h
  obtain ⟨t, xs, rfl, ht, tt⟩ := X
  obtain ⟨u, ys, rfl, hu, tu⟩ := Y
  refine ⟨_, (pss_cons (ps_if (pt_cmpR op_le (pv 2) pe_int (nomark _)) (pss_one (ps_ret (pe_tup (pa_cons pe_str pa_nil)))) pss_nil)
      (pss_one (ps_ret (pe_call G_least_or_truth hr (by rfl) T.G_least_or_truth T.F_least_or_truth.kp T.B_least_or_truth .nil pass0 (pa_cons (pe_call G_added_up (hr.mono (by decide)) (by rfl) T.G_added_up T.F_added_up.kp T.B_added_up .nil pass0 (pa_cons (pe_lst (StX.pa_star (pv 0) (StX.pa_star (pe_lc (own := [("name", 3), ("factor", 4)]) (g := (gTup K 2 (gCons (gName 3) (gCons (gName 4) gNil)))) (tt := tYes) rfl sc__less_question.nd (pi_tup (pv 1)) (blkOk_by (N := ["left", "right", "bound", "name", "factor"]) (sc := defScope s__less_question) (by decide +kernel)) (fun _ _ _ _ _ => (pg_tup (by rfl) (pgs_cons (pg_name (i := 3) sc__less_question.nd rfl (Or.inl rfl)) (pgs_cons (pg_name (i := 4) sc__less_question.nd rfl (Or.inl rfl)) pgs_nil)))) (fun _ _ _ _ _ => pts_nil) (fun _ _ _ _ _ => (pe_tup (pa_cons (pv 3) (pa_cons (pe_un un_neg (pv 4)) pa_nil))))) pa_nil))) pa_nil)) (pa_cons (pv 2) pa_nil)))))), ?_⟩
  refine ⟨_, rfl, _, _, rfl, rfl, _, rfl, Vf.ite_d (fun c => ?_) (fun c => ?_)⟩
  · cases qs with
    | ls1 h a => omega
    | ls0 _ _ h =>
      exact ⟨(by show 1 ≤ sizeLine; decide), fun z nz => q (.ref z) _ (Vf.Same.new (Same.refl H) nz) ⟨z, rfl, SqT.of upd_same⟩⟩
  cases qs with
  | ls0 _ _ h => exact absurd h c
  | @ls1 _ _ ws _ b0 au =>
    refine ⟨_, rfl, t, xs, rfl, .inl (SqT.of ht), _, rfl, u, rfl, ⟨_, SqT.of hu⟩, fun C hC => ?_⟩
    refine Vf.lc_tups (walk_tup (K := K) (a := u) (xs := ys)) Vf.encSI (fun i a => (Vf.negT us)[i]? = some a) hC (by rw [tu.1]; omega) (fun H1 s => SqT.of (s _ _ hu)) ?_ ?_
    · rintro i x H1 H2 hi s ⟨rfl, hx⟩ Q' q'
      obtain ⟨pr, z, epr, rfl, hz⟩ := tu.get hx
      refine ⟨z, _, rfl, SqT.of (s _ _ hz), rfl, _, _, rfl, _, _, rfl, rfl, rfl, _, rfl, _, rfl, _, rfl, (by show 2 ≤ sizeLine; decide), fun z nz => ?_⟩
      refine q' (pr.1, -pr.2) z _ (Vf.Same.new (Same.refl _) nz) upd_same ?_
      unfold Vf.negT
      rw [List.getElem?_map, epr]
      rfl
    intro l zs H1 ll s1 h3 tl1 good
    have nl : (Vf.negT us).length = us.length := by unfold Vf.negT; rw [List.length_map]
    have el : l = Vf.negT us := List.ext_getElem? fun i => by
      by_cases c : i < l.length
      · rw [List.getElem?_eq_getElem c]
        exact (good i _ (List.getElem?_eq_getElem c)).symm
      · rw [List.getElem?_eq_none (by omega), List.getElem?_eq_none (by rw [nl, ← tu.1]; omega)]
    subst el
    refine ⟨C, zs, rfl, .inr (SqL.of h3), ?_⟩
    have lx : xs.length ≤ 4000 := by rw [tt.1]; omega
    have lz : zs.length ≤ 4000 := by rw [tl1.1, nl]; omega
    refine ⟨by simp only [List.length_append, List.length_nil]; exact Nat.le_trans (show _ ≤ 8000 by omega) (by decide), fun Lh hL => ?_⟩
    have s2 := Vf.Same.new (o := .lst (xs ++ (zs ++ []))) s1 hL
    have tc : Vf.Tups Vf.encSI (upd H1 Lh (.lst (xs ++ (zs ++ [])))) (xs ++ (zs ++ [])) (ts ++ Vf.negT us) := by
      rw [List.append_nil]
      exact ((tt.same s1).cat tl1).same (by rw [← List.append_nil zs]; exact Vf.Same.new (Same.refl H1) hL)
    refine ⟨Lh, _, _, rfl, SqL.of upd_same, tc, by rw [List.length_append, nl]; exact tl, fun t' ys' us' H3 s3 ht' tu' au' => ?_⟩
    rw [au'.uniq au] at tu'
    exact ⟨_, rfl, t', ys', ws, b, rfl, ht', tu', fun v' H4 s4 F4 => q v' _ ((s2.trans s3).trans s4) F4⟩
end

def sp__question (K : PySem.W.Frag) (A : Ad) : Sp := fun vs H Q _ => ∃ (f : Vf.Fq) (g : Vf.Fm) (v : V) (b : Int), vs = [v, .int b] ∧ Vf.FqAt H f v ∧ f.Short ∧ (-(2 ^ 40) < b ∧ b < 2 ^ 40) ∧ Vf.Qst f b g ∧ ∀ (v' : V) (H' : Hp), Same H H' → Vf.FmK K H' g v' → Q v' H'
theorem len__question {K : PySem.W.Frag} {A : Ad} (vs : List V) (H : Hp) (Q : VK) (E : XK) (h : sp__question K A vs H Q E) : vs.length = ["function", "bound"].length := by
  obtain ⟨f, g, v, b, rfl, _⟩ := h
  rfl

section
variable {P : Program} {w : World} {K : PySem.W.Frag} {mg : Str → Option Value} {base : Heap}
set_option maxHeartbeats 4000000 in
theorem ok__question {A : Ad} (T : Txt P K mg A) : FnOk P w K mg base CX0 4 A.f__question A.d__question ["function", "bound"] (sp__question K A) := by
  have G__less_question := ok__less_question (P := P) (w := w) (base := base) T
  refine T.F__question.ok sc__question len__question (fun cdv Ar outer s H vs Q E hr h => ?_)
  have hu := hu_of hr
  obtain ⟨f, g, v, b, rfl, F, sh, bb, qs, q⟩ := h
  refine ⟨_, (pss_cons (ps_set (i := 2) sc__question.nd rfl (Or.inl rfl) (pe_ix ix_tup (pv 0) pe_int (fun _ _ => rfl)))
      (pss_cons (ps_if (pt_cmpR op_eq (pv 2) pe_str (nomark _)) (pss_one (ps_ret (pe_tup (pa_cons pe_str (pa_cons (pe_ix ix_tup (pv 0) pe_int (fun _ _ => rfl)) (pa_cons (pv 1) pa_nil)))))) pss_nil)
      (pss_cons (ps_if (pt_cmpR op_eq (pv 2) pe_str (nomark _)) (pss_one (ps_ret (pe_tup (pa_cons pe_str (pa_cons (pe_ix ix_tup (pv 0) pe_int (fun _ _ => rfl)) (pa_cons (pe_op op_mul (pv 1) (pe_ix ix_tup (pv 0) pe_int (fun _ _ => rfl))) pa_nil)))))) pss_nil)
      (pss_cons (ps_if (pt_cmpR op_eq (pv 2) pe_str (nomark _)) (pss_one (ps_ret (pe_call G__less_question hr (by rfl) T.G__less_question T.F__less_question.kp T.B__less_question .nil pass0 (pa_cons (pe_ix ix_tup (pv 0) pe_int (fun _ _ => rfl)) (pa_cons (pe_ix ix_tup (pv 0) pe_int (fun _ _ => rfl)) (pa_cons (pv 1) pa_nil)))))) pss_nil)
      (pss_one (ps_ret (pe_tup (pa_cons (pe_ifExp (pt_cmpR op_eq (pv 2) pe_str (nomark _)) pe_str pe_str) (pa_cons (pe_tup (pa_cons pe_str (pa_cons (pe_ix ix_tup (pv 0) pe_int (fun _ _ => rfl)) (pa_cons (pv 1) pa_nil)))) (pa_cons (pe_tup (pa_cons pe_str (pa_cons (pe_ix ix_tup (pv 0) pe_int (fun _ _ => rfl)) (pa_cons (pv 1) pa_nil)))) pa_nil)))))))))), ?_⟩
  have few := sh.few
  have mul : ∀ d : Int, CMul b d := fun d => .inl (by omega)
  cases qs with
  | sum ts b =>
    obtain ⟨a, x, rfl, ha, X⟩ := F
    refine ⟨_, rfl, a, _, 0, .str "sum", rfl, rfl, SqT.of ha, atI_nat (j := 0) rfl, ?_⟩
    dsimp only [gName]
    refine ⟨_, rfl, rfl, _, rfl, Vf.ite_d (fun _ => ?_) (fun e => absurd rfl e)⟩
    refine ⟨_, rfl, a, _, 1, x, rfl, rfl, SqT.of ha, atI_nat (j := 1) rfl, _, rfl, (by show 3 ≤ sizeLine; decide), fun z nz => ?_⟩
    have s := Vf.Same.new (o := .tup [.str ("least" : Str), x, .int b]) (Same.refl H) nz
    obtain ⟨t, xs, rfl, ht, tt⟩ := X.same s
    exact q (.ref z) _ s ⟨z, t, xs, rfl, SqT.of upd_same, ht, tt⟩
  | quo ts d b =>
    obtain ⟨a, x, rfl, ha, X⟩ := F
    refine ⟨_, rfl, a, _, 0, .str "quotient", rfl, rfl, SqT.of ha, atI_nat (j := 0) rfl, ?_⟩
    dsimp only [gName]
    refine ⟨_, rfl, rfl, _, rfl, Vf.ite_d (fun e => absurd (V.str.inj e) (by decide)) (fun _ => ?_)⟩
    refine ⟨_, rfl, rfl, _, rfl, Vf.ite_d (fun _ => ?_) (fun e => absurd rfl e)⟩
    refine ⟨_, rfl, a, _, 1, x, rfl, rfl, SqT.of ha, atI_nat (j := 1) rfl, _, rfl, _, rfl, a, _, 2, .int d, rfl, rfl, SqT.of ha, atI_nat (j := 2) rfl, _, _, rfl, rfl, mul d, (by show 3 ≤ sizeLine; decide), fun z nz => ?_⟩
    have s := Vf.Same.new (o := .tup [.str ("least" : Str), x, .int (b * d)]) (Same.refl H) nz
    obtain ⟨t, xs, rfl, ht, tt⟩ := X.same s
    exact q (.ref z) _ s ⟨z, t, xs, rfl, SqT.of upd_same, ht, tt⟩
  | mn ts us b =>
    obtain ⟨a, x, y, rfl, ha, X, Y⟩ := F
    refine ⟨_, rfl, a, _, 0, .str Vf.Kd.mn.word, rfl, rfl, SqT.of ha, atI_nat (j := 0) rfl, ?_⟩
    dsimp only [gName]
    refine ⟨_, rfl, rfl, _, rfl, Vf.ite_d (fun e => absurd (V.str.inj e) (by decide)) (fun _ => ?_)⟩
    refine ⟨_, rfl, rfl, _, rfl, Vf.ite_d (fun e => absurd (V.str.inj e) (by decide)) (fun _ => ?_)⟩
    refine ⟨_, rfl, rfl, _, rfl, Vf.ite_d (fun e => absurd (V.str.inj e) (by decide)) (fun _ => ?_)⟩
    refine ⟨_, rfl, rfl, _, rfl, Vf.ite_d (fun _ => ?_) (fun e => absurd rfl e)⟩
    refine ⟨_, rfl, a, _, 1, x, rfl, rfl, SqT.of ha, atI_nat (j := 1) rfl, _, rfl, (by show 3 ≤ sizeLine; decide), fun z nz => ?_⟩
    have s := Vf.Same.new (o := .tup [.str ("least" : Str), x, .int b]) (Same.refl H) nz
    refine ⟨_, rfl, a, _, 2, y, rfl, rfl, SqT.of (s _ _ ha), atI_nat (j := 2) rfl, _, rfl, (by show 3 ≤ sizeLine; decide), fun w nw => ?_⟩
    have s2 := Vf.Same.new (o := .tup [.str ("least" : Str), y, .int b]) (Same.refl _) nw
    refine ⟨(by show 3 ≤ sizeLine; decide), fun r nr => ?_⟩
    have s3 := Vf.Same.new (o := .tup [.str ("and" : Str), .ref z, .ref w]) (Same.refl _) nr
    obtain ⟨t, xs, rfl, ht, tt⟩ := X.same ((s.trans s2).trans s3)
    obtain ⟨t', xs', rfl, ht', tt'⟩ := Y.same ((s.trans s2).trans s3)
    exact q (.ref r) _ ((s.trans s2).trans s3) ⟨r, .ref z, .ref w, rfl, SqT.of upd_same, ⟨z, t, xs, rfl, SqT.of ((s2.trans s3) _ _ upd_same), ht, tt⟩, ⟨w, t', xs', rfl, SqT.of (s3 _ _ upd_same), ht', tt'⟩⟩
  | mx ts us b =>
    obtain ⟨a, x, y, rfl, ha, X, Y⟩ := F
    refine ⟨_, rfl, a, _, 0, .str Vf.Kd.mx.word, rfl, rfl, SqT.of ha, atI_nat (j := 0) rfl, ?_⟩
    dsimp only [gName]
    refine ⟨_, rfl, rfl, _, rfl, Vf.ite_d (fun e => absurd (V.str.inj e) (by decide)) (fun _ => ?_)⟩
    refine ⟨_, rfl, rfl, _, rfl, Vf.ite_d (fun e => absurd (V.str.inj e) (by decide)) (fun _ => ?_)⟩
    refine ⟨_, rfl, rfl, _, rfl, Vf.ite_d (fun e => absurd (V.str.inj e) (by decide)) (fun _ => ?_)⟩
    refine ⟨_, rfl, rfl, _, rfl, Vf.ite_d (fun e => absurd (V.str.inj e) (by decide)) (fun _ => ?_)⟩
    refine ⟨_, rfl, a, _, 1, x, rfl, rfl, SqT.of ha, atI_nat (j := 1) rfl, _, rfl, (by show 3 ≤ sizeLine; decide), fun z nz => ?_⟩
    have s := Vf.Same.new (o := .tup [.str ("least" : Str), x, .int b]) (Same.refl H) nz
    refine ⟨_, rfl, a, _, 2, y, rfl, rfl, SqT.of (s _ _ ha), atI_nat (j := 2) rfl, _, rfl, (by show 3 ≤ sizeLine; decide), fun w nw => ?_⟩
    have s2 := Vf.Same.new (o := .tup [.str ("least" : Str), y, .int b]) (Same.refl _) nw
    refine ⟨(by show 3 ≤ sizeLine; decide), fun r nr => ?_⟩
    have s3 := Vf.Same.new (o := .tup [.str ("or" : Str), .ref z, .ref w]) (Same.refl _) nr
    obtain ⟨t, xs, rfl, ht, tt⟩ := X.same ((s.trans s2).trans s3)
    obtain ⟨t', xs', rfl, ht', tt'⟩ := Y.same ((s.trans s2).trans s3)
    exact q (.ref r) _ ((s.trans s2).trans s3) ⟨r, .ref z, .ref w, rfl, SqT.of upd_same, ⟨z, t, xs, rfl, SqT.of ((s2.trans s3) _ _ upd_same), ht, tt⟩, ⟨w, t', xs', rfl, SqT.of (s3 _ _ upd_same), ht', tt'⟩⟩
  | ls0 ts us c =>
    obtain ⟨a, x, y, rfl, ha, X, Y⟩ := F
    have tl : ts.length + us.length ≤ 4000 := by
      simp only [Vf.Fq.all, Vf.Fq.sums, List.flatten_cons, List.flatten_nil, List.append_nil, List.length_append] at few
      omega
    refine ⟨_, rfl, a, _, 0, .str Vf.Kd.ls.word, rfl, rfl, SqT.of ha, atI_nat (j := 0) rfl, ?_⟩
    dsimp only [gName]
    refine ⟨_, rfl, rfl, _, rfl, Vf.ite_d (fun e => absurd (V.str.inj e) (by decide)) (fun _ => ?_)⟩
    refine ⟨_, rfl, rfl, _, rfl, Vf.ite_d (fun e => absurd (V.str.inj e) (by decide)) (fun _ => ?_)⟩
    refine ⟨_, rfl, rfl, _, rfl, Vf.ite_d (fun _ => ?_) (fun e => absurd rfl e)⟩
    refine ⟨_, rfl, a, _, 1, x, rfl, rfl, SqT.of ha, atI_nat (j := 1) rfl, _, rfl, a, _, 2, y, rfl, rfl, SqT.of ha, atI_nat (j := 2) rfl, _, rfl, ?_⟩
    exact ⟨ts, us, _, x, y, b, rfl, X, Y, tl, .ls0 ts us c, q⟩
  | @ls1 ts us ws _ c au =>
    obtain ⟨a, x, y, rfl, ha, X, Y⟩ := F
    have tl : ts.length + us.length ≤ 4000 := by
      simp only [Vf.Fq.all, Vf.Fq.sums, List.flatten_cons, List.flatten_nil, List.append_nil, List.length_append] at few
      omega
    refine ⟨_, rfl, a, _, 0, .str Vf.Kd.ls.word, rfl, rfl, SqT.of ha, atI_nat (j := 0) rfl, ?_⟩
    dsimp only [gName]
    refine ⟨_, rfl, rfl, _, rfl, Vf.ite_d (fun e => absurd (V.str.inj e) (by decide)) (fun _ => ?_)⟩
    refine ⟨_, rfl, rfl, _, rfl, Vf.ite_d (fun e => absurd (V.str.inj e) (by decide)) (fun _ => ?_)⟩
    refine ⟨_, rfl, rfl, _, rfl, Vf.ite_d (fun _ => ?_) (fun e => absurd rfl e)⟩
    refine ⟨_, rfl, a, _, 1, x, rfl, rfl, SqT.of ha, atI_nat (j := 1) rfl, _, rfl, a, _, 2, y, rfl, rfl, SqT.of ha, atI_nat (j := 2) rfl, _, rfl, ?_⟩
    exact ⟨ts, us, _, x, y, b, rfl, X, Y, tl, .ls1 c au, q⟩
end

def sp_at_least (K : PySem.W.Frag) (A : Ad) : Sp := fun vs H Q E => ∃ (f : Vf.Fq) (g : Vf.Fm) (v : V) (b : Int), vs = [v, .int b] ∧ Vf.FqAt H f v ∧ f.Short ∧ (-(2 ^ 40) < b ∧ b < 2 ^ 40) ∧ Vf.Qst f b g ∧ (f.isFn = false → ∀ H', Same H H' → E (.ref A.c_InvalidFunction) none H') ∧ (f.isFn = true → g.isF = true → ∀ (v' : V) (H' : Hp), Same H H' → Vf.FmK K H' g v' → Q v' H') ∧ (f.isFn = true → g.isF = false → ∀ H', Same H H' → E (.ref A.c_InvalidFormula) none H')
theorem len_at_least {K : PySem.W.Frag} {A : Ad} (vs : List V) (H : Hp) (Q : VK) (E : XK) (h : sp_at_least K A vs H Q E) : vs.length = ["function", "bound"].length := by
  obtain ⟨f, g, v, b, rfl, _⟩ := h
  rfl

section
variable {P : Program} {w : World} {K : PySem.W.Frag} {mg : Str → Option Value} {base : Heap}
set_option maxHeartbeats 4000000 in
theorem ok_at_least {A : Ad} (T : Txt P K mg A) : FnOk P w K mg base (L2.CX P w) 27 A.f_at_least A.d_at_least ["function", "bound"] (sp_at_least K A) := by
  have G__check_function := ok__check_function (P := P) (w := w) (base := base) T
  have G_checked := ok_checked (P := P) (w := w) (base := base) T
  have G__question := ok__question (P := P) (w := w) (base := base) T
  refine T.F_at_least.okX sc_at_least len_at_least (fun cdv Ar outer s H vs Q E hr h => ?_)
  have hu := hu_of hr
  obtain ⟨f, g, v, b, rfl, F, sh, bb, qs, q0, q1, q2⟩ := h
  refine ⟨_, (pss_cons (ps_expr (pe_call G__check_function (hr.mono (by decide)) (by rfl) T.G__check_function T.F__check_function.kp T.B__check_function .nil (passes_call (takes_of rfl rfl rfl rfl) fun _ _ _ _ h => h) (pa_cons (pv 0) pa_nil)))
      (pss_one (ps_ret (pe_call G_checked hr (by rfl) T.G_checked T.F_checked.kp T.B_checked .nil (passes_call (takes_of rfl rfl rfl rfl) fun _ _ _ _ h => h) (pa_cons (pe_call G__question (hr.mono (by decide)) (by rfl) T.G__question T.F__question.kp T.B__question .nil pass0 (pa_cons (pv 0) (pa_cons (pv 1) pa_nil))) pa_nil))))), ?_⟩
  have fx := qs.facts
  have gs : g.Short := ⟨by have := sh.few; omega, fun p hp => by
    obtain ⟨r, hr, e⟩ := List.mem_map.mp (fx.2.2 p hp)
    rw [← e]
    exact sh.nm r hr⟩
  refine ⟨_, rfl, f, v, rfl, F, sh, fun e H1 s1 => ?_, fun e H1 s1 => q0 e _ s1⟩
  refine ⟨_, rfl, _, rfl, f, g, v, b, rfl, F.same s1, sh, bb, qs, fun v' H2 s2 F2 => ?_⟩
  exact ⟨g, v', rfl, F2, gs, by omega, fun e2 H3 s3 => q1 e e2 _ _ ((s1.trans s2).trans s3) (F2.same s3), fun e2 H3 s3 => q2 e e2 _ ((s1.trans s2).trans s3)⟩
end

def sp_exactly (K : PySem.W.Frag) (A : Ad) : Sp := fun vs H Q E => ∃ (f : Vf.Fq) (g g2 : Vf.Fm) (v : V) (b : Int), vs = [v, .int b] ∧ Vf.FqAt H f v ∧ f.Short ∧ (-(2 ^ 39) < b ∧ b < 2 ^ 39) ∧ Vf.Qst f b g ∧ Vf.Qst f (b + 1) g2 ∧ (f.isFn = false → ∀ H', Same H H' → E (.ref A.c_InvalidFunction) none H') ∧ (f.isFn = true → (Vf.Fm.two true g (.no g2)).isF = true → ∀ (v' : V) (H' : Hp), Same H H' → Vf.FmK K H' (.two true g (.no g2)) v' → Q v' H') ∧ (f.isFn = true → (Vf.Fm.two true g (.no g2)).isF = false → ∀ H', Same H H' → E (.ref A.c_InvalidFormula) none H')
theorem len_exactly {K : PySem.W.Frag} {A : Ad} (vs : List V) (H : Hp) (Q : VK) (E : XK) (h : sp_exactly K A vs H Q E) : vs.length = ["function", "number"].length := by
  obtain ⟨f, g, g2, v, b, rfl, _⟩ := h
  rfl

section
variable {P : Program} {w : World} {K : PySem.W.Frag} {mg : Str → Option Value} {base : Heap}
set_option maxHeartbeats 4000000 in
theorem ok_exactly {A : Ad} (T : Txt P K mg A) : FnOk P w K mg base (L2.CX P w) 27 A.f_exactly A.d_exactly ["function", "number"] (sp_exactly K A) := by
  have G__check_function := ok__check_function (P := P) (w := w) (base := base) T
  have G_checked := ok_checked (P := P) (w := w) (base := base) T
  have G__question := ok__question (P := P) (w := w) (base := base) T
  refine T.F_exactly.okX sc_exactly len_exactly (fun cdv Ar outer s H vs Q E hr h => ?_)
  have hu := hu_of hr
  obtain ⟨f, g, g2, v, b, rfl, F, sh, bb, qs, qs2, q0, q1, q2⟩ := h
  refine ⟨_, (pss_cons (ps_expr (pe_call G__check_function (hr.mono (by decide)) (by rfl) T.G__check_function T.F__check_function.kp T.B__check_function .nil (passes_call (takes_of rfl rfl rfl rfl) fun _ _ _ _ h => h) (pa_cons (pv 0) pa_nil)))
      (pss_one (ps_ret (pe_call G_checked hr (by rfl) T.G_checked T.F_checked.kp T.B_checked .nil (passes_call (takes_of rfl rfl rfl rfl) fun _ _ _ _ h => h) (pa_cons (pe_tup (pa_cons pe_str (pa_cons (pe_call G__question (hr.mono (by decide)) (by rfl) T.G__question T.F__question.kp T.B__question .nil pass0 (pa_cons (pv 0) (pa_cons (pv 1) pa_nil))) (pa_cons (pe_tup (pa_cons pe_str (pa_cons (pe_call G__question (hr.mono (by decide)) (by rfl) T.G__question T.F__question.kp T.B__question .nil pass0 (pa_cons (pv 0) (pa_cons (pe_op op_add (pv 1) pe_int) pa_nil))) pa_nil))) pa_nil)))) pa_nil))))), ?_⟩
  have fx := qs.facts
  have fy := qs2.facts
  have few := sh.few
  have gs : (Vf.Fm.two true g (.no g2)).Short := ⟨by simp only [Vf.Fm.terms, List.length_append]; omega, fun p hp => by
    have : p.1 ∈ f.all.map Prod.fst := by
      rcases List.mem_append.mp (show p ∈ g.terms ++ g2.terms from hp) with h | h
      · exact fx.2.2 p h
      · exact fy.2.2 p h
    obtain ⟨r, hr, e⟩ := List.mem_map.mp this
    rw [← e]
    exact sh.nm r hr⟩
  refine ⟨_, rfl, f, v, rfl, F, sh, fun e H1 s1 => ?_, fun e H1 s1 => q0 e _ s1⟩
  refine ⟨_, rfl, _, rfl, f, g, v, b, rfl, F.same s1, sh, by omega, qs, fun v1 H2 s2 F2 => ?_⟩
  refine ⟨_, rfl, _, rfl, _, _, rfl, rfl, f, g2, v, b + 1, rfl, (F.same s1).same s2, sh, by omega, qs2, fun v2 H3 s3 F3 => ?_⟩
  refine ⟨(by show 2 ≤ sizeLine; decide), fun z1 nz1 => ⟨(by show 3 ≤ sizeLine; decide), fun z2 nz2 => ?_⟩⟩
  have s4 := Vf.Same.new (o := .tup [.str ("not" : Str), v2]) (Same.refl H3) nz1
  have s5 := Vf.Same.new (o := .tup [.str ("and" : Str), v1, .ref z1]) (Same.refl _) nz2
  have F5 : Vf.FmK K (upd (upd H3 z1 (.tup [.str ("not" : Str), v2])) z2 (.tup [.str ("and" : Str), v1, .ref z1])) (.two true g (.no g2)) (.ref z2) := ⟨z2, v1, .ref z1, rfl, SqT.of upd_same, F2.same (s3.trans (s4.trans s5)), z1, v2, rfl, SqT.of (s5 _ _ upd_same), F3.same (s4.trans s5)⟩
  refine ⟨_, .ref z2, rfl, F5, gs, by simp only [Vf.Fm.depth]; omega, fun e2 H6 s6 => q1 e e2 _ _ (((((s1.trans s2).trans s3).trans s4).trans s5).trans s6) (F5.same s6), fun e2 H6 s6 => q2 e e2 _ (((((s1.trans s2).trans s3).trans s4).trans s5).trans s6)⟩
end

def sp__law_told_question (K : PySem.W.Frag) (A : Ad) : Sp := fun vs H Q _ => ∃ (f : Vf.Fq) (g g1 g2 : Vf.Fm) (v : V) (b way : Int), vs = [v, .int b, .int way] ∧ Vf.FqAt H f v ∧ f.Short ∧ (-(2 ^ 39) < b ∧ b < 2 ^ 39) ∧ Vf.Qst f b g1 ∧ Vf.Qst f (b + 1) g2 ∧ (way = 0 ∧ g = g1 ∨ way ≠ 0 ∧ g = .two true g1 (.no g2)) ∧ ∀ (v' : V) (H' : Hp), Same H H' → Vf.TlqK K H' (if f.isFn = true then some (Vf.asked g) else none) v' → Q v' H'
theorem len__law_told_question {K : PySem.W.Frag} {A : Ad} (vs : List V) (H : Hp) (Q : VK) (E : XK) (h : sp__law_told_question K A vs H Q E) : vs.length = ["function", "number", "way"].length := by
  obtain ⟨f, g, g1, g2, v, b, way, rfl, _⟩ := h
  rfl

section
variable {P : Program} {w : World} {K : PySem.W.Frag} {mg : Str → Option Value} {base : Heap}
set_option maxHeartbeats 4000000 in
theorem ok__law_told_question {A : Ad} (T : Txt P K mg A) : FnOk P w K mg base CX0 28 A.f__law_told_question A.d__law_told_question ["function", "number", "way"] (sp__law_told_question K A) := by
  have G_at_least := ok_at_least (P := P) (w := w) (base := base) T
  have G_exactly := ok_exactly (P := P) (w := w) (base := base) T
  refine T.F__law_told_question.ok sc__law_told_question len__law_told_question (fun cdv Ar outer s H vs Q E hr h => ?_)
  have hu := hu_of hr
  obtain ⟨f, g, g1, g2, v, b, way, rfl, F, sh, bb, qs, qs2, cs, q⟩ := h
  refine ⟨_, (pss_one (ps_try_many (Wout := fun _ _ _ _ => False) rfl rfl Vf.takesN (fun W pn xe tk _ => (pss_cons (ps_if (pt_cmpR op_eq (pv 2) pe_int (nomark _)) (pss_one (ps_ret (pe_call G_at_least hr (by rfl) T.G_at_least T.F_at_least.kp T.B_at_least .nil (E := fun cls d H => ∀ σ, W cls d σ H) (passes_call tk fun _ _ σ _ h => h σ) (pa_cons (pv 0) (pa_cons (pv 1) pa_nil))))) pss_nil)
      (pss_one (ps_ret (pe_call G_exactly hr (by rfl) T.G_exactly T.F_exactly.kp T.B_exactly .nil (E := fun cls d H => ∀ σ, W cls d σ H) (passes_call tk fun _ _ σ _ h => h σ) (pa_cons (pv 0) (pa_cons (pv 1) pa_nil))))))) (HdsOk.cons (c := .ref A.c_InvalidFunction) ⟨rfl, by decide, .inl T.G_InvalidFunction⟩ (fun a oe cls d pn hz hf => (pss_one (ps_ret (pe_tup (pa_cons pe_str pa_nil))))) (HdsOk.cons (c := .ref A.c_InvalidFormula) ⟨rfl, by decide, .inl T.G_InvalidFormula⟩ (fun a oe cls d pn hz hf => (pss_one (ps_ret (pe_tup (pa_cons pe_str pa_nil))))) HdsOk.nil)))), ?_⟩
  have bad : ∀ H' z, Same H H' → H' z = none → f.isFn = false → Q (.ref z) (upd H' z (.tup [.str ("nofunction" : Str)])) := fun H' z s nz e => by
    refine q (.ref z) _ (Vf.Same.new s nz) ?_
    rw [if_neg (by rw [e]; decide)]
    exact ⟨z, rfl, SqT.of upd_same⟩
  have ref : ∀ H' z, Same H H' → H' z = none → f.isFn = true → g.isF = false → Q (.ref z) (upd H' z (.tup [.str ("refused" : Str)])) := fun H' z s nz e e2 => by
    refine q (.ref z) _ (Vf.Same.new s nz) ?_
    rw [if_pos e]
    unfold Vf.asked
    rw [if_neg (by rw [e2]; decide)]
    exact ⟨z, rfl, SqT.of upd_same⟩
  have good : ∀ H' v', Same H H' → f.isFn = true → g.isF = true → Vf.FmK K H' g v' → Q v' H' := fun H' v' s e e2 G => by
    refine q v' _ s ?_
    rw [if_pos e]
    unfold Vf.asked
    rw [if_pos e2]
    exact G
  refine ⟨_, rfl, rfl, _, rfl, Vf.ite_d (fun c => ?_) (fun c => ?_)⟩
  · have eg : g = g1 := by
      rcases cs with ⟨_, e⟩ | ⟨h, _⟩
      · exact e
      · exact absurd (V.int.inj c) h
    subst eg
    refine ⟨_, rfl, _, rfl, f, g, v, b, rfl, F, sh, by omega, qs, fun e H' s σ => ?_, fun e e2 v' H' s G => good H' v' s e e2 G, fun e e2 H' s σ => ?_⟩
    · exact ⟨true, T.e_InvalidFunction, fun _ a na => ⟨(by show 1 ≤ sizeLine; decide), fun z nz => bad _ z s nz e⟩, fun h => by cases h⟩
    · exact ⟨false, T.e_InvalidFormula_InvalidFunction, (fun h => by cases h), fun _ => ⟨true, T.e_InvalidFormula, fun _ a na => ⟨(by show 1 ≤ sizeLine; decide), fun z nz => ref _ z s nz e e2⟩, fun h => by cases h⟩⟩
  · have eg : g = .two true g1 (.no g2) := by
      rcases cs with ⟨h, _⟩ | ⟨_, e⟩
      · exact absurd (by rw [h]) c
      · exact e
    subst eg
    refine ⟨_, rfl, _, rfl, f, g1, g2, v, b, rfl, F, sh, bb, qs, qs2, fun e H' s σ => ?_, fun e e2 v' H' s G => good H' v' s e e2 G, fun e e2 H' s σ => ?_⟩
    · exact ⟨true, T.e_InvalidFunction, fun _ a na => ⟨(by show 1 ≤ sizeLine; decide), fun z nz => bad _ z s nz e⟩, fun h => by cases h⟩
    · exact ⟨false, T.e_InvalidFormula_InvalidFunction, (fun h => by cases h), fun _ => ⟨true, T.e_InvalidFormula, fun _ a na => ⟨(by show 1 ≤ sizeLine; decide), fun z nz => ref _ z s nz e e2⟩, fun h => by cases h⟩⟩
end

def sp__law_is_bool (K : PySem.W.Frag) (A : Ad) : Sp := fun vs H Q _ => ∃ x y : Bool, vs = [.bl x, .bl y] ∧ Q (.bl (decide (x = y))) H
theorem len__law_is_bool {K : PySem.W.Frag} {A : Ad} (vs : List V) (H : Hp) (Q : VK) (E : XK) (h : sp__law_is_bool K A vs H Q E) : vs.length = ["x", "due"].length := by
  obtain ⟨a, b, rfl, _⟩ := h
  rfl

section
variable {P : Program} {w : World} {K : PySem.W.Frag} {mg : Str → Option Value} {base : Heap}
set_option maxHeartbeats 4000000 in
theorem ok__law_is_bool {A : Ad} (T : Txt P K mg A) : FnOk P w K mg base CX0 1 A.f__law_is_bool A.d__law_is_bool ["x", "due"] (sp__law_is_bool K A) := by
  refine T.F__law_is_bool.ok sc__law_is_bool len__law_is_bool (fun cdv Ar outer s H vs Q E hr h => ?_)
  have hu := hu_of hr
  obtain ⟨x, y, rfl, q⟩ := h
  refine ⟨_, (pss_cons (ps_if (pt_val (pv 1)) (pss_one (ps_ret (pe_cmpR op_isBl (pv 0) pe_bl (nomark _)))) pss_nil)
      (pss_one (ps_ret (pe_cmpR op_isBl (pv 0) pe_bl (nomark _))))), ?_⟩
  cases y
  · refine ⟨_, rfl, _, rfl, Vf.ite_b (fun c => absurd c (by decide)) fun _ => ?_⟩
    exact ⟨_, rfl, _, _, rfl, rfl, q⟩
  · refine ⟨_, rfl, _, rfl, Vf.ite_b (fun _ => ?_) (fun c => absurd c (by decide))⟩
    exact ⟨_, rfl, _, _, rfl, rfl, q⟩
end

def sp_holds (K : PySem.W.Frag) (A : Ad) (n : Nat) : Sp := fun vs H Q _ => ∃ (f : Vf.Fm) (v : V) (cd : Addr) (c : Str → Option Int), vs = [v, .ref cd] ∧ Vf.FmK K H f v ∧ Vf.CntAt H cd c ∧ f.depth ≤ n ∧ f.rightP = true ∧ f.small ∧ f.full c ∧ ∀ H', Same H H' → Q (.bl (f.holds c)) H'
theorem len_holds {K : PySem.W.Frag} {A : Ad} {n : Nat} (vs : List V) (H : Hp) (Q : VK) (E : XK) (h : sp_holds K A n vs H Q E) : vs.length = ["formula", "counts"].length := by
  obtain ⟨f, v, cd, c, rfl, _⟩ := h
  rfl
theorem no_holds {K : PySem.W.Frag} {A : Ad} {vs : List V} {H : Hp} {Q : VK} {E : XK} (h : sp_holds K A 0 vs H Q E) : False := by
  obtain ⟨f, v, cd, c, _, _, _, d, _⟩ := h
  have := f.depth_pos
  omega

section
variable {P : Program} {w : World} {K : PySem.W.Frag} {mg : Str → Option Value} {base : Heap}
set_option maxHeartbeats 4000000 in
theorem ok_holds {A : Ad} (T : Txt P K mg A) (n : Nat) : FnOk P w K mg base CX0 (1 + n) A.f_holds A.d_holds ["formula", "counts"] (sp_holds K A n) := by
  have G_total := ok_total (P := P) (w := w) (base := base) T
  induction n with
  | zero => exact ⟨fun _ _ _ _ h => (no_holds h).elim, fun _ _ _ _ _ _ _ _ _ _ _ _ _ h => (no_holds h).elim⟩
  | succ n G_holds =>
  refine T.F_holds.ok sc_holds len_holds (fun cdv Ar outer s H vs Q E hr h => ?_)
  have hu := hu_of hr
  obtain ⟨f, v, cd, c, rfl, F, hc, dn, rp, sm, fu, q⟩ := h
  obtain ⟨a, ys, rfl, ha, yl, hp⟩ := F.head
  refine ⟨_, (pss_cons (ps_set (i := 2) sc_holds.nd rfl (Or.inl rfl) (pe_ix ix_tup (pv 0) pe_int (fun _ _ => rfl)))
      (pss_cons (ps_if (pt_cmpR op_eq (pv 2) pe_str (nomark _)) (pss_one (ps_ret (pe_cmpR op_ge (pe_call G_total (hr.mono (j := 1) (Nat.le_trans (by decide) (Nat.le_add_right 1 n))) (by rfl) T.G_total T.F_total.kp T.B_total .nil pass0 (pa_cons (pe_ix ix_tup (pv 0) pe_int (fun _ _ => rfl)) (pa_cons (pv 1) pa_nil))) (pe_ix ix_tup (pv 0) pe_int (fun _ _ => rfl)) (nomark _)))) pss_nil)
      (pss_cons (ps_if (pt_cmpR op_eq (pv 2) pe_str (nomark _)) (pss_one (ps_ret (pe_cmpR op_eq (pe_op op_mod (pe_call G_total (hr.mono (j := 1) (Nat.le_trans (by decide) (Nat.le_add_right 1 n))) (by rfl) T.G_total T.F_total.kp T.B_total .nil pass0 (pa_cons (pe_ix ix_tup (pv 0) pe_int (fun _ _ => rfl)) (pa_cons (pv 1) pa_nil))) (pe_ix ix_tup (pv 0) pe_int (fun _ _ => rfl))) (pe_ix ix_tup (pv 0) pe_int (fun _ _ => rfl)) (nomark _)))) pss_nil)
      (pss_cons (ps_if (pt_cmpR op_eq (pv 2) pe_str (nomark _)) (pss_one (ps_ret (pe_not (pe_call G_holds hr (by rfl) T.G_holds T.F_holds.kp T.B_holds .nil pass0 (pa_cons (pe_ix ix_tup (pv 0) pe_int (fun _ _ => rfl)) (pa_cons (pv 1) pa_nil)))))) pss_nil)
      (pss_cons (ps_if (pt_cmpR op_eq (pv 2) pe_str (nomark _)) (pss_one (ps_ret (pe_and (pe_call G_holds hr (by rfl) T.G_holds T.F_holds.kp T.B_holds .nil pass0 (pa_cons (pe_ix ix_tup (pv 0) pe_int (fun _ _ => rfl)) (pa_cons (pv 1) pa_nil))) (pe_one (pe_call G_holds hr (by rfl) T.G_holds T.F_holds.kp T.B_holds .nil pass0 (pa_cons (pe_ix ix_tup (pv 0) pe_int (fun _ _ => rfl)) (pa_cons (pv 1) pa_nil))))))) pss_nil)
      (pss_cons (ps_if (pt_cmpR op_eq (pv 2) pe_str (nomark _)) (pss_one (ps_ret (pe_or (pe_call G_holds hr (by rfl) T.G_holds T.F_holds.kp T.B_holds .nil pass0 (pa_cons (pe_ix ix_tup (pv 0) pe_int (fun _ _ => rfl)) (pa_cons (pv 1) pa_nil))) (pe_one (pe_call G_holds hr (by rfl) T.G_holds T.F_holds.kp T.B_holds .nil pass0 (pa_cons (pe_ix ix_tup (pv 0) pe_int (fun _ _ => rfl)) (pa_cons (pv 1) pa_nil))))))) pss_nil)
      (pss_one (ps_ret (pe_cmpR op_eq (pv 2) pe_str (nomark _)))))))))), ?_⟩
  refine ⟨_, rfl, a, _, 0, .str f.word, rfl, rfl, ha, atI_nat (j := 0) rfl, ?_⟩
  have lits : ∀ {g : Vf.Fm}, g.rightP = true → (∃ ts b, g = .least ts b) ∨ (∃ ts r m, g = .rest ts r m) → ∀ p ∈ g.terms, -20 ≤ p.2 ∧ p.2 ≤ 20 := by
    rintro g rp (⟨ts, b, rfl⟩ | ⟨ts, r, m, rfl⟩)
    · exact Vf.okTerms_bd (Vf.okLeast_ts rp)
    · exact Vf.okTerms_bd (Vf.okRest_ts rp)
  cases f with
  | least ts b =>
    obtain ⟨a', t, xs, e', h1, h2, tt⟩ := F
    cases e'
    refine ⟨_, rfl, rfl, _, rfl, Vf.ite_d (fun e => ?_) (fun e => absurd rfl e)⟩
    refine ⟨_, rfl, a, _, 1, .ref t, rfl, rfl, h1, atI_nat (j := 1) rfl, _, rfl, t, cd, xs, ts, c, rfl, h2, tt, hc, lits rp (.inl ⟨_, _, rfl⟩), fu, sm, fun H1 s => ?_⟩
    exact ⟨_, rfl, a, _, 2, .int b, rfl, rfl, (Vf.sqT_same s h1), atI_nat (j := 2) rfl, _, _, rfl, rfl, q _ s⟩
  | rest ts r m =>
    obtain ⟨a', t, xs, e', h1, h2, tt⟩ := F
    cases e'
    obtain ⟨m2, m20, _, _⟩ := Vf.okRest_md rp
    refine ⟨_, rfl, rfl, _, rfl, Vf.ite_d (fun e => absurd (V.str.inj e) (by show ¬ (("rest" : Str) = "least"); decide)) (fun _ => ?_)⟩
    refine ⟨_, rfl, rfl, _, rfl, Vf.ite_d (fun e => ?_) (fun e => absurd rfl e)⟩
    refine ⟨_, rfl, a, _, 1, .ref t, rfl, rfl, h1, atI_nat (j := 1) rfl, _, rfl, t, cd, xs, ts, c, rfl, h2, tt, hc, lits rp (.inr ⟨_, _, _, rfl⟩), fu, sm, fun H1 s => ?_⟩
    refine ⟨_, rfl, a, _, 3, .int m, rfl, rfl, (Vf.sqT_same s h1), atI_nat (j := 3) rfl, _, _, rfl, rfl, by omega, ?_⟩
    refine ⟨_, rfl, a, _, 2, .int r, rfl, rfl, (Vf.sqT_same s h1), atI_nat (j := 2) rfl, rfl, ?_⟩
    have := q _ s
    rw [show Vf.Fm.holds c (.rest ts r m) = decide (V.int (Vf.totC ts c % m) = V.int r) from decide_eq_decide.mpr ⟨fun h => by rw [h], fun h => V.int.inj h⟩] at this
    exact this
  | no f =>
    obtain ⟨a', x, e', h1, F1⟩ := F
    cases e'
    have d1 : f.depth ≤ n := by simp only [Vf.Fm.depth] at dn; omega
    refine ⟨_, rfl, rfl, _, rfl, Vf.ite_d (fun e => absurd (V.str.inj e) (by show ¬ (("not" : Str) = "least"); decide)) (fun _ => ?_)⟩
    refine ⟨_, rfl, rfl, _, rfl, Vf.ite_d (fun e => absurd (V.str.inj e) (by show ¬ (("not" : Str) = "rest"); decide)) (fun _ => ?_)⟩
    refine ⟨_, rfl, rfl, _, rfl, Vf.ite_d (fun e => ?_) (fun e => absurd rfl e)⟩
    refine ⟨_, rfl, a, _, 1, x, rfl, rfl, h1, atI_nat (j := 1) rfl, _, rfl, f, x, cd, c, rfl, F1, hc, d1, rp, sm, fu, fun H1 s => ?_⟩
    exact ⟨_, rfl, q _ s⟩
  | two o f g =>
    obtain ⟨a', x, y, e', h1, F1, F2⟩ := F
    cases e'
    have d1 : f.depth ≤ n ∧ g.depth ≤ n := by simp only [Vf.Fm.depth] at dn; omega
    have rp2 : (f.rightP && g.rightP) = true := rp
    rw [Bool.and_eq_true] at rp2
    have sm2 : f.terms.length + g.terms.length ≤ 4000 := by
      have := sm
      unfold Vf.Fm.small at this
      simpa only [Vf.Fm.terms, List.length_append] using this
    have s1 : f.small := by unfold Vf.Fm.small; omega
    have s2 : g.small := by unfold Vf.Fm.small; omega
    have u1 : f.full c := fun p hp => fu p (List.mem_append_left _ hp)
    have u2 : g.full c := fun p hp => fu p (List.mem_append_right _ hp)
    cases o
    · refine ⟨_, rfl, rfl, _, rfl, Vf.ite_d (fun e => absurd (V.str.inj e) (by show ¬ (("or" : Str) = "least"); decide)) (fun _ => ?_)⟩
      refine ⟨_, rfl, rfl, _, rfl, Vf.ite_d (fun e => absurd (V.str.inj e) (by show ¬ (("or" : Str) = "rest"); decide)) (fun _ => ?_)⟩
      refine ⟨_, rfl, rfl, _, rfl, Vf.ite_d (fun e => absurd (V.str.inj e) (by show ¬ (("or" : Str) = "not"); decide)) (fun _ => ?_)⟩
      refine ⟨_, rfl, rfl, _, rfl, Vf.ite_d (fun e => absurd (V.str.inj e) (by show ¬ (("or" : Str) = "and"); decide)) (fun _ => ?_)⟩
      refine ⟨_, rfl, rfl, _, rfl, Vf.ite_d (fun e => ?_) (fun e => absurd rfl e)⟩
      refine ⟨_, rfl, a, _, 1, x, rfl, rfl, h1, atI_nat (j := 1) rfl, _, rfl, f, x, cd, c, rfl, F1, hc, d1.1, rp2.1, s1, u1, fun H1 s => ⟨_, rfl, Vf.ite_b (fun b1 => ?_) (fun b1 => ?_)⟩⟩
      · have := q _ s
        rw [show Vf.Fm.holds c (.two false f g) = true by show (f.holds c || g.holds c) = true; rw [b1]; rfl] at this
        exact this
      · refine ⟨_, rfl, a, _, 2, y, rfl, rfl, (Vf.sqT_same s h1), atI_nat (j := 2) rfl, _, rfl, g, y, cd, c, rfl, F2.same s, hc.same s, d1.2, rp2.2, s2, u2, fun H2 s' => ?_⟩
        have := q _ (s.trans s')
        rw [show Vf.Fm.holds c (.two false f g) = g.holds c by show (f.holds c || g.holds c) = _; rw [b1]; rfl] at this
        exact this
    · refine ⟨_, rfl, rfl, _, rfl, Vf.ite_d (fun e => absurd (V.str.inj e) (by show ¬ (("and" : Str) = "least"); decide)) (fun _ => ?_)⟩
      refine ⟨_, rfl, rfl, _, rfl, Vf.ite_d (fun e => absurd (V.str.inj e) (by show ¬ (("and" : Str) = "rest"); decide)) (fun _ => ?_)⟩
      refine ⟨_, rfl, rfl, _, rfl, Vf.ite_d (fun e => absurd (V.str.inj e) (by show ¬ (("and" : Str) = "not"); decide)) (fun _ => ?_)⟩
      refine ⟨_, rfl, rfl, _, rfl, Vf.ite_d (fun e => ?_) (fun e => absurd rfl e)⟩
      refine ⟨_, rfl, a, _, 1, x, rfl, rfl, h1, atI_nat (j := 1) rfl, _, rfl, f, x, cd, c, rfl, F1, hc, d1.1, rp2.1, s1, u1, fun H1 s => ⟨_, rfl, Vf.ite_b (fun b1 => ?_) (fun b1 => ?_)⟩⟩
      · refine ⟨_, rfl, a, _, 2, y, rfl, rfl, (Vf.sqT_same s h1), atI_nat (j := 2) rfl, _, rfl, g, y, cd, c, rfl, F2.same s, hc.same s, d1.2, rp2.2, s2, u2, fun H2 s' => ?_⟩
        have := q _ (s.trans s')
        rw [show Vf.Fm.holds c (.two true f g) = g.holds c by show (f.holds c && g.holds c) = _; rw [b1]; rfl] at this
        exact this
      · have := q _ s
        rw [show Vf.Fm.holds c (.two true f g) = false by show (f.holds c && g.holds c) = false; rw [b1]; rfl] at this
        exact this
  | tt b =>
    cases b
    · refine ⟨_, rfl, rfl, _, rfl, Vf.ite_d (fun e => absurd (V.str.inj e) (by show ¬ (("false" : Str) = "least"); decide)) (fun _ => ?_)⟩
      refine ⟨_, rfl, rfl, _, rfl, Vf.ite_d (fun e => absurd (V.str.inj e) (by show ¬ (("false" : Str) = "rest"); decide)) (fun _ => ?_)⟩
      refine ⟨_, rfl, rfl, _, rfl, Vf.ite_d (fun e => absurd (V.str.inj e) (by show ¬ (("false" : Str) = "not"); decide)) (fun _ => ?_)⟩
      refine ⟨_, rfl, rfl, _, rfl, Vf.ite_d (fun e => absurd (V.str.inj e) (by show ¬ (("false" : Str) = "and"); decide)) (fun _ => ?_)⟩
      refine ⟨_, rfl, rfl, _, rfl, Vf.ite_d (fun e => absurd (V.str.inj e) (by show ¬ (("false" : Str) = "or"); decide)) (fun _ => ?_)⟩
      refine ⟨_, rfl, rfl, ?_⟩
      rw [decide_eq_false (fun e => absurd (V.str.inj e) (by show ¬ (("false" : Str) = "true"); decide))]
      exact q _ (Same.refl _)
    · refine ⟨_, rfl, rfl, _, rfl, Vf.ite_d (fun e => absurd (V.str.inj e) (by show ¬ (("true" : Str) = "least"); decide)) (fun _ => ?_)⟩
      refine ⟨_, rfl, rfl, _, rfl, Vf.ite_d (fun e => absurd (V.str.inj e) (by show ¬ (("true" : Str) = "rest"); decide)) (fun _ => ?_)⟩
      refine ⟨_, rfl, rfl, _, rfl, Vf.ite_d (fun e => absurd (V.str.inj e) (by show ¬ (("true" : Str) = "not"); decide)) (fun _ => ?_)⟩
      refine ⟨_, rfl, rfl, _, rfl, Vf.ite_d (fun e => absurd (V.str.inj e) (by show ¬ (("true" : Str) = "and"); decide)) (fun _ => ?_)⟩
      refine ⟨_, rfl, rfl, _, rfl, Vf.ite_d (fun e => absurd (V.str.inj e) (by show ¬ (("true" : Str) = "or"); decide)) (fun _ => ?_)⟩
      refine ⟨_, rfl, rfl, ?_⟩
      rw [decide_eq_true (show V.str (Vf.Fm.tt true).word = V.str ("true" : Str) from rfl)]
      exact q _ (Same.refl _)
end

def sp_answer (K : PySem.W.Frag) (A : Ad) : Sp := fun vs H Q E => ∃ (f : Vf.Fm) (v : V) (cd : Addr) (c : Str → Option Int), vs = [v, .ref cd] ∧ Vf.FmK K H f v ∧ Vf.CntAt H cd c ∧ f.depth ≤ 20 ∧ f.rightP = true ∧ f.small ∧ (∀ p ∈ f.terms, p.1.length ≤ 1000000) ∧ ∀ ls, Vf.VarsOf f ls →
  (∀ x, Vf.gone c ls = some x → ∀ (d : Addr) (H' : Hp), Same H H' → H' d = some (.xd [("name", .str x)]) → E (.ref A.c_UnknownName) (some d) H') ∧
  (Vf.gone c ls = none → (∃ x ∈ ls, Vf.cv c x < 0) → ∀ H', Same H H' → E (.ref A.c_WrongCounts) none H') ∧
  (Vf.gone c ls = none → (∀ x ∈ ls, 0 ≤ Vf.cv c x) → ∀ H', Same H H' → Q (.bl (f.holds c)) H')
theorem len_answer {K : PySem.W.Frag} {A : Ad} (vs : List V) (H : Hp) (Q : VK) (E : XK) (h : sp_answer K A vs H Q E) : vs.length = ["formula", "counts"].length := by
  obtain ⟨a, b, c, d, rfl, _⟩ := h
  rfl

section
variable {P : Program} {w : World} {K : PySem.W.Frag} {mg : Str → Option Value} {base : Heap}
set_option maxHeartbeats 4000000 in
theorem ok_answer {A : Ad} (T : Txt P K mg A) : FnOk P w K mg base (L2.CX P w) 23 A.f_answer A.d_answer ["formula", "counts"] (sp_answer K A) := by
  have G_check_counts := ok_check_counts (P := P) (w := w) (base := base) T
  have G_variables := ok_variables (P := P) (w := w) (base := base) T
  have G_holds := ok_holds (P := P) (w := w) (base := base) T 20
  refine T.F_answer.okX sc_answer len_answer (fun cdv Ar outer s H vs Q E hr h => ?_)
  have hu := hu_of hr
  obtain ⟨f, v, cd, c, rfl, F, hc, dn, rp, sm, tl, q⟩ := h
  refine ⟨_, (pss_cons (ps_expr (pe_call G_check_counts (hr.mono (by decide)) (by rfl) T.G_check_counts T.F_check_counts.kp T.B_check_counts .nil (passes_call (takes_of rfl rfl rfl rfl) fun _ _ _ _ h => h) (pa_cons (pe_call G_variables hr (by rfl) T.G_variables T.F_variables.kp T.B_variables .nil pass0 (pa_cons (pv 0) pa_nil)) (pa_cons (pv 1) pa_nil))))
      (pss_one (ps_ret (pe_call G_holds (hr.mono (by decide)) (by rfl) T.G_holds T.F_holds.kp T.B_holds .nil pass0 (pa_cons (pv 0) (pa_cons (pv 1) pa_nil)))))), ?_⟩
  refine ⟨_, rfl, f, v, rfl, F, dn, sm, fun p ls H1 s hp vo => ?_⟩
  obtain ⟨q1, q2, q3⟩ := q ls vo
  have ll : ls.length ≤ 4000 := by
    have := List.Nodup.length_le_of_subset vo.nd (l₂ := f.terms.map Prod.fst) fun x hx => (vo.mem x).mp hx
    rw [List.length_map] at this
    exact Nat.le_trans this sm
  refine ⟨_, rfl, p, cd, ls, c, rfl, hp, hc.same s, Nat.le_trans ll (by decide), fun x hx => ?_, fun x e d H' s' hd => q1 x e d _ (s.trans s') hd, fun e n H' s' => q2 e n _ (s.trans s'), fun e n H' s' => ?_⟩
  · obtain ⟨y, hy, rfl⟩ := List.mem_map.mp ((vo.mem x).mp hx)
    exact tl y hy
  exact ⟨_, rfl, _, rfl, f, v, cd, c, rfl, F.same (s.trans s'), hc.same (s.trans s'), dn, rp, sm, fun y hy => Vf.gone_none.mp e y.1 ((vo.mem y.1).mpr (List.mem_map.mpr ⟨y, hy, rfl⟩)), fun H4 s4 => q3 e n _ ((s.trans s').trans s4)⟩
end

def sp_law (K : PySem.W.Frag) (_ : Ad) : Sp := Vf.spLaw K
theorem len_law {K : PySem.W.Frag} {A : Ad} (vs : List V) (H : Hp) (Q : VK) (E : XK) (h : sp_law K A vs H Q E) : vs.length = ["script"].length := by
  obtain ⟨a, ns, rfl, _⟩ := h
  rfl

section
variable {P : Program} {w : World} {K : PySem.W.Frag} {mg : Str → Option Value} {base : Heap}
set_option maxHeartbeats 4000000 in
theorem ok_law {A : Ad} (T : Txt P K mg A) : FnOk P w K mg base CX0 29 A.f_law A.d_law ["script"] (sp_law K A) := by
  have G__law_pool := ok__law_pool (P := P) (w := w) (base := base) T
  have G__law_qfunction := ok__law_qfunction (P := P) (w := w) (base := base) T
  have G__law_pick := ok__law_pick (P := P) (w := w) (base := base) T
  have G__law_value := ok__law_value (P := P) (w := w) (base := base) T
  have G__law_is_number := ok__law_is_number (P := P) (w := w) (base := base) T
  have G_value := ok_value (P := P) (w := w) (base := base) T
  have G__law_told_question := ok__law_told_question (P := P) (w := w) (base := base) T
  have G__law_is_bool := ok__law_is_bool (P := P) (w := w) (base := base) T
  have G_answer := ok_answer (P := P) (w := w) (base := base) T
  refine T.F_law.ok sc_law len_law (fun cdv Ar outer s H vs Q E hr h => ?_)
  have hu := hu_of hr
  obtain ⟨a, ns, rfl, hS, hn63, q⟩ := h
  refine ⟨_, (pss_cons (ps_set (i := 1) sc_law.nd rfl (Or.inl rfl) (pe_call G__law_pool (hr.mono (by decide)) (by rfl) T.G__law_pool T.F__law_pool.kp T.B__law_pool .nil pass0 (pa_cons (pv 0) pa_nil)))
      (pss_cons (ps_for PassesOwn.never rfl (pi_range1 rfl T.N_range (pa_cons pe_int pa_nil)) (pg_name (i := 2) sc_law.nd rfl (Or.inl rfl))
        (pss_cons (ps_set (i := 3) sc_law.nd rfl (Or.inl rfl) (pe_call G__law_qfunction (hr.mono (by decide)) (by rfl) T.G__law_qfunction T.F__law_qfunction.kp T.B__law_qfunction .nil pass0 (pa_cons (pv 1) pa_nil)))
      (pss_cons (ps_set (i := 4) sc_law.nd rfl (Or.inl rfl) (pe_disp (pps_cons pe_str (pe_un un_neg pe_int) pps_nil) (by rfl) (by rfl) (by simp) (by decide)))
      (pss_cons (ps_for PassesOwn.never rfl (pi_list (pe_lst (pa_cons pe_str (pa_cons pe_str (pa_cons pe_str (pa_cons pe_str pa_nil)))))) (pg_name (i := 5) sc_law.nd rfl (Or.inl rfl))
        (pss_one (ps_dput hu (pv 4) (pv 5) (pe_call G__law_pick (hr.mono (by decide)) (by rfl) T.G__law_pick T.F__law_pick.kp T.B__law_pick .nil pass0 (pa_cons (pv 1) (pa_cons (pe_ix ix_list (pe_lst (pa_cons pe_int (pa_cons pe_int pa_nil))) (pe_call G__law_pick (hr.mono (by decide)) (by rfl) T.G__law_pick T.F__law_pick.kp T.B__law_pick .nil pass0 (pa_cons (pv 1) (pa_cons pe_int pa_nil))) (fun _ _ => rfl)) pa_nil))) rfl)))
      (pss_cons (ps_set (i := 6) sc_law.nd rfl (Or.inl rfl) (pe_call G__law_value (hr.mono (by decide)) (by rfl) T.G__law_value T.F__law_value.kp T.B__law_value .nil pass0 (pa_cons (pv 3) (pa_cons (pv 4) pa_nil))))
      (pss_cons (ps_if (pt_not (pt_val (pe_call G__law_is_number (hr.mono (by decide)) (by rfl) T.G__law_is_number T.F__law_is_number.kp T.B__law_is_number .nil pass0 (pa_cons (pe_call G_value (hr.mono (by decide)) (by rfl) T.G_value T.F_value.kp T.B_value .nil passL (pa_cons (pv 3) (pa_cons (pv 4) pa_nil))) (pa_cons (pv 6) pa_nil))))) (pss_one (ps_ret pe_bl)) pss_nil)
      (pss_one (ps_for PassesOwn.never rfl (pi_list (pe_lst (pa_cons (pe_op op_sub (pv 6) pe_int) (pa_cons (pv 6) (pa_cons (pe_op op_add (pv 6) pe_int) (pa_cons (pe_op op_sub (pe_call G__law_pick (hr.mono (by decide)) (by rfl) T.G__law_pick T.F__law_pick.kp T.B__law_pick .nil pass0 (pa_cons (pv 1) (pa_cons pe_int pa_nil))) pe_int) pa_nil)))))) (pg_name (i := 7) sc_law.nd rfl (Or.inl rfl))
        (pss_cons (ps_set (i := 8) sc_law.nd rfl (Or.inl rfl) (pe_call G__law_told_question hr (by rfl) T.G__law_told_question T.F__law_told_question.kp T.B__law_told_question .nil pass0 (pa_cons (pv 3) (pa_cons (pv 7) (pa_cons pe_int pa_nil)))))
      (pss_cons (ps_if (PW.pt (pw_and (pt_cmpR (Vf.op_neP hr.units) (pv 8) (pe_tup (pa_cons pe_str pa_nil)) (nomark _)) (pw_and1 (pt_not (pt_val (pe_call G__law_is_bool (hr.mono (by decide)) (by rfl) T.G__law_is_bool T.F__law_is_bool.kp T.B__law_is_bool .nil pass0 (pa_cons (pe_call G_answer (hr.mono (by decide)) (by rfl) T.G_answer T.F_answer.kp T.B_answer .nil passL (pa_cons (pv 8) (pa_cons (pv 4) pa_nil))) (pa_cons (pe_cmpR op_ge (pv 6) (pv 7) (nomark _)) pa_nil)))))))) (pss_one (ps_ret pe_bl)) pss_nil)
      (pss_cons (ps_set (i := 8) sc_law.nd rfl (Or.inl rfl) (pe_call G__law_told_question hr (by rfl) T.G__law_told_question T.F__law_told_question.kp T.B__law_told_question .nil pass0 (pa_cons (pv 3) (pa_cons (pv 7) (pa_cons pe_int pa_nil)))))
      (pss_one (ps_if (PW.pt (pw_and (pt_cmpR (Vf.op_neP hr.units) (pv 8) (pe_tup (pa_cons pe_str pa_nil)) (nomark _)) (pw_and1 (pt_not (pt_val (pe_call G__law_is_bool (hr.mono (by decide)) (by rfl) T.G__law_is_bool T.F__law_is_bool.kp T.B__law_is_bool .nil pass0 (pa_cons (pe_call G_answer (hr.mono (by decide)) (by rfl) T.G_answer T.F_answer.kp T.B_answer .nil passL (pa_cons (pv 8) (pa_cons (pv 4) pa_nil))) (pa_cons (pe_cmpR op_eq (pv 6) (pv 7) (nomark _)) pa_nil)))))))) (pss_one (ps_ret pe_bl)) pss_nil)))))))))))))
      (pss_one (ps_ret pe_bl)))), ?_⟩
  refine ⟨_, rfl, a, ns, rfl, hS, fun pl H1 npl s1 ⟨dr, ds, P1⟩ => ?_⟩
  dsimp only [gName]
  have S1 : Vf.Sq1 K pl H1 a (ns.map V.int) := ⟨s1.seq hS, (Vf.Sq1.of hS npl).2⟩
  refine ⟨8, rfl, by decide, by decide, for_range (lo := 0) (n := ((8 : Int)).toNat) (fun i σ H' => (∃ v2 v3 v4 v5 v6 v7 v8 : Option V, σ = [some (.ref a), some (.ref pl), v2, v3, v4, v5, v6, v7, v8]) ∧ ∃ n : Int, Vf.PoolX H' pl dr ds n ∧ 0 ≤ n ∧ n ≤ 100 * i ∧ Vf.Sq1 K pl H' a (ns.map V.int)) ⟨⟨none, none, none, none, none, none, none, rfl⟩, 0, P1, by decide, by decide, S1⟩ ?_ ?_⟩
  rotate_left
  · rintro σ H' ⟨⟨v2, v3, v4, v5, v6, v7, v8, rfl⟩, _⟩
    exact q H'
  rintro i σ H0 hi ⟨⟨v2, v3, v4, v5, v6, v7, v8, rfl⟩, n, Pn, n0, nle, S0⟩
  have hi6 : i < 8 := hi
  dsimp only [gName]
  refine ⟨_, rfl, pl, dr, ds, n, rfl, Pn, n0, by omega, fun v f n1 H1' P1' m0 m1 k1 F1 N1 => ?_⟩
  have nM : ∀ {H9 : Hp} {x : Addr} {n9 : Int}, H9 x = none → Vf.PoolX H9 pl dr ds n9 → x ∉ [pl] := fun {H9 x n9} hx hh mm => by
    rw [List.mem_singleton.mp mm, hh.1] at hx; cases hx
  have S1' := S0.keep k1
  clear S1 P1 s1
  dsimp only [gName]
  refine fun cd hcd => ?_
  have nC := nM hcd P1'
  have sC := Vf.Same.new (o := .dK []) (Same.refl H1') hcd
  refine ⟨_, rfl, upd_same, [(Sum.inr ("zz" : Str), V.int (-1))], rfl, (by show 1 ≤ 15; decide), ?_⟩
  have R0 := Vf.RunV.wr (K := K) (P1'.same sC) (S1'.keep (Vf.Keep.of sC)) (F1.same sC) (upd_same (H := H1') (a := cd) (o := .dK [])) []
  change tNext _ _ (upd (upd H1' cd (.dK [])) cd (.dK (Vf.cnt4K [])))
  generalize upd (upd H1' cd (.dK [])) cd (.dK (Vf.cnt4K [])) = H2 at R0 ⊢
  clear F1 S1' P1' sC hcd k1 S0 Pn
  refine ⟨(by show 4 ≤ sizeLine; decide), fun L hL => ?_⟩
  have sL := Vf.Same.new (o := .lst (Vf.names4.map V.str)) (Same.refl H2) hL
  have RL := R0.same sL
  have nL := nM hL R0.P
  have Lc : L ≠ cd := fun e => by rw [e, R0.C] at hL; cases hL
  refine ⟨L, rfl, ⟨_, SqL.of upd_same⟩, ?_⟩
  refine for_list (K := K) (a := L) (xs := Vf.names4.map V.str) (fun j σ H' => ∃ (rs : List Int) (mm : Int), (∃ w5 : Option V, σ = [some (.ref a), some (.ref pl), some (.int (0 + (i : Int))), some v, some (.ref cd), w5, v6, v7, v8]) ∧ Vf.RunV K H' pl dr a cd ds (ns.map V.int) f v rs mm ∧ n1 ≤ mm ∧ mm ≤ n1 + 2 * (j : Int) ∧ rs.length = j ∧ (∀ r ∈ rs, 0 ≤ r ∧ r ≤ 10) ∧ H' L = some (.lst (Vf.names4.map V.str))) ⟨[], n1, ⟨_, rfl⟩, RL, by omega, by omega, rfl, fun r h => (nomatch h), upd_same⟩ (fun j σ H' _ ⟨_, _, _, _, _, _, _, _, h⟩ => SqL.of h) ?_ ?_
  · rintro j x σ Ha hx ⟨rs, mm, ⟨w5, rfl⟩, Ra, a1, a2, rl, rb, hLa⟩
    obtain ⟨y, hy, rfl⟩ := Vf.map_get hx
    have jl : j < 4 := (List.getElem?_eq_some_iff.mp hy).1
    refine ⟨_, rfl, (by show 2 ≤ sizeLine; decide), fun M hM => ?_⟩
    have sM := Vf.Same.new (o := .lst [V.int 2, V.int 6]) (Same.refl Ha) hM
    have RM := Ra.same sM
    have nMM := nM hM Ra.P
    refine ⟨_, rfl, pl, dr, ds, mm, 2, rfl, RM.P, by omega, by omega, by decide, by decide, fun r1 Hb b0 b1 Pb kb => ?_⟩
    have Rb := RM.keep kb Pb
    have hMb := kb M _ nMM upd_same
    have hLb := kb L _ nL (sM _ _ hLa)
    obtain ⟨w, ew, w1, w9⟩ : ∃ w : Int, atI [V.int 2, V.int 6] r1 = some (.int w) ∧ 1 ≤ w ∧ w ≤ 6 := by
      have : r1 = 0 ∨ r1 = 1 := by omega
      rcases this with rfl | rfl
      · exact ⟨2, rfl, by decide, by decide⟩
      · exact ⟨6, rfl, by decide, by decide⟩
    refine ⟨M, _, r1, .int w, rfl, rfl, SqL.of hMb, ew, pl, dr, ds, mm + 1, w, rfl, Rb.P, by omega, by omega, by omega, by omega, fun r2 Hc c0 c1 Pc kc => ?_⟩
    have Rc := Rb.keep kc Pc
    have hLc := kc L _ nL hLb
    obtain ⟨d1, Rd⟩ := Rc.put (r := r2) (x := y) (by rw [rl]; exact hy)
    refine ⟨_, rfl, _, rfl, cd, _, rfl, d1, rs ++ [r2], mm + 1 + 1, ⟨_, rfl⟩, Rd, by omega, by push_cast; omega, by rw [List.length_append, rl]; rfl, fun r h => ?_, ?_⟩
    · rcases List.mem_append.mp h with h | h
      · exact rb r h
      · rw [List.mem_singleton.mp h]; omega
    · rw [upd_ne Lc]
      exact hLc
  rintro σ Ha ⟨rs, mm, ⟨w5, rfl⟩, R, a1, a2, rl, rb, _⟩
  clear RL sL hL nL Lc R0 nC
  have rl : rs.length = 4 := rl
  have a2 : mm ≤ n1 + 8 := a2
  have lv : ∀ p ∈ f.all, p.1 ∈ Vf.vars4 := N1.v
  have cok := fun {x : Str} (hx : x ∈ Vf.vars4) => Vf.cnt4_ok rl (fun r h => (rb r h).1) hx
  have vs := Vf.val_small N1 (c := Vf.cnt4 rs) fun x hx => Vf.cnt4_le rl rb hx
  generalize hd : f.val (Vf.cnt4 rs) = d at vs
  refine ⟨_, rfl, _, rfl, f, v, cd, _, rfl, R.F, N1, R.cnt, fun p hp => (cok (lv p hp)).1, fun H3 s3 => ?_⟩
  rw [hd]
  have R3 := R.same s3
  dsimp only [gName]
  refine ⟨_, rfl, _, rfl, f, v, cd, _, rfl, R3.F, N1, R3.cnt, fun p hp => (cok (lv p hp)).1, fun p hp => (cok (lv p hp)).2, fun H4 s4 => ?_⟩
  rw [hd]
  have R4 := R3.same s4
  refine ⟨_, rfl, d, d, rfl, ?_⟩
  rw [decide_eq_true rfl]
  refine ⟨_, rfl, Vf.ite_b (fun c => absurd c (by decide)) fun _ => ?_⟩
  clear s3 s4 R3 R
  refine ⟨_, rfl, _, _, rfl, rfl, _, rfl, _, rfl, _, _, rfl, rfl, ?_⟩
  refine ⟨_, rfl, pl, dr, ds, mm, 9, rfl, R4.P, by omega, by omega, by decide, by decide, fun r9 H5 r90 r91 P5 k5 => ⟨_, _, rfl, rfl, (by show 4 ≤ sizeLine; decide), fun L hL => ?_⟩⟩
  have R5 := R4.keep k5 P5
  have sL := Vf.Same.new (o := .lst ([d - 1, d, d + 1, r9 - 2].map V.int)) (Same.refl H5) hL
  have RL := R5.same sL
  have nums : ∀ b ∈ [d - 1, d, d + 1, r9 - 2], -100 ≤ b ∧ b ≤ 2000 := fun b hb => by
    have : b = d - 1 ∨ b = d ∨ b = d + 1 ∨ b = r9 - 2 := by simpa using hb
    omega
  refine ⟨L, rfl, ⟨_, SqL.of upd_same⟩, ?_⟩
  refine for_list (K := K) (a := L) (xs := [d - 1, d, d + 1, r9 - 2].map V.int) (fun j σ H' => (∃ w7 w8 : Option V, σ = [some (.ref a), some (.ref pl), some (.int (0 + (i : Int))), some v, some (.ref cd), w5, some (.int d), w7, w8]) ∧ Vf.RunV K H' pl dr a cd ds (ns.map V.int) f v rs (mm + 1) ∧ H' L = some (.lst ([d - 1, d, d + 1, r9 - 2].map V.int))) ⟨⟨_, _, rfl⟩, RL, upd_same⟩ (fun j σ H' _ h => SqL.of h.2.2) ?_ ?_
  rotate_left
  · rintro σ Hz ⟨⟨w7, w8, rfl⟩, Rz, _⟩
    exact ⟨⟨_, _, _, _, _, _, _, rfl⟩, mm + 1, Rz.P, by omega, by omega, Rz.S⟩
  have isF := N1.isFn
  have sh := N1.short
  have few := N1.len
  clear RL sL hL R5 R4 k5 P5
  have gsh : ∀ {b : Int} {g : Vf.Fm}, Vf.Qst f b g → g.Short ∧ g.depth ≤ 2 := fun h => by
    obtain ⟨f1, f2, f3⟩ := h.facts
    refine ⟨⟨by have := sh.few; omega, fun p hp => ?_⟩, f1⟩
    obtain ⟨r, hr, e⟩ := List.mem_map.mp (f3 p hp)
    rw [← e]
    exact sh.nm r hr
  have pla : ∀ {g : Vf.Fm}, g.depth ≤ 5 → (Vf.tldD (Vf.asked g)).plain = true ∧ (Vf.tldD (Vf.asked g)).depth ≤ 64 := fun h => Vf.tldD_pl fun g' hg => by
    obtain ⟨e, h2⟩ := Vf.asked_some hg
    rw [e] at h
    omega
  have pl0 := Vf.tldD_pl (o := none) (fun g hg => nomatch hg)
  rintro j x σ Ha hx ⟨⟨w7, w8, rfl⟩, Ra, hLa⟩
  obtain ⟨b, hb, rfl⟩ := Vf.map_get hx
  have bb := nums b (List.mem_of_getElem? hb)
  clear nums hx hb
  dsimp only [gName]
  obtain ⟨g1, q1⟩ := Vf.Qst.ex f b
  obtain ⟨g2, q2⟩ := Vf.Qst.ex f (b + 1)
  obtain ⟨gs1, gd1⟩ := gsh q1
  obtain ⟨gs2, gd2⟩ := gsh q2
  have nm1 : ∀ p ∈ g1.terms, p.1 ∈ Vf.vars4 := fun p hp => by
    obtain ⟨r, hr, e⟩ := List.mem_map.mp (q1.facts.2.2 p hp)
    rw [← e]
    exact lv r hr
  have nm2 : ∀ p ∈ g2.terms, p.1 ∈ Vf.vars4 := fun p hp => by
    obtain ⟨r, hr, e⟩ := List.mem_map.mp (q2.facts.2.2 p hp)
    rw [← e]
    exact lv r hr
  have qsh : (Vf.Fm.two true g1 (.no g2)).Short := ⟨by
      have f1 := q1.facts.2.1
      have f2 := q2.facts.2.1
      show (g1.terms ++ g2.terms).length ≤ _
      rw [List.length_append]
      omega, fun p hp => by
      rcases List.mem_append.mp (show p ∈ g1.terms ++ g2.terms from hp) with h | h
      · exact gs1.nm p h
      · exact gs2.nm p h⟩
  have qd : (Vf.Fm.two true g1 (.no g2)).depth ≤ 4 := by simp only [Vf.Fm.depth]; omega
  refine ⟨_, rfl, _, rfl, f, g1, g1, g2, v, b, 0, rfl, Ra.F, sh, by omega, q1, q2, .inl ⟨rfl, rfl⟩, fun u3 Hb s7 T7 => ?_⟩
  rw [if_pos isF] at T7
  have T7 : Vf.TldK K Hb (Vf.asked g1) u3 := T7
  have Rb := Ra.same s7
  have hLb := s7 _ _ hLa
  dsimp only [gName]
  refine Vf.seq_join (fun σ' H' => σ' = [some (.ref a), some (.ref pl), some (.int (0 + (i : Int))), some v, some (.ref cd), w5, some (.int d), some (.int b), some u3] ∧ Same Hb H') (fun nx hn => ?_) ?_
  · refine ⟨_, rfl, (by show 1 ≤ sizeLine; decide), fun t nt => ?_⟩
    have st := Vf.Same.new (o := .tup [.str ("refused" : Str)]) (Same.refl Hb) nt
    have Tt : Vf.TldK K (upd Hb t (.tup [.str ("refused" : Str)])) none (.ref t) := ⟨t, rfl, SqT.of upd_same⟩
    have T8 := T7.same st
    have pl1 := pla (g := g1) (by omega)
    refine ⟨_, _, T8.dp, Tt.dp, pl1, pl0, _, rfl, ?_⟩
    rw [Vf.tld_eqv]
    refine Vf.ite_b (fun c => ?_) (fun c => Vf.ite_b (fun x => absurd x (by decide)) fun _ => hn _ _ ⟨rfl, st⟩)
    obtain ⟨g, hg⟩ : ∃ g, Vf.asked g1 = some g := by
      cases e : Vf.asked g1 with
      | none => rw [e] at c; exact absurd c (by decide)
      | some g => exact ⟨g, rfl⟩
    obtain ⟨eg, gF⟩ := Vf.asked_some hg
    subst eg
    rw [hg] at T8
    have G8 : Vf.FmK K (upd Hb t (.tup [.str ("refused" : Str)])) g1 u3 := T8
    refine ⟨_, rfl, _, rfl, g1, u3, cd, Vf.cnt4 rs, rfl, G8, (Rb.same st).cnt, by omega, (Vf.isF_right gF).1, gs1.small, gs1.nm, fun ls vo => ⟨fun x e => ?_, fun _ ⟨x, hx, e⟩ => ?_, fun _ _ H' s' => ?_⟩⟩
    · have : Vf.gone (Vf.cnt4 rs) ls = none := Vf.gone_none.mpr fun x hx => by
        obtain ⟨r, hr, rfl⟩ := List.mem_map.mp ((vo.mem x).mp hx)
        exact (cok (nm1 r hr)).1
      rw [this] at e; cases e
    · obtain ⟨r, hr, rfl⟩ := List.mem_map.mp ((vo.mem x).mp hx)
      have := (cok (nm1 r hr)).2
      omega
    refine ⟨_, rfl, _, rfl, _, _, rfl, rfl, _, _, rfl, ?_⟩
    rw [q1.val N1.dv, hd, decide_eq_true rfl]
    refine ⟨_, rfl, ?_⟩
    exact Vf.ite_b (fun x => absurd x (by decide)) fun _ => hn _ _ ⟨rfl, st.trans s'⟩
  rintro σ' Hc ⟨rfl, sc⟩
  have Rc := Rb.same sc
  have hLc := sc _ _ hLb
  clear T7 s7 Rb hLb sc Ra hLa
  refine ⟨_, rfl, _, rfl, f, .two true g1 (.no g2), g1, g2, v, b, 1, rfl, Rc.F, sh, by omega, q1, q2, .inr ⟨by decide, rfl⟩, fun u4 Hd s9 T9 => ?_⟩
  rw [if_pos isF] at T9
  have T9 : Vf.TldK K Hd (Vf.asked (.two true g1 (.no g2))) u4 := T9
  have Rd := Rc.same s9
  have hLd := s9 _ _ hLc
  dsimp only [gName]
  refine ⟨_, rfl, (by show 1 ≤ sizeLine; decide), fun t nt => ?_⟩
  have st := Vf.Same.new (o := .tup [.str ("refused" : Str)]) (Same.refl Hd) nt
  have Tt : Vf.TldK K (upd Hd t (.tup [.str ("refused" : Str)])) none (.ref t) := ⟨t, rfl, SqT.of upd_same⟩
  have T8 := T9.same st
  have pl1 := pla (g := .two true g1 (.no g2)) (by omega)
  refine ⟨_, _, T8.dp, Tt.dp, pl1, pl0, _, rfl, ?_⟩
  rw [Vf.tld_eqv]
  refine Vf.ite_b (fun c => ?_) (fun c => Vf.ite_b (fun x => absurd x (by decide)) fun _ => ⟨⟨_, _, rfl⟩, Rd.same st, st _ _ hLd⟩)
  obtain ⟨g, hg⟩ : ∃ g, Vf.asked (.two true g1 (.no g2)) = some g := by
    cases e : Vf.asked (.two true g1 (.no g2)) with
    | none => rw [e] at c; exact absurd c (by decide)
    | some g => exact ⟨g, rfl⟩
  obtain ⟨eg, gF⟩ := Vf.asked_some hg
  subst eg
  rw [hg] at T8
  have G8 : Vf.FmK K (upd Hd t (.tup [.str ("refused" : Str)])) (.two true g1 (.no g2)) u4 := T8
  have nm3 : ∀ p ∈ (Vf.Fm.two true g1 (.no g2)).terms, p.1 ∈ Vf.vars4 := fun p hp => by
    rcases List.mem_append.mp (show p ∈ g1.terms ++ g2.terms from hp) with h | h
    · exact nm1 p h
    · exact nm2 p h
  refine ⟨_, rfl, _, rfl, .two true g1 (.no g2), u4, cd, Vf.cnt4 rs, rfl, G8, (Rd.same st).cnt, by omega, (Vf.isF_right gF).1, qsh.small, qsh.nm, fun ls vo => ⟨fun x e => ?_, fun _ ⟨x, hx, e⟩ => ?_, fun _ _ H' s' => ?_⟩⟩
  · have : Vf.gone (Vf.cnt4 rs) ls = none := Vf.gone_none.mpr fun x hx => by
      obtain ⟨r, hr, rfl⟩ := List.mem_map.mp ((vo.mem x).mp hx)
      exact (cok (nm3 r hr)).1
    rw [this] at e; cases e
  · obtain ⟨r, hr, rfl⟩ := List.mem_map.mp ((vo.mem x).mp hx)
    have := (cok (nm3 r hr)).2
    omega
  refine ⟨_, rfl, _, rfl, rfl, _, _, rfl, ?_⟩
  rw [q1.val2 q2 N1.dv, hd, show decide (decide (d = b) = decide (V.int d = V.int b)) = true from decide_eq_true (decide_eq_decide.mpr ⟨fun h => by rw [h], fun h => V.int.inj h⟩)]
  refine ⟨_, rfl, ?_⟩
  exact Vf.ite_b (fun x => absurd x (by decide)) fun _ => ⟨⟨_, _, rfl⟩, (Rd.same st).same s', s' _ _ (st _ _ hLd)⟩
end

theorem all_mk {P : Program} {w : World} {K : PySem.W.Frag} {h : Heap} {mg : Str → Option Value} {fa : Addr} (X : K.In h) (G : h.Ns mainGlobals mg) (hfa : mg "law" = some (.ref fa))
    {f__law_draws f__law_cell f__law_pool f__law_pick f__law_good_terms f__law_qfunction f__law_sum f__law_value f__law_is_int f__law_is_number f_UnknownName___init__ f_check_counts f__sums f_function_variables f_total f_value f_is_name f_is_variable f_are_terms f_is_function f__check_function f__is_least f__is_rest f__parts f__is_sound f__all_terms f_variables f_is_formula f_checked f__truth f_least_or_truth f_added_up f__less_question f__question f_at_least f_exactly f__law_told_question f__law_is_bool f_holds f_answer f_law cc_UnknownName___init__ cda_UnknownName___init__ c_WrongCounts c_InvalidFormula c_UnknownName c_InvalidFunction t_WORDS : Addr}
    {tv_DIGITS tv_GREATEST_DEPTH tv_GREATEST_DIVISOR tv_GREATEST_FACTOR tv_GREATEST_MODULUS tv_GREATEST_NUMBER tv_LEAST_DIVISOR tv_LEAST_MODULUS tv_LETTERS tv_LONGEST_NAME tv_MOST_VARIABLES : Tok}
    (ac_WrongCounts : PySem.W.nsIn K mainGlobals "WrongCounts" = some (some (.ref c_WrongCounts)))
    (ac_InvalidFormula : PySem.W.nsIn K mainGlobals "InvalidFormula" = some (some (.ref c_InvalidFormula)))
    (ac_UnknownName : PySem.W.nsIn K mainGlobals "UnknownName" = some (some (.ref c_UnknownName)))
    (ac_InvalidFunction : PySem.W.nsIn K mainGlobals "InvalidFunction" = some (some (.ref c_InvalidFunction)))
    (a__law_draws : PySem.W.nsIn K mainGlobals "_law_draws" = some (some (.ref f__law_draws)))
    (l__law_draws : Vf.FunAt K "_law_draws" "_law_draws" s__law_draws f__law_draws)
    (a__law_cell : PySem.W.nsIn K mainGlobals "_law_cell" = some (some (.ref f__law_cell)))
    (l__law_cell : Vf.FunAt K "_law_cell" "_law_cell" s__law_cell f__law_cell)
    (a__law_pool : PySem.W.nsIn K mainGlobals "_law_pool" = some (some (.ref f__law_pool)))
    (l__law_pool : Vf.FunAt K "_law_pool" "_law_pool" s__law_pool f__law_pool)
    (a__law_pick : PySem.W.nsIn K mainGlobals "_law_pick" = some (some (.ref f__law_pick)))
    (l__law_pick : Vf.FunAt K "_law_pick" "_law_pick" s__law_pick f__law_pick)
    (a__law_good_terms : PySem.W.nsIn K mainGlobals "_law_good_terms" = some (some (.ref f__law_good_terms)))
    (l__law_good_terms : Vf.FunAt K "_law_good_terms" "_law_good_terms" s__law_good_terms f__law_good_terms)
    (a__law_qfunction : PySem.W.nsIn K mainGlobals "_law_qfunction" = some (some (.ref f__law_qfunction)))
    (l__law_qfunction : Vf.FunAt K "_law_qfunction" "_law_qfunction" s__law_qfunction f__law_qfunction)
    (a__law_sum : PySem.W.nsIn K mainGlobals "_law_sum" = some (some (.ref f__law_sum)))
    (l__law_sum : Vf.FunAt K "_law_sum" "_law_sum" s__law_sum f__law_sum)
    (a__law_value : PySem.W.nsIn K mainGlobals "_law_value" = some (some (.ref f__law_value)))
    (l__law_value : Vf.FunAt K "_law_value" "_law_value" s__law_value f__law_value)
    (a__law_is_int : PySem.W.nsIn K mainGlobals "_law_is_int" = some (some (.ref f__law_is_int)))
    (l__law_is_int : Vf.FunAt K "_law_is_int" "_law_is_int" s__law_is_int f__law_is_int)
    (a__law_is_number : PySem.W.nsIn K mainGlobals "_law_is_number" = some (some (.ref f__law_is_number)))
    (l__law_is_number : Vf.FunAt K "_law_is_number" "_law_is_number" s__law_is_number f__law_is_number)
    (I_UnknownName : PySem.W.findIn K (.ref c_UnknownName) "__init__" = some (some (.ref f_UnknownName___init__)))
    (Y_UnknownName : PySem.W.typeIn K (.ref f_UnknownName___init__) = some (.type "function"))
    (l_UnknownName___init__ : ∃ fd, Vf.InitAt P K "UnknownName.__init__" s_UnknownName___init__ c_UnknownName f_UnknownName___init__ cc_UnknownName___init__ cda_UnknownName___init__ fd)
    (O_UnknownName : OexC K c_UnknownName)
    (S_UnknownName : Vf.SupCls K c_UnknownName)
    (X_UnknownName : XfC K c_UnknownName)
    (N_UnknownName_name : PySem.W.findIn K (.ref c_UnknownName) "name" = some none)
    (a_check_counts : PySem.W.nsIn K mainGlobals "check_counts" = some (some (.ref f_check_counts)))
    (l_check_counts : Vf.FunAt K "check_counts" "check_counts" s_check_counts f_check_counts)
    (a__sums : PySem.W.nsIn K mainGlobals "_sums" = some (some (.ref f__sums)))
    (l__sums : Vf.FunAt K "_sums" "_sums" s__sums f__sums)
    (a_function_variables : PySem.W.nsIn K mainGlobals "function_variables" = some (some (.ref f_function_variables)))
    (l_function_variables : Vf.FunAt K "function_variables" "function_variables" s_function_variables f_function_variables)
    (a_total : PySem.W.nsIn K mainGlobals "total" = some (some (.ref f_total)))
    (l_total : Vf.FunAt K "total" "total" s_total f_total)
    (a_value : PySem.W.nsIn K mainGlobals "value" = some (some (.ref f_value)))
    (l_value : Vf.FunAt K "value" "value" s_value f_value)
    (a_is_name : PySem.W.nsIn K mainGlobals "is_name" = some (some (.ref f_is_name)))
    (l_is_name : Vf.FunAt K "is_name" "is_name" s_is_name f_is_name)
    (a_is_variable : PySem.W.nsIn K mainGlobals "is_variable" = some (some (.ref f_is_variable)))
    (l_is_variable : Vf.FunAt K "is_variable" "is_variable" s_is_variable f_is_variable)
    (a_are_terms : PySem.W.nsIn K mainGlobals "are_terms" = some (some (.ref f_are_terms)))
    (l_are_terms : Vf.FunAt K "are_terms" "are_terms" s_are_terms f_are_terms)
    (a_is_function : PySem.W.nsIn K mainGlobals "is_function" = some (some (.ref f_is_function)))
    (l_is_function : Vf.FunAt K "is_function" "is_function" s_is_function f_is_function)
    (a__check_function : PySem.W.nsIn K mainGlobals "_check_function" = some (some (.ref f__check_function)))
    (l__check_function : Vf.FunAt K "_check_function" "_check_function" s__check_function f__check_function)
    (a__is_least : PySem.W.nsIn K mainGlobals "_is_least" = some (some (.ref f__is_least)))
    (l__is_least : Vf.FunAt K "_is_least" "_is_least" s__is_least f__is_least)
    (a__is_rest : PySem.W.nsIn K mainGlobals "_is_rest" = some (some (.ref f__is_rest)))
    (l__is_rest : Vf.FunAt K "_is_rest" "_is_rest" s__is_rest f__is_rest)
    (a__parts : PySem.W.nsIn K mainGlobals "_parts" = some (some (.ref f__parts)))
    (l__parts : Vf.FunAt K "_parts" "_parts" s__parts f__parts)
    (a__is_sound : PySem.W.nsIn K mainGlobals "_is_sound" = some (some (.ref f__is_sound)))
    (l__is_sound : Vf.FunAt K "_is_sound" "_is_sound" s__is_sound f__is_sound)
    (a__all_terms : PySem.W.nsIn K mainGlobals "_all_terms" = some (some (.ref f__all_terms)))
    (l__all_terms : Vf.FunAt K "_all_terms" "_all_terms" s__all_terms f__all_terms)
    (a_variables : PySem.W.nsIn K mainGlobals "variables" = some (some (.ref f_variables)))
    (l_variables : Vf.FunAt K "variables" "variables" s_variables f_variables)
    (a_is_formula : PySem.W.nsIn K mainGlobals "is_formula" = some (some (.ref f_is_formula)))
    (l_is_formula : Vf.FunAt K "is_formula" "is_formula" s_is_formula f_is_formula)
    (a_checked : PySem.W.nsIn K mainGlobals "checked" = some (some (.ref f_checked)))
    (l_checked : Vf.FunAt K "checked" "checked" s_checked f_checked)
    (a__truth : PySem.W.nsIn K mainGlobals "_truth" = some (some (.ref f__truth)))
    (l__truth : Vf.FunAt K "_truth" "_truth" s__truth f__truth)
    (a_least_or_truth : PySem.W.nsIn K mainGlobals "least_or_truth" = some (some (.ref f_least_or_truth)))
    (l_least_or_truth : Vf.FunAt K "least_or_truth" "least_or_truth" s_least_or_truth f_least_or_truth)
    (a_added_up : PySem.W.nsIn K mainGlobals "added_up" = some (some (.ref f_added_up)))
    (l_added_up : Vf.FunAt K "added_up" "added_up" s_added_up f_added_up)
    (a__less_question : PySem.W.nsIn K mainGlobals "_less_question" = some (some (.ref f__less_question)))
    (l__less_question : Vf.FunAt K "_less_question" "_less_question" s__less_question f__less_question)
    (a__question : PySem.W.nsIn K mainGlobals "_question" = some (some (.ref f__question)))
    (l__question : Vf.FunAt K "_question" "_question" s__question f__question)
    (a_at_least : PySem.W.nsIn K mainGlobals "at_least" = some (some (.ref f_at_least)))
    (l_at_least : Vf.FunAt K "at_least" "at_least" s_at_least f_at_least)
    (a_exactly : PySem.W.nsIn K mainGlobals "exactly" = some (some (.ref f_exactly)))
    (l_exactly : Vf.FunAt K "exactly" "exactly" s_exactly f_exactly)
    (a__law_told_question : PySem.W.nsIn K mainGlobals "_law_told_question" = some (some (.ref f__law_told_question)))
    (l__law_told_question : Vf.FunAt K "_law_told_question" "_law_told_question" s__law_told_question f__law_told_question)
    (a__law_is_bool : PySem.W.nsIn K mainGlobals "_law_is_bool" = some (some (.ref f__law_is_bool)))
    (l__law_is_bool : Vf.FunAt K "_law_is_bool" "_law_is_bool" s__law_is_bool f__law_is_bool)
    (a_holds : PySem.W.nsIn K mainGlobals "holds" = some (some (.ref f_holds)))
    (l_holds : Vf.FunAt K "holds" "holds" s_holds f_holds)
    (a_answer : PySem.W.nsIn K mainGlobals "answer" = some (some (.ref f_answer)))
    (l_answer : Vf.FunAt K "answer" "answer" s_answer f_answer)
    (a_law : PySem.W.nsIn K mainGlobals "law" = some (some (.ref f_law)))
    (l_law : Vf.FunAt K "law" "law" s_law f_law)
    (x_WrongCounts : PySem.W.excIn K c_WrongCounts [.type "ValueError", .type "Exception", .type "BaseException", .type "object"] "ValueError.__new__" = true)
    (k_WrongCounts : PySem.W.keepIn K (.ref c_WrongCounts) = true)
    (b_WrongCounts : PySem.W.subIn K (.ref c_WrongCounts) (.type "BaseException") = some true)
    (t_WrongCounts : PySem.W.typeIn K (.ref c_WrongCounts) = some (.type "type"))
    (ic_WrongCounts : PySem.W.isClsIn K c_WrongCounts = true)
    (s_WrongCounts : PySem.W.subIn K (.ref c_WrongCounts) (.ref c_WrongCounts) = some true)
    (x_InvalidFormula : PySem.W.excIn K c_InvalidFormula [.type "ValueError", .type "Exception", .type "BaseException", .type "object"] "ValueError.__new__" = true)
    (k_InvalidFormula : PySem.W.keepIn K (.ref c_InvalidFormula) = true)
    (b_InvalidFormula : PySem.W.subIn K (.ref c_InvalidFormula) (.type "BaseException") = some true)
    (t_InvalidFormula : PySem.W.typeIn K (.ref c_InvalidFormula) = some (.type "type"))
    (ic_InvalidFormula : PySem.W.isClsIn K c_InvalidFormula = true)
    (s_InvalidFormula : PySem.W.subIn K (.ref c_InvalidFormula) (.ref c_InvalidFormula) = some true)
    (k_UnknownName : PySem.W.keepIn K (.ref c_UnknownName) = true)
    (b_UnknownName : PySem.W.subIn K (.ref c_UnknownName) (.type "BaseException") = some true)
    (t_UnknownName : PySem.W.typeIn K (.ref c_UnknownName) = some (.type "type"))
    (ic_UnknownName : PySem.W.isClsIn K c_UnknownName = true)
    (s_UnknownName : PySem.W.subIn K (.ref c_UnknownName) (.ref c_UnknownName) = some true)
    (x_InvalidFunction : PySem.W.excIn K c_InvalidFunction [.type "ValueError", .type "Exception", .type "BaseException", .type "object"] "ValueError.__new__" = true)
    (k_InvalidFunction : PySem.W.keepIn K (.ref c_InvalidFunction) = true)
    (b_InvalidFunction : PySem.W.subIn K (.ref c_InvalidFunction) (.type "BaseException") = some true)
    (t_InvalidFunction : PySem.W.typeIn K (.ref c_InvalidFunction) = some (.type "type"))
    (ic_InvalidFunction : PySem.W.isClsIn K c_InvalidFunction = true)
    (s_InvalidFunction : PySem.W.subIn K (.ref c_InvalidFunction) (.ref c_InvalidFunction) = some true)
    (s_InvalidFormula_InvalidFunction : PySem.W.subIn K (.ref c_InvalidFormula) (.ref c_InvalidFunction) = some false)
    (ne_InvalidFormula_InvalidFunction : c_InvalidFormula ≠ c_InvalidFunction)
    (z_all : PySem.W.nsIn K mainGlobals "all" = some none)
    (z_bool : PySem.W.nsIn K mainGlobals "bool" = some none)
    (z_int : PySem.W.nsIn K mainGlobals "int" = some none)
    (z_isinstance : PySem.W.nsIn K mainGlobals "isinstance" = some none)
    (z_len : PySem.W.nsIn K mainGlobals "len" = some none)
    (z_list : PySem.W.nsIn K mainGlobals "list" = some none)
    (z_max : PySem.W.nsIn K mainGlobals "max" = some none)
    (z_min : PySem.W.nsIn K mainGlobals "min" = some none)
    (z_range : PySem.W.nsIn K mainGlobals "range" = some none)
    (z_set : PySem.W.nsIn K mainGlobals "set" = some none)
    (z_sorted : PySem.W.nsIn K mainGlobals "sorted" = some none)
    (z_str : PySem.W.nsIn K mainGlobals "str" = some none)
    (z_sum : PySem.W.nsIn K mainGlobals "sum" = some none)
    (z_super : PySem.W.nsIn K mainGlobals "super" = some none)
    (z_tuple : PySem.W.nsIn K mainGlobals "tuple" = some none)
    (w_WORDS : PySem.W.nsIn K mainGlobals "WORDS" = some (some (.ref t_WORDS)))
    (y_WORDS : Vf.TupK K t_WORDS ["and", "or", "not", "true", "false", "mod"])
    (v_DIGITS : PySem.W.nsIn K mainGlobals "DIGITS" = some (some (.str "0123456789" tv_DIGITS)))
    (v_GREATEST_DEPTH : PySem.W.nsIn K mainGlobals "GREATEST_DEPTH" = some (some (.int 8 tv_GREATEST_DEPTH)))
    (v_GREATEST_DIVISOR : PySem.W.nsIn K mainGlobals "GREATEST_DIVISOR" = some (some (.int 20 tv_GREATEST_DIVISOR)))
    (v_GREATEST_FACTOR : PySem.W.nsIn K mainGlobals "GREATEST_FACTOR" = some (some (.int 9 tv_GREATEST_FACTOR)))
    (v_GREATEST_MODULUS : PySem.W.nsIn K mainGlobals "GREATEST_MODULUS" = some (some (.int 20 tv_GREATEST_MODULUS)))
    (v_GREATEST_NUMBER : PySem.W.nsIn K mainGlobals "GREATEST_NUMBER" = some (some (.int 20 tv_GREATEST_NUMBER)))
    (v_LEAST_DIVISOR : PySem.W.nsIn K mainGlobals "LEAST_DIVISOR" = some (some (.int 2 tv_LEAST_DIVISOR)))
    (v_LEAST_MODULUS : PySem.W.nsIn K mainGlobals "LEAST_MODULUS" = some (some (.int 2 tv_LEAST_MODULUS)))
    (v_LETTERS : PySem.W.nsIn K mainGlobals "LETTERS" = some (some (.str "abcdefghijklmnopqrstuvwxyz" tv_LETTERS)))
    (v_LONGEST_NAME : PySem.W.nsIn K mainGlobals "LONGEST_NAME" = some (some (.int 12 tv_LONGEST_NAME)))
    (v_MOST_VARIABLES : PySem.W.nsIn K mainGlobals "MOST_VARIABLES" = some (some (.int 8 tv_MOST_VARIABLES))) :
    ∃ fd : FuncData, (∀ (s : Shared) (u : Value), BindsTo s fd ⟨[u], []⟩ [("script", u)]) ∧ ∀ base : Heap, K.In base → base.Ns mainGlobals mg → FnOk P w K mg base CX0 29 fa fd ["script"] (Vf.spLaw K) := by
  have e := hfa.symm.trans (PySem.W.mg_of X G a_law)
  cases e
  obtain ⟨d__law_draws, F__law_draws⟩ := l__law_draws.get
  have B__law_draws := F__law_draws.binds (ps := ["cell", "count"]) fun _ _ _ _ _ _ us hl => match us, hl with | [_, _], _ => rfl
  obtain ⟨d__law_cell, F__law_cell⟩ := l__law_cell.get
  have B__law_cell := F__law_cell.binds (ps := ["script", "k"]) fun _ _ _ _ _ _ us hl => match us, hl with | [_, _], _ => rfl
  obtain ⟨d__law_pool, F__law_pool⟩ := l__law_pool.get
  have B__law_pool := F__law_pool.binds (ps := ["script"]) fun _ _ _ _ _ _ us hl => match us, hl with | [_], _ => rfl
  obtain ⟨d__law_pick, F__law_pick⟩ := l__law_pick.get
  have B__law_pick := F__law_pick.binds (ps := ["pool", "many"]) fun _ _ _ _ _ _ us hl => match us, hl with | [_, _], _ => rfl
  obtain ⟨d__law_good_terms, F__law_good_terms⟩ := l__law_good_terms.get
  have B__law_good_terms := F__law_good_terms.binds (ps := ["pool"]) fun _ _ _ _ _ _ us hl => match us, hl with | [_], _ => rfl
  obtain ⟨d__law_qfunction, F__law_qfunction⟩ := l__law_qfunction.get
  have B__law_qfunction := F__law_qfunction.binds (ps := ["pool"]) fun _ _ _ _ _ _ us hl => match us, hl with | [_], _ => rfl
  obtain ⟨d__law_sum, F__law_sum⟩ := l__law_sum.get
  have B__law_sum := F__law_sum.binds (ps := ["terms", "counts"]) fun _ _ _ _ _ _ us hl => match us, hl with | [_, _], _ => rfl
  obtain ⟨d__law_value, F__law_value⟩ := l__law_value.get
  have B__law_value := F__law_value.binds (ps := ["function", "counts"]) fun _ _ _ _ _ _ us hl => match us, hl with | [_, _], _ => rfl
  obtain ⟨d__law_is_int, F__law_is_int⟩ := l__law_is_int.get
  have B__law_is_int := F__law_is_int.binds (ps := ["x"]) fun _ _ _ _ _ _ us hl => match us, hl with | [_], _ => rfl
  obtain ⟨d__law_is_number, F__law_is_number⟩ := l__law_is_number.get
  have B__law_is_number := F__law_is_number.binds (ps := ["x", "due"]) fun _ _ _ _ _ _ us hl => match us, hl with | [_, _], _ => rfl
  obtain ⟨d_UnknownName___init__, D_UnknownName___init__⟩ := l_UnknownName___init__
  have B_UnknownName___init__ := D_UnknownName___init__.binds (ps := ["self", "name"]) fun _ _ _ _ _ us hl => match us, hl with | [_, _], _ => rfl
  obtain ⟨d_check_counts, F_check_counts⟩ := l_check_counts.get
  have B_check_counts := F_check_counts.binds (ps := ["names", "counts"]) fun _ _ _ _ _ _ us hl => match us, hl with | [_, _], _ => rfl
  obtain ⟨d__sums, F__sums⟩ := l__sums.get
  have B__sums := F__sums.binds (ps := ["function"]) fun _ _ _ _ _ _ us hl => match us, hl with | [_], _ => rfl
  obtain ⟨d_function_variables, F_function_variables⟩ := l_function_variables.get
  have B_function_variables := F_function_variables.binds (ps := ["function"]) fun _ _ _ _ _ _ us hl => match us, hl with | [_], _ => rfl
  obtain ⟨d_total, F_total⟩ := l_total.get
  have B_total := F_total.binds (ps := ["terms", "counts"]) fun _ _ _ _ _ _ us hl => match us, hl with | [_, _], _ => rfl
  obtain ⟨d_value, F_value⟩ := l_value.get
  have B_value := F_value.binds (ps := ["function", "counts"]) fun _ _ _ _ _ _ us hl => match us, hl with | [_, _], _ => rfl
  obtain ⟨d_is_name, F_is_name⟩ := l_is_name.get
  have B_is_name := F_is_name.binds (ps := ["name"]) fun _ _ _ _ _ _ us hl => match us, hl with | [_], _ => rfl
  obtain ⟨d_is_variable, F_is_variable⟩ := l_is_variable.get
  have B_is_variable := F_is_variable.binds (ps := ["name"]) fun _ _ _ _ _ _ us hl => match us, hl with | [_], _ => rfl
  obtain ⟨d_are_terms, F_are_terms⟩ := l_are_terms.get
  have B_are_terms := F_are_terms.binds (ps := ["terms", "lowest", "highest"]) fun _ _ _ _ _ _ us hl => match us, hl with | [_, _, _], _ => rfl
  obtain ⟨d_is_function, F_is_function⟩ := l_is_function.get
  have B_is_function := F_is_function.binds (ps := ["function"]) fun _ _ _ _ _ _ us hl => match us, hl with | [_], _ => rfl
  obtain ⟨d__check_function, F__check_function⟩ := l__check_function.get
  have B__check_function := F__check_function.binds (ps := ["function"]) fun _ _ _ _ _ _ us hl => match us, hl with | [_], _ => rfl
  obtain ⟨d__is_least, F__is_least⟩ := l__is_least.get
  have B__is_least := F__is_least.binds (ps := ["terms", "bound"]) fun _ _ _ _ _ _ us hl => match us, hl with | [_, _], _ => rfl
  obtain ⟨d__is_rest, F__is_rest⟩ := l__is_rest.get
  have B__is_rest := F__is_rest.binds (ps := ["terms", "rest", "modulus"]) fun _ _ _ _ _ _ us hl => match us, hl with | [_, _, _], _ => rfl
  obtain ⟨d__parts, F__parts⟩ := l__parts.get
  have B__parts := F__parts.binds (ps := ["formula"]) fun _ _ _ _ _ _ us hl => match us, hl with | [_], _ => rfl
  obtain ⟨d__is_sound, F__is_sound⟩ := l__is_sound.get
  have B__is_sound := F__is_sound.binds (ps := ["formula", "room"]) fun _ _ _ _ _ _ us hl => match us, hl with | [_, _], _ => rfl
  obtain ⟨d__all_terms, F__all_terms⟩ := l__all_terms.get
  have B__all_terms := F__all_terms.binds (ps := ["formula"]) fun _ _ _ _ _ _ us hl => match us, hl with | [_], _ => rfl
  obtain ⟨d_variables, F_variables⟩ := l_variables.get
  have B_variables := F_variables.binds (ps := ["formula"]) fun _ _ _ _ _ _ us hl => match us, hl with | [_], _ => rfl
  obtain ⟨d_is_formula, F_is_formula⟩ := l_is_formula.get
  have B_is_formula := F_is_formula.binds (ps := ["formula"]) fun _ _ _ _ _ _ us hl => match us, hl with | [_], _ => rfl
  obtain ⟨d_checked, F_checked⟩ := l_checked.get
  have B_checked := F_checked.binds (ps := ["formula"]) fun _ _ _ _ _ _ us hl => match us, hl with | [_], _ => rfl
  obtain ⟨d__truth, F__truth⟩ := l__truth.get
  have B__truth := F__truth.binds (ps := ["holds"]) fun _ _ _ _ _ _ us hl => match us, hl with | [_], _ => rfl
  obtain ⟨d_least_or_truth, F_least_or_truth⟩ := l_least_or_truth.get
  have B_least_or_truth := F_least_or_truth.binds (ps := ["terms", "bound"]) fun _ _ _ _ _ _ us hl => match us, hl with | [_, _], _ => rfl
  obtain ⟨d_added_up, F_added_up⟩ := l_added_up.get
  have B_added_up := F_added_up.binds (ps := ["terms"]) fun _ _ _ _ _ _ us hl => match us, hl with | [_], _ => rfl
  obtain ⟨d__less_question, F__less_question⟩ := l__less_question.get
  have B__less_question := F__less_question.binds (ps := ["left", "right", "bound"]) fun _ _ _ _ _ _ us hl => match us, hl with | [_, _, _], _ => rfl
  obtain ⟨d__question, F__question⟩ := l__question.get
  have B__question := F__question.binds (ps := ["function", "bound"]) fun _ _ _ _ _ _ us hl => match us, hl with | [_, _], _ => rfl
  obtain ⟨d_at_least, F_at_least⟩ := l_at_least.get
  have B_at_least := F_at_least.binds (ps := ["function", "bound"]) fun _ _ _ _ _ _ us hl => match us, hl with | [_, _], _ => rfl
  obtain ⟨d_exactly, F_exactly⟩ := l_exactly.get
  have B_exactly := F_exactly.binds (ps := ["function", "number"]) fun _ _ _ _ _ _ us hl => match us, hl with | [_, _], _ => rfl
  obtain ⟨d__law_told_question, F__law_told_question⟩ := l__law_told_question.get
  have B__law_told_question := F__law_told_question.binds (ps := ["function", "number", "way"]) fun _ _ _ _ _ _ us hl => match us, hl with | [_, _, _], _ => rfl
  obtain ⟨d__law_is_bool, F__law_is_bool⟩ := l__law_is_bool.get
  have B__law_is_bool := F__law_is_bool.binds (ps := ["x", "due"]) fun _ _ _ _ _ _ us hl => match us, hl with | [_, _], _ => rfl
  obtain ⟨d_holds, F_holds⟩ := l_holds.get
  have B_holds := F_holds.binds (ps := ["formula", "counts"]) fun _ _ _ _ _ _ us hl => match us, hl with | [_, _], _ => rfl
  obtain ⟨d_answer, F_answer⟩ := l_answer.get
  have B_answer := F_answer.binds (ps := ["formula", "counts"]) fun _ _ _ _ _ _ us hl => match us, hl with | [_, _], _ => rfl
  obtain ⟨oc, od, kV, doc, pm, an, cdv, ct, osl, q1, q2, q3⟩ := l_law
  have F_law := fun_mk (st := s_law) q1 q2 q3
  have T : Txt P K mg ⟨f__law_draws, d__law_draws, f__law_cell, d__law_cell, f__law_pool, d__law_pool, f__law_pick, d__law_pick, f__law_good_terms, d__law_good_terms, f__law_qfunction, d__law_qfunction, f__law_sum, d__law_sum, f__law_value, d__law_value, f__law_is_int, d__law_is_int, f__law_is_number, d__law_is_number, f_UnknownName___init__, d_UnknownName___init__, cc_UnknownName___init__, cda_UnknownName___init__, f_check_counts, d_check_counts, f__sums, d__sums, f_function_variables, d_function_variables, f_total, d_total, f_value, d_value, f_is_name, d_is_name, f_is_variable, d_is_variable, f_are_terms, d_are_terms, f_is_function, d_is_function, f__check_function, d__check_function, f__is_least, d__is_least, f__is_rest, d__is_rest, f__parts, d__parts, f__is_sound, d__is_sound, f__all_terms, d__all_terms, f_variables, d_variables, f_is_formula, d_is_formula, f_checked, d_checked, f__truth, d__truth, f_least_or_truth, d_least_or_truth, f_added_up, d_added_up, f__less_question, d__less_question, f__question, d__question, f_at_least, d_at_least, f_exactly, d_exactly, f__law_told_question, d__law_told_question, f__law_is_bool, d__law_is_bool, f_holds, d_holds, f_answer, d_answer, _, _, c_WrongCounts, c_InvalidFormula, c_UnknownName, c_InvalidFunction, t_WORDS⟩ := {
    F__law_draws := F__law_draws,
    B__law_draws := B__law_draws,
    G__law_draws := PySem.W.mg_of X G a__law_draws,
    F__law_cell := F__law_cell,
    B__law_cell := B__law_cell,
    G__law_cell := PySem.W.mg_of X G a__law_cell,
    F__law_pool := F__law_pool,
    B__law_pool := B__law_pool,
    G__law_pool := PySem.W.mg_of X G a__law_pool,
    F__law_pick := F__law_pick,
    B__law_pick := B__law_pick,
    G__law_pick := PySem.W.mg_of X G a__law_pick,
    F__law_good_terms := F__law_good_terms,
    B__law_good_terms := B__law_good_terms,
    G__law_good_terms := PySem.W.mg_of X G a__law_good_terms,
    F__law_qfunction := F__law_qfunction,
    B__law_qfunction := B__law_qfunction,
    G__law_qfunction := PySem.W.mg_of X G a__law_qfunction,
    F__law_sum := F__law_sum,
    B__law_sum := B__law_sum,
    G__law_sum := PySem.W.mg_of X G a__law_sum,
    F__law_value := F__law_value,
    B__law_value := B__law_value,
    G__law_value := PySem.W.mg_of X G a__law_value,
    F__law_is_int := F__law_is_int,
    B__law_is_int := B__law_is_int,
    G__law_is_int := PySem.W.mg_of X G a__law_is_int,
    F__law_is_number := F__law_is_number,
    B__law_is_number := B__law_is_number,
    G__law_is_number := PySem.W.mg_of X G a__law_is_number,
    D_UnknownName___init__ := D_UnknownName___init__,
    B_UnknownName___init__ := B_UnknownName___init__,
    O_UnknownName := O_UnknownName,
    S_UnknownName := S_UnknownName,
    X_UnknownName := X_UnknownName,
    I_UnknownName := I_UnknownName,
    Y_UnknownName := Y_UnknownName,
    N_UnknownName_name := N_UnknownName_name,
    F_check_counts := F_check_counts,
    B_check_counts := B_check_counts,
    G_check_counts := PySem.W.mg_of X G a_check_counts,
    F__sums := F__sums,
    B__sums := B__sums,
    G__sums := PySem.W.mg_of X G a__sums,
    F_function_variables := F_function_variables,
    B_function_variables := B_function_variables,
    G_function_variables := PySem.W.mg_of X G a_function_variables,
    F_total := F_total,
    B_total := B_total,
    G_total := PySem.W.mg_of X G a_total,
    F_value := F_value,
    B_value := B_value,
    G_value := PySem.W.mg_of X G a_value,
    F_is_name := F_is_name,
    B_is_name := B_is_name,
    G_is_name := PySem.W.mg_of X G a_is_name,
    F_is_variable := F_is_variable,
    B_is_variable := B_is_variable,
    G_is_variable := PySem.W.mg_of X G a_is_variable,
    F_are_terms := F_are_terms,
    B_are_terms := B_are_terms,
    G_are_terms := PySem.W.mg_of X G a_are_terms,
    F_is_function := F_is_function,
    B_is_function := B_is_function,
    G_is_function := PySem.W.mg_of X G a_is_function,
    F__check_function := F__check_function,
    B__check_function := B__check_function,
    G__check_function := PySem.W.mg_of X G a__check_function,
    F__is_least := F__is_least,
    B__is_least := B__is_least,
    G__is_least := PySem.W.mg_of X G a__is_least,
    F__is_rest := F__is_rest,
    B__is_rest := B__is_rest,
    G__is_rest := PySem.W.mg_of X G a__is_rest,
    F__parts := F__parts,
    B__parts := B__parts,
    G__parts := PySem.W.mg_of X G a__parts,
    F__is_sound := F__is_sound,
    B__is_sound := B__is_sound,
    G__is_sound := PySem.W.mg_of X G a__is_sound,
    F__all_terms := F__all_terms,
    B__all_terms := B__all_terms,
    G__all_terms := PySem.W.mg_of X G a__all_terms,
    F_variables := F_variables,
    B_variables := B_variables,
    G_variables := PySem.W.mg_of X G a_variables,
    F_is_formula := F_is_formula,
    B_is_formula := B_is_formula,
    G_is_formula := PySem.W.mg_of X G a_is_formula,
    F_checked := F_checked,
    B_checked := B_checked,
    G_checked := PySem.W.mg_of X G a_checked,
    F__truth := F__truth,
    B__truth := B__truth,
    G__truth := PySem.W.mg_of X G a__truth,
    F_least_or_truth := F_least_or_truth,
    B_least_or_truth := B_least_or_truth,
    G_least_or_truth := PySem.W.mg_of X G a_least_or_truth,
    F_added_up := F_added_up,
    B_added_up := B_added_up,
    G_added_up := PySem.W.mg_of X G a_added_up,
    F__less_question := F__less_question,
    B__less_question := B__less_question,
    G__less_question := PySem.W.mg_of X G a__less_question,
    F__question := F__question,
    B__question := B__question,
    G__question := PySem.W.mg_of X G a__question,
    F_at_least := F_at_least,
    B_at_least := B_at_least,
    G_at_least := PySem.W.mg_of X G a_at_least,
    F_exactly := F_exactly,
    B_exactly := B_exactly,
    G_exactly := PySem.W.mg_of X G a_exactly,
    F__law_told_question := F__law_told_question,
    B__law_told_question := B__law_told_question,
    G__law_told_question := PySem.W.mg_of X G a__law_told_question,
    F__law_is_bool := F__law_is_bool,
    B__law_is_bool := B__law_is_bool,
    G__law_is_bool := PySem.W.mg_of X G a__law_is_bool,
    F_holds := F_holds,
    B_holds := B_holds,
    G_holds := PySem.W.mg_of X G a_holds,
    F_answer := F_answer,
    B_answer := B_answer,
    G_answer := PySem.W.mg_of X G a_answer,
    F_law := F_law,
    G_law := PySem.W.mg_of X G a_law,
    G_WrongCounts := PySem.W.mg_of X G ac_WrongCounts,
    x_WrongCounts := x_WrongCounts,
    k_WrongCounts := k_WrongCounts,
    b_WrongCounts := b_WrongCounts,
    t_WrongCounts := t_WrongCounts,
    e_WrongCounts := Vf.exm_self b_WrongCounts ic_WrongCounts t_WrongCounts s_WrongCounts,
    G_InvalidFormula := PySem.W.mg_of X G ac_InvalidFormula,
    x_InvalidFormula := x_InvalidFormula,
    k_InvalidFormula := k_InvalidFormula,
    b_InvalidFormula := b_InvalidFormula,
    t_InvalidFormula := t_InvalidFormula,
    e_InvalidFormula := Vf.exm_self b_InvalidFormula ic_InvalidFormula t_InvalidFormula s_InvalidFormula,
    G_UnknownName := PySem.W.mg_of X G ac_UnknownName,
    k_UnknownName := k_UnknownName,
    b_UnknownName := b_UnknownName,
    t_UnknownName := t_UnknownName,
    e_UnknownName := Vf.exm_self b_UnknownName ic_UnknownName t_UnknownName s_UnknownName,
    G_InvalidFunction := PySem.W.mg_of X G ac_InvalidFunction,
    x_InvalidFunction := x_InvalidFunction,
    k_InvalidFunction := k_InvalidFunction,
    b_InvalidFunction := b_InvalidFunction,
    t_InvalidFunction := t_InvalidFunction,
    e_InvalidFunction := Vf.exm_self b_InvalidFunction ic_InvalidFunction t_InvalidFunction s_InvalidFunction,
    e_InvalidFormula_InvalidFunction := Vf.exm_other b_InvalidFunction ic_InvalidFunction t_InvalidFunction s_InvalidFormula_InvalidFunction ne_InvalidFormula_InvalidFunction,
    N_all := PySem.W.mg_none_of X G z_all,
    N_bool := PySem.W.mg_none_of X G z_bool,
    N_int := PySem.W.mg_none_of X G z_int,
    N_isinstance := PySem.W.mg_none_of X G z_isinstance,
    N_len := PySem.W.mg_none_of X G z_len,
    N_list := PySem.W.mg_none_of X G z_list,
    N_max := PySem.W.mg_none_of X G z_max,
    N_min := PySem.W.mg_none_of X G z_min,
    N_range := PySem.W.mg_none_of X G z_range,
    N_set := PySem.W.mg_none_of X G z_set,
    N_sorted := PySem.W.mg_none_of X G z_sorted,
    N_str := PySem.W.mg_none_of X G z_str,
    N_sum := PySem.W.mg_none_of X G z_sum,
    N_super := PySem.W.mg_none_of X G z_super,
    N_tuple := PySem.W.mg_none_of X G z_tuple,
    W_WORDS := PySem.W.mg_of X G w_WORDS,
    Z_WORDS := y_WORDS,
    V_DIGITS := ⟨_, PySem.W.mg_of X G v_DIGITS⟩,
    V_GREATEST_DEPTH := ⟨_, PySem.W.mg_of X G v_GREATEST_DEPTH⟩,
    V_GREATEST_DIVISOR := ⟨_, PySem.W.mg_of X G v_GREATEST_DIVISOR⟩,
    V_GREATEST_FACTOR := ⟨_, PySem.W.mg_of X G v_GREATEST_FACTOR⟩,
    V_GREATEST_MODULUS := ⟨_, PySem.W.mg_of X G v_GREATEST_MODULUS⟩,
    V_GREATEST_NUMBER := ⟨_, PySem.W.mg_of X G v_GREATEST_NUMBER⟩,
    V_LEAST_DIVISOR := ⟨_, PySem.W.mg_of X G v_LEAST_DIVISOR⟩,
    V_LEAST_MODULUS := ⟨_, PySem.W.mg_of X G v_LEAST_MODULUS⟩,
    V_LETTERS := ⟨_, PySem.W.mg_of X G v_LETTERS⟩,
    V_LONGEST_NAME := ⟨_, PySem.W.mg_of X G v_LONGEST_NAME⟩,
    V_MOST_VARIABLES := ⟨_, PySem.W.mg_of X G v_MOST_VARIABLES⟩ }
  exact ⟨_, fun s u => .of_eq rfl, fun base _ _ => ok_law T⟩
theorem walk {l : PySem.W.OpenLaw} {q : Program} {loose : List Str} {XP : (Str → Option Value) → Heap → Prop} {YP : World → Heap → Prop} {d : DefRec} {K : Params → PySem.W.Frag} (hn : l.most = some 63) (hdf : d.params.defaults = [])
    (hY : ∀ (w : World) (h : Heap), YP w h → (K w.params).In h)
    (F : ∀ (w : World) (mg : Str → Option Value) (fa : Addr) (h : Heap), (K w.params).In h → h.Ns mainGlobals mg → mg d.name = some (.ref fa) →
      ∃ fd : FuncData, (∀ (s : Shared) (u : Value), BindsTo s fd ⟨[u], []⟩ [("script", u)]) ∧ ∀ base : Heap, (K w.params).In base → base.Ns mainGlobals mg → FnOk l.prog w (K w.params) mg base CX0 29 fa fd ["script"] (Vf.spLaw (K w.params))) :
    PySem.W.WalkO q loose XP YP l.row.toRowW d [] (fun f vs => PySem.call f vs) :=
  L2.walk_of (n := 63) (k := 29) (x := "script") (CX := fun _ => CX0) (sp := fun w => Vf.spLaw (K w.params)) hn (by decide) hdf ⟨rfl, by decide, by decide⟩ hY F (fun _ _ a ns hl _ hS => ⟨a, ns, rfl, hS, hl, fun _ => rfl⟩) fun _ _ _ _ _ z => z
end Pf
open PySem PySem.W PyProof.Rows
set_option maxRecDepth 100000 in
set_option maxHeartbeats 0 in
theorem PySem.Challenge.cw_mingle_k96_whole_questions_tell_the_valu_holds : PySem.Challenge.rw_mingle_k96_whole_questions_tell_the_valu.Holds := by
  w_on; o_law; k_head; (case hw => w_witness2)
  k_fill
  refine Pf.walk (l := PySem.Challenge.rw_mingle_k96_whole_questions_tell_the_valu) rfl rfl (fun w h Y => PySem.W.kIn_of Y) ?F
  case F =>
    intro w mg fa h KX G hmg
    refine' Pf.all_mk KX G hmg ?ac_WrongCounts ?ac_InvalidFormula ?ac_UnknownName ?ac_InvalidFunction ?a__law_draws ?l__law_draws ?a__law_cell ?l__law_cell ?a__law_pool ?l__law_pool ?a__law_pick ?l__law_pick ?a__law_good_terms ?l__law_good_terms ?a__law_qfunction ?l__law_qfunction ?a__law_sum ?l__law_sum ?a__law_value ?l__law_value ?a__law_is_int ?l__law_is_int ?a__law_is_number ?l__law_is_number ?I_UnknownName ?Y_UnknownName ?l_UnknownName___init__ ?O_UnknownName ?S_UnknownName ?X_UnknownName ?N_UnknownName_name ?a_check_counts ?l_check_counts ?a__sums ?l__sums ?a_function_variables ?l_function_variables ?a_total ?l_total ?a_value ?l_value ?a_is_name ?l_is_name ?a_is_variable ?l_is_variable ?a_are_terms ?l_are_terms ?a_is_function ?l_is_function ?a__check_function ?l__check_function ?a__is_least ?l__is_least ?a__is_rest ?l__is_rest ?a__parts ?l__parts ?a__is_sound ?l__is_sound ?a__all_terms ?l__all_terms ?a_variables ?l_variables ?a_is_formula ?l_is_formula ?a_checked ?l_checked ?a__truth ?l__truth ?a_least_or_truth ?l_least_or_truth ?a_added_up ?l_added_up ?a__less_question ?l__less_question ?a__question ?l__question ?a_at_least ?l_at_least ?a_exactly ?l_exactly ?a__law_told_question ?l__law_told_question ?a__law_is_bool ?l__law_is_bool ?a_holds ?l_holds ?a_answer ?l_answer ?a_law ?l_law ?x_WrongCounts ?k_WrongCounts ?b_WrongCounts ?t_WrongCounts ?ic_WrongCounts ?s_WrongCounts ?x_InvalidFormula ?k_InvalidFormula ?b_InvalidFormula ?t_InvalidFormula ?ic_InvalidFormula ?s_InvalidFormula ?k_UnknownName ?b_UnknownName ?t_UnknownName ?ic_UnknownName ?s_UnknownName ?x_InvalidFunction ?k_InvalidFunction ?b_InvalidFunction ?t_InvalidFunction ?ic_InvalidFunction ?s_InvalidFunction ?s_InvalidFormula_InvalidFunction ?ne_InvalidFormula_InvalidFunction ?z_all ?z_bool ?z_int ?z_isinstance ?z_len ?z_list ?z_max ?z_min ?z_range ?z_set ?z_sorted ?z_str ?z_sum ?z_super ?z_tuple ?w_WORDS ?y_WORDS ?v_DIGITS ?v_GREATEST_DEPTH ?v_GREATEST_DIVISOR ?v_GREATEST_FACTOR ?v_GREATEST_MODULUS ?v_GREATEST_NUMBER ?v_LEAST_DIVISOR ?v_LEAST_MODULUS ?v_LETTERS ?v_LONGEST_NAME ?v_MOST_VARIABLES
    (case ac_WrongCounts => k_is)
    (case ac_InvalidFormula => k_is)
    (case ac_UnknownName => k_is)
    (case ac_InvalidFunction => k_is)
    (case a__law_draws => k_is)
    (case l__law_draws => exact ⟨_, _, _, _, _, _, _, _, _, by k_is, by k_is, by k_is⟩)
    (case a__law_cell => k_is)
    (case l__law_cell => exact ⟨_, _, _, _, _, _, _, _, _, by k_is, by k_is, by k_is⟩)
    (case a__law_pool => k_is)
    (case l__law_pool => exact ⟨_, _, _, _, _, _, _, _, _, by k_is, by k_is, by k_is⟩)
    (case a__law_pick => k_is)
    (case l__law_pick => exact ⟨_, _, _, _, _, _, _, _, _, by k_is, by k_is, by k_is⟩)
    (case a__law_good_terms => k_is)
    (case l__law_good_terms => exact ⟨_, _, _, _, _, _, _, _, _, by k_is, by k_is, by k_is⟩)
    (case a__law_qfunction => k_is)
    (case l__law_qfunction => exact ⟨_, _, _, _, _, _, _, _, _, by k_is, by k_is, by k_is⟩)
    (case a__law_sum => k_is)
    (case l__law_sum => exact ⟨_, _, _, _, _, _, _, _, _, by k_is, by k_is, by k_is⟩)
    (case a__law_value => k_is)
    (case l__law_value => exact ⟨_, _, _, _, _, _, _, _, _, by k_is, by k_is, by k_is⟩)
    (case a__law_is_int => k_is)
    (case l__law_is_int => exact ⟨_, _, _, _, _, _, _, _, _, by k_is, by k_is, by k_is⟩)
    (case a__law_is_number => k_is)
    (case l__law_is_number => exact ⟨_, _, _, _, _, _, _, _, _, by k_is, by k_is, by k_is⟩)
    (case I_UnknownName => k_is)
    (case Y_UnknownName => k_is)
    (case l_UnknownName___init__ => exact ⟨_, _, _, _, _, _, _, _, _, _, _, _, _, _, _, _, _, _, rfl, by k_is, by k_is, by k_is, by k_is, by rfl, by decide +kernel, by decide +kernel⟩)
    (case O_UnknownName => exact ⟨⟨_, _, _, _, _, _, _, _, _, _, _, _, _, _, _, by k_is, by rfl⟩, by k_is, by k_is, by k_is, by k_is⟩)
    (case S_UnknownName => exact ⟨by k_is, by first | rfl | (unfold PySem.W.ks_superIn; rfl) | decide +kernel, by k_is, by k_is⟩)
    (case X_UnknownName => exact ⟨by k_is, by k_is, by k_is, by k_is⟩)
    (case N_UnknownName_name => k_is)
    (case a_check_counts => k_is)
    (case l_check_counts => exact ⟨_, _, _, _, _, _, _, _, _, by k_is, by k_is, by k_is⟩)
    (case a__sums => k_is)
    (case l__sums => exact ⟨_, _, _, _, _, _, _, _, _, by k_is, by k_is, by k_is⟩)
    (case a_function_variables => k_is)
    (case l_function_variables => exact ⟨_, _, _, _, _, _, _, _, _, by k_is, by k_is, by k_is⟩)
    (case a_total => k_is)
    (case l_total => exact ⟨_, _, _, _, _, _, _, _, _, by k_is, by k_is, by k_is⟩)
    (case a_value => k_is)
    (case l_value => exact ⟨_, _, _, _, _, _, _, _, _, by k_is, by k_is, by k_is⟩)
    (case a_is_name => k_is)
    (case l_is_name => exact ⟨_, _, _, _, _, _, _, _, _, by k_is, by k_is, by k_is⟩)
    (case a_is_variable => k_is)
    (case l_is_variable => exact ⟨_, _, _, _, _, _, _, _, _, by k_is, by k_is, by k_is⟩)
    (case a_are_terms => k_is)
    (case l_are_terms => exact ⟨_, _, _, _, _, _, _, _, _, by k_is, by k_is, by k_is⟩)
    (case a_is_function => k_is)
    (case l_is_function => exact ⟨_, _, _, _, _, _, _, _, _, by k_is, by k_is, by k_is⟩)
    (case a__check_function => k_is)
    (case l__check_function => exact ⟨_, _, _, _, _, _, _, _, _, by k_is, by k_is, by k_is⟩)
    (case a__is_least => k_is)
    (case l__is_least => exact ⟨_, _, _, _, _, _, _, _, _, by k_is, by k_is, by k_is⟩)
    (case a__is_rest => k_is)
    (case l__is_rest => exact ⟨_, _, _, _, _, _, _, _, _, by k_is, by k_is, by k_is⟩)
    (case a__parts => k_is)
    (case l__parts => exact ⟨_, _, _, _, _, _, _, _, _, by k_is, by k_is, by k_is⟩)
    (case a__is_sound => k_is)
    (case l__is_sound => exact ⟨_, _, _, _, _, _, _, _, _, by k_is, by k_is, by k_is⟩)
    (case a__all_terms => k_is)
    (case l__all_terms => exact ⟨_, _, _, _, _, _, _, _, _, by k_is, by k_is, by k_is⟩)
    (case a_variables => k_is)
    (case l_variables => exact ⟨_, _, _, _, _, _, _, _, _, by k_is, by k_is, by k_is⟩)
    (case a_is_formula => k_is)
    (case l_is_formula => exact ⟨_, _, _, _, _, _, _, _, _, by k_is, by k_is, by k_is⟩)
    (case a_checked => k_is)
    (case l_checked => exact ⟨_, _, _, _, _, _, _, _, _, by k_is, by k_is, by k_is⟩)
    (case a__truth => k_is)
    (case l__truth => exact ⟨_, _, _, _, _, _, _, _, _, by k_is, by k_is, by k_is⟩)
    (case a_least_or_truth => k_is)
    (case l_least_or_truth => exact ⟨_, _, _, _, _, _, _, _, _, by k_is, by k_is, by k_is⟩)
    (case a_added_up => k_is)
    (case l_added_up => exact ⟨_, _, _, _, _, _, _, _, _, by k_is, by k_is, by k_is⟩)
    (case a__less_question => k_is)
    (case l__less_question => exact ⟨_, _, _, _, _, _, _, _, _, by k_is, by k_is, by k_is⟩)
    (case a__question => k_is)
    (case l__question => exact ⟨_, _, _, _, _, _, _, _, _, by k_is, by k_is, by k_is⟩)
    (case a_at_least => k_is)
    (case l_at_least => exact ⟨_, _, _, _, _, _, _, _, _, by k_is, by k_is, by k_is⟩)
    (case a_exactly => k_is)
    (case l_exactly => exact ⟨_, _, _, _, _, _, _, _, _, by k_is, by k_is, by k_is⟩)
    (case a__law_told_question => k_is)
    (case l__law_told_question => exact ⟨_, _, _, _, _, _, _, _, _, by k_is, by k_is, by k_is⟩)
    (case a__law_is_bool => k_is)
    (case l__law_is_bool => exact ⟨_, _, _, _, _, _, _, _, _, by k_is, by k_is, by k_is⟩)
    (case a_holds => k_is)
    (case l_holds => exact ⟨_, _, _, _, _, _, _, _, _, by k_is, by k_is, by k_is⟩)
    (case a_answer => k_is)
    (case l_answer => exact ⟨_, _, _, _, _, _, _, _, _, by k_is, by k_is, by k_is⟩)
    (case a_law => k_is)
    (case l_law => exact ⟨_, _, _, _, _, _, _, _, _, by k_is, by k_is, by k_is⟩)
    (case x_WrongCounts => k_exc)
    (case k_WrongCounts => k_is)
    (case b_WrongCounts => k_is)
    (case t_WrongCounts => k_is)
    (case ic_WrongCounts => k_is)
    (case s_WrongCounts => first | rfl | k_is)
    (case x_InvalidFormula => k_exc)
    (case k_InvalidFormula => k_is)
    (case b_InvalidFormula => k_is)
    (case t_InvalidFormula => k_is)
    (case ic_InvalidFormula => k_is)
    (case s_InvalidFormula => first | rfl | k_is)
    (case k_UnknownName => k_is)
    (case b_UnknownName => k_is)
    (case t_UnknownName => k_is)
    (case ic_UnknownName => k_is)
    (case s_UnknownName => first | rfl | k_is)
    (case x_InvalidFunction => k_exc)
    (case k_InvalidFunction => k_is)
    (case b_InvalidFunction => k_is)
    (case t_InvalidFunction => k_is)
    (case ic_InvalidFunction => k_is)
    (case s_InvalidFunction => first | rfl | k_is)
    (case s_InvalidFormula_InvalidFunction => first | rfl | k_is)
    (case ne_InvalidFormula_InvalidFunction => decide)
    (case z_all => k_is)
    (case z_bool => k_is)
    (case z_int => k_is)
    (case z_isinstance => k_is)
    (case z_len => k_is)
    (case z_list => k_is)
    (case z_max => k_is)
    (case z_min => k_is)
    (case z_range => k_is)
    (case z_set => k_is)
    (case z_sorted => k_is)
    (case z_str => k_is)
    (case z_sum => k_is)
    (case z_super => k_is)
    (case z_tuple => k_is)
    (case w_WORDS => k_is)
    (case y_WORDS => exact ⟨_, _, _, by k_is, by rfl, by rfl, by rfl, by decide +kernel, .cons ⟨_, rfl⟩ (.cons ⟨_, rfl⟩ (.cons ⟨_, rfl⟩ (.cons ⟨_, rfl⟩ (.cons ⟨_, rfl⟩ (.cons ⟨_, rfl⟩ (.nil))))))⟩)
    (case v_DIGITS => k_is)
    (case v_GREATEST_DEPTH => k_is)
    (case v_GREATEST_DIVISOR => k_is)
    (case v_GREATEST_FACTOR => k_is)
    (case v_GREATEST_MODULUS => k_is)
    (case v_GREATEST_NUMBER => k_is)
    (case v_LEAST_DIVISOR => k_is)
    (case v_LEAST_MODULUS => k_is)
    (case v_LETTERS => k_is)
    (case v_LONGEST_NAME => k_is)
    (case v_MOST_VARIABLES => k_is)
