import PyProof.Rows.All
import Wide.All
import OpenK.AllK
import Wide.FinOn
import HandS.ForMost
import HandS.ForExc
import HandS.Wide
import HandS.DictTup
import HandS.Conv
import HandS.SortRule
import HandS.TupLe
import HandS.FStr
import HandS.RaiseMore
import HandS.IsInst
import HandS.NoneIn
import HandS.Style
import HandS.Zip
import HandS.Steps
import HandS.Evl
import HandS.TupLen
import HandS.Walk
import HandS.SortKw
import HandS.TryOnly
import HandS.WordsExc
import KE.DatumOrd
import KE.GoesZip
import KE.GoesMore
import KE.KTupSum
import OpenK.KOps
import HandS.TryMany
import HandS.Deep
import HandS.SortInts
import HandS.Codes
import HandS.SetBool
import HandS.Strs
import KE.DatumMore
import KE.DataEq
import KE.GoesEnumKw
import PyProof.Rows.CallKwBuiltin
import PyProof.StrLawsTight
import HandS.TupAny
import HandS.DictComp
import HandS.Defaults
import HandS.SetIn
import HandS.RevRange
import KE.KExcSuper
import HandS.ExcInit
import HandS.Nested
import HandS.ExcField
import HandS.HotCalls
import HandS.TupSets
import PySem.Challenge.RW_mingle_k86_whole_equivalent_schedules
set_option Elab.async false
set_option linter.all false
set_option maxRecDepth 100000
set_option maxHeartbeats 2000000
namespace Vf
open PySem L2
/-- a def of the text as it stands behind the top -/
def FunAt (K : PySem.W.Frag) (x qual : Str) (st : Stmt) (f : Addr) : Prop :=
  ∃ (oc : Value) (od : Option Addr) (kV doc pm : Value) (an : Option Addr) (cdv ct : Value) (osl : Array (Option Value)),
    K.lookup f = some ⟨oc, od, .func (PySem.W.fnOf x qual (defArgs st) (defBody st) (defScope st) .none kV doc pm an cdv ct), osl⟩ ∧ PySem.W.codeIn K cdv qual = true ∧ PySem.W.keepIn K (.ref f) = true
theorem FunAt.get {K : PySem.W.Frag} {x qual : Str} {st : Stmt} {f : Addr} (h : FunAt K x qual st f) : ∃ fd, Fun K x qual st f fd := by
  obtain ⟨oc, od, kV, doc, pm, an, cdv, ct, osl, q1, q2, q3⟩ := h
  exact ⟨_, fun_mk q1 q2 q3⟩
/-- what a law promises -/
def spLaw (K : PySem.W.Frag) : Sp := fun vs H Q _ => ∃ (a : Addr) (ns : List Int), vs = [.ref a] ∧ SqL K H a (ns.map V.int) ∧ ns.length ≤ 63 ∧ ∀ H', Q (.bl true) H'
end Vf
namespace Vf
open PySem L2
/-- an own exception class is met by its own clause -/
theorem exm_self {K : PySem.W.Frag} {c : Addr} (b : PySem.W.subIn K (.ref c) (.type "BaseException") = some true) (i : PySem.W.isClsIn K c = true) (t : PySem.W.typeIn K (.ref c) = some (.type "type")) (s : PySem.W.subIn K (.ref c) (.ref c) = some true) :
    PySem.W.exmOne K (.ref c) (.ref c) = some true := by
  unfold PySem.W.isClsIn at i
  simp [PySem.W.exmOne, PySem.W.kitCls, b, i, t, s]
end Vf
namespace Vf
open PySem L2
theorem ite_b {b : Bool} {A B : Prop} (h1 : b = true → A) (h2 : b = false → B) : if b = true then A else B := by
  cases b with
  | true => rw [if_pos rfl]; exact h1 rfl
  | false => rw [if_neg Bool.false_ne_true]; exact h2 rfl
/-- one way after a comparison's answer -/
theorem ite_d {c A B : Prop} [Decidable c] (h1 : c → A) (h2 : ¬ c → B) : if decide c = true then A else B :=
  ite_b (fun h => h1 (of_decide_eq_true h)) (fun h => h2 (of_decide_eq_false h))
theorem Same.new {H H' : Hp} {p : Addr} {o : HO} (e : Same H H') (h : H' p = none) : Same H (upd H' p o) := fun a u q => by
  have q' := e a u q
  rw [upd_ne (ne_of_none q' h)]
  exact q'
theorem Same.chg {H H' : Hp} {p : Addr} {o : HO} (e : Same H H') (h : H p = none) : Same H (upd H' p o) := fun a u q => by
  rw [upd_ne (ne_of_none q h)]
  exact e a u q
theorem Same.seqT {K : PySem.W.Frag} {H H' : Hp} {a : Addr} {xs : List V} (e : Same H H') (h : SqT K H a xs) : SqT K H' a xs := by
  rcases h with (h | ⟨o, h⟩) | h
  · exact .inl (.inl (e _ _ h))
  · exact .inl (.inr ⟨o, e _ _ h⟩)
  · exact .inr h
/-- the i-th of a list of ints -/
theorem int_at {ns : List Int} {i : Int} (h0 : 0 ≤ i) (h1 : i < ns.length) : atI (ns.map V.int) i = some (V.int (ns.getD i.toNat 0)) := by
  obtain ⟨j, rfl⟩ : ∃ j : Nat, i = (j : Int) := ⟨i.toNat, by omega⟩
  have hj : j < ns.length := by omega
  refine atI_nat ?_
  rw [List.getElem?_map, List.getElem?_eq_getElem hj]
  simp [List.getD, List.getElem?_eq_getElem hj]
theorem getD_mem {α : Type} {xs : List α} {j : Nat} {d : α} (h : j < xs.length) : xs.getD j d ∈ xs := by
  rw [List.getD_eq_getElem?_getD, List.getElem?_eq_getElem h]
  exact List.getElem_mem h
/-- a new list of ints -/
def NewInts (H : Hp) (Q : VK) (ok : List Int → Prop) : Prop := ∀ (p : Addr) (H' : Hp) (ds : List Int), H p = none → Same H H' → H' p = some (.lst (ds.map V.int)) → ok ds → Q (.ref p) H'
end Vf
namespace Vf
open PySem L2
section
variable {c : TT} {t1 t2 : TS} {D : Ends} {σ : L2.St} {H : Hp}
theorem st_if {b : Bool} (h : Ans c σ H b) (h1 : b = true → t1 D σ H) (h2 : b = false → t2 D σ H) : tIfS c t1 t2 D σ H := h _ (ite_b h1 h2)
end
end Vf
namespace Vf
theorem mod_w {x m : Int} (h : 0 < m) (h2 : m ≤ 2 ^ 64) : -(2 ^ 64) < x % m ∧ x % m < 2 ^ 64 := by
  have a := Int.emod_nonneg x (show m ≠ 0 by omega)
  have b := Int.emod_lt_of_pos x h
  exact ⟨by omega, by omega⟩
end Vf
namespace Vf
open PySem L2
section
variable {J : It} {n : Nat} {G : Hp → Prop} {Y : Nat → Hp → V → Hp → Prop} {g : TG} {te : TE} {vs : List Nat} {σ : L2.St} {H1 : Hp} {D : Addr} {Qd : Hp → Prop}
/-- a comprehension without tests: P of each made item, not of the list itself -/
theorem lc_rel (w : Walk J n G Y) (P : Nat → V → Hp → Prop) (hD : H1 D = none) (hP : ∀ i y H H' acc, H D = some (.lst acc) → (∀ a o, a ≠ D → H a = some o → H' a = some o) → P i y H → P i y H') (hn : n ≤ 1000000)
    (hG : ∀ H, Same H1 H → G H)
    (hs : ∀ i x H H' acc, i < n → Same H1 H → H D = some (.lst acc) → Y i H x H' → ∀ Q' : VK, (∀ y H4, Same H H4 → P i y H4 → Q' y H4) → g x (wipe σ vs) H' fun σ2 H2 => wipe σ2 vs = wipe σ vs ∧ te σ2 H2 Q')
    (hd : ∀ xs H, xs.length = n → Same H1 H → H D = some (.lst xs) → (∀ i y, xs[i]? = some y → P i y H) → Qd H) :
    ∃ W : Nat → Nat → Hp → Prop, (∃ m, W 0 m (upd H1 D (.lst []))) ∧ ∀ i m H, W i m H →
      (J.stop i H ∧ Qd H) ∨ (J.go i H ∧ ∃ Nx : Hp → Prop, (∀ H', Nx H' → ∃ m', m' < m ∧ W (i + 1) m' H') ∧ ∀ x H', J.yld i H x H' → g x (wipe σ vs) H' fun σ2 H2 => wipe σ2 vs = wipe σ vs ∧ tYes σ2 H2 fun b H3 =>
        if b = true then te σ2 H3 fun y H4 => ∃ acc, H4 D = some (.lst acc) ∧ acc.length < sizeLine ∧ Nx (upd H4 D (.lst (acc ++ [y]))) else Nx H3) := by
  refine lc_it w (fun i H => ∃ acc, H D = some (.lst acc) ∧ acc.length = i ∧ Same H1 H ∧ ∀ j y, acc[j]? = some y → P j y H) ⟨[], upd_same, rfl, Vf.Same.new (Same.refl H1) hD, fun j y h => by simp at h⟩ (fun i H _ ⟨_, _, _, s, _⟩ => hG H s) ?_ ?_
  · rintro i x H H' hi ⟨acc, hl, rfl, s, hp⟩ hy
    have key := hs acc.length x H H' acc hi s hl hy (fun y H4 => ∃ acc', H4 D = some (.lst acc') ∧ acc'.length < sizeLine ∧ ∃ a', (upd H4 D (.lst (acc' ++ [y]))) D = some (.lst a') ∧ a'.length = acc.length + 1 ∧ Same H1 (upd H4 D (.lst (acc' ++ [y]))) ∧ ∀ j z, a'[j]? = some z → P j z (upd H4 D (.lst (acc' ++ [y])))) fun y H4 s4 py => ?_
    · exact key
    · have h4 := s4 _ _ hl
      refine ⟨acc, h4, Nat.lt_of_le_of_lt (show acc.length ≤ 1000000 by omega) (by decide), acc ++ [y], upd_same, by simp, Vf.Same.chg (s.trans s4) hD, fun j z hz => ?_⟩
      have up : ∀ a o, a ≠ D → H4 a = some o → (upd H4 D (.lst (acc ++ [y]))) a = some o := fun a o ne e => by rw [upd_ne ne]; exact e
      by_cases hj : j < acc.length
      · rw [List.getElem?_append_left hj] at hz
        exact hP j z _ _ _ h4 up (hP j z _ _ _ hl (fun a o _ e => s4 a o e) (hp j z hz))
      · rw [List.getElem?_append_right (by omega)] at hz
        have e0 : j - acc.length = 0 := by
          cases q : j - acc.length with
          | zero => rfl
          | succ m => rw [q] at hz; simp at hz
        rw [e0] at hz
        have ez : y = z := Option.some.inj hz
        subst ez
        have ej : j = acc.length := by omega
        subst ej
        exact hP _ _ _ _ _ h4 up py
  · rintro H ⟨acc, hl, hn', s, hp⟩
    exact hd acc H hn' s hl hp
/-- .. the items plain values -/
theorem lc_val (w : Walk J n G Y) (f : Nat → V) (hD : H1 D = none) (hn : n ≤ 1000000) (hG : ∀ H, Same H1 H → G H)
    (hs : ∀ i x H H', i < n → Same H1 H → Y i H x H' → ∀ Q' : VK, (∀ H4, Same H H4 → Q' (f i) H4) → g x (wipe σ vs) H' fun σ2 H2 => wipe σ2 vs = wipe σ vs ∧ te σ2 H2 Q')
    (hd : ∀ H, Same H1 H → H D = some (.lst ((List.range n).map f)) → Qd H) :
    ∃ W : Nat → Nat → Hp → Prop, (∃ m, W 0 m (upd H1 D (.lst []))) ∧ ∀ i m H, W i m H →
      (J.stop i H ∧ Qd H) ∨ (J.go i H ∧ ∃ Nx : Hp → Prop, (∀ H', Nx H' → ∃ m', m' < m ∧ W (i + 1) m' H') ∧ ∀ x H', J.yld i H x H' → g x (wipe σ vs) H' fun σ2 H2 => wipe σ2 vs = wipe σ vs ∧ tYes σ2 H2 fun b H3 =>
        if b = true then te σ2 H3 fun y H4 => ∃ acc, H4 D = some (.lst acc) ∧ acc.length < sizeLine ∧ Nx (upd H4 D (.lst (acc ++ [y]))) else Nx H3) := by
  refine lc_rel w (fun i y _ => y = f i) hD (fun i y H H' acc _ _ h => h) hn hG (fun i x H H' acc hi s _ hy Q' q => hs i x H H' hi s hy Q' fun H4 s4 => q _ H4 s4 rfl) fun xs H hl s hx hp => hd H s ?_
  rw [hx]
  congr 2
  apply List.ext_getElem?
  intro i
  cases e : xs[i]? with
  | none =>
    have := List.getElem?_eq_none_iff.mp e
    rw [List.getElem?_eq_none (by simp; omega)]
  | some y =>
    have hi := (List.getElem?_eq_some_iff.mp e).1
    rw [List.getElem?_map, List.getElem?_range (by omega)]
    rw [hp i y e]
    rfl
end
end Vf
namespace Vf
open PySem L2
theorem upd_none {H : Hp} {a b : Addr} {o : HO} (h : upd H a o b = none) : b ≠ a ∧ H b = none := by
  by_cases e : b = a
  · subst e
    rw [upd_same] at h
    cases h
  · rw [upd_ne e] at h
    exact ⟨e, h⟩
end Vf
namespace Vf
open PySem L2
theorem chain_le {tc : TE} {σ : L2.St} {H : Hp} {Q : VK} {lo x hi : Int} (hc : ∀ R : VK, R (.int hi) H → tc σ H R) (h : Q (.bl (decide (lo ≤ x ∧ x ≤ hi))) H) :
    (rI0 fun i j => .bl (decide (i ≤ j))) (.int lo) (.int x) H (fun z H3 => ∃ k, z = .bl k ∧ (if k = true then tc σ H3 fun w' H4 => (rI0 fun i j => .bl (decide (i ≤ j))) (.int x) w' H4 Q else Q (.bl false) H3)) := by
  refine ⟨_, _, rfl, rfl, _, rfl, ?_⟩
  by_cases h1 : lo ≤ x
  · rw [decide_eq_true h1]
    refine iteT (hc _ ⟨_, _, rfl, rfl, ?_⟩)
    have e : decide (lo ≤ x ∧ x ≤ hi) = decide (x ≤ hi) := by simp [h1]
    rw [e] at h
    exact h
  · rw [decide_eq_false h1]
    have e : decide (lo ≤ x ∧ x ≤ hi) = false := by simp [h1]
    rw [e] at h
    exact iteF h
end Vf
namespace Vf
open PySem L2
theorem tyL {K : PySem.W.Frag} {H : Hp} {a : Addr} {xs : List V} (h : H a = some (.lst xs)) : tyV K "list" (.ref a) H := .inl ⟨rfl, _, SqL.of h⟩
end Vf
namespace Vf
open PySem L2
/-! rules whose readings name the written part by a letter (within a comprehension) -/
section
variable {X : Cx} {K : PySem.W.Frag}
theorem ix_listK (h : X.K = K) : IxR X (rIxL K) := by
  subst h
  exact ix_list
theorem ix_tupK (h : X.K = K) : IxR X (rIxT K) := by
  subst h
  exact ix_tup
theorem pe_fldK {e : Expr} {ta : TE} {f : Str} {pos : Pos} (h : X.K = K) (he : PE X e ta) (hb : attributeBase e f X.env (eval e X.env) = eval e X.env) : PE X (.Attribute e f pos) (tFld K ta f) := by
  subst h
  exact pe_fld he hb
theorem call_len_seqK (h : X.K = K) : CallR X (.builtin "len") (fun xs H Q => ∃ p ys, xs = [.ref p] ∧ (SqL K H p ys ∨ SqT K H p ys) ∧ Q (.int ys.length) H) := by
  subst h
  exact call_len_seq
theorem call_tuple_ofK (h : X.K = K) : CallR X (.type "tuple") (fun xs H Q => ∃ p ys, xs = [.ref p] ∧ ((SqL K H p ys ∧ ∀ l, H l = none → Q (.ref l) (upd H l (.tup ys))) ∨ (SqT K H p ys ∧ Q (.ref p) H))) := by
  subst h
  exact call_tuple_of
end
end Vf
namespace Vf
open PySem L2
/-- an f-string's reading, by a name -/
def tJoin (ts : List TE) : TE := fun σ H Q => tJs ts Str.empty σ H fun out H1 => Q (.str out) H1
theorem pe_join {X : Cx} {v1 v2 : Expr} {rest : List Expr} {ts : List TE} {pos : Pos} (h : PJ X (v1 :: v2 :: rest) ts) : PE X (.JoinedStr (v1 :: v2 :: rest) pos) (tJoin ts) := pe_joined h
end Vf

namespace Vf
open PySem L2
/-! ### texts -/
theorem num_len {i : Int} (h : i.natAbs.log2 < 1920) : (Str.ofString (toString i)).length ≤ 2000 := by
  have e := int_text_length_le (k := 1920) (by decide) h
  rw [ofString_length]
  omega
theorem len2 {a b : Str} {m n k : Nat} (ha : a.length ≤ m) (hb : b.length ≤ n) (h : m + n ≤ k) : (a ++ b).length ≤ k := by
  rw [Str.length_append]
  omega
theorem len0 : Str.empty.length ≤ 0 := Nat.le_refl _
theorem line {n : Nat} (h : n ≤ 10000000) : n ≤ sizeLine := Nat.le_trans h (by decide)
theorem fits {s : Str} {n : Nat} (h : s.length ≤ n) (hn : n ≤ 10000000) : s.length ≤ sizeLine := Nat.le_trans h (line hn)
/-- point 3 -/
def lowC (c : Nat) : Bool := decide (97 ≤ c ∧ c ≤ 122)
def digC (c : Nat) : Bool := decide (48 ≤ c ∧ c ≤ 57)
def isNameL (l : List Nat) : Bool := decide (1 ≤ l.length) && decide (l.length ≤ 12) && l.head?.any lowC && l.all fun c => lowC c || digC c
def isName (s : Str) : Bool := isNameL s.cps.toList
theorem isNameL_bad {l : List Nat} (h : (!(decide ((1 : Int) ≤ (l.length : Int)) && decide ((l.length : Int) ≤ 12))) = true) : isNameL l = false := by
  unfold isNameL
  by_cases h1 : 1 ≤ l.length
  · by_cases h2 : l.length ≤ 12
    · exfalso
      rw [decide_eq_true (show (1 : Int) ≤ (l.length : Int) by omega), decide_eq_true (show (l.length : Int) ≤ 12 by omega)] at h
      cases h
    · rw [decide_eq_false h2]
      simp
  · rw [decide_eq_false h1]
    simp
theorem isNameL_ok {l : List Nat} (h : (!(decide ((1 : Int) ≤ (l.length : Int)) && decide ((l.length : Int) ≤ 12))) = false) : ∃ c r, l = c :: r ∧ isNameL l = (lowC c && l.all fun c => lowC c || digC c) := by
  rw [Bool.not_eq_false', Bool.and_eq_true, decide_eq_true_eq, decide_eq_true_eq] at h
  cases l with
  | nil => simp at h
  | cons c r =>
    refine ⟨c, r, rfl, ?_⟩
    unfold isNameL
    rw [decide_eq_true (show 1 ≤ (c :: r).length by simp), decide_eq_true (show (c :: r).length ≤ 12 by omega)]
    simp
theorem name_any (l : List Nat) (n : Nat) (h : n = l.length) : ((List.range n).map fun i => lowC (l.getD i 0) || digC (l.getD i 0)).all id = l.all fun c => lowC c || digC c := by
  subst h
  have e3 : (List.range l.length).map (fun i => l.getD i 0) = l := by
    apply List.ext_getElem?
    intro i
    rw [List.getElem?_map]
    by_cases hi : i < l.length
    · rw [List.getElem?_range hi, List.getElem?_eq_getElem hi]
      simp [List.getD, hi]
    · rw [List.getElem?_eq_none (by simp; omega), List.getElem?_eq_none (by omega)]
      rfl
  rw [show (fun i => lowC (l.getD i 0) || digC (l.getD i 0)) = (fun c => lowC c || digC c) ∘ fun i => l.getD i 0 from rfl, ← List.map_map, e3, List.all_map]
  rfl
def LETTERS : Str := "abcdefghijklmnopqrstuvwxyz"
def DIGITS : Str := "0123456789"
theorem letters_eq : LETTERS.cps.toList = (List.range 26).map (· + 97) := by decide +kernel
theorem digits_eq : DIGITS.cps.toList = (List.range 10).map (· + 48) := by decide +kernel
theorem in_letters (c : Nat) : decide (c ∈ LETTERS.cps.toList) = lowC c := by
  rw [letters_eq, lowC, Bool.eq_iff_iff, decide_eq_true_iff, decide_eq_true_iff, List.mem_map]
  constructor
  · rintro ⟨a, h, rfl⟩
    rw [List.mem_range] at h
    omega
  · intro h
    exact ⟨c - 97, List.mem_range.mpr (by omega), by omega⟩
theorem in_digits (c : Nat) : decide (c ∈ DIGITS.cps.toList) = digC c := by
  rw [digits_eq, digC, Bool.eq_iff_iff, decide_eq_true_iff, decide_eq_true_iff, List.mem_map]
  constructor
  · rintro ⟨a, h, rfl⟩
    rw [List.mem_range] at h
    omega
  · intro h
    exact ⟨c - 48, List.mem_range.mpr (by omega), by omega⟩
theorem name_len {s : Str} (h : isName s = true) : s.length ≤ 12 := by
  unfold isName isNameL at h
  simp only [Bool.and_eq_true, decide_eq_true_eq] at h
  show s.cps.size ≤ 12
  have := h.1.1.2
  simpa using this

/-! ### lists of tuples -/
/-- a list of new tuples of the parts -/
def Tups {α : Type} (enc : α → List V) (H : Hp) (xs : List V) (l : List α) : Prop := xs.length = l.length ∧ ∀ (i : Nat) (a : α), l[i]? = some a → ∃ t, xs[i]? = some (.ref t) ∧ H t = some (.tup (enc a))
section
variable {α : Type} {enc : α → List V} {H H' : Hp} {xs : List V} {l : List α}
theorem Tups.nil : Tups enc H [] [] := ⟨rfl, fun i a h => by simp at h⟩
theorem Tups.mono (h : Tups enc H xs l) (k : ∀ t ys, H t = some (.tup ys) → H' t = some (.tup ys)) : Tups enc H' xs l := ⟨h.1, fun i a e => by
  obtain ⟨t, h1, h2⟩ := h.2 i a e
  exact ⟨t, h1, k _ _ h2⟩⟩
theorem Tups.same (h : Tups enc H xs l) (e : Same H H') : Tups enc H' xs l := h.mono fun t ys => e t _
theorem Tups.snoc (h : Tups enc H xs l) {t : Addr} {a : α} (ht : H t = some (.tup (enc a))) : Tups enc H (xs ++ [.ref t]) (l ++ [a]) := by
  refine ⟨by simp [h.1], fun i b e => ?_⟩
  by_cases hi : i < l.length
  · rw [List.getElem?_append_left hi] at e
    obtain ⟨u, h1, h2⟩ := h.2 i b e
    exact ⟨u, by rw [List.getElem?_append_left (by rw [h.1]; exact hi)]; exact h1, h2⟩
  · rw [List.getElem?_append_right (by omega)] at e
    have z : i - l.length = 0 := by
      cases q : i - l.length with
      | zero => rfl
      | succ n => rw [q] at e; simp at e
    rw [z] at e
    have ea : a = b := Option.some.inj e
    subst ea
    exact ⟨t, by rw [List.getElem?_append_right (by rw [h.1]; omega), h.1, z]; rfl, ht⟩
theorem Tups.get (h : Tups enc H xs l) {i : Nat} {x : V} (e : xs[i]? = some x) : ∃ a t, l[i]? = some a ∧ x = .ref t ∧ H t = some (.tup (enc a)) := by
  have hi := (List.getElem?_eq_some_iff.mp e).1
  have hl : i < l.length := by rw [← h.1]; exact hi
  obtain ⟨t, h1, h2⟩ := h.2 i l[i] (List.getElem?_eq_getElem hl)
  rw [e] at h1
  exact ⟨l[i], t, List.getElem?_eq_getElem hl, Option.some.inj h1, h2⟩
end
abbrev S4 := Str × Str × Str × Str
def enc2 (p : Str × Str) : List V := [.str p.1, .str p.2]
def enc4 (r : S4) : List V := [.str r.1, .str r.2.1, .str r.2.2.1, .str r.2.2.2]

/-! ### names numbered -/
/-- the pairs of the dict of numbers -/
def numK (st : List Str) : List (Key × V) := st.zipIdx.map fun p => (Sum.inr p.1, V.int (p.2 : Int))
theorem numK_snoc (st : List Str) (s : Str) : numK (st ++ [s]) = numK st ++ [(Sum.inr s, V.int (st.length : Int))] := by
  unfold numK
  rw [List.zipIdx_append, List.map_append]
  simp
theorem numK_len (st : List Str) : (numK st).length = st.length := by
  unfold numK
  simp
theorem valV_app {κ : Type} [DecidableEq κ] (k : κ) (b : List (κ × V)) : ∀ a : List (κ × V), valV (a ++ b) k = (valV a k).or (valV b k)
  | [] => by simp [valV]
  | p :: r => by
    by_cases e : p.1 = k
    · rw [List.cons_append, valV_pos e, valV_pos e]
      rfl
    · rw [List.cons_append, valV_neg e, valV_neg e, valV_app k b r]
theorem num_val_from : ∀ (st : List Str) (n : Nat) (s : Str), valV ((st.zipIdx n).map fun p => ((Sum.inr p.1 : Key), V.int (p.2 : Int))) (Sum.inr s) = if s ∈ st then some (V.int ((n + st.idxOf s : Nat) : Int)) else none
  | [], n, s => rfl
  | t :: st, n, s => by
    rw [List.zipIdx_cons, List.map_cons]
    by_cases e : t = s
    · subst e
      rw [valV_pos rfl, if_pos List.mem_cons_self, List.idxOf_cons_self]
      rfl
    · rw [valV_neg (by intro z; exact e (Sum.inr.inj z)), num_val_from st (n + 1) s]
      have e' : (t == s) = false := by simpa using e
      by_cases hm : s ∈ st
      · rw [if_pos hm, if_pos (List.mem_cons_of_mem _ hm), List.idxOf_cons, e']
        simp only [cond_false]
        congr 3
        omega
      · rw [if_neg hm, if_neg (by simp [hm, Ne.symm e])]
theorem num_val (st : List Str) (s : Str) : valV (numK st) (Sum.inr s) = if s ∈ st then some (V.int (st.idxOf s : Int)) else none := by
  have h := num_val_from st 0 s
  simpa [numK] using h
end Vf
namespace Vf
open PySem L2
/-! ### a draft of a protocol -/
structure DA where
  ls : Addr
  li : Addr
  ll : Addr
  lr : Addr
  lo : Addr
  dn : Addr
  dr : Addr
structure DD where
  st : List Str
  ins : List (Str × Str)
  ld : List Str
  ru : List S4
  ou : List Int
def DD.nil : DD := ⟨[], [], [], [], []⟩
def DA.foot (a : DA) : List Addr := [a.ls, a.li, a.ll, a.lr, a.lo, a.dn, a.dr]
def dFs (a : DA) : List (Str × V) := [("states", .ref a.ls), ("inputs", .ref a.li), ("leaders", .ref a.ll), ("rules", .ref a.lr), ("outputs", .ref a.lo), ("numbers", .ref a.dn), ("results", .ref a.dr)]
theorem dFs_new (a : DA) : putF "results" (.ref a.dr) (putF "numbers" (.ref a.dn) (putF "outputs" (.ref a.lo) (putF "rules" (.ref a.lr) (putF "leaders" (.ref a.ll) (putF "inputs" (.ref a.li) (putF "states" (.ref a.ls) [])))))) = dFs a := by rfl
def ix (st : List Str) (s : Str) : Int := (st.idxOf s : Int)
def ruKey (st : List Str) (r : S4) : List Key := [Sum.inl (ix st r.1), Sum.inl (ix st r.2.1)]
def encR (st : List Str) (r : S4) : List V := [.int (ix st r.2.2.1), .int (ix st r.2.2.2)]
/-- the dict of the results of rules -/
structure Res (H : Hp) (st : List Str) (ru : List S4) (kvs : List (List Key × V)) : Prop where
  keys : kvs.map (·.1) = ru.map (ruKey st)
  vals : Tups (encR st) H (kvs.map (·.2)) ru
structure DraftAt (C : Addr) (H : Hp) (p : Addr) (a : DA) (D : DD) : Prop where
  ob : ∃ dx, H p = some (.ins C dx (dFs a))
  ls : H a.ls = some (.lst (D.st.map V.str))
  li : ∃ xs, H a.li = some (.lst xs) ∧ Tups enc2 H xs D.ins
  ll : H a.ll = some (.lst (D.ld.map V.str))
  lr : ∃ xs, H a.lr = some (.lst xs) ∧ Tups enc4 H xs D.ru
  lo : H a.lo = some (.lst (D.ou.map V.int))
  dn : H a.dn = some (.dK (numK D.st))
  dr : ∃ kvs, H a.dr = some (.dT kvs) ∧ Res H D.st D.ru kvs
  nd : [a.ls, a.li, a.ll, a.lr, a.lo].Nodup
/-- all but these objects are as they were -/
def Keep (S : List Addr) (H H' : Hp) : Prop := ∀ b o, b ∉ S → H b = some o → H' b = some o
theorem Keep.refl {S : List Addr} (H : Hp) : Keep S H H := fun _ _ _ h => h
theorem Keep.trans {S : List Addr} {H H1 H2 : Hp} (a : Keep S H H1) (b : Keep S H1 H2) : Keep S H H2 := fun c o n h => b c o n (a c o n h)
theorem Keep.of {S : List Addr} {H H' : Hp} (e : Same H H') : Keep S H H' := fun b o _ h => e b o h
theorem Keep.put {S : List Addr} {H H' : Hp} {p : Addr} {o : HO} (e : Keep S H H') (h : p ∈ S) : Keep S H (upd H' p o) := fun b u n q => by
  have ne : b ≠ p := fun z => n (by rw [z]; exact h)
  rw [upd_ne ne]
  exact e b u n q
theorem Tups.keep {α : Type} {enc : α → List V} {S : List Addr} {H H' : Hp} {xs : List V} {l : List α} (h : Tups enc H xs l) (k : Keep S H H') (n : ∀ t ys, H t = some (.tup ys) → t ∉ S) : Tups enc H' xs l := h.mono fun t ys e => k t _ (n t ys e) e
section
variable {C : Addr} {H H' : Hp} {p : Addr} {a : DA} {D : DD}
theorem DraftAt.notup (S : DraftAt C H p a D) (t : Addr) (ys : List V) (h : H t = some (.tup ys)) : t ∉ a.foot := by
  obtain ⟨_, h1, _⟩ := S.li
  obtain ⟨_, h2, _⟩ := S.lr
  obtain ⟨_, h3, _⟩ := S.dr
  intro m
  simp only [DA.foot, List.mem_cons, List.not_mem_nil, or_false] at m
  rcases m with rfl | rfl | rfl | rfl | rfl | rfl | rfl
  · rw [S.ls] at h; cases h
  · rw [h1] at h; cases h
  · rw [S.ll] at h; cases h
  · rw [h2] at h; cases h
  · rw [S.lo] at h; cases h
  · rw [S.dn] at h; cases h
  · rw [h3] at h; cases h
theorem Res.same {st : List Str} {ru : List S4} {kvs : List (List Key × V)} (h : Res H st ru kvs) (k : ∀ t ys, H t = some (.tup ys) → H' t = some (.tup ys)) : Res H' st ru kvs := ⟨h.keys, h.vals.mono k⟩
theorem DraftAt.same (S : DraftAt C H p a D) (e : Same H H') : DraftAt C H' p a D := by
  obtain ⟨dx, h0⟩ := S.ob
  obtain ⟨_, h1, t1⟩ := S.li
  obtain ⟨_, h2, t2⟩ := S.lr
  obtain ⟨_, h3, t3⟩ := S.dr
  exact ⟨⟨dx, e _ _ h0⟩, e _ _ S.ls, ⟨_, e _ _ h1, t1.same e⟩, e _ _ S.ll, ⟨_, e _ _ h2, t2.same e⟩, e _ _ S.lo, e _ _ S.dn, ⟨_, e _ _ h3, t3.same fun t ys => e t _⟩, S.nd⟩
end
end Vf
namespace Vf
open PySem L2
section
variable {C : Addr} {H H' : Hp} {p : Addr} {a : DA} {D D' : DD}
/-- all of its objects are different ones -/
structure Dist (p : Addr) (a : DA) : Prop where
  pa : p ≠ a.ls
  pb : p ≠ a.li
  pc : p ≠ a.ll
  pd : p ≠ a.lr
  pe : p ≠ a.lo
  pf : p ≠ a.dn
  pg : p ≠ a.dr
  ab : a.ls ≠ a.li
  ac : a.ls ≠ a.ll
  ad : a.ls ≠ a.lr
  ae : a.ls ≠ a.lo
  af : a.ls ≠ a.dn
  ag : a.ls ≠ a.dr
  bc : a.li ≠ a.ll
  bd : a.li ≠ a.lr
  be : a.li ≠ a.lo
  bf : a.li ≠ a.dn
  bg : a.li ≠ a.dr
  cd : a.ll ≠ a.lr
  ce : a.ll ≠ a.lo
  cf : a.ll ≠ a.dn
  cg : a.ll ≠ a.dr
  de : a.lr ≠ a.lo
  df : a.lr ≠ a.dn
  dg : a.lr ≠ a.dr
  ef : a.lo ≠ a.dn
  eg : a.lo ≠ a.dr
  fg : a.dn ≠ a.dr
theorem DraftAt.dist (S : DraftAt C H p a D) : Dist p a := by
  obtain ⟨_, h0⟩ := S.ob
  obtain ⟨_, h1, _⟩ := S.li
  obtain ⟨_, h2, _⟩ := S.lr
  obtain ⟨_, h3, _⟩ := S.dr
  have n := S.nd
  simp only [List.nodup_cons, List.mem_cons, List.not_mem_nil, or_false, not_or, not_false_eq_true, List.nodup_nil, and_true] at n
  obtain ⟨⟨n1, n2, n3, n4⟩, ⟨n5, n6, n7⟩, ⟨n8, n9⟩, n10⟩ := n
  refine ⟨ne_of h0 S.ls ?_, ne_of h0 h1 ?_, ne_of h0 S.ll ?_, ne_of h0 h2 ?_, ne_of h0 S.lo ?_, ne_of h0 S.dn ?_, ne_of h0 h3 ?_, n1, n2, n3, n4, ne_of S.ls S.dn ?_, ne_of S.ls h3 ?_, n5, n6, n7, ne_of h1 S.dn ?_, ne_of h1 h3 ?_, n8, n9, ne_of S.ll S.dn ?_, ne_of S.ll h3 ?_, n10, ne_of h2 S.dn ?_, ne_of h2 h3 ?_, ne_of S.lo S.dn ?_, ne_of S.lo h3 ?_, ne_of S.dn h3 ?_⟩ <;> (intro z; cases z)
theorem Dist.pn (d : Dist p a) : p ∉ a.foot := by
  intro m
  simp only [DA.foot, List.mem_cons, List.not_mem_nil, or_false] at m
  rcases m with m | m | m | m | m | m | m
  · exact d.pa m
  · exact d.pb m
  · exact d.pc m
  · exact d.pd m
  · exact d.pe m
  · exact d.pf m
  · exact d.pg m
theorem DraftAt.next (S : DraftAt C H p a D) (k : Keep a.foot H H') (ls : H' a.ls = some (.lst (D'.st.map V.str))) (li : ∃ xs, H' a.li = some (.lst xs) ∧ Tups enc2 H' xs D'.ins) (ll : H' a.ll = some (.lst (D'.ld.map V.str)))
    (lr : ∃ xs, H' a.lr = some (.lst xs) ∧ Tups enc4 H' xs D'.ru) (lo : H' a.lo = some (.lst (D'.ou.map V.int))) (dn : H' a.dn = some (.dK (numK D'.st))) (dr : ∃ kvs, H' a.dr = some (.dT kvs) ∧ Res H' D'.st D'.ru kvs) : DraftAt C H' p a D' := by
  obtain ⟨dx, h0⟩ := S.ob
  exact ⟨⟨dx, k p _ S.dist.pn h0⟩, ls, li, ll, lr, lo, dn, dr, S.nd⟩
theorem DraftAt.li' (S : DraftAt C H p a D) (k : Keep a.foot H H') (e : H' a.li = H a.li) : ∃ xs, H' a.li = some (.lst xs) ∧ Tups enc2 H' xs D.ins := by
  obtain ⟨xs, h, t⟩ := S.li
  exact ⟨xs, e.trans h, t.keep k S.notup⟩
theorem DraftAt.lr' (S : DraftAt C H p a D) (k : Keep a.foot H H') (e : H' a.lr = H a.lr) : ∃ xs, H' a.lr = some (.lst xs) ∧ Tups enc4 H' xs D.ru := by
  obtain ⟨xs, h, t⟩ := S.lr
  exact ⟨xs, e.trans h, t.keep k S.notup⟩
theorem DraftAt.dr' (S : DraftAt C H p a D) (k : Keep a.foot H H') (e : H' a.dr = H a.dr) : ∃ kvs, H' a.dr = some (.dT kvs) ∧ Res H' D.st D.ru kvs := by
  obtain ⟨xs, h, t⟩ := S.dr
  exact ⟨xs, e.trans h, t.same fun u ys z => k u _ (S.notup u ys z) z⟩
end
theorem cat {a b : Str} {m n : Nat} (ha : a.length ≤ m) (hb : b.length ≤ n) : (a ++ b).length ≤ m + n := len2 ha hb (Nat.le_refl _)
theorem lit {a : Str} (h : decide (a.length ≤ 200) = true) : a.length ≤ 200 := of_decide_eq_true h
/-! ### what may be added (point 4) -/
def DD.okState (D : DD) (name : Str) (output : Int) : Bool := decide (D.st.length < 400) && isName name && decide (name ∉ D.st) && decide (0 ≤ output ∧ output ≤ 9)
def DD.addState (D : DD) (name : Str) (output : Int) : DD := { D with st := D.st ++ [name], ou := D.ou ++ [output] }
def DD.okInput (D : DD) (p : Str × Str) : Bool := decide (D.ins.length < 8) && isName p.1 && decide (p.1 ∉ D.ins.map (·.1)) && decide (p.2 ∈ D.st)
def DD.addInput (D : DD) (p : Str × Str) : DD := { D with ins := D.ins ++ [p] }
def DD.okLeader (D : DD) (s : Str) : Bool := decide (D.ld.length < 10) && decide (s ∈ D.st)
def DD.addLeader (D : DD) (s : Str) : DD := { D with ld := D.ld ++ [s] }
def DD.okRule (D : DD) (r : S4) : Bool := decide (r.1 ∈ D.st) && decide (r.2.1 ∈ D.st) && decide (r.2.2.1 ∈ D.st) && decide (r.2.2.2 ∈ D.st) && decide ((r.1, r.2.1) ∉ D.ru.map fun x => (x.1, x.2.1))
def DD.addRule (D : DD) (r : S4) : DD := { D with ru := D.ru ++ [r] }
end Vf
namespace Vf
open PySem L2
abbrev Sm (s : Str) : Prop := s.length ≤ 1000000
theorem sm_lit {a : Str} (h : decide (a.length ≤ 200) = true) : Sm a := Nat.le_trans (of_decide_eq_true h) (by decide)
theorem sm_num {i : Int} (h : i.natAbs.log2 < 1920) : Sm (Str.ofString (toString i)) := Nat.le_trans (num_len h) (by decide)
theorem fit0 {k : Nat} {s : Str} (h : s.length ≤ k * 1000000) (hk : k ≤ 16) : s.length ≤ sizeLine := Nat.le_trans h (by rw [sizeLine_eq]; omega)
theorem fit1 {a : Str} (ha : Sm a) : (Str.empty ++ a).length ≤ sizeLine := by
  refine fit0 (k := 1) ?_ (by decide)
  simp only [Str.length_append, Sm] at *
  have h0 : Str.empty.length = 0 := rfl
  omega
theorem fit2 {a b : Str} (ha : Sm a) (hb : Sm b) : ((Str.empty ++ a) ++ b).length ≤ sizeLine := by
  refine fit0 (k := 2) ?_ (by decide)
  simp only [Str.length_append, Sm] at *
  have h0 : Str.empty.length = 0 := rfl
  omega
theorem fit3 {a b c : Str} (ha : Sm a) (hb : Sm b) (hc : Sm c) : (((Str.empty ++ a) ++ b) ++ c).length ≤ sizeLine := by
  refine fit0 (k := 3) ?_ (by decide)
  simp only [Str.length_append, Sm] at *
  have h0 : Str.empty.length = 0 := rfl
  omega
theorem fit4 {a b c d : Str} (ha : Sm a) (hb : Sm b) (hc : Sm c) (hd : Sm d) : ((((Str.empty ++ a) ++ b) ++ c) ++ d).length ≤ sizeLine := by
  refine fit0 (k := 4) ?_ (by decide)
  simp only [Str.length_append, Sm] at *
  have h0 : Str.empty.length = 0 := rfl
  omega
theorem fit5 {a b c d e : Str} (ha : Sm a) (hb : Sm b) (hc : Sm c) (hd : Sm d) (he : Sm e) : (((((Str.empty ++ a) ++ b) ++ c) ++ d) ++ e).length ≤ sizeLine := by
  refine fit0 (k := 5) ?_ (by decide)
  simp only [Str.length_append, Sm] at *
  have h0 : Str.empty.length = 0 := rfl
  omega
theorem fit6 {a b c d e f : Str} (ha : Sm a) (hb : Sm b) (hc : Sm c) (hd : Sm d) (he : Sm e) (hf : Sm f) : ((((((Str.empty ++ a) ++ b) ++ c) ++ d) ++ e) ++ f).length ≤ sizeLine := by
  refine fit0 (k := 6) ?_ (by decide)
  simp only [Str.length_append, Sm] at *
  have h0 : Str.empty.length = 0 := rfl
  omega
theorem fit7 {a b c d e f g : Str} (ha : Sm a) (hb : Sm b) (hc : Sm c) (hd : Sm d) (he : Sm e) (hf : Sm f) (hg : Sm g) : (((((((Str.empty ++ a) ++ b) ++ c) ++ d) ++ e) ++ f) ++ g).length ≤ sizeLine := by
  refine fit0 (k := 7) ?_ (by decide)
  simp only [Str.length_append, Sm] at *
  have h0 : Str.empty.length = 0 := rfl
  omega
theorem fit8 {a b c d e f g h : Str} (ha : Sm a) (hb : Sm b) (hc : Sm c) (hd : Sm d) (he : Sm e) (hf : Sm f) (hg : Sm g) (hh : Sm h) : ((((((((Str.empty ++ a) ++ b) ++ c) ++ d) ++ e) ++ f) ++ g) ++ h).length ≤ sizeLine := by
  refine fit0 (k := 8) ?_ (by decide)
  simp only [Str.length_append, Sm] at *
  have h0 : Str.empty.length = 0 := rfl
  omega
theorem fit9 {a b c d e f g h i : Str} (ha : Sm a) (hb : Sm b) (hc : Sm c) (hd : Sm d) (he : Sm e) (hf : Sm f) (hg : Sm g) (hh : Sm h) (hi : Sm i) : (((((((((Str.empty ++ a) ++ b) ++ c) ++ d) ++ e) ++ f) ++ g) ++ h) ++ i).length ≤ sizeLine := by
  refine fit0 (k := 9) ?_ (by decide)
  simp only [Str.length_append, Sm] at *
  have h0 : Str.empty.length = 0 := rfl
  omega
theorem fit10 {a b c d e f g h i j : Str} (ha : Sm a) (hb : Sm b) (hc : Sm c) (hd : Sm d) (he : Sm e) (hf : Sm f) (hg : Sm g) (hh : Sm h) (hi : Sm i) (hj : Sm j) : ((((((((((Str.empty ++ a) ++ b) ++ c) ++ d) ++ e) ++ f) ++ g) ++ h) ++ i) ++ j).length ≤ sizeLine := by
  refine fit0 (k := 10) ?_ (by decide)
  simp only [Str.length_append, Sm] at *
  have h0 : Str.empty.length = 0 := rfl
  omega
end Vf
namespace Vf
open PySem L2
theorem inV_str (s : Str) (l : List Str) : inV (.str s) (l.map V.str) = decide (s ∈ l) := by
  unfold inV
  rw [Bool.eq_iff_iff, List.any_eq_true, decide_eq_true_iff]
  constructor
  · rintro ⟨y, hy, h⟩
    obtain ⟨t, ht, rfl⟩ := List.mem_map.mp hy
    have e : (t == s) = true := h
    rw [beq_iff_eq] at e
    rw [← e]
    exact ht
  · intro h
    exact ⟨.str s, List.mem_map.mpr ⟨s, h, rfl⟩, (beq_self_eq_true s : (s == s) = true)⟩
theorem flat_str (l : List Str) : (l.map V.str).all flatV = true := by
  rw [List.all_eq_true]
  intro x hx
  obtain ⟨t, _, rfl⟩ := List.mem_map.mp hx
  rfl
theorem range_map {α : Type} (l : List α) (f : α → V) (d : α) (n : Nat) (h : n = l.length) : ((List.range n).map fun i => f (l.getD i d)) = l.map f := by
  subst h
  apply List.ext_getElem?
  intro i
  rw [List.getElem?_map, List.getElem?_map]
  by_cases hi : i < l.length
  · rw [List.getElem?_range hi, List.getElem?_eq_getElem hi]
    simp [List.getD, hi]
  · rw [List.getElem?_eq_none (by simp; omega), List.getElem?_eq_none (by omega)]
    rfl
theorem ix_inj {st : List Str} {s t : Str} (hs : s ∈ st) (ht : t ∈ st) (h : ix st s = ix st t) : s = t := by
  have e : st.idxOf s = st.idxOf t := by
    unfold ix at h
    omega
  have a := List.getElem_idxOf (List.idxOf_lt_length_of_mem hs)
  have b := List.getElem_idxOf (List.idxOf_lt_length_of_mem ht)
  rw [← a, ← b]
  congr 1
/-- the four names of a rule -/
def r4 (r : S4) : List Str := [r.1, r.2.1, r.2.2.1, r.2.2.2]
theorem enc4_eq (r : S4) : enc4 r = (r4 r).map V.str := rfl
theorem num_in {st : List Str} {s : Str} (h : s ∈ st) : valV (numK st) (Sum.inr s) = some (V.int (ix st s)) := by
  rw [num_val, if_pos h]
  rfl
theorem key_none {H : Hp} {D : DD} {kvs : List (List Key × V)} (R : Res H D.st D.ru kvs) {r : S4} (h1 : r.1 ∈ D.st) (h2 : r.2.1 ∈ D.st) (hw : ∀ x ∈ D.ru, x.1 ∈ D.st ∧ x.2.1 ∈ D.st) :
    (!(valV kvs (ruKey D.st r)).isSome) = decide ((r.1, r.2.1) ∉ D.ru.map fun x => (x.1, x.2.1)) := by
  have e : (valV kvs (ruKey D.st r)).isSome = true ↔ ruKey D.st r ∈ D.ru.map (ruKey D.st) := by
    rw [← R.keys, ← valV_any, List.any_eq_true, List.mem_map]
    constructor
    · rintro ⟨x, hx, h⟩
      exact ⟨x, hx, of_decide_eq_true h⟩
    · rintro ⟨x, hx, h⟩
      exact ⟨x, hx, decide_eq_true h⟩
  by_cases hm : (r.1, r.2.1) ∈ D.ru.map fun x => (x.1, x.2.1)
  · have hm2 : ruKey D.st r ∈ D.ru.map (ruKey D.st) := by
      obtain ⟨x, hx, ex⟩ := List.mem_map.mp hm
      have e1 : x.1 = r.1 := (Prod.mk.inj ex).1
      have e2 : x.2.1 = r.2.1 := (Prod.mk.inj ex).2
      refine List.mem_map.mpr ⟨x, hx, ?_⟩
      unfold ruKey
      rw [e1, e2]
    rw [e.mpr hm2, decide_eq_false (fun z => z hm)]
    rfl
  · have hm2 : ruKey D.st r ∉ D.ru.map (ruKey D.st) := by
      intro h
      obtain ⟨x, hx, ex⟩ := List.mem_map.mp h
      unfold ruKey at ex
      simp only [List.cons.injEq, Sum.inl.injEq, and_true] at ex
      obtain ⟨w1, w2⟩ := hw x hx
      exact hm (List.mem_map.mpr ⟨x, hx, by rw [ix_inj w1 h1 ex.1, ix_inj w2 h2 ex.2]⟩)
    have e3 : (valV kvs (ruKey D.st r)).isSome = false := by
      cases q : (valV kvs (ruKey D.st r)).isSome with
      | false => rfl
      | true => exact absurd (e.mp q) hm2
    rw [e3, decide_eq_true hm]
    rfl
theorem key_new {H : Hp} {D : DD} {kvs : List (List Key × V)} (R : Res H D.st D.ru kvs) {r : S4} (h1 : r.1 ∈ D.st) (h2 : r.2.1 ∈ D.st) (hw : ∀ x ∈ D.ru, x.1 ∈ D.st ∧ x.2.1 ∈ D.st) (hn : (r.1, r.2.1) ∉ D.ru.map fun x => (x.1, x.2.1)) : valV kvs (ruKey D.st r) = none := by
  have h := key_none R h1 h2 hw
  rw [decide_eq_true hn] at h
  cases e : valV kvs (ruKey D.st r) with
  | none => rfl
  | some v => rw [e] at h; cases h
theorem Res.snoc {H H' : Hp} {st : List Str} {ru : List S4} {kvs : List (List Key × V)} (R : Res H st ru kvs) (k : ∀ t ys, H t = some (.tup ys) → H' t = some (.tup ys)) {r : S4} {t : Addr} (ht : H' t = some (.tup (encR st r))) : Res H' st (ru ++ [r]) (kvs ++ [(ruKey st r, .ref t)]) := by
  have R' := R.same k
  refine ⟨by rw [List.map_append, List.map_append, R'.keys]; rfl, ?_⟩
  rw [List.map_append]
  exact R'.vals.snoc ht
theorem Res.len {H : Hp} {st : List Str} {ru : List S4} {kvs : List (List Key × V)} (R : Res H st ru kvs) : kvs.length = ru.length := by
  have := congrArg List.length R.keys
  simpa using this
end Vf
namespace Vf
open PySem L2
/-- point 4 -/
structure Valid (D : DD) : Prop where
  len : D.ou.length = D.st.length
  st : ∀ i s o, D.st[i]? = some s → D.ou[i]? = some o → DD.okState ⟨D.st.take i, [], [], [], D.ou.take i⟩ s o = true
  ins : ∀ i x, D.ins[i]? = some x → DD.okInput ⟨D.st, D.ins.take i, [], [], D.ou⟩ x = true
  ld : ∀ i x, D.ld[i]? = some x → DD.okLeader ⟨D.st, D.ins, D.ld.take i, [], D.ou⟩ x = true
  ru : ∀ i x, D.ru[i]? = some x → DD.okRule ⟨D.st, D.ins, D.ld, D.ru.take i, D.ou⟩ x = true
/-- texts of a draft are not too long for messages -/
structure Short (D : DD) : Prop where
  st : ∀ s ∈ D.st, s.length ≤ 1000000
  ou : ∀ o ∈ D.ou, o.natAbs.log2 < 1920
  ins : ∀ p ∈ D.ins, p.1.length ≤ 1000000 ∧ p.2.length ≤ 1000000
  ld : ∀ s ∈ D.ld, s.length ≤ 1000000
  ru : ∀ r ∈ D.ru, ∀ x ∈ r4 r, x.length ≤ 1000000
  nru : D.ru.length ≤ 1000000
theorem Same.but {S : List Addr} {H H1 H2 : Hp} (e : Same H H1) (k : Keep S H1 H2) (f : ∀ b ∈ S, H b = none) : Same H H2 := fun b o h => k b o (fun m => by rw [f b m] at h; cases h) (e b o h)
theorem take_snoc {α : Type} : ∀ {l : List α} {i : Nat} {x : α}, l[i]? = some x → l.take (i + 1) = l.take i ++ [x]
  | [], i, x, h => by simp at h
  | a :: l, 0, x, h => by
    have e : a = x := Option.some.inj h
    subst e
    rfl
  | a :: l, i + 1, x, h => by
    have e : l[i]? = some x := h
    rw [List.take_succ_cons, take_snoc e]
    rfl
theorem okRule_in {D : DD} {r : S4} (h : D.okRule r = true) : r.1 ∈ D.st ∧ r.2.1 ∈ D.st := by
  unfold DD.okRule at h
  simp only [Bool.and_eq_true, decide_eq_true_eq] at h
  exact ⟨h.1.1.1.1, h.1.1.1.2⟩
end Vf
namespace Vf
theorem map_get {α β : Type} {f : α → β} {l : List α} {i : Nat} {x : β} (h : (l.map f)[i]? = some x) : ∃ a, l[i]? = some a ∧ x = f a := by
  rw [List.getElem?_map] at h
  cases e : l[i]? with
  | none => rw [e] at h; cases h
  | some a => rw [e] at h; exact ⟨a, rfl, (Option.some.inj h).symm⟩
end Vf
namespace Vf
theorem nodup_ix {α : Type} : ∀ {l : List α} {i j : Nat} {a : α}, l.Nodup → l[i]? = some a → l[j]? = some a → i = j
  | [], i, j, a, _, h, _ => by simp at h
  | x :: l, 0, 0, a, _, _, _ => rfl
  | x :: l, 0, j + 1, a, n, h, h' => by
    have e : x = a := Option.some.inj h
    subst e
    have h2 : l[j]? = some x := h'
    exact absurd (List.mem_of_getElem? h2) (List.nodup_cons.mp n).1
  | x :: l, i + 1, 0, a, n, h, h' => by
    have e : x = a := Option.some.inj h'
    subst e
    have h2 : l[i]? = some x := h
    exact absurd (List.mem_of_getElem? h2) (List.nodup_cons.mp n).1
  | x :: l, i + 1, j + 1, a, n, h, h' => by
    have h1 : l[i]? = some a := h
    have h2 : l[j]? = some a := h'
    rw [nodup_ix (List.nodup_cons.mp n).2 h1 h2]
end Vf
namespace Vf
open PySem L2
theorem tyes {σ : L2.St} {H : Hp} {A B : Hp → Prop} (h : A H) : tYes σ H (fun b H3 => if b = true then A H3 else B H3) := by
  show (if true = true then A H else B H)
  rw [if_pos rfl]
  exact h
end Vf
namespace Vf
theorem Keep.self {S : List PySem.Addr} {H H' : L2.Hp} (_ : Keep S H H') : Keep S H' H' := Keep.refl H'
end Vf
namespace Vf
open PySem L2
theorem list_choose {α β : Type} : ∀ {xs : List α} {R : Nat → α → β → Prop}, (∀ i y, xs[i]? = some y → ∃ a, R i y a) → ∃ l : List β, l.length = xs.length ∧ ∀ i y a, xs[i]? = some y → l[i]? = some a → R i y a
  | [], R, _ => ⟨[], rfl, fun i y a h => by simp at h⟩
  | x :: xs, R, h => by
    obtain ⟨a, ha⟩ := h 0 x rfl
    obtain ⟨l, hl, hr⟩ := list_choose (xs := xs) (R := fun i => R (i + 1)) fun i y e => h (i + 1) y e
    refine ⟨a :: l, by simp [hl], fun i y b e1 e2 => ?_⟩
    cases i with
    | zero =>
      have z1 : x = y := Option.some.inj e1
      have z2 : a = b := Option.some.inj e2
      subst z1
      subst z2
      exact ha
    | succ i => exact hr i y b e1 e2
section
variable {J : It} {n : Nat} {G : Hp → Prop} {Y : Nat → Hp → V → Hp → Prop} {g : TG} {te : TE} {vs : List Nat} {σ : L2.St} {H1 : Hp} {D : Addr} {Qd : Hp → Prop} {α : Type}
/-- a comprehension whose items are values of a kind, each with a property -/
theorem lc_enc (w : Walk J n G Y) (e : α → V) (good : Nat → α → Prop) (hD : H1 D = none) (hn : n ≤ 1000000) (hG : ∀ H, Same H1 H → G H)
    (hs : ∀ i x H H', i < n → Same H1 H → Y i H x H' → ∀ Q' : VK, (∀ a H4, Same H H4 → good i a → Q' (e a) H4) → g x (wipe σ vs) H' fun σ2 H2 => wipe σ2 vs = wipe σ vs ∧ te σ2 H2 Q')
    (hd : ∀ (l : List α) H, l.length = n → Same H1 H → H D = some (.lst (l.map e)) → (∀ i a, l[i]? = some a → good i a) → Qd H) :
    ∃ W : Nat → Nat → Hp → Prop, (∃ m, W 0 m (upd H1 D (.lst []))) ∧ ∀ i m H, W i m H →
      (J.stop i H ∧ Qd H) ∨ (J.go i H ∧ ∃ Nx : Hp → Prop, (∀ H', Nx H' → ∃ m', m' < m ∧ W (i + 1) m' H') ∧ ∀ x H', J.yld i H x H' → g x (wipe σ vs) H' fun σ2 H2 => wipe σ2 vs = wipe σ vs ∧ tYes σ2 H2 fun b H3 =>
        if b = true then te σ2 H3 fun y H4 => ∃ acc, H4 D = some (.lst acc) ∧ acc.length < sizeLine ∧ Nx (upd H4 D (.lst (acc ++ [y]))) else Nx H3) := by
  refine lc_rel w (fun i y _ => ∃ a, y = e a ∧ good i a) hD (fun i y H H' acc _ _ h => h) hn hG (fun i x H H' acc hi s _ hy Q' q => hs i x H H' hi s hy Q' fun a H4 s4 ga => q _ H4 s4 ⟨a, rfl, ga⟩) fun xs H hl s hx hp => ?_
  obtain ⟨l, h1, h2⟩ := list_choose (R := fun i y a => y = e a ∧ good i a) hp
  have ex : xs = l.map e := by
    apply List.ext_getElem?
    intro i
    rw [List.getElem?_map]
    cases h : xs[i]? with
    | none =>
      have := List.getElem?_eq_none_iff.mp h
      rw [List.getElem?_eq_none (by omega)]
      rfl
    | some y =>
      have hi := (List.getElem?_eq_some_iff.mp h).1
      have e1 : l[i]? = some l[i] := List.getElem?_eq_getElem (by omega)
      rw [e1]
      exact congrArg some (h2 i y _ h e1).1
  subst ex
  refine hd l H (by rw [h1]; exact hl) s hx fun i a ha => ?_
  have e2 : (l.map e)[i]? = some (e a) := by rw [List.getElem?_map, ha]; rfl
  exact (h2 i _ a e2 ha).2
/-- .. whose items are new tuples -/
theorem lc_tups (w : Walk J n G Y) (enc : α → List V) (good : Nat → α → Prop) (hD : H1 D = none) (hn : n ≤ 1000000) (hG : ∀ H, Same H1 H → G H)
    (hs : ∀ i x H H', i < n → Same H1 H → Y i H x H' → ∀ Q' : VK, (∀ a t H4, Same H H4 → H4 t = some (.tup (enc a)) → good i a → Q' (.ref t) H4) → g x (wipe σ vs) H' fun σ2 H2 => wipe σ2 vs = wipe σ vs ∧ te σ2 H2 Q')
    (hd : ∀ (l : List α) xs H, l.length = n → Same H1 H → H D = some (.lst xs) → Tups enc H xs l → (∀ i a, l[i]? = some a → good i a) → Qd H) :
    ∃ W : Nat → Nat → Hp → Prop, (∃ m, W 0 m (upd H1 D (.lst []))) ∧ ∀ i m H, W i m H →
      (J.stop i H ∧ Qd H) ∨ (J.go i H ∧ ∃ Nx : Hp → Prop, (∀ H', Nx H' → ∃ m', m' < m ∧ W (i + 1) m' H') ∧ ∀ x H', J.yld i H x H' → g x (wipe σ vs) H' fun σ2 H2 => wipe σ2 vs = wipe σ vs ∧ tYes σ2 H2 fun b H3 =>
        if b = true then te σ2 H3 fun y H4 => ∃ acc, H4 D = some (.lst acc) ∧ acc.length < sizeLine ∧ Nx (upd H4 D (.lst (acc ++ [y]))) else Nx H3) := by
  refine lc_rel w (fun i y H => ∃ a t, y = .ref t ∧ H t = some (.tup (enc a)) ∧ good i a) hD (fun i y H H' acc hacc k ⟨a, t, e1, e2, e3⟩ => ⟨a, t, e1, k t _ (fun z => by rw [z, hacc] at e2; cases e2) e2, e3⟩) hn hG
    (fun i x H H' acc hi s _ hy Q' q => hs i x H H' hi s hy Q' fun a t H4 s4 ht ga => q _ H4 s4 ⟨a, t, rfl, ht, ga⟩) fun xs H hl s hx hp => ?_
  obtain ⟨l, h1, h2⟩ := list_choose (R := fun i y a => ∃ t, y = V.ref t ∧ H t = some (.tup (enc a)) ∧ good i a) hp
  refine hd l xs H (by rw [h1]; exact hl) s hx ⟨h1.symm, fun i a ha => ?_⟩ fun i a ha => ?_
  · have hi := (List.getElem?_eq_some_iff.mp ha).1
    have e1 : xs[i]? = some xs[i] := List.getElem?_eq_getElem (by omega)
    obtain ⟨t, e2, e3, _⟩ := h2 i _ a e1 ha
    exact ⟨t, by rw [e1, e2], e3⟩
  · have hi := (List.getElem?_eq_some_iff.mp ha).1
    have e1 : xs[i]? = some xs[i] := List.getElem?_eq_getElem (by omega)
    obtain ⟨t, _, _, e4⟩ := h2 i _ a e1 ha
    exact e4
end
theorem map_at {α : Type} {f : α → V} {l : List α} {i : Int} {d : α} (h0 : 0 ≤ i) (h1 : i < l.length) : atI (l.map f) i = some (f (l.getD i.toNat d)) := by
  obtain ⟨j, rfl⟩ : ∃ j : Nat, i = (j : Int) := ⟨i.toNat, by omega⟩
  have hj : j < l.length := by omega
  refine atI_nat ?_
  rw [List.getElem?_map, List.getElem?_eq_getElem hj]
  simp [List.getD, List.getElem?_eq_getElem hj]
/-! ### point 4 without an order -/
structure ValidN (D : DD) : Prop where
  len : D.ou.length = D.st.length
  n400 : D.st.length ≤ 400
  nm : ∀ s ∈ D.st, isName s = true
  nd : D.st.Nodup
  ou : ∀ o ∈ D.ou, 0 ≤ o ∧ o ≤ 9
  n8 : D.ins.length ≤ 8
  inm : ∀ p ∈ D.ins, isName p.1 = true ∧ p.2 ∈ D.st
  ind : (D.ins.map (·.1)).Nodup
  n10 : D.ld.length ≤ 10
  ldm : ∀ s ∈ D.ld, s ∈ D.st
  rum : ∀ r ∈ D.ru, r.1 ∈ D.st ∧ r.2.1 ∈ D.st ∧ r.2.2.1 ∈ D.st ∧ r.2.2.2 ∈ D.st
  rnd : (D.ru.map fun x => (x.1, x.2.1)).Nodup
theorem nodup_take {α : Type} {l : List α} (h : l.Nodup) {i : Nat} {x : α} (e : l[i]? = some x) : x ∉ l.take i := by
  intro m
  obtain ⟨j, hj⟩ := List.mem_iff_getElem?.mp m
  have jl : j < i := by
    have := (List.getElem?_eq_some_iff.mp hj).1
    rw [List.length_take] at this
    omega
  rw [List.getElem?_take_of_lt jl] at hj
  have := nodup_ix h hj e
  omega
theorem take_len {α : Type} {l : List α} {i : Nat} {x : α} (e : l[i]? = some x) : (l.take i).length = i := by
  have := (List.getElem?_eq_some_iff.mp e).1
  rw [List.length_take]
  omega
theorem ValidN.valid {D : DD} (v : ValidN D) : Valid D := by
  refine ⟨v.len, fun i s o hs ho => ?_, fun i x hx => ?_, fun i x hx => ?_, fun i x hx => ?_⟩
  · have hi := (List.getElem?_eq_some_iff.mp hs).1
    have n4 := v.n400
    have om := v.ou o (List.mem_of_getElem? ho)
    unfold DD.okState
    simp only [take_len hs, v.nm s (List.mem_of_getElem? hs), Bool.and_true, Bool.and_eq_true, decide_eq_true_eq]
    exact ⟨⟨by omega, nodup_take v.nd hs⟩, om⟩
  · have hi := (List.getElem?_eq_some_iff.mp hx).1
    have n8 := v.n8
    obtain ⟨m1, m2⟩ := v.inm x (List.mem_of_getElem? hx)
    unfold DD.okInput
    simp only [take_len hx, m1, Bool.and_true, Bool.and_eq_true, decide_eq_true_eq]
    refine ⟨⟨by omega, ?_⟩, m2⟩
    rw [List.map_take]
    exact nodup_take v.ind (by rw [List.getElem?_map, hx]; rfl)
  · have hi := (List.getElem?_eq_some_iff.mp hx).1
    have n10 := v.n10
    unfold DD.okLeader
    simp only [take_len hx, Bool.and_eq_true, decide_eq_true_eq]
    exact ⟨by omega, v.ldm x (List.mem_of_getElem? hx)⟩
  · obtain ⟨m1, m2, m3, m4⟩ := v.rum x (List.mem_of_getElem? hx)
    unfold DD.okRule
    simp only [Bool.and_eq_true, decide_eq_true_eq]
    refine ⟨⟨⟨⟨m1, m2⟩, m3⟩, m4⟩, ?_⟩
    rw [List.map_take]
    exact nodup_take v.rnd (by rw [List.getElem?_map, hx]; rfl)
end Vf
namespace Vf
open PySem L2
section
variable {α : Type} {enc : α → List V} {H : Hp} {xs ys : List V} {l m : List α}
theorem Tups.append (h : Tups enc H xs l) (k : Tups enc H ys m) : Tups enc H (xs ++ ys) (l ++ m) := by
  refine ⟨by simp [h.1, k.1], fun i a e => ?_⟩
  by_cases hi : i < l.length
  · rw [List.getElem?_append_left hi] at e
    rw [List.getElem?_append_left (by rw [h.1]; exact hi)]
    exact h.2 i a e
  · rw [List.getElem?_append_right (by omega)] at e
    rw [List.getElem?_append_right (by rw [h.1]; omega), h.1]
    exact k.2 _ a e
theorem Tups.drop (h : Tups enc H xs l) (n : Nat) : Tups enc H (xs.drop n) (l.drop n) := by
  refine ⟨by simp [h.1], fun i a e => ?_⟩
  rw [List.getElem?_drop] at e ⊢
  exact h.2 _ a e
theorem Tups.take (h : Tups enc H xs l) (n : Nat) : Tups enc H (xs.take n) (l.take n) := by
  refine ⟨by simp [h.1], fun i a e => ?_⟩
  by_cases hi : i < n
  · rw [List.getElem?_take_of_lt hi] at e ⊢
    exact h.2 _ a e
  · have := (List.getElem?_eq_some_iff.mp e).1
    rw [List.length_take] at this
    omega
theorem Tups.reverse (h : Tups enc H xs l) : Tups enc H xs.reverse l.reverse := by
  refine ⟨by simp [h.1], fun i a e => ?_⟩
  have hi := (List.getElem?_eq_some_iff.mp e).1
  rw [List.length_reverse] at hi
  rw [List.getElem?_reverse (by omega)] at e
  rw [List.getElem?_reverse (by rw [h.1]; exact hi), h.1]
  exact h.2 _ a e
end
theorem cut_from (xs : List V) (t : Nat) (h : t ≤ xs.length) : cutV xs (some (t : Int)) none = xs.drop t := by
  have e1 : HT.sIx xs.length 0 (some (t : Int)) = t := by rw [HT.sIx_nat, Nat.min_eq_left h]
  have e2 : HT.sIx xs.length xs.length none = xs.length := rfl
  unfold cutV
  rw [e1, e2, List.take_of_length_le (by rw [List.length_drop]; exact Nat.le_refl _)]
theorem cut_to (xs : List V) (t : Nat) (h : t ≤ xs.length) : cutV xs none (some (t : Int)) = xs.take t := by
  have e1 : HT.sIx xs.length xs.length (some (t : Int)) = t := by rw [HT.sIx_nat, Nat.min_eq_left h]
  have e2 : HT.sIx xs.length 0 none = 0 := rfl
  unfold cutV
  rw [e1, e2]
  rfl
end Vf
namespace Vf
open PySem L2
/-! ### drawn parts -/
/-- the tuple of five lists -/
def PartsAt (H : Hp) (p : Addr) (D : DD) : Prop := ∃ (ls li ll lr lo : Addr) (xi xr : List V), H p = some (.tup [.ref ls, .ref li, .ref ll, .ref lr, .ref lo]) ∧ H ls = some (.lst (D.st.map V.str)) ∧ H li = some (.lst xi) ∧ Tups enc2 H xi D.ins ∧
  H ll = some (.lst (D.ld.map V.str)) ∧ H lr = some (.lst xr) ∧ Tups enc4 H xr D.ru ∧ H lo = some (.lst (D.ou.map V.int))
theorem PartsAt.same {H H' : Hp} {p : Addr} {D : DD} (h : PartsAt H p D) (e : Same H H') : PartsAt H' p D := by
  obtain ⟨ls, li, ll, lr, lo, xi, xr, h0, h1, h2, t2, h3, h4, t4, h5⟩ := h
  exact ⟨ls, li, ll, lr, lo, xi, xr, e _ _ h0, e _ _ h1, e _ _ h2, t2.same e, e _ _ h3, e _ _ h4, t4.same e, e _ _ h5⟩
def nmB : List Str := ["a", "b", "c", "d1", "e", "f"]
def nmS : List Str := ["", "x", "q7"]
def goodName (i : Nat) (s : Str) : Prop := ∃ j, j < 3 ∧ s = nmB.getD i Str.empty ++ nmS.getD j Str.empty
structure Small (D : DD) : Prop where
  st0 : 1 ≤ D.st.length
  st6 : D.st.length ≤ 6
  in3 : D.ins.length ≤ 3
  ld2 : D.ld.length ≤ 2
  ru36 : D.ru.length ≤ 36
  gn : ∀ (i : Nat) (s : Str), D.st[i]? = some s → goodName i s
theorem ValidN.short {D : DD} (v : ValidN D) (h : D.ru.length ≤ 1000000) : Short D := by
  have nl : ∀ s, isName s = true → s.length ≤ 1000000 := fun s hs => Nat.le_trans (name_len hs) (by decide)
  refine ⟨fun s hs => nl s (v.nm s hs), fun o ho => ?_, fun p hp => ?_, fun s hs => nl s (v.nm s (v.ldm s hs)), fun r hr x hx => ?_, h⟩
  · obtain ⟨h0, h9⟩ := v.ou o ho
    have hb : o.natAbs < 2 ^ 1920 := Nat.lt_of_le_of_lt (show o.natAbs ≤ 9 by omega) (by decide)
    by_cases hz : o.natAbs = 0
    · rw [hz]
      decide
    · exact (Nat.log2_lt hz).mpr hb
  · obtain ⟨m1, m2⟩ := v.inm p hp
    exact ⟨nl _ m1, nl _ (v.nm _ m2)⟩
  · obtain ⟨m1, m2, m3, m4⟩ := v.rum r hr
    simp only [r4, List.mem_cons, List.not_mem_nil, or_false] at hx
    rcases hx with rfl | rfl | rfl | rfl
    · exact nl _ (v.nm _ m1)
    · exact nl _ (v.nm _ m2)
    · exact nl _ (v.nm _ m3)
    · exact nl _ (v.nm _ m4)
theorem names_all : ((List.range 6).all fun i => (List.range 3).all fun j => isName (nmB.getD i Str.empty ++ nmS.getD j Str.empty) && ((nmB.getD i Str.empty ++ nmS.getD j Str.empty).cps.toList.head? == some (97 + i))) = true := by decide +kernel
theorem goodName_of {i : Nat} {s : Str} (hi : i < 6) (h : goodName i s) : isName s = true ∧ s.cps.toList.head? = some (97 + i) := by
  obtain ⟨j, hj, rfl⟩ := h
  have a := List.all_eq_true.mp names_all i (List.mem_range.mpr hi)
  have b := List.all_eq_true.mp a j (List.mem_range.mpr hj)
  rw [Bool.and_eq_true, beq_iff_eq] at b
  exact b
theorem nodup_by {α β : Type} {l : List α} (f : α → β) (g : Nat → β) (h : ∀ i a, l[i]? = some a → f a = g i) (inj : ∀ i j, i < l.length → j < l.length → g i = g j → i = j) : l.Nodup := by
  rw [List.Nodup, List.pairwise_iff_getElem]
  intro i j hi hj hij e
  have e1 := h i _ (List.getElem?_eq_getElem hi)
  have e2 := h j _ (List.getElem?_eq_getElem hj)
  rw [e, e2] at e1
  have := inj j i hj hi e1
  omega
theorem goodNames_nodup {l : List Str} (h6 : l.length ≤ 6) (h : ∀ i a, l[i]? = some a → goodName i a) : l.Nodup :=
  nodup_by (fun s : Str => s.cps.toList.head?) (fun i => some (97 + i)) (fun i a e => (goodName_of (by have := (List.getElem?_eq_some_iff.mp e).1; omega) (h i a e)).2) fun i j _ _ e => by
    have := Option.some.inj e
    omega
def inB : List Str := ["u", "v", "w"]
theorem inB_all : ((List.range 3).all fun i => isName (inB.getD i Str.empty) && ((inB.getD i Str.empty).cps.toList.head? == some (117 + i))) = true := by decide +kernel
theorem inB_of {i : Nat} (hi : i < 3) : isName (inB.getD i Str.empty) = true ∧ (inB.getD i Str.empty).cps.toList.head? = some (117 + i) := by
  have a := List.all_eq_true.mp inB_all i (List.mem_range.mpr hi)
  rw [Bool.and_eq_true, beq_iff_eq] at a
  exact a
end Vf
namespace Vf
open PySem L2
theorem gN {i : Nat} {v : V} {σ : L2.St} {H : Hp} {nx : L2.St → Hp → Prop} (h : nx (σ.set i (some v)) H) : gName i v σ H nx := h
end Vf
namespace Vf
open PySem L2
theorem names_end : ((List.range 6).all fun i => (List.range 3).all fun j => (nmB.getD i Str.empty ++ nmS.getD j Str.empty).cps.toList.getLast? != some 122) = true := by decide +kernel
/-- no drawn name ends so -/
theorem Small.noName {D : DD} (sm : Small D) {s : Str} (h : s.cps.toList.getLast? = some 122) : s ∉ D.st := fun m => by
  obtain ⟨i, hi⟩ := List.mem_iff_getElem?.mp m
  have il := (List.getElem?_eq_some_iff.mp hi).1
  have := sm.st6
  obtain ⟨j, hj, rfl⟩ := sm.gn i s hi
  have a := List.all_eq_true.mp names_end i (List.mem_range.mpr (by omega))
  have b := List.all_eq_true.mp a j (List.mem_range.mpr hj)
  rw [h] at b
  cases b
theorem end_zz (w : Str) : (w ++ ("9zz" : Str)).cps.toList.getLast? = some 122 := by
  have e : (w ++ ("9zz" : Str)).cps.toList = w.cps.toList ++ [57, 122, 122] := by
    show (w.cps ++ ("9zz" : Str).cps).toList = _
    rw [Array.toList_append]
    rfl
  rw [e, List.getLast?_append]
  rfl
end Vf

namespace Vf
open PySem PySem.Spec PyProof.Rows L2
/-- the pair of ints at an address -/
def prAt (H : Hp) (a : Addr) : Int × Int := match H a with
  | some (.tup [.int i, .int j]) => (i, j)
  | _ => (0, 0)
def prV (H : Hp) : Value → Int × Int
  | .ref a => prAt H a
  | _ => (0, 0)
theorem prAt_of {H : Hp} {a : Addr} {i j : Int} (h : H a = some (.tup [.int i, .int j])) : prAt H a = (i, j) := by
  unfold prAt
  rw [h]
def keyP (k : Int × Int) : List Key := [Sum.inl k.1, Sum.inl k.2]
/-- sorted(d), d a dict whose keys are pairs of ints -/
def rSortedDT : List V → Hp → VK → Prop := fun xs H Q => ∃ (d : Addr) (kvs : List (List Key × V)) (ks : List (Int × Int)), xs = [.ref d] ∧ Rd H d (.dT kvs) ∧ kvs.map (·.1) = ks.map keyP ∧
  ∀ (p : Addr) (bs : List Addr), H p = none → (bs.map (prAt H)).Perm ks → bs.Pairwise (fun x y => SrtO.lexB (prAt H y) (prAt H x) = false) → (∀ b ∈ bs, ∃ i j, H b = some (.tup [.int i, .int j])) → Q (.ref p) (upd H p (.lst (bs.map V.ref)))
theorem refs_out : ∀ (l : List Value), (∀ u ∈ l, ∃ a, u = Value.ref a) → ∃ bs : List Addr, l = bs.map Value.ref
  | [], _ => ⟨[], rfl⟩
  | u :: l, h => by
    obtain ⟨a, rfl⟩ := h u List.mem_cons_self
    obtain ⟨bs, e⟩ := refs_out l fun v hv => h v (List.mem_cons_of_mem _ hv)
    exact ⟨a :: bs, by rw [e]; rfl⟩
theorem pair_get {α β : Type} {R : α → β → Prop} : ∀ {l₁ : List α} {l₂ : List β}, Paired R l₁ l₂ → ∀ {n : Nat} {b : β}, l₂[n]? = some b → ∃ a, l₁[n]? = some a ∧ R a b
  | _, _, .nil, n, b, h => by simp at h
  | _, _, .cons h t, 0, b, e => by
    have e' := Option.some.inj e
    subst e'
    exact ⟨_, rfl, h⟩
  | _, _, .cons h t, n + 1, b, e => pair_get t (n := n) (b := b) e
theorem cr_sortedDT {X : Cx} (hcalm : X.calm = true) : CallR X (.builtin "sorted") rSortedDT := by
  intro pins s σ H xs us Q I r h
  obtain ⟨d, kvs, ks, rfl, hd, hks, q⟩ := h
  obtain ⟨u, rfl, rx⟩ := vals1 r
  cases rx
  obtain ⟨z, hs, xs, pr, o, es, ep, ho, hx, hdt, he, hn⟩ := (show ObjOk X.prog X.w H s.heap d (.dT kvs) from hd.ok I.hok)
  have l1 : es.size = xs.length := size_of_entries he
  have l2 : kvs.length = xs.length := Paired.length pr
  have h16 : es.size ≤ sizeLine := by omega
  refine Calls.call_function_entry PyProof.Rows.kind_sorted PyProof.Rows.plain_sorted PyProof.Rows.entry_sorted (PyProof.Rows.args_sorted1 _) ?_
  unfold Builtin.«sorted»
  refine wpAny_bind (m := checkCount "sorted" 1 1 _) (wpAny_pure ?_)
  refine wpAny_bind (PySem.W.kdu_collect (A := X.A.in1) (kdl_raw hs hx hdt) (I.ok.hd hcalm) ho h16 fun h' tk acc hk hacc => ?_)
  -- what was collected: the tuples of the keys
  have ea : acc.toList = (xs.map fun x => x.2.1).map Value.ref := by
    have hl : acc.toList.length = xs.length := by rw [Array.length_toList, hacc.1, l1]
    apply List.ext_getElem?
    intro j
    rw [List.map_map, List.getElem?_map]
    cases hj : acc.toList[j]? with
    | none =>
      have h1 := List.getElem?_eq_none_iff.mp hj
      rw [List.getElem?_eq_none (by omega)]
      rfl
    | some v =>
      obtain ⟨en, hen, hv⟩ := hacc.2 j v (by rw [← Array.getElem?_toList]; exact hj)
      have qe := entry_at he j
      rw [hen] at qe
      cases hb : xs[j]? with
      | none =>
        rw [hb] at qe
        exact nomatch (show some en = none from qe)
      | some b =>
        rw [hb] at qe
        have e2 : en = entryOfKey (tupleKind (mixKind X.prog X.w)) b := Option.some.inj qe
        rw [hv, e2]
        rfl
  have I1 : Inv X pins σ H { s with heap := h', toks := tk } := I.kept hk
  -- each of them is a pair
  have hat : ∀ a ∈ xs.map (fun x => x.2.1), ∃ i j, H a = some (.tup [.int i, .int j]) := by
    intro a ha
    obtain ⟨x, hxm, rfl⟩ := List.mem_map.mp ha
    obtain ⟨n, hn'⟩ := List.mem_iff_getElem?.mp hxm
    have hnl : n < kvs.length := by rw [l2]; exact (List.getElem?_eq_some_iff.mp hn').1
    obtain ⟨y, hy, p1, p2, _⟩ := pair_get pr hn'
    have hk1 : (kvs.map (·.1))[n]? = some y.1 := by rw [List.getElem?_map, hy]; rfl
    rw [hks] at hk1
    obtain ⟨k, _, ek⟩ : ∃ k, ks[n]? = some k ∧ y.1 = keyP k := by
      rw [List.getElem?_map] at hk1
      cases e : ks[n]? with
      | none => rw [e] at hk1; cases hk1
      | some k => rw [e] at hk1; exact ⟨k, rfl, (Option.some.inj hk1).symm⟩
    rw [ek] at p2
    exact ⟨k.1, k.2, p2⟩
  have hpr : (xs.map fun x => x.2.1).map (prAt H) = ks := by
    apply List.ext_getElem?
    intro n
    rw [List.getElem?_map, List.getElem?_map]
    cases hn' : xs[n]? with
    | none =>
      have h1 := List.getElem?_eq_none_iff.mp hn'
      have h2 := congrArg List.length hks
      rw [List.length_map, List.length_map] at h2
      rw [List.getElem?_eq_none (show ks.length ≤ n by omega)]
      rfl
    | some x =>
      obtain ⟨y, hy, p1, p2, _⟩ := pair_get pr hn'
      have hk1 : (kvs.map (·.1))[n]? = some y.1 := by rw [List.getElem?_map, hy]; rfl
      rw [hks] at hk1
      rw [List.getElem?_map] at hk1
      cases e : ks[n]? with
      | none => rw [e] at hk1; cases hk1
      | some k =>
        rw [e] at hk1
        have ek : y.1 = keyP k := (Option.some.inj hk1).symm
        rw [ek] at p2
        show some (prAt H x.2.1) = some k
        rw [prAt_of p2]
  have hal : acc.toList.length ≤ sizeLine := by
    rw [ea, List.length_map, List.length_map]
    omega
  refine wpAny_bind (wpAny_newList ?_ hal)
  have hoL : (h'.push (seqObj "list" acc.toList.toArray 0)).get? h'.objs.size = some (seqObj "list" acc.toList.toArray 0) := Heap.get?_push_size _ rfl
  show wpAny _ _ _ _ _ { s with heap := h'.push (seqObj "list" acc.toList.toArray 0), toks := tk }
  have hip : ∀ v ∈ acc.toList, Srt.IsPair h' v (prV H v).1 (prV H v).2 := by
    intro v hv
    rw [ea] at hv
    obtain ⟨a, ha, rfl⟩ := List.mem_map.mp hv
    obtain ⟨i, j, hij⟩ := hat a ha
    obtain ⟨_, its2, r2, ob, hob, hc, n, hd2⟩ := I1.hok _ _ hij
    obtain ⟨u1, u2, rfl, ri, rj⟩ := vals2 r2
    obtain ⟨t1, rfl⟩ := ri
    obtain ⟨t2, rfl⟩ := rj
    have e : prV H (.ref a) = (i, j) := prAt_of hij
    rw [e]
    exact ⟨a, ob, t1, t2, n, rfl, hob, hc, hd2⟩
  refine wpAny_bind (wpAny_holding (wpAny_call_entry PyProof.Rows.slot_list_sort ⟨_, hoL, rfl⟩ PyProof.Rows.entry_list_sort
    (SrtO.list_sort_ord (s := { s with heap := h'.push (seqObj "list" acc.toList.toArray 0), toks := tk }) (SrtO.swo_lex (prV H)) hoL hal (fun h2 => SrtO.pairs_sortableO (by omega) (fun v hv => (hip v hv).keeps fun b o e _ => Heap.get?_push_of_some _ e) fun o e c => ?_) fun out hs' hb' => ⟨_, rfl, ?_⟩) (PyProof.Rows.args_list_sort _)))
  · have e' : some o = some (seqObj "list" acc.toList.toArray 0) := e.symm.trans hoL
    cases e'
    exact absurd (Value.type.inj c) (by decide)
  · obtain ⟨e', he'⟩ := PyProof.Rows.sortedHeap_at (vs := acc.toList) (out := out.toArray) hoL
    have hperm : out.Perm acc.toList := hb'.perm
    obtain ⟨bs, rfl⟩ := refs_out out fun u hu => by
      have hm := hperm.mem_iff.mp hu
      rw [ea] at hm
      obtain ⟨a, _, rfl⟩ := List.mem_map.mp hm
      exact ⟨a, rfl⟩
    rw [ea] at hperm
    have hbp : bs.Perm (xs.map fun x => x.2.1) := by
      have hh := hperm.map (fun v : Value => match v with | .ref a => a | _ => 0)
      rw [List.map_map, List.map_map] at hh
      have e1 : bs.map ((fun v : Value => match v with | .ref a => a | _ => 0) ∘ Value.ref) = bs := List.map_id' bs
      have e2 : (xs.map fun x => x.2.1).map ((fun v : Value => match v with | .ref a => a | _ => 0) ∘ Value.ref) = (xs.map fun x => x.2.1) := List.map_id' _
      rw [e1, e2] at hh
      exact hh
    have hlen : (bs.map V.ref).length ≤ sizeLine := by
      rw [List.length_map, hbp.length_eq, List.length_map]
      omega
    refine wpAny_pure ⟨_, rfl, .ref h'.objs.size, upd H h'.objs.size (.lst (bs.map V.ref)), I1.laid (t' := tk) (fun b u e => ?_) (Nat.le_refl _)
      (show ObjOk X.prog X.w _ _ _ (.lst (bs.map V.ref)) from ⟨hlen, bs.map Value.ref, e', vals_refs bs, by rw [he']⟩), rfl, q _ bs (I1.hok.fresh (Nat.le_refl _)) ?_ ?_ ?_⟩
    · have hb : b < h'.objs.size := Heap.lt_size e
      rw [PyProof.Rows.sortedHeap_old (Nat.ne_of_lt hb) (by rw [size_push']; exact Nat.lt_succ_of_lt hb)]
      exact Heap.get?_push_of_some _ e
    · rw [← hpr]
      exact hbp.map _
    · have h1 : List.Pairwise (fun x y => SrtO.lexB (prV H y) (prV H x) = false) (bs.map Value.ref) := hs'
      rw [List.pairwise_map] at h1
      exact h1
    · intro b hb
      exact hat b (hbp.mem_iff.mp hb)
end Vf
namespace Vf
open PySem L2
/-! ### rows of pairs -/
def rowOf (l : List (Int × Int)) (c : Int × Int → Bool) (i : Int) : List Int := (l.filter fun k => decide (k.1 = i) && c k).map Prod.snd
theorem rowOf_snoc (l : List (Int × Int)) (c : Int × Int → Bool) (i : Int) (k : Int × Int) : rowOf (l ++ [k]) c i = rowOf l c i ++ if (decide (k.1 = i) && c k) = true then [k.2] else [] := by
  unfold rowOf
  rw [List.filter_append, List.map_append]
  congr 1
  by_cases h : (decide (k.1 = i) && c k) = true
  · rw [if_pos h, List.filter_cons, if_pos h]
    rfl
  · rw [if_neg h, List.filter_cons, if_neg h]
    rfl
theorem rowOf_mem {l : List (Int × Int)} {c : Int × Int → Bool} {i j : Int} : j ∈ rowOf l c i ↔ (i, j) ∈ l ∧ c (i, j) = true := by
  unfold rowOf
  rw [List.mem_map]
  constructor
  · rintro ⟨⟨a, b⟩, h, rfl⟩
    rw [List.mem_filter, Bool.and_eq_true, decide_eq_true_eq] at h
    obtain ⟨h1, h2, h3⟩ := h
    have e : a = i := h2
    subst e
    exact ⟨h1, h3⟩
  · rintro ⟨h1, h2⟩
    exact ⟨(i, j), List.mem_filter.mpr ⟨h1, by simp [h2]⟩, rfl⟩
theorem rowOf_asc {l : List (Int × Int)} {c : Int × Int → Bool} {i : Int} (h : l.Pairwise fun x y => SrtO.lexB y x = false) (n : l.Nodup) : (rowOf l c i).Pairwise (· < ·) := by
  have hb : l.Pairwise fun x y => SrtO.lexB y x = false ∧ x ≠ y := h.and n
  unfold rowOf
  rw [List.pairwise_map]
  refine List.Pairwise.imp_of_mem (fun {x y} hx hy hh => ?_) (hb.filter _)
  rw [List.mem_filter, Bool.and_eq_true, decide_eq_true_eq] at hx hy
  obtain ⟨h1, h2⟩ := hh
  have h3 := SrtO.lexB_no.mp h1
  obtain ⟨a, b⟩ := x
  obtain ⟨a', b'⟩ := y
  have e1 : a = i := hx.2.1
  have e2 : a' = i := hy.2.1
  subst e1
  subst e2
  have h4 : b ≠ b' := fun z => h2 (by rw [z])
  have h5 : ¬ b' < b := fun z => h3 (Or.inr ⟨rfl, z⟩)
  show b < b'
  omega
theorem valV_at {κ : Type} [DecidableEq κ] : ∀ {kvs : List (κ × V)} {n : Nat} {k : κ} {v : V}, (kvs.map Prod.fst).Nodup → kvs[n]? = some (k, v) → valV kvs k = some v
  | [], n, k, v, _, h => by simp at h
  | p :: r, 0, k, v, _, h => by
    have e : p = (k, v) := Option.some.inj h
    subst e
    exact valV_pos rfl
  | p :: r, n + 1, k, v, hn, h => by
    rw [List.map_cons, List.nodup_cons] at hn
    have h' : r[n]? = some (k, v) := h
    have ne : ¬ p.1 = k := fun z => hn.1 (List.mem_map.mpr ⟨(k, v), List.mem_of_getElem? h', z.symm⟩)
    rw [valV_neg ne]
    exact valV_at hn.2 h'
def encP (v : Int × Int) : List V := [.int v.1, .int v.2]
theorem keyP_inj {a b : Int × Int} (h : keyP a = keyP b) : a = b := by
  unfold keyP at h
  simp only [List.cons.injEq, Sum.inl.injEq, and_true] at h
  exact Prod.ext h.1 h.2
/-- a dict of pairs of ints by pairs of ints -/
structure PP (H : Hp) (kvs : List (List Key × V)) (ks vl : List (Int × Int)) : Prop where
  keys : kvs.map (·.1) = ks.map keyP
  vals : Tups encP H (kvs.map (·.2)) vl
  nd : ks.Nodup
section
variable {H : Hp} {kvs : List (List Key × V)} {ks vl : List (Int × Int)}
theorem PP.len (p : PP H kvs ks vl) : kvs.length = ks.length ∧ vl.length = ks.length := by
  have h1 := congrArg List.length p.keys
  have h2 := p.vals.1
  rw [List.length_map, List.length_map] at h1
  rw [List.length_map] at h2
  omega
theorem PP.at_ (p : PP H kvs ks vl) {n : Nat} {k : Int × Int} (h : ks[n]? = some k) : ∃ v t, vl[n]? = some v ∧ valV kvs (keyP k) = some (.ref t) ∧ H t = some (.tup (encP v)) := by
  obtain ⟨l1, l2⟩ := p.len
  have hn := (List.getElem?_eq_some_iff.mp h).1
  obtain ⟨v, hv⟩ : ∃ v, vl[n]? = some v := ⟨vl[n], List.getElem?_eq_getElem (by omega)⟩
  obtain ⟨t, ht, hT⟩ := p.vals.2 n v hv
  rw [List.getElem?_map] at ht
  obtain ⟨kv, hkv⟩ : ∃ kv, kvs[n]? = some kv := ⟨kvs[n], List.getElem?_eq_getElem (by omega)⟩
  rw [hkv] at ht
  have e2 : kv.2 = .ref t := Option.some.inj ht
  have h1 : (kvs.map (·.1))[n]? = some kv.1 := by rw [List.getElem?_map, hkv]; rfl
  rw [p.keys, List.getElem?_map, h] at h1
  have e1 : keyP k = kv.1 := Option.some.inj h1
  refine ⟨v, t, hv, ?_, hT⟩
  have hnd : (kvs.map Prod.fst).Nodup := by
    have e : kvs.map Prod.fst = ks.map keyP := p.keys
    rw [e]
    exact List.pairwise_map.mpr (p.nd.imp fun h z => h (keyP_inj z))
  refine valV_at (n := n) hnd ?_
  rw [hkv, ← e2, e1]
end
/-- the value of a key, or the key -/
def toP (kvs : List (List Key × V)) (H : Hp) (k : Int × Int) : Int × Int := match valV kvs (keyP k) with
  | some (.ref t) => prAt H t
  | _ => k
theorem toP_at {H : Hp} {kvs : List (List Key × V)} {ks vl : List (Int × Int)} (p : PP H kvs ks vl) {n : Nat} {k v : Int × Int} (h : ks[n]? = some k) (hv : vl[n]? = some v) : toP kvs H k = v := by
  obtain ⟨v', t, h1, h2, h3⟩ := p.at_ h
  rw [hv] at h1
  cases h1
  unfold toP
  rw [h2]
  exact prAt_of h3
end Vf
namespace Vf
theorem rowOf_len (l : List (Int × Int)) (c : Int × Int → Bool) (i : Int) : (rowOf l c i).length ≤ l.length := by
  unfold rowOf
  rw [List.length_map]
  exact List.length_filter_le _ _
end Vf
namespace Vf
open PySem L2
/-! ### a protocol -/
structure RA where
  t1 : Addr
  t2 : Addr
  t3 : Addr
  t4 : Addr
  t5 : Addr
  dn : Addr
  dr : Addr
  rw : Addr
def bFs (a : RA) : List (Str × V) := [("states", .ref a.t1), ("inputs", .ref a.t2), ("leaders", .ref a.t3), ("rules", .ref a.t4), ("outputs", .ref a.t5), ("_numbers", .ref a.dn), ("_results", .ref a.dr), ("_rows", .ref a.rw)]
theorem bFs_new (a : RA) : putF "_rows" (.ref a.rw) (putF "_results" (.ref a.dr) (putF "_numbers" (.ref a.dn) (putF "outputs" (.ref a.t5) (putF "rules" (.ref a.t4) (putF "leaders" (.ref a.t3) (putF "inputs" (.ref a.t2) (putF "states" (.ref a.t1) []))))))) = bFs a := by rfl
/-- the results of rules, as pairs of numbers -/
def rks (D : DD) : List (Int × Int) := D.ru.map fun r => (ix D.st r.1, ix D.st r.2.1)
def rvs (D : DD) : List (Int × Int) := D.ru.map fun r => (ix D.st r.2.2.1, ix D.st r.2.2.2)
structure BookAt (C : Addr) (H : Hp) (p : Addr) (a : RA) (D : DD) : Prop where
  ob : ∃ dx, H p = some (.ins C dx (bFs a))
  st : H a.t1 = some (.tup (D.st.map V.str))
  ins : ∃ xs, H a.t2 = some (.tup xs) ∧ Tups enc2 H xs D.ins
  ld : H a.t3 = some (.tup (D.ld.map V.str))
  ru : ∃ xs, H a.t4 = some (.tup xs) ∧ Tups enc4 H xs D.ru
  ou : H a.t5 = some (.tup (D.ou.map V.int))
  dn : H a.dn = some (.dK (numK D.st))
  dr : ∃ kvs, H a.dr = some (.dT kvs) ∧ Res H D.st D.ru kvs
  rw : ∃ (xs : List V) (rows : Nat → List Int), H a.rw = some (.tup xs) ∧ xs.length = D.st.length ∧ (∀ i x, xs[i]? = some x → ∃ t, x = .ref t ∧ H t = some (.tup ((rows i).map V.int))) ∧ (∀ i, (rows i).Pairwise (· < ·)) ∧
    ∀ (i : Nat) (j : Int), j ∈ rows i ↔ ∃ (n : Nat) (v : Int × Int), (rks D)[n]? = some ((i : Int), j) ∧ (rvs D)[n]? = some v ∧ v ≠ ((i : Int), j)
theorem BookAt.same {C : Addr} {H H' : Hp} {p : Addr} {a : RA} {D : DD} (S : BookAt C H p a D) (e : Same H H') : BookAt C H' p a D := by
  obtain ⟨dx, h0⟩ := S.ob
  obtain ⟨x2, h2, T2⟩ := S.ins
  obtain ⟨x4, h4, T4⟩ := S.ru
  obtain ⟨kvs, hk, R⟩ := S.dr
  obtain ⟨xs, rows, h8, l8, r8, a8, m8⟩ := S.rw
  exact ⟨⟨dx, e _ _ h0⟩, e _ _ S.st, ⟨x2, e _ _ h2, T2.same e⟩, e _ _ S.ld, ⟨x4, e _ _ h4, T4.same e⟩, e _ _ S.ou, e _ _ S.dn, ⟨kvs, e _ _ hk, R.same fun t ys => e t _⟩,
    ⟨xs, rows, e _ _ h8, l8, fun i x hx => by
      obtain ⟨t, e1, e2⟩ := r8 i x hx
      exact ⟨t, e1, e _ _ e2⟩, a8, m8⟩⟩
theorem Keep.new {S : List Addr} {H H' : Hp} {p : Addr} {o : HO} (e : Keep S H H') (h : H' p = none) : Keep S H (upd H' p o) := fun b u n q => by
  have q' := e b u n q
  rw [upd_ne (ne_of_none q' h)]
  exact q'
theorem Keep.same {S : List Addr} {H H1 H2 : Hp} (e : Keep S H H1) (s : Same H1 H2) : Keep S H H2 := fun b u n q => s b u (e b u n q)
theorem Res.pp {H : Hp} {D : DD} {kvs : List (List Key × V)} (R : Res H D.st D.ru kvs) (nd : (rks D).Nodup) : PP H kvs (rks D) (rvs D) := by
  refine ⟨?_, ?_, nd⟩
  · rw [R.keys]
    unfold rks
    rw [List.map_map]
    rfl
  · refine ⟨by rw [R.vals.1]; simp [rvs], fun i v hv => ?_⟩
    unfold rvs at hv
    obtain ⟨r, hr, rfl⟩ := map_get hv
    exact R.vals.2 i r hr
theorem take_all {α : Type} {l : List α} {P : List α → α → Prop} (h : ∀ i x, l[i]? = some x → P (l.take i) x) (x : α) (hx : x ∈ l) : ∃ i, P (l.take i) x := by
  obtain ⟨i, hi⟩ := List.mem_iff_getElem?.mp hx
  exact ⟨i, h i x hi⟩
theorem Valid.rule {D : DD} (v : Valid D) {r : S4} (hr : r ∈ D.ru) : r.1 ∈ D.st ∧ r.2.1 ∈ D.st ∧ r.2.2.1 ∈ D.st ∧ r.2.2.2 ∈ D.st := by
  obtain ⟨i, hi⟩ := List.mem_iff_getElem?.mp hr
  have h := v.ru i r hi
  unfold DD.okRule at h
  simp only [Bool.and_eq_true, decide_eq_true_eq] at h
  exact ⟨h.1.1.1.1, h.1.1.1.2, h.1.1.2, h.1.2⟩
theorem ix_bd {st : List Str} {s : Str} (h : s ∈ st) : 0 ≤ ix st s ∧ ix st s < (st.length : Int) := by
  have := List.idxOf_lt_length_of_mem h
  unfold ix
  omega
theorem Valid.nd {D : DD} (v : Valid D) : (rks D).Nodup := by
  unfold rks List.Nodup
  rw [List.pairwise_map, List.pairwise_iff_getElem]
  intro i j hi hj hij e
  have e1 : D.ru[i]? = some D.ru[i] := List.getElem?_eq_getElem hi
  have e2 : D.ru[j]? = some D.ru[j] := List.getElem?_eq_getElem hj
  have m1 := v.rule (List.getElem_mem hi)
  have m2 := v.rule (List.getElem_mem hj)
  have x := Prod.mk.inj e
  have y1 := ix_inj m1.1 m2.1 x.1
  have y2 := ix_inj m1.2.1 m2.2.1 x.2
  have h := v.ru j _ e2
  unfold DD.okRule at h
  simp only [Bool.and_eq_true, decide_eq_true_eq] at h
  refine h.2 (List.mem_map.mpr ⟨D.ru[i], ?_, by rw [y1, y2]⟩)
  refine List.mem_iff_getElem?.mpr ⟨i, ?_⟩
  rw [List.getElem?_take_of_lt hij]
  exact e1
end Vf
namespace Vf
open PySem L2
theorem walk_zipT {K : PySem.W.Frag} {a b : Addr} {xs ys : List V} {n : Nat} (hx : xs.length = n) (hy : ys.length = n) : Walk (RZ.ItzT K a b) n (fun H => SqT K H a xs ∧ SqT K H b ys) (YPair (fun i => xs[i]?) (fun i => ys[i]?)) where
  goes := fun i H hi q => ⟨xs, ys, xs[i], ys[i], q.1, q.2, List.getElem?_eq_getElem (by omega), List.getElem?_eq_getElem (by omega)⟩
  stops := fun H q => ⟨xs, ys, q.1, q.2, Or.inl (by omega)⟩
  yields := fun i H v H' _ q y => by
    obtain ⟨u, x, z, h1, h2, h3, h4, h5⟩ := y
    exact ⟨u, x, z, h1, h2, h3, h4 xs q.1, h5 ys q.2⟩
/-! ### written protocols -/
def lnSt (p : Str × Int) : Str := Str.ofString "state " ++ p.1 ++ Str.ofString " " ++ Str.ofString (toString p.2)
def lnIn (p : Str × Str) : Str := Str.ofString "input " ++ p.1 ++ Str.ofString " " ++ p.2
def lnLd (s : Str) : Str := Str.ofString "leader " ++ s
def lnRu (r : S4) : Str := Str.ofString "rule " ++ r.1 ++ Str.ofString " " ++ r.2.1 ++ Str.ofString " to " ++ r.2.2.1 ++ Str.ofString " " ++ r.2.2.2
def linesOf (D : DD) : List Str := (D.st.zip D.ou).map lnSt ++ D.ins.map lnIn ++ D.ld.map lnLd ++ D.ru.map lnRu
def textOf (D : DD) : Str := Txt.join (Str.ofString "\n") (linesOf D)
theorem zip_get {α β : Type} {l : List α} {m : List β} {i : Nat} {a : α} {b : β} (h1 : l[i]? = some a) (h2 : m[i]? = some b) : (l.zip m)[i]? = some (a, b) := by
  rw [List.getElem?_zip_eq_some]
  exact ⟨h1, h2⟩
theorem log_of {o : Int} (h : 0 ≤ o ∧ o ≤ 9) : o.natAbs.log2 < 1920 := by
  by_cases hz : o.natAbs = 0
  · rw [hz]
    decide
  · exact (Nat.log2_lt hz).mpr (Nat.lt_of_le_of_lt (show o.natAbs ≤ 9 by omega) (Nat.lt_of_lt_of_le (show 9 < 2 ^ 4 by decide) (Nat.pow_le_pow_right (by decide) (by decide))))
theorem num_len1 {o : Int} (h : 0 ≤ o ∧ o ≤ 9) : (Str.ofString (toString o)).length ≤ 2 := by
  have e := int_text_length_le10 (a := o) (k := 1) (by decide) (by omega)
  rw [ofString_length]
  omega
theorem lits : (Str.ofString "state ").length = 6 ∧ (Str.ofString " ").length = 1 ∧ (Str.ofString "input ").length = 6 ∧ (Str.ofString "leader ").length = 7 ∧ (Str.ofString "rule ").length = 5 ∧ (Str.ofString " to ").length = 4 ∧ (Str.ofString "\n").length = 1 := by decide +kernel
section
variable {D : DD}
theorem ValidN.nl (v : ValidN D) {s : Str} (h : s ∈ D.st) : s.length ≤ 12 := name_len (v.nm s h)
theorem lnSt_len (v : ValidN D) {p : Str × Int} (h1 : p.1 ∈ D.st) (h2 : p.2 ∈ D.ou) : (lnSt p).length ≤ 64 := by
  have a := v.nl h1
  have b := num_len1 (v.ou _ h2)
  obtain ⟨l1, l2, _⟩ := lits
  unfold lnSt
  simp only [Str.length_append]
  omega
theorem lnIn_len (v : ValidN D) {p : Str × Str} (h : p ∈ D.ins) : (lnIn p).length ≤ 64 := by
  obtain ⟨a, b⟩ := v.inm p h
  have a' := name_len a
  have b' := v.nl b
  obtain ⟨_, l2, l3, _⟩ := lits
  unfold lnIn
  simp only [Str.length_append]
  omega
theorem lnLd_len (v : ValidN D) {s : Str} (h : s ∈ D.ld) : (lnLd s).length ≤ 64 := by
  have b' := v.nl (v.ldm s h)
  obtain ⟨_, _, _, l4, _⟩ := lits
  unfold lnLd
  simp only [Str.length_append]
  omega
theorem lnRu_len (v : ValidN D) {r : S4} (h : r ∈ D.ru) : (lnRu r).length ≤ 64 := by
  obtain ⟨m1, m2, m3, m4⟩ := v.rum r h
  have a1 := v.nl m1
  have a2 := v.nl m2
  have a3 := v.nl m3
  have a4 := v.nl m4
  obtain ⟨_, l2, _, _, l5, l6, _⟩ := lits
  unfold lnRu
  simp only [Str.length_append]
  omega
theorem zip_mem {α β : Type} {l : List α} {m : List β} {p : α × β} (h : p ∈ l.zip m) : p.1 ∈ l ∧ p.2 ∈ m := ⟨(List.of_mem_zip (a := p.1) (b := p.2) h).1, (List.of_mem_zip (a := p.1) (b := p.2) h).2⟩
theorem lines_len (v : ValidN D) {y : Str} (h : y ∈ linesOf D) : y.length ≤ 64 := by
  unfold linesOf at h
  simp only [List.mem_append, List.mem_map] at h
  rcases h with ((⟨p, hp, rfl⟩ | ⟨p, hp, rfl⟩) | ⟨s, hs, rfl⟩) | ⟨r, hr, rfl⟩
  · exact lnSt_len v (zip_mem hp).1 (zip_mem hp).2
  · exact lnIn_len v hp
  · exact lnLd_len v hs
  · exact lnRu_len v hr
theorem lines_n (v : ValidN D) : (linesOf D).length ≤ 418 + D.ru.length := by
  unfold linesOf
  simp only [List.length_append, List.length_map, List.length_zip]
  have a := v.n400
  have b := v.n8
  have c := v.n10
  omega
theorem sum_le (l : List Str) (k : Nat) (h : ∀ y ∈ l, y.length ≤ k) : (l.map (·.length)).sum ≤ k * l.length := by
  induction l with
  | nil => simp
  | cons y l ih =>
    have h1 := h y List.mem_cons_self
    have h2 := ih fun z hz => h z (List.mem_cons_of_mem _ hz)
    rw [List.map_cons, List.sum_cons, List.length_cons, Nat.mul_succ]
    omega
theorem join_fits (v : ValidN D) (hr : D.ru.length ≤ 200000) : ((linesOf D).map (·.length)).sum + (linesOf D).length * (Str.ofString "\n").length ≤ 16777216 := by
  have a := sum_le (linesOf D) 64 fun y hy => lines_len v hy
  have b := lines_n v
  obtain ⟨_, _, _, _, _, _, l7⟩ := lits
  rw [l7]
  omega
end
end Vf
namespace Vf
open PySem L2
def DD.rev (D : DD) : DD := ⟨D.st, D.ins.reverse, D.ld.reverse, D.ru.reverse, D.ou⟩
theorem ValidN.rev {D : DD} (v : ValidN D) : ValidN D.rev where
  len := v.len
  n400 := v.n400
  nm := v.nm
  nd := v.nd
  ou := v.ou
  n8 := by
    show D.ins.reverse.length ≤ 8
    rw [List.length_reverse]
    exact v.n8
  inm := fun p hp => v.inm p (List.mem_reverse.mp hp)
  ind := by
    have pm := ((List.reverse_perm D.ins).map (·.1)).nodup_iff
    exact pm.mpr v.ind
  n10 := by
    show D.ld.reverse.length ≤ 10
    rw [List.length_reverse]
    exact v.n10
  ldm := fun s hs => v.ldm s (List.mem_reverse.mp hs)
  rum := fun r hr => v.rum r (List.mem_reverse.mp hr)
  rnd := by
    have pm := ((List.reverse_perm D.ru).map fun x : S4 => (x.1, x.2.1)).nodup_iff
    exact pm.mpr v.rnd
theorem ValidN.nil : ValidN DD.nil where
  len := rfl
  n400 := Nat.zero_le _
  nm := fun s hs => absurd hs List.not_mem_nil
  nd := List.nodup_nil
  ou := fun s hs => absurd hs List.not_mem_nil
  n8 := Nat.zero_le _
  inm := fun s hs => absurd hs List.not_mem_nil
  ind := List.nodup_nil
  n10 := Nat.zero_le _
  ldm := fun s hs => absurd hs List.not_mem_nil
  rum := fun s hs => absurd hs List.not_mem_nil
  rnd := List.nodup_nil
theorem text_nil : textOf DD.nil = Str.ofString "" := by decide +kernel
end Vf
namespace Vf
open PySem L2
theorem none_put {H : Hp} {a x : Addr} {o : HO} (h : H x = none) (ne : x ≠ a) : upd H a o x = none := by
  rw [upd_ne ne]
  exact h
end Vf

namespace Vf
open PySem PySem.W PySem.Spec PyProof.Rows L2
/-! ### min(xs, default=d) of whole numbers -/
theorem least_ok : ∀ (zs : List Int) (z : Int), PySem.W.minOf z zs ∈ z :: zs ∧ ∀ q ∈ z :: zs, PySem.W.minOf z zs ≤ q
  | [], z => ⟨List.mem_singleton.mpr rfl, fun q hq => by
      have e : q = z := by simpa using hq
      rw [e]
      exact Int.le_refl _⟩
  | y :: r, z => by
    have step : PySem.W.minOf z (y :: r) = PySem.W.minOf (if y < z then y else z) r := by
      unfold PySem.W.minOf
      rw [List.foldl_cons]
      congr 1
      by_cases c : y < z
      · simp [DatumOrd.lt, c]
      · simp [DatumOrd.lt, c]
    obtain ⟨m1, m2⟩ := least_ok r (if y < z then y else z)
    rw [step]
    have low := m2 _ (List.mem_cons_self ..)
    refine ⟨?_, fun q hq => ?_⟩
    · rcases List.mem_cons.mp m1 with e | e
      · rw [e]
        by_cases c : y < z
        · rw [if_pos c]; simp
        · rw [if_neg c]; simp
      · exact List.mem_cons_of_mem _ (List.mem_cons_of_mem _ e)
    · rcases List.mem_cons.mp hq with e | e
      · rw [e]
        by_cases c : y < z
        · rw [if_pos c] at low ⊢; omega
        · rw [if_neg c] at low ⊢; omega
      · rcases List.mem_cons.mp e with e | e
        · rw [e]
          by_cases c : y < z
          · rw [if_pos c] at low ⊢; omega
          · rw [if_neg c] at low ⊢; omega
        · exact m2 q (List.mem_cons_of_mem _ e)
def rLeastD (K : PySem.W.Frag) : List V → List V → Hp → VK → Prop := fun vs zs H Q => ∃ (a : Addr) (ns : List Int) (d : Int), vs = [V.ref a] ∧ zs = [V.int d] ∧ (SqL K H a (ns.map V.int) ∨ SqT K H a (ns.map V.int)) ∧
  ∀ m : Int, (ns = [] ∧ m = d ∨ m ∈ ns ∧ ∀ y ∈ ns, m ≤ y) → Q (.int m) H
theorem ints_at : ∀ {its : List Value} {ns : List Int} {i : Nat} {v : Value}, IntsAre its ns → its[i]? = some v → ∃ (n : Int) (t : Tok), v = .int n t
  | _, _, i, v, .nil, e => by simp at e
  | _, _, 0, v, .cons n t _, e => by
    have e' : Value.int n t = v := by simpa using e
    exact ⟨n, t, e'.symm⟩
  | _, _, i + 1, v, .cons n t r, e => ints_at (i := i) r (by simpa using e)
theorem holds_only {h : Heap} {n m : Int} {t : Tok} (q : PySem.W.Holds h (Value.int n t) m) : n = m := by
  obtain ⟨as, r⟩ := q
  cases r
  rfl
theorem cr_leastD {X : Cx} (hu : X.A.units + 64 < cLine) (hc : X.calm = true := by rfl) : CallRK X (.builtin "min") [Str.ofString "default"] (rLeastD X.K) := by
  intro pins s σ H vs zs us ws Q I r rz h
  obtain ⟨a, ns, d, rfl, rfl, both, q⟩ := h
  obtain rfl := Vals.ref1 r
  obtain ⟨w1, rfl, e1⟩ := vals1 rz
  obtain ⟨tk0, rfl⟩ : ∃ tk, w1 = Value.int d tk := e1
  have room : X.A.units + 1 + Datum.depth Int < cLine := by
    show X.A.units + 1 + 0 < cLine
    omega
  have non : ∀ h' tk, ns = [] → (∀ b o, s.heap.get? b = some o → h'.get? b = some o) → EP X pins σ Q (Value.int d tk0) { s with heap := h', toks := tk } := fun h' tk e k =>
    ⟨.int d, H, I.kept (t' := tk) k, ⟨tk0, rfl⟩, q d (.inl ⟨e, rfl⟩)⟩
  have one : ∀ (its : List Value) (y : Int) (ys : List Int) (i : Nat) v h' tk, IntsAre its ns → ns = y :: ys → its.toArray[i]? = some v → PySem.W.Holds h' v (PySem.W.minOf y ys) → (∀ b o, s.heap.get? b = some o → h'.get? b = some o) →
      EP X pins σ Q v { s with heap := h', toks := tk } := fun its y ys i v h' tk ia e hv hh k => by
    obtain ⟨n, t, rfl⟩ := ints_at (i := i) ia (by simpa using hv)
    have en := holds_only hh
    obtain ⟨f1, f2⟩ := least_ok ys y
    refine ⟨.int n, H, I.kept (t' := tk) k, ⟨t, rfl⟩, q n (.inr ?_)⟩
    rw [en, e]
    exact ⟨f1, f2⟩
  rcases both with hs | hs
  · obtain ⟨its, rv, hl, _⟩ := I.list hs
    exact PySem.W.min_list_datum_default (I.ok.hd hc) hl.isList (.of_ints rv.ints) room (fun e h' tk k => non h' tk e k) fun y ys i v h' tk e hv hh k => one its y ys i v h' tk rv.ints e hv hh k
  · obtain ⟨its, rv, hl, _⟩ := I.tuple hs
    exact PySem.W.min_tuple_datum_default (I.ok.hd hc) hl (.of_ints rv.ints) room (fun e h' tk k => non h' tk e k) fun y ys i v h' tk e hv hh k => one its y ys i v h' tk rv.ints e hv hh k
/-! ### the item of a list, for xs[i] += e -/
def rItemL (K : PySem.W.Frag) : V → V → Hp → VK → Prop := fun x y H Q => ∃ (p : Addr) (xs : List V) (i : Int) (z : V), x = V.ref p ∧ y = V.int i ∧ SqL K H p xs ∧ 0 ≤ i ∧ xs[i.toNat]? = some z ∧ Q z H
theorem get_listM {X : Cx} : PGet X (rItemL X.K) := by
  intro pins s σ H o i ov iv Q I ro ri h
  obtain ⟨p, xs, k, z, rfl, rfl, hs, h0, hz, q⟩ := h
  cases ro
  obtain ⟨t, rfl⟩ := ri
  obtain ⟨its, rv, hl, hb⟩ := I.list hs
  obtain ⟨u, hu, ru⟩ := rv.get hz
  have hlt := (List.getElem?_eq_some_iff.mp hz).1
  have big := line63
  exact wpAny_getItem_list hl.isList h0 (by omega) (by simpa using hu) ⟨z, H, I, ru, q⟩
end Vf

/-! ### zip of a tuple and a list -/
namespace Vf
open PySem PySem.Spec PyProof.Rows L2
def ItzM (K : PySem.W.Frag) (a b : Addr) : It where
  go := fun i H => ∃ (xs ys : List V) (x y : V), (SqT K H a xs ∧ SqL K H b ys) ∧ xs[i]? = some x ∧ ys[i]? = some y
  yld := fun i H v H' => ∃ (T : Addr) (x y : V), (v = .ref T ∧ H T = none ∧ H' = upd H T (.tup [x, y])) ∧ (∀ l, SqT K H a l → l[i]? = some x) ∧ (∀ l, SqL K H b l → l[i]? = some y)
  stop := fun i H => ∃ xs ys : List V, (SqT K H a xs ∧ SqL K H b ys) ∧ i ≤ xs.length ∧ i ≤ ys.length ∧ (i = xs.length ∨ i = ys.length)
/-- the iterator's own state -/
def StM (z TI TO i1 i2 a b : Addr) (i : Nat) (h : Heap) : Prop := IsZip h z TI TO .none ∧ IsPair h TI (.ref i1) (.ref i2) ∧ (∃ u v, IsPair h TO u v) ∧ h.IsTupleIter i1 a i ∧ h.IsListIter i2 b i
theorem five {c z TI TO i1 i2 : Addr} (h : c ∈ [z, TI, TO, i1, i2]) : c = z ∨ c = TI ∨ c = TO ∨ c = i1 ∨ c = i2 := by simpa using h
theorem StM.lt {z TI TO i1 i2 a b c : Addr} {i : Nat} {h : Heap} (S : StM z TI TO i1 i2 a b i h) (hc : c ∈ [z, TI, TO, i1, i2]) : c < h.objs.size := by
  obtain ⟨s1, s2, ⟨u, v, s3⟩, ⟨o1, s4, _⟩, ⟨o2, s5, _⟩⟩ := S
  rcases five hc with e | e | e | e | e <;> subst e
  · exact Heap.lt_size s1
  · exact Heap.lt_size s2
  · exact Heap.lt_size s3
  · exact Heap.lt_size s4
  · exact Heap.lt_size s5
section
variable {P : Program} {w : World} {K : PySem.W.Frag} {a b z TI TO i1 i2 : Addr}
theorem sepM (D : ZipApart z TI TO i1 i2 a b) : ZipSep2 z TI TO i1 i2 [i1, a] [i2, b] where
  TIz := D.TIz
  TOz := D.TOz
  TITO := D.TITO
  TIi1 := D.TIi1
  TIi2 := D.TIi2
  mem1 := List.mem_cons_self ..
  mem2 := List.mem_cons_self ..
  zf1 := by simp [Ne.symm D.i1z, Ne.symm D.l1z]
  zf2 := by simp [Ne.symm D.i2z, Ne.symm D.l2z]
  Tf1 := by simp [D.TOi1, Ne.symm D.l1TO]
  Tf2 := by simp [D.TOi2, Ne.symm D.l2TO]
  sep1_2 := by simp [D.i12, Ne.symm D.l2i1]
  sep2_1 := by simp [Ne.symm D.i12, Ne.symm D.l1i2]
theorem turn_zipM {elts : List Expr} {kk : Nat} {tpos : Pos} (D : ZipApart z TI TO i1 i2 a b) : Turn P w K (.Tuple elts kk tpos) (ItzM K a b) [z, TI, TO, i1, i2] z (StM z TI TO i1 i2 a b) where
  mem := List.mem_cons_self ..
  self := fun A i s Q E S q => wpAny_pyIter_zip S.1 q
  keep := by
    rintro i h h' ⟨s1, s2, ⟨u, v, s3⟩, s4, s5⟩ k
    exact ⟨k _ (by simp) _ s1, k _ (by simp) _ s2, ⟨u, v, k _ (by simp) _ s3⟩, s4.at fun o => k _ (by simp) o, s5.at fun o => k _ (by simp) o⟩
  obj := by
    rintro i h ⟨s1, s2, ⟨u, v, s3⟩, ⟨o1, s4, _, t4⟩, ⟨o2, s5, _, t5⟩⟩ c hc
    rcases five hc with e | e | e | e | e <;> subst e
    · exact ⟨_, s1, nofun⟩
    · exact ⟨_, s2, nofun⟩
    · exact ⟨_, s3, nofun⟩
    · refine ⟨o1, s4, fun v' e => ?_⟩
      rw [t4] at e
      cases e
    · refine ⟨o2, s5, fun v' e => ?_⟩
      rw [t5] at e
      cases e
  item := by
    rintro X rfl rfl rfl hc i pins s σ H E I hf S ⟨xs, ys, x, y, ⟨hqx, hqy⟩, hx, hy⟩
    have hlt := fun c hc => StM.lt (c := c) S hc
    obtain ⟨s1, s2, ⟨u0, v0, s3⟩, s4, s5⟩ := S
    obtain ⟨us, rx, px, _⟩ := I.tuple hqx
    obtain ⟨vs, ry, py, _⟩ := I.list hqy
    obtain ⟨u, hu, ru⟩ := rx.get hx
    obtain ⟨v, hv, rv⟩ := ry.get hy
    have nh : X.A.in1.handled = none := I.ok.hd hc
    have lx := (List.getElem?_eq_some_iff.mp hu).1
    have ly := (List.getElem?_eq_some_iff.mp hv).1
    refine wpAny_pyNext_zipD2_item (sepM D) (Draws.tuple nh i1 a D.l1i1 us.toArray) (Draws.list nh i2 b D.l2i2 vs.toArray) s1 s2 s3 ⟨s4, px⟩ ⟨s5, py.isList⟩ (by simpa using lx) (by simpa using ly)
      fun x1 x2 g tk e1 e2 g1 g2 g3 g4 g5 _ gk => ?_
    obtain rfl : u = x1 := by
      have e := e1
      simp only [List.getElem?_toArray] at e
      rw [hu] at e
      exact Option.some.inj e
    obtain rfl : v = x2 := by
      have e := e2
      simp only [List.getElem?_toArray] at e
      rw [hv] at e
      exact Option.some.inj e
    refine ⟨_, rfl, ?_⟩
    refine wpAny_letOwnedTupleGo_zip (s := { s with heap := g, toks := tk }) g1 fun g' z' sb => ?_
    have zlt := hlt z (by simp)
    have got : g'.get? s.heap.objs.size = some { cls := .type "tuple", data := .seq #[u, v] } := (sb.2 _ (Nat.ne_of_gt zlt)).trans g5
    have fresh : H s.heap.objs.size = none := I.hok.fresh (Nat.le_refl _)
    have made : ObjOk X.prog X.w (upd H s.heap.objs.size (.tup [x, y])) g' s.heap.objs.size (.tup [x, y]) := by
      refine ⟨?_, [u, v], .cons ru (.cons rv .nil), ⟨_, got, rfl, _, rfl⟩⟩
      show 2 ≤ sizeLine
      decide
    have stay : ∀ c o, c ∉ [z, TI, TO, i1, i2] → s.heap.get? c = some o → g'.get? c = some o := fun c o n q => by
      have n1 : c ≠ z := fun e => n (by simp [e])
      have n2 : c ≠ TO := fun e => n (by simp [e])
      have n3 : c ≠ i1 := fun e => n (by simp [e])
      have n4 : c ≠ i2 := fun e => n (by simp [e])
      exact (sb.2 c n1).trans (gk c o n1 n2 n3 n4 q)
    refine ⟨.ref s.heap.objs.size, upd H s.heap.objs.size (.tup [x, y]), I.turnedNew (t' := tk) (ch := [z, TI, TO, i1, i2]) stay hf (Nat.le_refl _) made, rfl, ?_, ?_, ?_⟩
    · refine ⟨_, x, y, ⟨rfl, fresh, rfl⟩, fun l hl => ?_, fun l hl => ?_⟩
      · rw [I.tuple_inj hl hqx]; exact hx
      · rw [I.list_inj hl hqy]; exact hy
    · refine ⟨z', ?_, ⟨u, v, (sb.2 _ D.TOz).trans g2⟩, g3.1.at fun o q => (sb.2 _ D.i1z).trans q, g4.1.at fun o q => (sb.2 _ D.i2z).trans q⟩
      exact (sb.2 _ D.TIz).trans (gk _ _ D.TIz D.TITO D.TIi1 D.TIi2 s2)
    · intro c hcm
      rw [upd_ne (Nat.ne_of_lt (hlt c hcm))]
      exact (hf c hcm).1
  done := by
    rintro X rfl rfl rfl hc i pins s σ H E I hf ⟨s1, s2, ⟨u0, v0, s3⟩, s4, s5⟩ ⟨xs, ys, ⟨hqx, hqy⟩, l1, l2, l3⟩
    obtain ⟨us, rx, px, _⟩ := I.tuple hqx
    obtain ⟨vs, ry, py, _⟩ := I.list hqy
    have nh : X.A.in1.handled = none := I.ok.hd hc
    rw [rx.length] at l1 l3
    rw [ry.length] at l2 l3
    refine wpAny_pyNext_zipD2_end (sepM D) (Draws.tuple nh i1 a D.l1i1 us.toArray) (Draws.list nh i2 b D.l2i2 vs.toArray) s1 s2 s3 ⟨s4, px⟩ ⟨s5, py.isList⟩ (by simpa using l1) (by simpa using l2) (by simpa using l3) fun g tk gk => ⟨rfl, ?_⟩
    refine I.turnedL (t' := tk) (ch := [z, TI, TO, i1, i2]) (fun c o n q => ?_) hf
    exact gk c o (fun e => n (by simp [e])) (fun e => n (by simp [e])) (fun e => n (by simp [e])) (fun e => n (by simp [e])) q
end
/-! the making of it -/
def zm1 (h : Heap) (a : Addr) : Heap := h.push { cls := .type "tuple_iterator", data := .fields #[.ref a, .int 0 0] }
def zm2 (h : Heap) (a b : Addr) : Heap := (zm1 h a).push { cls := .type "list_iterator", data := .fields #[.ref b, .int 0 0] }
def zm3 (h : Heap) (a b : Addr) : Heap := (zm2 h a b).push { cls := .type "tuple", data := .seq #[.ref h.objs.size, .ref (zm1 h a).objs.size] }
def zm4 (h : Heap) (a b : Addr) : Heap := (zm3 h a b).push { cls := .type "tuple", data := .seq #[.none, .none] }
def zm5 (h : Heap) (a b : Addr) : Heap := (zm4 h a b).push { cls := .type "zip", data := .fields #[.none, .bool false, .bool false, .ref (zm2 h a b).objs.size, .ref (zm3 h a b).objs.size] }
theorem meets_zipM (a b : Addr) (xs ys : Array Value) : Meets (Builtin.«zip.__new__» ⟨[.type "zip", .ref a, .ref b], []⟩)
    fun _ R s => s.heap.IsTuple a xs ∧ s.heap.IsList b ys ∧ R (.ok (.ret (.ref (zm4 s.heap a b).objs.size))) { s with heap := zm5 s.heap a b } := by
  refine .of_wp fun prog w A R s h => ?_
  obtain ⟨hp, gs, dr, tk, os⟩ := s
  obtain ⟨ha, hb, h⟩ := h
  have sub := sub_zip
  have ita : Heap.IsTuple (Shared.heap ⟨hp, gs, dr, tk, os⟩) a xs := ha
  have itb : Heap.IsList (Shared.heap ⟨hp.push { cls := .type "tuple_iterator", data := .fields #[.ref a, .int 0 0] }, gs, dr, tk, os⟩) b ys := Heap.IsList.push hb _
  wp_walk using wpAny_pyIter_tuple ita, wpAny_pyIter_list itb
  exact ⟨_, rfl, h⟩
theorem call_zipM {prog : Program} {w : World} {A : Around} {E : Value → Shared → Prop} {s : Shared} {a b : Addr} {xs ys : Array Value} {Q : Value → Shared → Prop} (ha : s.heap.IsTuple a xs) (hb : s.heap.IsList b ys)
    (q : ∀ g, StM (s.heap.objs.size + 4) (s.heap.objs.size + 2) (s.heap.objs.size + 3) s.heap.objs.size (s.heap.objs.size + 1) a b 0 g → (∀ c o, s.heap.get? c = some o → g.get? c = some o) → Q (.ref (s.heap.objs.size + 4)) { s with heap := g }) :
    wpAny (model prog w) A (call (.type "zip") [.ref a, .ref b]) Q E s := by
  have n1 : (zm1 s.heap a).objs.size = s.heap.objs.size + 1 := Heap.size_push ..
  have n2 : (zm2 s.heap a b).objs.size = s.heap.objs.size + 2 := (Heap.size_push ..).trans (by rw [n1])
  have n3 : (zm3 s.heap a b).objs.size = s.heap.objs.size + 3 := (Heap.size_push ..).trans (by rw [n2])
  have n4 : (zm4 s.heap a b).objs.size = s.heap.objs.size + 4 := (Heap.size_push ..).trans (by rw [n3])
  have u1 : ∀ {c o}, s.heap.get? c = some o → (zm1 s.heap a).get? c = some o := fun e => Heap.get?_push_of_some _ e
  have u2 : ∀ {c o}, (zm1 s.heap a).get? c = some o → (zm2 s.heap a b).get? c = some o := fun e => Heap.get?_push_of_some _ e
  have u3 : ∀ {c o}, (zm2 s.heap a b).get? c = some o → (zm3 s.heap a b).get? c = some o := fun e => Heap.get?_push_of_some _ e
  have u4 : ∀ {c o}, (zm3 s.heap a b).get? c = some o → (zm4 s.heap a b).get? c = some o := fun e => Heap.get?_push_of_some _ e
  have u5 : ∀ {c o}, (zm4 s.heap a b).get? c = some o → (zm5 s.heap a b).get? c = some o := fun e => Heap.get?_push_of_some _ e
  have k1 : (zm1 s.heap a).get? s.heap.objs.size = some { cls := .type "tuple_iterator", data := .fields #[.ref a, .int 0 0] } := Heap.get?_push_size _ rfl
  have k2 : (zm2 s.heap a b).get? (s.heap.objs.size + 1) = some { cls := .type "list_iterator", data := .fields #[.ref b, .int 0 0] } := by
    rw [← n1]; exact Heap.get?_push_size _ rfl
  have k3 : (zm3 s.heap a b).get? (s.heap.objs.size + 2) = some { cls := .type "tuple", data := .seq #[.ref s.heap.objs.size, .ref (zm1 s.heap a).objs.size] } := by
    rw [← n2]; exact Heap.get?_push_size _ rfl
  have k4 : (zm4 s.heap a b).get? (s.heap.objs.size + 3) = some { cls := .type "tuple", data := .seq #[.none, .none] } := by
    rw [← n3]; exact Heap.get?_push_size _ rfl
  have k5 : (zm5 s.heap a b).get? (s.heap.objs.size + 4) = some { cls := .type "zip", data := .fields #[.none, .bool false, .bool false, .ref (zm2 s.heap a b).objs.size, .ref (zm3 s.heap a b).objs.size] } := by
    rw [← n4]; exact Heap.get?_push_size _ rfl
  rw [n1] at k3
  rw [n2, n3] at k5
  refine callType_new F.called_zip (by decide) (F.typeCall_zip_2 _ _) (F.newCall_zip_2 _ _) (fun obj => F.args_object_init_3 obj _ _) F.entry_zip_new (meets_zipM a b xs ys) ⟨ha, hb, ?_⟩
  show _ ∧ _
  rw [n4]
  exact ⟨⟨_, k5, rfl⟩, q _ ⟨k5, u5 (u4 k3), ⟨_, _, u5 k4⟩, ⟨_, u5 (u4 (u3 (u2 k1))), rfl, rfl⟩, ⟨_, u5 (u4 (u3 k2)), rfl, rfl⟩⟩ fun c o e => u5 (u4 (u3 (u2 (u1 e))))⟩
def iZipM (K : PySem.W.Frag) (ta : TA) : TI := fun σ H R => ta σ H fun vs H1 => ∃ (a b : Addr) (xs ys : List V), vs = [.ref a, .ref b] ∧ (SqT K H1 a xs ∧ SqL K H1 b ys) ∧ R (ItzM K a b) H1
theorem pi_zipM {X : Cx} {e e2 : Expr} {ta : TA} {p pos tpos : Pos} {elts : List Expr} {kk : Nat} (hg : Gl X "zip") (hm : X.mg "zip" = none) (ha : PA X [e, e2] ta)
    (hs : starEach [e, e2] X.env = (false, eval e X.env) :: starEach [e2] X.env := by rfl) (hpl : (backTo pos (starEach [e2] X.env)).any (·.1) = false := by rfl) :
    PI X (.Tuple elts kk tpos) (.Call (.Name "zip" p) [e, e2] [] pos) (iZipM X.K ta) := by
  constructor
  intro pins s σ H R I h
  refine Call_ (ld_blt I hg hm PyProof.Rows.boot_zip (PyProof.Rows.callWith_type1 (thn (ha.run pos pins s σ H _ I h) fun us s1 got => ?_) hs hpl))
  obtain ⟨vs, H1, I1, r1, a, b, xs, ys, rfl, ⟨hqx, hqy⟩, q⟩ := got
  obtain ⟨u1, r2, rfl, e1, r3⟩ : ∃ u r2, us = u :: r2 ∧ RelV (.ref a) u ∧ Vals [.ref b] r2 := by
    cases r1 with
    | cons x y => exact ⟨_, _, rfl, x, y⟩
  obtain rfl := Vals.ref1 r3
  obtain rfl : u1 = Value.ref a := e1
  obtain ⟨its, _, px, _⟩ := I1.tuple hqx
  obtain ⟨its2, _, py, _⟩ := I1.list hqy
  obtain ⟨o1, w1, _⟩ := id px
  refine call_zipM (xs := its.toArray) (ys := its2.toArray) px py.isList fun g S gk => wpAny_pyIter_zip S.1 ?_
  refine ⟨_, [s1.heap.objs.size + 4, s1.heap.objs.size + 2, s1.heap.objs.size + 3, s1.heap.objs.size, s1.heap.objs.size + 1], StM _ _ _ _ _ a b, ItzM X.K a b, H1, rfl, I1.kept (t' := s1.toks) gk,
    turn_zipM (PySem.W.ktu_apart s1.heap.objs.size a b (Heap.lt_size w1) py.lt), S, fun c hc => ?_, q⟩
  have le : s1.heap.objs.size ≤ c := by
    rcases five hc with e | e | e | e | e <;> rw [e]
    · exact Nat.le_add_right _ 4
    · exact Nat.le_add_right _ 2
    · exact Nat.le_add_right _ 3
    · exact Nat.le_refl _
    · exact Nat.le_add_right _ 1
  exact I1.fpOk le (I1.hok.fresh le)
theorem for_zipM {K : PySem.W.Frag} {a b : Addr} {xs ys : List V} {g : TG} {tb : TS} {D : Ends} {σ : L2.St} {H : Hp} (hl : xs.length = ys.length) (Pv : Nat → L2.St → Hp → Prop) (h0 : Pv 0 σ H) (hq : ∀ i σ H, Pv i σ H → SqT K H a xs ∧ SqL K H b ys)
    (hs : ∀ (i : Nat) (x y : V) (T : Addr) (σ : L2.St) (H : Hp), xs[i]? = some x → ys[i]? = some y → Pv i σ H → H T = none → g (.ref T) σ (upd H T (.tup [x, y])) fun σ2 H2 => tb { D with nx := Pv (i + 1), ct := Pv (i + 1), bk := D.nx } σ2 H2)
    (hd : ∀ σ H, Pv xs.length σ H → D.nx σ H) :
    ∃ W : Nat → Nat → L2.St → Hp → Prop, (∃ m, W 0 m σ H) ∧ ∀ i m σ H, W i m σ H →
      ((ItzM K a b).stop i H ∧ D.nx σ H) ∨ ((ItzM K a b).go i H ∧ ∃ N : L2.St → Hp → Prop, (∀ σ' H', N σ' H' → ∃ m', m' < m ∧ W (i + 1) m' σ' H') ∧ ∀ v H', (ItzM K a b).yld i H v H' → g v σ H' fun σ2 H2 => tb { D with nx := N, ct := N, bk := D.nx } σ2 H2) := by
  refine ⟨fun i m σ H => i + m = xs.length ∧ Pv i σ H, ⟨_, Nat.zero_add _, h0⟩, ?_⟩
  rintro i m σ H ⟨e, p⟩
  have both := hq i σ H p
  cases m with
  | zero =>
    have e' : i = xs.length := e
    subst e'
    exact .inl ⟨⟨xs, ys, both, Nat.le_refl _, Nat.le_of_eq hl, .inl rfl⟩, hd σ H p⟩
  | succ m =>
    have l1 : i < xs.length := by omega
    have l2 : i < ys.length := by omega
    refine .inr ⟨⟨xs, ys, _, _, both, List.getElem?_eq_getElem l1, List.getElem?_eq_getElem l2⟩, Pv (i + 1), fun σ' H' p' => ⟨m, Nat.lt_succ_self m, by omega, p'⟩, ?_⟩
    rintro v H' ⟨T, x, y, ⟨rfl, hT, rfl⟩, f1, f2⟩
    exact hs i x y T σ H (f1 xs both.1) (f2 ys both.2) p hT
end Vf

namespace Vf
open PySem PySem.W PySem.Spec PyProof.Rows L2
/-! ### == of lists of ints, and of tuples of ints -/
theorem dpAll_ints {K : PySem.W.Frag} {H : Hp} : ∀ ns : List Int, DpAll K H (ns.map V.int) (ns.map PyData.int)
  | [] => .nil
  | n :: r => .cons (.int n) (dpAll_ints r)
theorem shapedT_ints (ns : List Int) : SeqAt.shaped (.tuple (ns.map PyData.int)) = true := by
  have e : SeqAt.shaped (.tuple (ns.map PyData.int)) = SeqAt.shaped (.list (ns.map PyData.int)) := by
    unfold SeqAt.shaped
    simp only [PyData.canLay0, PyData.depth]
    rfl
  rw [e]
  exact PySem.W.shaped_ints ns
/-- two lists of ints, or two tuples of ints -/
def TwoInts (K : PySem.W.Frag) (H : Hp) (x y : V) (ns ms : List Int) : Prop := ∃ a b : Addr, x = .ref a ∧ y = .ref b ∧ ((SqL K H a (ns.map V.int) ∧ SqL K H b (ms.map V.int)) ∨ (SqT K H a (ns.map V.int) ∧ SqT K H b (ms.map V.int)))
theorem TwoInts.dp {K : PySem.W.Frag} {H : Hp} {x y : V} {ns ms : List Int} (t : TwoInts K H x y ns ms) : ∃ d e, Dp K H x d ∧ Dp K H y e ∧ SeqAt.shaped d = true ∧ SeqAt.shaped e = true ∧ PyData.eqv d e = decide (ns = ms) := by
  obtain ⟨a, b, rfl, rfl, ⟨h1, h2⟩ | ⟨h1, h2⟩⟩ := t
  · exact ⟨_, _, .lst h1 (dpAll_ints ns), .lst h2 (dpAll_ints ms), PySem.W.shaped_ints ns, PySem.W.shaped_ints ms, PySem.W.Datum.eqv (α := List Int) ns ms⟩
  · refine ⟨_, _, .tup h1 (dpAll_ints ns), .tup h2 (dpAll_ints ms), shapedT_ints ns, shapedT_ints ms, ?_⟩
    refine (PySem.W.Datum.eqv (α := PySem.W.Tup Int) ⟨ns⟩ ⟨ms⟩).trans (decide_eq_decide.mpr ⟨fun e => congrArg PySem.W.Tup.items e, fun e => by rw [e]⟩)
def rEqIs (K : PySem.W.Frag) : R2 := fun x y H Q => ∃ ns ms : List Int, TwoInts K H x y ns ms ∧ Q (.bl (decide (ns = ms))) H
def rNeIs (K : PySem.W.Frag) : R2 := fun x y H Q => ∃ ns ms : List Int, TwoInts K H x y ns ms ∧ Q (.bl (!decide (ns = ms))) H
theorem op_eqIs {X : Cx} (hu : X.A.units + 64 < cLine) : OpR X (compareOp .Eq) (rEqIs X.K) := by
  rintro pins s σ H x y v u Q I rx ry ⟨ns, ms, t, q⟩
  obtain ⟨d, e, h1, h2, h3, h4, h5⟩ := t.dp
  exact op_eqD hu pins s σ H x y v u Q I rx ry ⟨d, e, h1, h2, h3, h4, by rw [h5]; exact q⟩
theorem op_neIs {X : Cx} (hu : X.A.units + 64 < cLine) : OpR X (compareOp .NotEq) (rNeIs X.K) := by
  rintro pins s σ H x y v u Q I rx ry ⟨ns, ms, t, q⟩
  obtain ⟨d, e, h1, h2, h3, h4, h5⟩ := t.dp
  exact op_neD hu pins s σ H x y v u Q I rx ry ⟨d, e, h1, h2, h3, h4, by rw [h5]; exact q⟩
/-! ### an item of a list or of a tuple -/
def rIxS (K : PySem.W.Frag) : R2 := fun x y H Q => ∃ (p : Addr) (xs : List V) (i : Int) (z : V), x = .ref p ∧ y = .int i ∧ (SqL K H p xs ∨ SqT K H p xs) ∧ atI xs i = some z ∧ Q z H
theorem ix_seq {X : Cx} : IxR X (rIxS X.K) := by
  rintro value slice pins s σ H x y v u Q I rx ry ⟨p, xs, i, z, e1, e2, hl | ht, hz, q⟩ hs
  · exact ix_list value slice pins s σ H x y v u Q I rx ry ⟨p, xs, i, z, e1, e2, hl, hz, q⟩ hs
  · exact ix_tup value slice pins s σ H x y v u Q I rx ry ⟨p, xs, i, z, e1, e2, ht, hz, q⟩ hs
/-! ### catching -/
theorem takesN {X : Cx} : Takes X (fun _ _ _ _ => False) := takes0
theorem neq_none {H : Hp} {a b : Addr} {o : HO} (h : H a = some o) (n : H b = none) : a ≠ b := fun e => by
  rw [e, n] at h
  cases h
/-! ### a heap without one object -/
def Er (p : Addr) (H : Hp) : Hp := fun a => if a = p then none else H a
theorem er_self {p : Addr} {H : Hp} : Er p H p = none := if_pos rfl
theorem er_ne {p a : Addr} {H : Hp} {o o' : HO} (h : H a = some o) (hp : H p = some o') (n : o ≠ o') : Er p H a = some o := by
  unfold Er
  rw [if_neg fun e => ?_]
  · exact h
  · subst e
    rw [h] at hp
    exact n (Option.some.inj hp)
theorem er_some {p a : Addr} {H : Hp} {o : HO} (h : Er p H a = some o) : a ≠ p ∧ H a = some o := by
  unfold Er at h
  by_cases e : a = p
  · rw [if_pos e] at h; cases h
  · rw [if_neg e] at h; exact ⟨e, h⟩
theorem er_keep {p : Addr} {H H' : Hp} (k : Keep [p] H H') : Same (Er p H) H' := fun a o h => by
  obtain ⟨n, e⟩ := er_some h
  exact k a o (by simpa using n) e
theorem same_keep {p : Addr} {G H H' : Hp} (s : Same G H) (n : G p = none) (k : Keep [p] H H') : Same G H' := fun a o h => k a o (fun m => by
  rw [List.mem_singleton] at m
  rw [m, n] at h
  cases h) (s a o h)
/-! ### the pool of draws: a list of a list of ints and a place in it -/
def PoolX (H : Hp) (p d : Addr) (ds : List Int) (n : Int) : Prop := H p = some (.lst [.ref d, .int n]) ∧ H d = some (.lst (ds.map V.int)) ∧ d ≠ p ∧ ds.length = 160 ∧ ∀ x ∈ ds, 0 ≤ x ∧ x < 4096
def PoolAt (H : Hp) (p : Addr) (n : Int) : Prop := ∃ (d : Addr) (ds : List Int), PoolX H p d ds n
theorem PoolX.same {H H' : Hp} {p d : Addr} {ds : List Int} {n : Int} (P : PoolX H p d ds n) (e : Same H H') : PoolX H' p d ds n := ⟨e _ _ P.1, e _ _ P.2.1, P.2.2⟩
/-- the pool over what stays -/
theorem PoolX.over {G H H' : Hp} {p d : Addr} {ds : List Int} {n m : Int} (P : PoolX H p d ds n) (e : Same (Er p H) H') (h : H' p = some (.lst [.ref d, .int m])) : PoolX H' p d ds m :=
  ⟨h, e _ _ (show Er p H d = _ from (if_neg P.2.2.1).trans P.2.1), P.2.2⟩
section
variable {H : Hp} {p : Addr} {n : Int}
theorem PoolAt.tups {α : Type} {enc : α → List V} {xs : List V} {l : List α} (P : PoolAt H p n) (t : Tups enc H xs l) : Tups enc (Er p H) xs l := by
  obtain ⟨d, ds, h1, _⟩ := P
  exact t.mono fun a ys e => er_ne e h1 (by intro q; cases q)
theorem PoolAt.parts {q : Addr} {D : DD} (P : PoolAt H p n) (S : PartsAt H q D) : PartsAt (Er p H) q D := by
  obtain ⟨ls, li, ll, lr, lo, xi, xr, s0, s1, s2, t2, s3, s4, t4, s5⟩ := S
  have P' := P
  obtain ⟨d, ds, h1, _⟩ := P
  have nS : ∀ l : List Str, HO.lst (l.map V.str) ≠ .lst [.ref d, .int n] := fun l e => by
    cases l with
    | nil => cases e
    | cons a b => injection e with e; injection e with e _; cases e
  have nI : ∀ l : List Int, HO.lst (l.map V.int) ≠ .lst [.ref d, .int n] := fun l e => by
    cases l with
    | nil => cases e
    | cons a b => injection e with e; injection e with e _; cases e
  have nT : ∀ {α : Type} {enc : α → List V} {xs : List V} {l : List α}, Tups enc H xs l → HO.lst xs ≠ .lst [.ref d, .int n] := fun t e => by
    injection e with e
    subst e
    obtain ⟨_, t', _, q, _⟩ := t.get (i := 1) (x := .int n) rfl
    cases q
  exact ⟨ls, li, ll, lr, lo, xi, xr, er_ne s0 h1 (by intro q; cases q), er_ne s1 h1 (nS _), er_ne s2 h1 (nT t2), P'.tups t2, er_ne s3 h1 (nS _), er_ne s4 h1 (nT t4), P'.tups t4, er_ne s5 h1 (nI _)⟩
theorem PoolAt.book {C q : Addr} {a : RA} {D : DD} (P : PoolAt H p n) (S : BookAt C H q a D) : BookAt C (Er p H) q a D := by
  have P' := P
  obtain ⟨d, ds, h1, _⟩ := P
  have tup : ∀ t ys, H t = some (.tup ys) → Er p H t = some (.tup ys) := fun t ys e => er_ne e h1 (by intro q; cases q)
  obtain ⟨dx, h0⟩ := S.ob
  obtain ⟨x2, h2, T2⟩ := S.ins
  obtain ⟨x4, h4, T4⟩ := S.ru
  obtain ⟨kv, hd, R⟩ := S.dr
  obtain ⟨xs, rows, r1, r2, r3, r4, r5⟩ := S.rw
  refine ⟨⟨dx, er_ne h0 h1 (by intro q; cases q)⟩, tup _ _ S.st, ⟨x2, tup _ _ h2, P'.tups T2⟩, tup _ _ S.ld, ⟨x4, tup _ _ h4, P'.tups T4⟩, tup _ _ S.ou, er_ne S.dn h1 (by intro q; cases q), ⟨kv, er_ne hd h1 (by intro q; cases q), R.same tup⟩, ⟨xs, rows, tup _ _ r1, r2, fun i x e => ?_, r4, r5⟩⟩
  obtain ⟨t, e1, e2⟩ := r3 i x e
  exact ⟨t, e1, tup _ _ e2⟩
end
end Vf
namespace Vf
open PySem L2
/-! ### first places -/
def putAt (pl : List Int) (i : Nat) (c : Int) : List Int := pl.set i (pl.getD i 0 + c)
def inPl (D : DD) (n : Nat) (ps : List (Str × Str)) (cs : List Int) : List Int := (ps.zip cs).foldl (fun pl pc => putAt pl (D.st.idxOf pc.1.2) pc.2) (List.replicate n 0)
def ldPl (D : DD) (ls : List Str) (pl : List Int) : List Int := ls.foldl (fun pl s => putAt pl (D.st.idxOf s) 1) pl
def firstPl (D : DD) (cs : List Int) : List Int := ldPl D D.ld (inPl D D.st.length D.ins cs)
theorem putAt_len (pl : List Int) (i : Nat) (c : Int) : (putAt pl i c).length = pl.length := List.length_set ..
theorem fold_len {α : Type} (f : List Int → α → List Int) (h : ∀ pl a, (f pl a).length = pl.length) : ∀ (l : List α) (pl : List Int), (l.foldl f pl).length = pl.length
  | [], _ => rfl
  | a :: r, pl => (fold_len f h r (f pl a)).trans (h pl a)
theorem inPl_len (D : DD) (n : Nat) (ps : List (Str × Str)) (cs : List Int) : (inPl D n ps cs).length = n := (fold_len _ (fun pl a => putAt_len ..) _ _).trans (List.length_replicate ..)
theorem ldPl_len (D : DD) (ls : List Str) (pl : List Int) : (ldPl D ls pl).length = pl.length := fold_len _ (fun pl a => putAt_len ..) _ _
theorem inPl_snoc (D : DD) (n i : Nat) {ps : List (Str × Str)} {cs : List Int} {p : Str × Str} {c : Int} (h1 : ps[i]? = some p) (h2 : cs[i]? = some c) :
    inPl D n (ps.take (i + 1)) (cs.take (i + 1)) = putAt (inPl D n (ps.take i) (cs.take i)) (D.st.idxOf p.2) c := by
  unfold inPl
  rw [take_snoc h1, take_snoc h2, List.zip_append (by rw [take_len h1, take_len h2]), List.foldl_append]
  rfl
theorem ldPl_snoc (D : DD) (i : Nat) {ls : List Str} {s : Str} {pl : List Int} (h : ls[i]? = some s) : ldPl D (ls.take (i + 1)) pl = putAt (ldPl D (ls.take i) pl) (D.st.idxOf s) 1 := by
  unfold ldPl
  rw [take_snoc h, List.foldl_append]
  rfl
theorem zeros (k : Nat) : (List.replicate k [V.int 0]).flatten = (List.replicate k (0 : Int)).map V.int := by
  induction k with
  | zero => rfl
  | succ k ih =>
    rw [List.replicate_succ, List.flatten_cons, ih]
    rfl
theorem putAt_map (pl : List Int) (i : Nat) (c : Int) : (pl.map V.int).set i (V.int (pl.getD i 0 + c)) = (putAt pl i c).map V.int := by
  unfold putAt
  rw [List.map_set]
theorem idx_lt {st : List Str} {s : Str} (h : s ∈ st) : st.idxOf s < st.length := List.idxOf_lt_length_of_mem h
end Vf
namespace Vf
open PySem L2
section
variable {pl : List Int} {st : List Str} {s : Str}
theorem getPl (h : s ∈ st) (hl : pl.length = st.length) : (pl.map V.int)[(ix st s).toNat]? = some (V.int (pl.getD (st.idxOf s) 0)) := by
  have lt : st.idxOf s < pl.length := by rw [hl]; exact idx_lt h
  unfold ix
  rw [Int.toNat_natCast, List.getElem?_map, List.getElem?_eq_getElem lt, List.getD_eq_getElem?_getD, List.getElem?_eq_getElem lt]
  rfl
theorem ixPl (h : s ∈ st) (hl : pl.length = st.length) : ixN (pl.map V.int).length (ix st s) = some (st.idxOf s) := by
  have lt : st.idxOf s < pl.length := by rw [hl]; exact idx_lt h
  unfold ixN ix
  rw [List.length_map, if_pos (Int.natCast_nonneg _), if_pos (by omega), Int.toNat_natCast]
theorem atPl (h : s ∈ st) (hl : pl.length = st.length) : atI (pl.map V.int) (ix st s) = some (V.int (pl.getD (st.idxOf s) 0)) := by
  unfold atI
  rw [ixPl h hl]
  have g := getPl h hl
  unfold ix at g
  rw [Int.toNat_natCast] at g
  exact g
theorem ix_nn : 0 ≤ ix st s := Int.natCast_nonneg _
end
end Vf
namespace Vf
open PySem L2
theorem at0 {xs : List V} {i : Nat} {x : V} (h : xs[i]? = some x) : atI xs (0 + (i : Int)) = some x := by
  rw [Int.zero_add]
  exact atI_nat h
theorem idx_get : ∀ {st : List Str} {s : Str}, s ∈ st → (st.map V.str)[st.idxOf s]? = some (V.str s) ∧ ∀ (m : Nat) (z : V), m < st.idxOf s → (st.map V.str)[m]? = some z → eqV z (.str s) = false
  | [], s, h => nomatch h
  | a :: r, s, h => by
    by_cases e : a = s
    · subst e
      rw [List.idxOf_cons_self]
      exact ⟨rfl, fun m z hm => absurd hm (Nat.not_lt_zero m)⟩
    · have hr : s ∈ r := by
        rcases List.mem_cons.mp h with h | h
        · exact absurd h.symm e
        · exact h
      obtain ⟨g1, g2⟩ := idx_get hr
      have ei : (a :: r).idxOf s = r.idxOf s + 1 := by
        rw [List.idxOf_cons, beq_false_of_ne e]
        rfl
      rw [ei]
      refine ⟨g1, fun m z hm hz => ?_⟩
      cases m with
      | zero =>
        have hz' : V.str a = z := Option.some.inj hz
        subst hz'
        exact beq_false_of_ne e
      | succ m => exact g2 m z (Nat.lt_of_succ_lt_succ hm) hz
end Vf

/-! ### min, max, sum of tuples of whole numbers; len of an own instance -/
namespace Vf
open PySem PySem.W PySem.Spec PyProof.Rows L2
theorem most_ok : ∀ (zs : List Int) (z : Int), PySem.W.maxOf z zs ∈ z :: zs ∧ ∀ q ∈ z :: zs, q ≤ PySem.W.maxOf z zs
  | [], z => ⟨List.mem_singleton.mpr rfl, fun q hq => by
      have e : q = z := by simpa using hq
      rw [e]
      exact Int.le_refl _⟩
  | y :: r, z => by
    have step : PySem.W.maxOf z (y :: r) = PySem.W.maxOf (if z < y then y else z) r := by
      unfold PySem.W.maxOf
      rw [List.foldl_cons]
      congr 1
      by_cases c : z < y
      · simp [DatumOrd.lt, c]
      · simp [DatumOrd.lt, c]
    obtain ⟨m1, m2⟩ := most_ok r (if z < y then y else z)
    rw [step]
    have low := m2 _ (List.mem_cons_self ..)
    refine ⟨?_, fun q hq => ?_⟩
    · rcases List.mem_cons.mp m1 with e | e
      · rw [e]
        by_cases c : z < y
        · rw [if_pos c]; simp
        · rw [if_neg c]; simp
      · exact List.mem_cons_of_mem _ (List.mem_cons_of_mem _ e)
    · rcases List.mem_cons.mp hq with e | e
      · rw [e]
        by_cases c : z < y
        · rw [if_pos c] at low ⊢; omega
        · rw [if_neg c] at low ⊢; omega
      · rcases List.mem_cons.mp e with e | e
        · rw [e]
          by_cases c : z < y
          · rw [if_pos c] at low ⊢; omega
          · rw [if_neg c] at low ⊢; omega
        · exact m2 q (List.mem_cons_of_mem _ e)
def rMinT (K : PySem.W.Frag) : List V → Hp → VK → Prop := fun vs H Q => ∃ (a : Addr) (ns : List Int), vs = [V.ref a] ∧ SqT K H a (ns.map V.int) ∧ 0 < ns.length ∧ ∀ m : Int, m ∈ ns → (∀ y ∈ ns, m ≤ y) → Q (.int m) H
def rMaxT (K : PySem.W.Frag) : List V → Hp → VK → Prop := fun vs H Q => ∃ (a : Addr) (ns : List Int), vs = [V.ref a] ∧ SqT K H a (ns.map V.int) ∧ 0 < ns.length ∧ ∀ m : Int, m ∈ ns → (∀ y ∈ ns, y ≤ m) → Q (.int m) H
def rSumT (K : PySem.W.Frag) : List V → Hp → VK → Prop := fun vs H Q => ∃ (a : Addr) (ns : List Int), vs = [V.ref a] ∧ SqT K H a (ns.map V.int) ∧ Q (.int ns.sum) H
theorem cr_minT {X : Cx} (hu : X.A.units + 64 < cLine) (hc : X.calm = true := by rfl) : CallR X (.builtin "min") (rMinT X.K) := by
  intro pins s σ H vs us Q I r h
  obtain ⟨a, ns, rfl, hs, hne, q⟩ := h
  obtain rfl := Vals.ref1 r
  obtain ⟨its, rv, hl, _⟩ := I.tuple hs
  have room : X.A.units + 1 + Datum.depth Int < cLine := by
    show X.A.units + 1 + 0 < cLine
    omega
  have ia := rv.ints
  cases ns with
  | nil => simp at hne
  | cons y ys =>
    refine PySem.W.min_tuple_datum (I.ok.hd hc) hl (.of_ints ia) room fun i v h' tk hv hh k => ?_
    obtain ⟨n, t, rfl⟩ := ints_at (i := i) ia (by simpa using hv)
    have en := holds_only hh
    obtain ⟨f1, f2⟩ := least_ok ys y
    rw [← en] at f1 f2
    exact ⟨.int n, H, I.kept (t' := tk) k, ⟨t, rfl⟩, q n f1 f2⟩
theorem cr_maxT {X : Cx} (hu : X.A.units + 64 < cLine) (hc : X.calm = true := by rfl) : CallR X (.builtin "max") (rMaxT X.K) := by
  intro pins s σ H vs us Q I r h
  obtain ⟨a, ns, rfl, hs, hne, q⟩ := h
  obtain rfl := Vals.ref1 r
  obtain ⟨its, rv, hl, _⟩ := I.tuple hs
  have room : X.A.units + 1 + Datum.depth Int < cLine := by
    show X.A.units + 1 + 0 < cLine
    omega
  have ia := rv.ints
  cases ns with
  | nil => simp at hne
  | cons y ys =>
    refine PySem.W.max_tuple_datum (I.ok.hd hc) hl (.of_ints ia) room fun i v h' tk hv hh k => ?_
    obtain ⟨n, t, rfl⟩ := ints_at (i := i) ia (by simpa using hv)
    have en := holds_only hh
    obtain ⟨f1, f2⟩ := most_ok ys y
    rw [← en] at f1 f2
    exact ⟨.int n, H, I.kept (t' := tk) k, ⟨t, rfl⟩, q n f1 f2⟩
theorem sumT_raw {prog : Program} {w : World} {A : Around} {E : Value → Shared → Prop} {s : Shared} {l : Addr} {its : List Value} {ns : List Int} {Q : Value → Shared → Prop} (hh : A.handled = none) (hl : s.heap.IsTuple l its.toArray) (hi : IntsAre its ns)
    (h : ∀ h' tk t', (∀ b o, s.heap.get? b = some o → h'.get? b = some o) → Q (.int ns.sum t') { s with heap := h', toks := tk }) : wpAny (model prog w) A (call (.builtin "sum") [.ref l]) Q E s := by
  obtain ⟨xs, e⟩ := hi.allInts.items
  have hn : numsOf (intItems xs).toList = ns := by rw [← e]; exact hi.numsOf
  rw [nums_intItems] at hn
  rw [e] at hl
  refine PySem.W.ktm_sumG hh hl fun h' tk t' hk => ?_
  have := h h' tk t' hk
  rw [preSum_eq, List.take_of_length_le (by simp), hn]; exact this
theorem cr_sumT {X : Cx} (_ : X.A.units + 64 < cLine) (hc : X.calm = true := by rfl) : CallR X (.builtin "sum") (rSumT X.K) := by
  intro pins s σ H vs us Q I r h
  obtain ⟨a, ns, rfl, hs, q⟩ := h
  obtain ⟨its, rv, hl, _⟩ := I.tuple hs
  rw [Vals.ref1 r]
  exact sumT_raw (I.ok.hd hc) hl rv.ints fun h' tk t' hk => ⟨.int _, H, I.kept hk, ⟨_, rfl⟩, q⟩
/-- len(o) of an instance of an own class with an own __len__ -/
def rLenOwn (C : Addr) (sp : Sp) (E : XK) : List V → Hp → VK → Prop := fun xs H Q => ∃ (a dx : Addr) (fs : List (Str × V)), xs = [.ref a] ∧ H a = some (.ins C dx fs) ∧ sp [.ref a] H (fun v H' => ∃ n : Int, v = .int n ∧ 0 ≤ n ∧ n < 2 ^ 63 ∧ Q (.int n) H') E
theorem call_lenOwn {X : Cx} {CX : CXT} {k : Nat} {C f : Addr} {fd : FuncData} {ps : List Str} {sp : Sp} {E : XK} (F : FnOk X.prog X.w X.K X.mg X.base CX k f fd ps sp) (hr : Room (k + 1) X.A)
    (hs : PySem.W.findIn X.K (.ref C) "__len__" = some (some (.ref f))) (hf : PySem.W.isFn X.K (.ref f) = true) (hb : Binds X.K fd ps []) (hx : Passes CX X E) : CallR X (.builtin "len") (rLenOwn C sp E) := by
  intro pins s σ H xs us Q I r h
  obtain ⟨a, dx, fs, rfl, ha, q⟩ := h
  obtain rfl := Vals.ref1 r
  obtain ⟨mA, J, _⟩ := ins_get I.hok ha
  obtain ⟨od, J, _⟩ := J.look
  obtain ⟨m, hF⟩ := I.fr
  refine PySem.W.len_K hF I.ok.mod.kin J hs hf ?_
  have hl := F.len _ _ _ _ q
  have r2 : Vals [V.ref a] [Value.ref a] := .cons rfl .nil
  refine wpAny_call (codeAny_mono (F.run X.A.in1 X.stack s H ⟨[.ref a], []⟩ [.ref a] [.ref a] _ E hr.in1 I.env0.in1 (by
    have := hb s [.ref a] I.kIn (by simpa using hl)
    simpa using this) r2 q) fun r s' hq => ?_)
  cases r with
  | error e => exact hx pins σ H s e s' I hq
  | ok fl =>
    cases fl with
    | ret w =>
      obtain ⟨z, H', I', rz, n, rfl, n0, n1, q'⟩ := I.after hq
      obtain ⟨t, rfl⟩ := rz
      exact ⟨⟨n0, n1⟩, .int n, H', I'.tok _, ⟨_, rfl⟩, q'⟩
    | next => exact False.elim hq
    | brk => exact False.elim hq
    | cont => exact False.elim hq
end Vf

namespace Vf
open PySem PySem.W PySem.Spec PyProof.Rows L2 PySem.Calls
/-! ### super().__init__(..) in an own error's __init__, over ValueError, classes between allowed -/
/-- what the frame of such an __init__ knows -/
structure SupAt (X : Cx) (C : Addr) (nm : Str) : Prop where
  kind : X.env.scope.kind = .function
  ks : X.env.kindOf "super" = some .globalImplicit
  kc : X.env.kindOf "__class__" = some .free
  ka : X.env.kindOf nm = some .local
  fn : ∃ (f : Addr) (oc : Value) (od : Option Addr) (fd : FuncData) (sl : Array (Option Value)) (ar : Arg), X.env.func = some f ∧ X.K.lookup f = some ⟨oc, od, .func fd, sl⟩ ∧ (fd.params.posonlyargs ++ fd.params.args).head? = some ar ∧ ar.arg = nm
  code : ∃ (cda : Addr) (oc : Value) (od : Option Addr) (vs : Array Value) (sl : Array (Option Value)) (file : Str) (tf : Tok), X.env.code = .ref cda ∧ X.K.lookup cda = some ⟨oc, od, .fields vs, sl⟩ ∧ vs[2]? = some (.str file tf) ∧ ((X.prog.main.file : Str) == file) = true
  top : (X.prog.main.scope.names.lookup ("super" : Str)).isSome = false
  cell : ∃ (cc : Addr) (oc : Value) (od : Option Addr) (sl : Array (Option Value)), X.env.cells.lookup ("__class__" : Str) = some cc ∧ X.K.lookup cc = some ⟨oc, od, .cell (some (.ref C)), sl⟩
  mg : X.mg "super" = none
/-- what the written part says of the class -/
structure SupCls (K : PySem.W.Frag) (C : Addr) : Prop where
  sub : mroIn K C (.ref C) = some true
  al : ks_superIn K C C "__init__" = some (some (.builtin "ValueError.__init__"))
  ve : subIn K (.ref C) (.type "ValueError") = some true
  op : nsIn K cStatics "thirdparty.any" = some none
theorem at_sub {α : Type} {M : Model} {A : Around} {c : Code} {t : Sem α} {Q Q' : α → Shared → Prop} {E : Value → Shared → Prop} {s : Shared} (h : PySem.wpAt M A c t Q E s) (f : ∀ v s', Q v s' → Q' v s') : PySem.wpAt M A c t Q' E s :=
  PySem.wpAt_mono h f fun _ _ x => x
section
variable {X : Cx} {pins : List (Addr × Obj)} {σ : L2.St} {H : Hp} {s : Shared} {a C : Addr}
/-- the bound __init__ is called -/
theorem call_bound {u : Addr} {us : List Value} {Q : Value → Shared → Prop} (T : OexC X.K C) (I : Inv X pins σ H s) (e : H a = some (exo a C none)) (hu : s.heap.get? u = some (kxs_mw "ValueError.__init__" a)) (hl : us.length ≤ sizeLine)
    (h : ∀ s', Inv X pins σ H s' → Q .none s') : wpAny (model X.prog X.w) X.A (call (.ref u) us) Q X.xe s := by
  obtain ⟨nm, q, N, bs, bm, sn, sub, ab, col, dd, k0, k1, k2, k3, k5, hC, hbm⟩ := T.cls
  obtain ⟨t1, ho⟩ := exo_at I.hok e
  obtain ⟨hp, g, d, t, os⟩ := s
  refine wpAny_call (codeAny_of_tree ?_)
  show wpAny _ _ (callAny (.ref u) ⟨us, []⟩) _ _ _
  unfold callAny
  refine wpAny_bind (wpAny_load hu ?_)
  have w1 : (Value.type "method-wrapper" == Value.type "method" || Value.type "method-wrapper" == Value.type "builtin_function_or_method" ||
      Value.type "method-wrapper" == Value.type "method-wrapper") = true := by decide +kernel
  have w2 : (Value.type "method-wrapper" != Value.type "method") = true := by decide +kernel
  refine KFB.if_so w1 (KFB.if_so w2 ?_)
  have FB := PySem.F.excBase_ValueError
  refine wpAny_bind (check_bound_init FB.toExcCallFacts (I.kIn _ _ hC) ho rfl (wpAny_pure ⟨plainId_quiet FB.init.plain _, codeAny_builtin FB.initEntry ?_⟩))
  refine exc_init_tree (cls := .ref C) (t0 := t1) (dv := none) (c2 := .none) (c3 := .none) (b4 := .bool false) ho hl fun h' k e' _ => ?_
  have J := I.write (t' := t) (x := a) (e := a) (o := exo a C none) (by rw [e]; exact True.intro) (.inl rfl) k ⟨_, e'⟩ (exo_ok e')
  have same : upd H a (exo a C none) = H := by
    funext b
    by_cases hb : b = a
    · subst hb
      rw [upd_same, e]
    · rw [upd_ne hb]
  rw [same] at J
  exact h _ J
/-- the whole call -/
theorem super_init {body : List Stmt} {nm : Str} {e : Expr} {es : List Expr} {p0 p1 apos pos : Pos} {ta : TA} {i : Nat} {Q : VK} (T : OexC X.K C) (F : SupAt X C nm) (G : SupCls X.K C) (I : Inv X pins σ H s) (hi : X.N[i]? = some nm) (hσ : σ[i]? = some (some (.ref a)))
    (ha : H a = some (exo a C none)) (hargs : PA X (e :: es) ta) (hq : ta σ H fun vs H1 => vs.length ≤ 1000 ∧ H1 a = some (exo a C none) ∧ Q .non H1) {pl : Sem Bool}
    (hev : eval (.Call (.Attribute (.Call (.Name "super" p0) [] [] p1) "__init__" apos) (e :: es) [] pos) X.env = (do
      let ov ← attributeBase (.Call (.Name "super" p0) [] [] p1) "__init__" X.env (eval (.Call (.Name "super" p0) [] [] p1) X.env)
      standAt apos.atName
      let (f, first) ← holding [ov] (getMethod ov "__init__" pl)
      callWith pos f first (backTo pos (starEach (e :: es) X.env)) []) := by rfl)
    (hst : starEach (e :: es) X.env = (false, eval e X.env) :: starEach es X.env := by rfl) (hpl : (backTo pos (starEach es X.env)).any (·.1) = false := by rfl) :
    PySem.wpAt (model X.prog X.w) X.A (.func body X.env) (eval (.Call (.Attribute (.Call (.Name "super" p0) [] [] p1) "__init__" apos) (e :: es) [] pos) X.env) (EP X pins σ Q) X.xe s := by
  obtain ⟨f, oc1, od1, fd, sl1, ar, f1, f2, f3, f4⟩ := F.fn
  obtain ⟨cda, oc2, od2, vs2, sl2, file, tf, c1, c2, c3, c4⟩ := F.code
  obtain ⟨cc, oc3, od3, sl3, d1, d2⟩ := F.cell
  have kin := I.kIn
  subst f4
  refine ks_wpAt_MethodCall ?_ hev
  refine ks_wpAt_super_base F.ks F.kc (by decide +kernel) f1 (kin _ _ f2) rfl f3 c1 (kin _ _ c2) rfl c3 c4 F.top ?_
  obtain ⟨mb, h1, h2⟩ := I.mod.blt
  refine ks_loadName_global F.kind F.ks (loadGlobal_builtin (by rw [I.ok.glob]; exact I.mod.glob.keeps I.bk) F.mg (by rw [I.ok.blt]; exact h1.keeps I.bk) ((h2 _ (by decide)).trans (show bootBuiltins "super" = some (.type "super") by decide +kernel)) ⟨rfl, ?_⟩)
  refine wpAny_loadName_free F.kind F.kc d1 ⟨_, kin _ _ d2, rfl⟩ ?_
  obtain ⟨m, hns, hloc⟩ := I.loc
  obtain ⟨u, ru, hl⟩ := hloc i ar.arg _ hi hσ (.inl F.ka)
  cases ru
  have hm : m ar.arg = some (.ref a) := by
    rcases hl with ⟨_, hm⟩ | ⟨hk, _⟩
    · exact hm
    · rw [F.ka] at hk
      rcases hk with hk | hk <;> cases hk
  refine wpAny_loadName_local F.kind F.ka hns hm ?_
  obtain ⟨nmC, qC, NC, bs, bm, sn, sub, ab, col, dd, k0, k1, k2, k3, k5, hC, hbm⟩ := T.cls
  have hcl : clsIn X.K C = some { name := nmC, bases := bs, mro := .ref C :: bm, ns := NC, qualname := qC, hasDict := true, slotNames := sn, subclasses := sub, abstract := ab, collection := col, hasDel := false } := by
    unfold clsIn
    rw [hC] <;> rfl
  refine ks_wpAny_isType_cls (kin _ _ hC) rfl ⟨rfl, ?_⟩
  obtain ⟨t1, ho⟩ := exo_at I.hok ha
  obtain ⟨hp, g, d, t, os⟩ := s
  refine ks_wpAny_call_super (kin _ _ hC) rfl ho rfl (fun c => nofun) (looks_mroIn kin G.sub) fun h2 hso k2' => ?_
  have I2 : L2.Inv X pins σ H ⟨h2, g, d, t, os⟩ := I.kept (t' := t) k2'
  have ho2 := k2' _ _ ho
  have at2 : InstAt h2 a { cls := .ref C, dict := none, data := .fields #[.ref t1, .none, .none, .none, .bool false, .none] } C none := ⟨ho2, rfl, rfl, trivial⟩
  have al := G.al
  unfold ks_superIn at al
  rw [hcl] at al
  refine kxs_getMethod kxs_ValueError hso (looks_opaque I2.kIn G.op) (l₀ := .ref C :: bm) (fun A Q E s k q => wpAny_bind ((looks_clsIn I2.kIn hcl) A _ E s k (wpAny_pure q))) rfl I2.kIn al (at2.type.andThen (looks_subIn I2.kIn G.ve)) (ks_ne I2.kIn at2 hcl) (by decide +kernel) ?_
  have sz : h2.objs.size ≤ h2.objs.size := Nat.le_refl _
  have gu : (h2.push (kxs_mw "ValueError.__init__" a)).get? h2.objs.size = some (kxs_mw "ValueError.__init__" a) := Heap.get?_push_at rfl rfl
  have I3 : L2.Inv X pins σ H ⟨h2.push (kxs_mw "ValueError.__init__" a), g, d, t + 1, os⟩ := I2.kept (t' := t + 1) fun b o z => Heap.get?_push_of_some _ z
  have hun : H h2.objs.size = none := I2.hok.fresh sz
  have I4 : L2.Inv X ((h2.objs.size, kxs_mw "ValueError.__init__" a) :: pins) σ H ⟨h2.push (kxs_mw "ValueError.__init__" a), g, d, t + 1, os⟩ := I3.pins_of fun p hp => by
    rcases List.mem_cons.mp hp with e1 | hp
    · subst e1
      exact ⟨gu, hun, fun z => Nat.lt_irrefl _ (by have := I2.lt; rw [← z] at this; exact this), I2.nofs sz, nofun⟩
    · exact I3.pin p (List.mem_append_right _ hp)
  rw [hst]
  refine kxs_callWith (i := "ValueError.__init__") (x := a) (hpl : _) ?_
  have run := hargs.run pos _ _ σ H _ I4 hq
  rw [hst] at run
  refine evalArgs_plain (thn run fun us s4 got => ?_)
  obtain ⟨vs, H1, I5, r1, hlen, ha1, q⟩ := got
  have pin := (I5.pin (h2.objs.size, kxs_mw "ValueError.__init__" a) (List.mem_append_right _ (List.mem_cons_self ..))).1
  refine ⟨pin, ?_⟩
  refine call_bound T I5 ha1 pin (by show us.length ≤ sizeLine; rw [← Paired.length r1, sizeLine_eq]; omega) fun s' J => ⟨.non, H1, ?_, rfl, q⟩
  exact J.pins_of fun p hp => J.pin p (List.mem_append_right _ (List.mem_cons_of_mem _ hp))
end
/-! ### such an __init__ as a def -/
/-- how the call reads, and that nothing is swapped -/
def SupEv (env : Env) (e : Expr) (es : List Expr) (p0 p1 apos pos p2 : Pos) : Prop :=
  (∃ pl : Sem Bool, eval (.Call (.Attribute (.Call (.Name "super" p0) [] [] p1) "__init__" apos) (e :: es) [] pos) env = (do
    let ov ← attributeBase (.Call (.Name "super" p0) [] [] p1) "__init__" env (eval (.Call (.Name "super" p0) [] [] p1) env)
    standAt apos.atName
    let (f, first) ← holding [ov] (getMethod ov "__init__" pl)
    callWith pos f first (backTo pos (starEach (e :: es) env)) [])) ∧ starEach (e :: es) env = (false, eval e env) :: starEach es env ∧ (backTo pos (starEach es env)).any (·.1) = false ∧
    swapsWith (.Call (.Attribute (.Call (.Name "super" p0) [] [] p1) "__init__" apos) (e :: es) [] pos) none p2.line env = pure false ∧ interactive env = false
open NdefX in
/-- the object of an __init__ that says super, its cell, its code object -/
def InitAt (P : Program) (K : PySem.W.Frag) (qual : Str) (st : Stmt) (C f : Addr) (cc cda : Addr) (fd : FuncData) : Prop :=
  ∃ (oc oc2 oc3 : Value) (od od2 od3 : Option Addr) (kV doc pm ct : Value) (an : Option Addr) (osl sl2 sl3 : Array (Option Value)) (vs : Array Value) (file : Str) (tf : Tok),
    fd = fnX "__init__" qual (defArgs st) (defBody st) (defScope st) [("__class__", cc)] .none kV doc pm an (.ref cda) ct ∧ K.lookup f = some ⟨oc, od, .func fd, osl⟩ ∧ codeIn K (.ref cda) qual = true ∧
    K.lookup cc = some ⟨oc3, od3, .cell (some (.ref C)), sl3⟩ ∧ K.lookup cda = some ⟨oc2, od2, .fields vs, sl2⟩ ∧ vs[2]? = some (.str file tf) ∧ ((P.main.file : Str) == file) = true ∧ (P.main.scope.names.lookup ("super" : Str)).isSome = false
def initF (qual : Str) (st : Stmt) (cc cda : Addr) : NdefX.NF := ⟨"__init__", qual, defArgs st, defBody st, defScope st, [("__class__", cc)], cda⟩
section
variable {CX : CXT} {P : Program} {w : World} {K : PySem.W.Frag} {mg : Str → Option Value} {base : Heap} {k : Nat} {f C cc cda : Addr} {fd : FuncData} {qual : Str} {st : Stmt} {N ps : List Str} {sp : Sp}
theorem init_of {e : Expr} {es : List Expr} {p0 p1 apos pos p2 : Pos} {rest : List Stmt} {ar : Arg} (D : InitAt P K qual st C f cc cda fd) (S : NdefX.NScope N ps ["__class__"] (defScope st)) (hbd : defBody st = .Expr (.Call (.Attribute (.Call (.Name "super" p0) [] [] p1) "__init__" apos) (e :: es) [] pos) p2 :: rest)
    (hps : ps.head? = some (Str.ofString "self")) (har : ((defArgs st).posonlyargs ++ (defArgs st).args).head? = some ar) (hargn : ar.arg = Str.ofString "self") (hks : (defScope st).names.lookup ("super" : Str) = some .globalImplicit) (hmg : mg "super" = none) (T : OexC K C) (G : SupCls K C)
    (len : ∀ vs H Q E, sp vs H Q E → vs.length = ps.length)
    (hbody : ∀ (A : Around) (outer : List Env) (s : Shared) (H : Hp) (vs : List V) (Q : VK) (E : XK), Room k (A.deeper (NdefX.envF (initF qual st cc cda) f s.heap.objs.size)) → sp vs H Q E →
      ∃ (a : Addr) (ta : TA) (t : TS), SupEv (NdefX.envF (initF qual st cc cda) f s.heap.objs.size) e es p0 p1 apos pos p2 ∧ vs[0]? = some (.ref a) ∧ H a = some (exo a C none) ∧ PA (NdefX.ncx CX P w K mg base N (initF qual st cc cda) f A outer s H E) (e :: es) ta ∧ PSs (NdefX.ncx CX P w K mg base N (initF qual st cc cda) f A outer s H E) rest t ∧
        ta (NdefX.startF N vs [none]) H fun ws H1 => ws.length ≤ 1000 ∧ H1 a = some (exo a C none) ∧ t { nx := fun _ H' => Q .non H', rt := Q } (NdefX.startF N vs [none]) H1) :
    FnOk P w K mg base CX (k + 1) f fd ps sp := by
  obtain ⟨oc, oc2, oc3, od, od2, od3, kV, doc, pm, ct, an, osl, sl2, sl3, vsc, file, tf, rfl, lk, hcd, lc, lcode, hv2, hfile, htop⟩ := D
  refine ⟨len, fun A outer s H args us vs Q E hr e0 hb r hsp => ?_⟩
  have hl := len _ _ _ _ hsp
  have KX : K.In s.heap := e0.mod.kin.keeps fun b o e => (e0.bs b o e).1
  have lim : s.heap.NoLimit := e0.mod.nolimit.keeps fun b o e => (e0.bs b o e).1
  have cells : NdefX.CellsAt [("__class__", cc)] ["__class__"] [none] s.heap H := by
    refine ⟨rfl, fun y c e => ?_, fun x y c e1 e2 => ?_, fun i y e => ?_⟩
    · have ec : c = cc := by
        have := PySem.mem_of_lookup e
        simp at this
        exact this.2
      subst ec
      exact ⟨(e0.bs _ _ (e0.mod.kin _ _ lc)).2, _, ⟨_, KX _ _ lc, rfl⟩⟩
    · have h1 := PySem.mem_of_lookup e1
      have h2 := PySem.mem_of_lookup e2
      simp at h1 h2
      rw [h1.1, h2.1]
    · cases i with
      | zero =>
        have e' : ("__class__" : Str) = y := by simpa using e
        subst e'
        exact ⟨cc, rfl, fun v hv => by simp at hv⟩
      | succ i => simp at e
  refine ks_codeAny_call_defAt hr.depth (KX _ _ lk) rfl lim (codeRec_of KX hcd) rfl hb S.nocell (fun ⟨n, _⟩ hy => S.par n (List.of_mem_zip hy).1) (fun h1 hns kp => ?_) S.co S.gen S.kind
  obtain ⟨a, ta, t, ⟨⟨pl, g1⟩, g2, g3, g4, g5⟩, hv0, ha, PAx, PSx, hq⟩ := hbody A outer s H vs Q E (hr.deeper _) hsp
  have I := NdefX.inv_startN (F := initF qual st cc cda) (f := f) (CX := CX) (E := E) (tk := s.toks + (ps.zip us).length) S hr.hd e0 hl r cells hns kp
  have n0 : N[0]? = some (Str.ofString "self") := by
    have q := congrArg (fun l : List Str => l[0]?) S.pre
    have q2 : (N.take (ps.length + 1))[0]? = (ps ++ [Str.ofString "__class__"])[0]? := q
    rw [List.getElem?_take_of_lt (Nat.succ_pos _)] at q2
    rw [q2]
    cases ps with
    | nil => cases hps
    | cons x y => exact hps
  have s0 : (NdefX.startF N vs [none])[0]? = some (some (.ref a)) := by
    unfold NdefX.startF
    cases vs with
    | nil => cases hv0
    | cons x y =>
      have e' : x = .ref a := Option.some.inj hv0
      subst e'
      rfl
  have self : Str.ofString "self" ∈ ps := by
    cases ps with
    | nil => cases hps
    | cons x y =>
      have e' : x = Str.ofString "self" := Option.some.inj hps
      subst e'
      exact List.mem_cons_self ..
  have sup : SupAt (NdefX.ncx CX P w K mg base N (initF qual st cc cda) f A outer s H E) C "self" := {
    kind := S.kind
    ks := hks
    kc := S.frk _ (List.mem_cons_self ..)
    ka := S.par _ self
    fn := ⟨f, _, _, _, _, ar, rfl, lk, har, hargn⟩
    code := ⟨cda, _, _, _, _, file, tf, rfl, lcode, hv2, hfile⟩
    top := htop
    cell := ⟨cc, _, _, _, rfl, lc⟩
    mg := hmg }
  show PySem.wpAt (model P w) (NdefX.ncx CX P w K mg base N (initF qual st cc cda) f A outer s H E).A (.func (defBody st) (NdefX.ncx CX P w K mg base N (initF qual st cc cda) f A outer s H E).env) (execs (defBody st) (NdefX.ncx CX P w K mg base N (initF qual st cc cda) f A outer s H E).env) _ _ _
  rw [hbd]
  refine ks_wpAt_execs_cons (ks_wpAt_Expr_any (at_sub (super_init (X := NdefX.ncx CX P w K mg base N (initF qual st cc cda) f A outer s H E) (Q := fun _ H1 => t { nx := fun _ H' => Q .non H', rt := Q } (NdefX.startF N vs [none]) H1) T sup G I n0 s0 ha PAx hq (pl := pl) g1 g2 g3) ?_) g5 g4)
  rintro v s' ⟨x, H1, I1, _, q⟩
  show PySem.wpAt _ _ _ (execs rest _) _ _ s'
  refine PySem.wpAt_of_wpAny (wpAny_mono (PSx.run [] s' (NdefX.startF N vs [none]) H1 _ I1 q) (fun fl s2 hs => ?_) fun e s2 hs => hs)
  have fin : ∀ {σ' : L2.St} {H' : Hp} {v : V} {u : Value}, L2.Inv (NdefX.ncx CX P w K mg base N (initF qual st cc cda) f A outer s H E) [] σ' H' s2 → L2.RelV v u → Q v H' → CE outer P w H s Q u s2 :=
    fun {σ' H' v u} J rv q => ⟨v, H', J.os, J.bare, J.base, J.hok, rv, q⟩
  cases fl with
  | brk =>
    obtain ⟨_, _, _, z⟩ := hs
    cases z
  | cont =>
    obtain ⟨_, _, _, z⟩ := hs
    cases z
  | next =>
    obtain ⟨σ', H', J, z⟩ := hs
    exact fin (v := V.non) (u := Value.none) J rfl z
  | ret u =>
    obtain ⟨v, σ', H', J, rv, z⟩ := hs
    exact fin J rv z
end
theorem InitAt.binds {P : Program} {K : PySem.W.Frag} {qual : Str} {st : Stmt} {C f cc cda : Addr} {fd : FuncData} {ps : List Str} (D : InitAt P K qual st C f cc cda fd)
    (h : ∀ (kV doc pm : Value) (an : Option Addr) (ct : Value) (us : List Value), us.length = ps.length → bindArgs (fnX "__init__" qual (defArgs st) (defBody st) (defScope st) [("__class__", cc)] .none kV doc pm an (.ref cda) ct) ⟨us, []⟩ = pure (ps.zip us)) : Binds K fd ps [] := by
  obtain ⟨_, _, _, _, _, _, kV, doc, pm, ct, an, _, _, _, _, _, _, rfl, _⟩ := D
  exact .all (h kV doc pm an ct)
/-! ### a method called in a try, what its errors meet by the slots -/
def tMethW (C : Addr) (m : Str) (sp : Sp) (E : L2.St → XK) (ta : TE) (t : TA) : TE := fun σ H Q => ta σ H fun x H1 => ∃ (a dx : Addr) (fs : List (Str × V)), x = .ref a ∧ H1 a = some (.ins C dx fs) ∧ fs.lookup m = none ∧
  t σ H1 fun vs H2 => sp (x :: vs) H2 Q (E σ)
section
variable {X : Cx} {CX : CXT} {k : Nat} {f C : Addr} {fd : FuncData} {ps : List Str} {sp : Sp} {E : L2.St → XK} {m : Str} {apos pos : Pos} {e o : Expr} {es : List Expr} {ta : TE} {t : TA}
theorem pe_methW {pl : Sem Bool} (he : PE X o ta) (c : Cls X.K C) (hm : Meth X.K C m f) (F : FnOk X.prog X.w X.K X.mg X.base CX k f fd ps sp) (hr : Room k X.A) (hb : Binds X.K fd ps []) (hx : ∀ σ, PassesAt CX X σ (E σ)) (ha : PA X (e :: es) t)
    (hst : starEach (e :: es) X.env = (false, eval e X.env) :: starEach es X.env := by rfl) (hpl : (backTo pos (starEach es X.env)).any (·.1) = false := by rfl)
    (ht : eval (.Call (.Attribute o m apos) (e :: es) [] pos) X.env = (do
      let ov ← eval o X.env
      standAt apos.atName
      let (f, first) ← holding [ov] (getMethod ov m pl)
      callWith pos f first (backTo pos (starEach (e :: es) X.env)) (backToKw pos (keywordEach [] X.env))) := by rfl) :
    PE X (.Call (.Attribute o m apos) (e :: es) [] pos) (tMethW C m sp E ta t) := by
  constructor
  intro pins s σ H Q I h
  refine PySem.W.methodCall_KW (pl := pl) (thn (he.run pins s σ H _ I h) fun u s1 got => ?_) ht
  obtain ⟨x, H1, I1, rx, a, dx, fs, rfl, ea, l, q⟩ := got
  cases rx
  refine getmeth_ok I1 ea c hm l (PySem.W.callWith_K (first := [.ref a]) (h₀ := X.base) I.ok.mod.kin hm.kp (thn (ha.run pos pins s1 σ H1 _ I1 q) fun us s2 got2 => ?_) hst hpl)
  obtain ⟨vs, H2, I2, r, q2⟩ := got2
  exact ⟨I2.kIn, run_fnS (us := .ref a :: us) (vs := .ref a :: vs) F hr hb (hx σ) I2 (.cons rfl r) q2⟩
end
/-! ### a look into a dict of pairs -/
def meetOf (ks vl : List (Int × Int)) (k : Int × Int) : Int × Int := if k ∈ ks then vl.getD (ks.idxOf k) k else k
theorem valV_none {κ : Type} [DecidableEq κ] {k : κ} : ∀ {kvs : List (κ × V)}, k ∉ kvs.map Prod.fst → valV kvs k = none
  | [], _ => rfl
  | p :: r, h => by
    rw [List.map_cons, List.mem_cons, not_or] at h
    rw [valV_neg (fun e => h.1 e.symm)]
    exact valV_none h.2
theorem PP.get {H : Hp} {kvs : List (List Key × V)} {ks vl : List (Int × Int)} (p : PP H kvs ks vl) (k : Int × Int) : (valV kvs (keyP k) = none ∧ meetOf ks vl k = k) ∨ ∃ t, valV kvs (keyP k) = some (.ref t) ∧ H t = some (.tup (encP (meetOf ks vl k))) := by
  unfold meetOf
  by_cases h : k ∈ ks
  · rw [if_pos h]
    have lt := List.idxOf_lt_length_of_mem h
    have hk : ks[ks.idxOf k]? = some k := by
      rw [List.getElem?_eq_getElem lt, List.getElem_idxOf lt]
    obtain ⟨v, t, h1, h2, h3⟩ := p.at_ hk
    refine .inr ⟨t, h2, ?_⟩
    rw [List.getD_eq_getElem?_getD, h1]
    exact h3
  · rw [if_neg h]
    refine .inl ⟨valV_none fun m => ?_, rfl⟩
    have e : kvs.map Prod.fst = ks.map keyP := p.keys
    rw [e] at m
    obtain ⟨k', m1, m2⟩ := List.mem_map.mp m
    exact h (keyP_inj m2 ▸ m1)
theorem PP.snoc {H H' : Hp} {kvs : List (List Key × V)} {ks vl : List (Int × Int)} {k v : Int × Int} {t : Addr} (p : PP H kvs ks vl) (n : k ∉ ks) (e : ∀ t ys, H t = some (.tup ys) → H' t = some (.tup ys)) (h : H' t = some (.tup (encP v))) :
    PP H' (kvs ++ [(keyP k, .ref t)]) (ks ++ [k]) (vl ++ [v]) := by
  refine ⟨by rw [List.map_append, List.map_append, p.keys]; rfl, ?_, ?_⟩
  · rw [List.map_append]
    exact (p.vals.mono e).snoc h
  · refine List.nodup_append.mpr ⟨p.nd, by simp, fun a ha b hb e => ?_⟩
    rw [List.mem_singleton] at hb
    subst hb
    subst e
    exact n ha
theorem PP.same {H H' : Hp} {kvs : List (List Key × V)} {ks vl : List (Int × Int)} (p : PP H kvs ks vl) (e : Same H H') : PP H' kvs ks vl := ⟨p.keys, p.vals.same e, p.nd⟩
end Vf
namespace Vf
open PySem L2
theorem idx_do {K : PySem.W.Frag} {H : Hp} {ls : Addr} {st : List Str} {nm : Str} {Q : VK} (h : H ls = some (.lst (st.map V.str))) (m : nm ∈ st) (q : Q (.int (ix st nm)) H) : rIndex K (.ref ls) [.str nm] H Q := by
  obtain ⟨g1, g2⟩ := idx_get m
  exact ⟨ls, _, .str nm, st.idxOf nm, .str nm, rfl, rfl, SqL.of h, rfl, flat_str _, g1, beq_self_eq_true _, g2, q⟩
theorem rks_take {D : DD} {i : Nat} {r : S4} (h : D.ru[i]? = some r) : (rks D).take (i + 1) = (rks D).take i ++ [(ix D.st r.1, ix D.st r.2.1)] ∧ (rvs D).take (i + 1) = (rvs D).take i ++ [(ix D.st r.2.2.1, ix D.st r.2.2.2)] ∧ (rks D)[i]? = some (ix D.st r.1, ix D.st r.2.1) := by
  have h1 : (rks D)[i]? = some (ix D.st r.1, ix D.st r.2.1) := by
    unfold rks
    rw [List.getElem?_map, h]
    rfl
  have h2 : (rvs D)[i]? = some (ix D.st r.2.2.1, ix D.st r.2.2.2) := by
    unfold rvs
    rw [List.getElem?_map, h]
    rfl
  exact ⟨take_snoc h1, take_snoc h2, h1⟩
theorem rks_all {D : DD} : (rks D).take D.ru.length = rks D ∧ (rvs D).take D.ru.length = rvs D := by
  constructor
  · rw [show D.ru.length = (rks D).length by simp [rks]]
    exact List.take_length
  · rw [show D.ru.length = (rvs D).length by simp [rvs]]
    exact List.take_length
end Vf
namespace Vf
open PySem L2
theorem atI_in {α : Type} {xs : List α} {i : Int} (h0 : 0 ≤ i) (h1 : i < xs.length) : ∃ c, atI xs i = some c := by
  obtain ⟨j, rfl⟩ : ∃ j : Nat, i = (j : Int) := ⟨i.toNat, by omega⟩
  have hj : j < xs.length := by omega
  exact ⟨xs[j], atI_nat (List.getElem?_eq_getElem hj)⟩
theorem one_len (w : Str) (c : Nat) : (w ++ (⟨#[c]⟩ : Str)).length = w.length + 1 := by
  show (w.cps ++ #[c]).size = w.cps.size + 1
  rw [Array.size_append]
  rfl
end Vf
namespace Vf
open PySem PySem.Spec PyProof.Rows L2
/-! ### a def that may run while an error is handled: it neither raises nor loops -/
structure FnW (P : Program) (w : World) (K : PySem.W.Frag) (mg : Str → Option Value) (base : Heap) (k : Nat) (f : Addr) (fd : FuncData) (ps : List Str) (sp : Sp) : Prop where
  len : ∀ vs H Q E, sp vs H Q E → vs.length = ps.length
  run : ∀ (A : Around) (outer : List Env) (s : Shared) (H : Hp) (args : Args) (us : List Value) (vs : List V) (Q : VK) (E : XK), L2H.RoomH k A → Env0 P w K mg base A outer s H → BindsTo s fd args (ps.zip us) → Vals vs us → sp vs H Q E →
    codeAny (model P w) A (.call (.ref f) args) (CR CX0 outer P w H s Q E) s
def cxW (P : Program) (w : World) (K : PySem.W.Frag) (mg : Str → Option Value) (base : Heap) (N : List Str) (qual : Str) (scope : Scope) (f : Addr) (cd : Value) (A : Around) (outer : List Env) (s : Shared) (H : Hp) (E : XK) : Cx :=
  { cxOf CX0 P w K mg base N qual scope f cd A outer s H E with calm := false }
theorem fn_ofW {P : Program} {w : World} {K : PySem.W.Frag} {mg : Str → Option Value} {base : Heap} {x qual : Str} {st : Stmt} {f : Addr} {fd : FuncData} {N ps : List Str} {k : Nat} {sp : Sp} (F : Fun K x qual st f fd) (S : FnScope N ps (defScope st)) (len : ∀ vs H Q E, sp vs H Q E → vs.length = ps.length)
    (hbody : ∀ (cdv : Value) (A : Around) (outer : List Env) (s : Shared) (H : Hp) (vs : List V) (Q : VK) (E : XK), L2H.RoomH k (A.deeper (envOfC qual (defScope st) s.heap.objs.size f cdv)) → sp vs H Q E →
      ∃ t, PSs (cxW P w K mg base N qual (defScope st) f cdv A outer s H E) (defBody st) t ∧ t { nx := fun _ H' => Q .non H', rt := Q } (L2.start N vs) H) : FnW P w K mg base (k + 1) f fd ps sp := by
  obtain ⟨oc, od, kV, doc, pm, an, cdv, ct, osl, rfl, lk, hcd⟩ := F.ex
  constructor
  · exact len
  intro A outer s H args us vs Q E hr e0 hb r hsp
  have lv := len _ _ _ _ hsp
  have kin : K.In s.heap := e0.mod.kin.keeps fun b o e => (e0.bs b o e).1
  have lim : s.heap.NoLimit := e0.mod.nolimit.keeps fun b o e => (e0.bs b o e).1
  refine codeAny_call_function hr.depth (kin _ _ lk) rfl S.co S.gen rfl (PySem.W.codeRec_of kin hcd) (hb _ _ _ _ (wpAny_newFunctionEnv_cells S.kind (fun y hy => ?_) fun env he s1 x => ?_))
  · rcases S.par y.1 (List.of_mem_zip hy).1 with q | q
    · exact .inl q
    · exact .inr ⟨q, PySem.W.cellsFrom_some _ _ _ (.inl q)⟩
  subst he
  refine ⟨lim.keeps x.toInCall.keep, codeAny_func ?_⟩
  obtain ⟨t, ht, hq⟩ := hbody cdv A outer s H vs Q E (hr.deeper _) hsp
  have I0 := inv_start (A := { A with handled := none }) (CX := CX0) (E := E) S rfl ⟨e0.frames, e0.mod, e0.bs, e0.bsz, e0.funs, e0.frf, e0.hok, e0.bare⟩ lv r x
  have ok := I0.ok
  have I : L2.Inv (cxW P w K mg base N qual (defScope st) f cdv A outer s H E) [] (L2.start N vs) H s1 :=
    ⟨⟨ok.mod, ok.kind, ok.glob, ok.blt, ok.above, ok.inj, ok.has, ok.cab, fun z => Bool.noConfusion (show false = true from z), Around.frames_deeper e0.frames, ok.stk, ok.exf, ok.bs, ok.bsz, ok.noex, ok.exfs, ok.funs, ok.frf⟩,
      I0.os, I0.bare, I0.base, I0.loc, I0.cell, I0.free, I0.freeC, I0.pin, I0.hok, I0.len⟩
  refine wpAny_mono (ht.run [] s1 (L2.start N vs) H _ I hq) (fun fl s2 hs => ?_) fun e s2 hs => hs
  cases fl with
  | brk =>
    obtain ⟨_, _, _, z⟩ := hs
    cases z
  | cont =>
    obtain ⟨_, _, _, z⟩ := hs
    cases z
  | next =>
    obtain ⟨σ', H', J, z⟩ := hs
    exact ⟨V.non, H', J.os, J.bare, J.base, J.hok, rfl, z⟩
  | ret u =>
    obtain ⟨v, σ', H', J, rv, z⟩ := hs
    exact ⟨v, H', J.os, J.bare, J.base, J.hok, rv, z⟩
theorem pe_callW {X : Cx} {k : Nat} {f : Addr} {fd : FuncData} {ps : List Str} {sp : Sp} {x : Str} {q pos : Pos} {e : Expr} {es : List Expr} {t : TA} (F : FnW X.prog X.w X.K X.mg X.base k f fd ps sp) (hr : L2H.RoomH k X.A) (hg : Gl X x) (hm : X.mg x = some (.ref f)) (hk : PySem.W.keepIn X.K (.ref f) = true) (hb : Binds X.K fd ps [])
    (ha : PA X (e :: es) t) (hdb : (x == ("__debug__" : Str)) = false := by decide) (he : starEach (e :: es) X.env = (false, eval e X.env) :: starEach es X.env := by rfl) (hpl : (backTo pos (starEach es X.env)).any (·.1) = false := by rfl) :
    PE X (.Call (.Name x q) (e :: es) [] pos) (tCall sp [] (fun _ _ _ => False) t) := by
  constructor
  intro pins s σ H Q I h
  refine wpAny_Call_Name_kw (ld_glob I hg hm ?_ hdb)
  refine PySem.W.callWith_K (h₀ := X.base) I.ok.mod.kin hk (thn (ha.run pos pins s σ H _ I h) fun us s1 got => ?_) he hpl
  obtain ⟨vs, H1, I1, r, q1⟩ := got
  rw [List.append_nil] at q1
  refine ⟨I1.kIn, ?_⟩
  have lu : us.length = ps.length := by rw [← r.length]; exact F.len _ _ _ _ q1
  have b := hb s1 us I1.kIn (by rw [List.append_nil]; exact lu)
  rw [List.append_nil] at b
  show wpAny _ _ (call (.ref f) us) _ _ _
  refine wpAny_call (codeAny_mono (F.run X.A X.stack s1 H1 ⟨us, []⟩ us vs Q (fun _ _ _ => False) hr I1.env0 b r q1) fun r s' hq => ?_)
  cases r with
  | error e => exact False.elim hq
  | ok fl =>
    cases fl with
    | ret u => exact I1.after hq
    | next => exact False.elim hq
    | brk => exact False.elim hq
    | cont => exact False.elim hq
end Vf
namespace Vf
open PySem L2
theorem ix_nth {st : List Str} {k : Nat} {s : Str} (nd : st.Nodup) (h : st[k]? = some s) : ix st s = (k : Int) := by
  have m := List.mem_of_getElem? h
  have lt := List.idxOf_lt_length_of_mem m
  have e : st[st.idxOf s]? = some s := by rw [List.getElem?_eq_getElem lt, List.getElem_idxOf lt]
  unfold ix
  rw [nodup_ix nd e h]
theorem unknown_in {D : DD} (vN : ValidN D) (sm : Small D) {w s : Str} (h : s ∈ [("zz9" : Str), ("" : Str), ("A" : Str), w ++ ("9zz" : Str)]) : s ∉ D.st := by
  simp only [List.mem_cons, List.not_mem_nil, or_false] at h
  rcases h with rfl | rfl | rfl | rfl
  · intro m
    obtain ⟨i, hi⟩ := List.mem_iff_getElem?.mp m
    have il := (List.getElem?_eq_some_iff.mp hi).1
    have l6 := sm.st6
    have hd := (goodName_of (by omega) (sm.gn i _ hi)).2
    have e : (Str.ofString "zz9").cps.toList.head? = some 122 := by decide +kernel
    rw [e] at hd
    have := Option.some.inj hd
    omega
  · intro m
    have q := vN.nm _ m
    have e : isName (Str.ofString "") = false := by decide +kernel
    rw [e] at q
    cases q
  · intro m
    have q := vN.nm _ m
    have e : isName (Str.ofString "A") = false := by decide +kernel
    rw [e] at q
    cases q
  · exact sm.noName (end_zz w)
end Vf

/-! ### places and meetings -/
namespace Vf
open PySem L2
def canMeet (ns : List Int) (m : Int × Int) : Bool :=
  if m.1 < 0 ∨ m.2 < 0 ∨ (ns.length : Int) ≤ m.1 ∨ (ns.length : Int) ≤ m.2 then false
  else if m.1 = m.2 then decide (2 ≤ ns.getD m.1.toNat 0) else decide (1 ≤ ns.getD m.1.toNat 0) && decide (1 ≤ ns.getD m.2.toNat 0)
def movePl (ns : List Int) (m r : Int × Int) : List Int := putAt (putAt (putAt (putAt ns m.1.toNat (-1)) m.2.toNat (-1)) r.1.toNat 1) r.2.toNat 1
def Fits (n : Nat) (ns : List Int) : Prop := ns.length = n ∧ ∀ y ∈ ns, 0 ≤ y
def InR (n : Nat) (m : Int × Int) : Prop := 0 ≤ m.1 ∧ m.1 < n ∧ 0 ≤ m.2 ∧ m.2 < n
theorem canMeet_in {ns : List Int} {m : Int × Int} (h : canMeet ns m = true) : InR ns.length m := by
  unfold canMeet at h
  by_cases c : m.1 < 0 ∨ m.2 < 0 ∨ (ns.length : Int) ≤ m.1 ∨ (ns.length : Int) ≤ m.2
  · rw [if_pos c] at h
    cases h
  · simp only [not_or, Int.not_lt, Int.not_le] at c
    exact ⟨c.1, c.2.2.1, c.2.1, c.2.2.2⟩
theorem putAt_get (pl : List Int) (i j : Nat) (c : Int) : (putAt pl i c).getD j 0 = if i = j ∧ j < pl.length then pl.getD j 0 + c else pl.getD j 0 := by
  unfold putAt
  rw [List.getD_eq_getElem?_getD, List.getElem?_set]
  by_cases e : i = j
  · subst e
    by_cases l : i < pl.length
    · simp [l]
    · simp [l]
  · simp [e]
theorem nonneg_of {ns : List Int} (h : ∀ j, j < ns.length → 0 ≤ ns.getD j 0) : ∀ y ∈ ns, 0 ≤ y := fun y hy => by
  obtain ⟨j, hj, rfl⟩ := List.mem_iff_getElem.mp hy
  have := h j hj
  rw [List.getD_eq_getElem?_getD, List.getElem?_eq_getElem hj] at this
  exact this
theorem nonneg_at {ns : List Int} (h : ∀ y ∈ ns, 0 ≤ y) (j : Nat) : 0 ≤ ns.getD j 0 := by
  rw [List.getD_eq_getElem?_getD]
  cases e : ns[j]? with
  | none => exact Int.le_refl _
  | some y => exact h y (List.mem_of_getElem? e)
theorem movePl_len (ns : List Int) (m r : Int × Int) : (movePl ns m r).length = ns.length := by
  unfold movePl
  rw [putAt_len, putAt_len, putAt_len, putAt_len]
theorem move_fits {n : Nat} {ns : List Int} {m r : Int × Int} (h : Fits n ns) (c : canMeet ns m = true) : Fits n (movePl ns m r) := by
  obtain ⟨hl, hn⟩ := h
  refine ⟨(movePl_len ..).trans hl, nonneg_of fun j hj => ?_⟩
  obtain ⟨i0, i1, j0, j1⟩ := canMeet_in c
  have hj0 := nonneg_at hn j
  unfold canMeet at c
  rw [if_neg (by simp only [not_or, Int.not_lt, Int.not_le]; exact ⟨i0, j0, i1, j1⟩)] at c
  unfold movePl
  simp only [putAt_get, putAt_len]
  by_cases e : m.1 = m.2
  · rw [if_pos e, decide_eq_true_eq] at c
    rw [e] at c ⊢
    by_cases e1 : m.2.toNat = j
    · subst e1
      split <;> split <;> split <;> omega
    · simp only [e1, false_and, if_false]
      split <;> split <;> omega
  · rw [if_neg e, Bool.and_eq_true, decide_eq_true_eq, decide_eq_true_eq] at c
    obtain ⟨c1, c2⟩ := c
    by_cases e1 : m.1.toNat = j
    · have e2 : ¬ m.2.toNat = j := fun z => e (by omega)
      subst e1
      simp only [e2, false_and, if_false]
      split <;> split <;> split <;> omega
    · simp only [e1, false_and, if_false]
      by_cases e2 : m.2.toNat = j
      · subst e2
        split <;> split <;> split <;> omega
      · simp only [e2, false_and, if_false]
        split <;> split <;> omega
theorem meetOf_in {D : DD} (v : ValidN D) {m : Int × Int} (h : InR D.st.length m) : InR D.st.length (meetOf (rks D) (rvs D) m) := by
  unfold meetOf
  by_cases c : m ∈ rks D
  · rw [if_pos c]
    have lt := List.idxOf_lt_length_of_mem c
    have l2 : (rvs D).length = (rks D).length := by simp [rvs, rks]
    have mem : (rvs D).getD ((rks D).idxOf m) m ∈ rvs D := getD_mem (by omega)
    obtain ⟨r, hr, er⟩ := List.mem_map.mp mem
    rw [← er]
    obtain ⟨_, _, m3, m4⟩ := v.rum r hr
    have b3 := List.idxOf_lt_length_of_mem m3
    have b4 := List.idxOf_lt_length_of_mem m4
    unfold ix
    refine ⟨?_, ?_, ?_, ?_⟩ <;> dsimp only <;> omega
  · rw [if_neg c]
    exact h
def goPl (f : Int × Int → Int × Int) : Nat → List (Int × Int) → List Int → Nat ⊕ List Int
  | _, [], pl => .inr pl
  | k, m :: r, pl => if canMeet pl m = true then goPl f (k + 1) r (movePl pl m (f m)) else .inl k
theorem goPl_step {f : Int × Int → Int × Int} {ms : List (Int × Int)} {i : Nat} {m : Int × Int} {pl : List Int} (h : ms[i]? = some m) : goPl f i (ms.drop i) pl = if canMeet pl m = true then goPl f (i + 1) (ms.drop (i + 1)) (movePl pl m (f m)) else .inl i := by
  have hi := (List.getElem?_eq_some_iff.mp h).1
  rw [List.drop_eq_getElem_cons hi, (List.getElem?_eq_some_iff.mp h).2]
  rfl
theorem goPl_end {f : Int × Int → Int × Int} {ms : List (Int × Int)} {i : Nat} {pl : List Int} (h : ms.length ≤ i) : goPl f i (ms.drop i) pl = .inr pl := by
  rw [List.drop_eq_nil_iff.mpr h]
  rfl
abbrev fD (D : DD) : Int × Int → Int × Int := meetOf (rks D) (rvs D)
def encI (ns : List Int) : List V := ns.map V.int
theorem refOk : PyData.strOk (Str.ofString "refused") = true := by decide +kernel
/-- what a run tells: the place, or the index of the meeting that is not possible -/
def Told (K : PySem.W.Frag) (H : Hp) (v : V) : Nat ⊕ List Int → Prop
  | .inl k => ∃ q, v = .ref q ∧ SqT K H q [.str "refused", .int (k : Int)]
  | .inr pl => ∃ q, v = .ref q ∧ SqT K H q (pl.map V.int)
theorem Told.same {K : PySem.W.Frag} {H H' : Hp} {v : V} {r : Nat ⊕ List Int} (h : Told K H v r) (e : Same H H') : Told K H' v r := by
  cases r with
  | inl k => exact ⟨h.choose, h.choose_spec.1, Same.seqT e h.choose_spec.2⟩
  | inr pl => exact ⟨h.choose, h.choose_spec.1, Same.seqT e h.choose_spec.2⟩
theorem Told.dp {K : PySem.W.Frag} {H : Hp} {x y : V} {r : Nat ⊕ List Int} (h1 : Told K H x r) (h2 : Told K H y r) : ∃ d e, Dp K H x d ∧ Dp K H y e ∧ SeqAt.shaped d = true ∧ SeqAt.shaped e = true ∧ PyData.eqv d e = true := by
  cases r with
  | inl k =>
    obtain ⟨a, rfl, ha⟩ := h1
    obtain ⟨b, rfl, hb⟩ := h2
    have al : ∀ H, DpAll K H [V.str "refused", V.int (k : Int)] [PyData.str "refused", PyData.int (k : Int)] := fun H => .cons (.str _) (.cons (.int _) .nil)
    have sh : SeqAt.shaped (.tuple [PyData.str "refused", PyData.int (k : Int)]) = true := by
      unfold SeqAt.shaped
      simp [PyData.canLay0, PyData.canLayAll0, PyData.depth, PyData.depthAll, refOk]
    exact ⟨_, _, .tup ha (al H), .tup hb (al H), sh, sh, PySem.SeqAt.eqv_refl _ (by simp [PyData.canLay0, PyData.canLayAll0, refOk])⟩
  | inr pl =>
    obtain ⟨a, rfl, ha⟩ := h1
    obtain ⟨b, rfl, hb⟩ := h2
    obtain ⟨d, e, x1, x2, x3, x4, x5⟩ := TwoInts.dp (K := K) (H := H) (ns := pl) (ms := pl) ⟨a, b, rfl, rfl, .inr ⟨ha, hb⟩⟩
    exact ⟨d, e, x1, x2, x3, x4, by rw [x5]; exact decide_eq_true rfl⟩
/-- a list of pairs as data -/
theorem dpAll_pairs {K : PySem.W.Frag} {H : Hp} : ∀ {xs : List V} {ms : List (Int × Int)}, Tups encP H xs ms → DpAll K H xs (ms.map fun m => PyData.tuple [.int m.1, .int m.2])
  | [], [], _ => .nil
  | [], m :: r, t => by have := t.1; simp at this
  | x :: xs, [], t => by have := t.1; simp at this
  | x :: xs, m :: r, t => by
    obtain ⟨u, e1, e2⟩ := t.2 0 m rfl
    obtain rfl : x = .ref u := Option.some.inj e1
    refine .cons (.tup (SqT.of e2) (.cons (.int _) (.cons (.int _) .nil))) (dpAll_pairs ⟨Nat.succ.inj t.1, fun i a e => ?_⟩)
    exact t.2 (i + 1) a e
end Vf
namespace Vf
open PySem L2
theorem canMeet_bad {ns : List Int} {m : Int × Int} (h : m.1 < 0 ∨ m.2 < 0 ∨ (ns.length : Int) ≤ m.1 ∨ (ns.length : Int) ≤ m.2) : canMeet ns m = false := if_pos h
theorem canMeet_same {ns : List Int} {i j : Int} (h : ¬ (i < 0 ∨ j < 0 ∨ (ns.length : Int) ≤ i ∨ (ns.length : Int) ≤ j)) (e : i = j) : canMeet ns (i, j) = decide (2 ≤ ns.getD i.toNat 0) := by
  unfold canMeet
  rw [if_neg h, if_pos e]
theorem canMeet_diff {ns : List Int} {i j : Int} (h : ¬ (i < 0 ∨ j < 0 ∨ (ns.length : Int) ≤ i ∨ (ns.length : Int) ≤ j)) (e : ¬ i = j) : canMeet ns (i, j) = (decide (1 ≤ ns.getD i.toNat 0) && decide (1 ≤ ns.getD j.toNat 0)) := by
  unfold canMeet
  rw [if_neg h, if_neg e]
end Vf
namespace Vf
open PySem L2
section
variable {pl : List Int} {x : Int}
theorem getI (h0 : 0 ≤ x) (h : x < pl.length) : (pl.map V.int)[x.toNat]? = some (V.int (pl.getD x.toNat 0)) := by
  have lt : x.toNat < pl.length := by omega
  rw [List.getElem?_map, List.getD_eq_getElem?_getD, List.getElem?_eq_getElem lt]
  rfl
theorem ixI (h0 : 0 ≤ x) (h : x < pl.length) : ixN (pl.map V.int).length x = some x.toNat := by
  unfold ixN
  rw [List.length_map, if_pos h0, if_pos (by omega)]
theorem setAdd {H : Hp} {c : Addr} {d : Int} : (upd H c (.lst ((pl.map V.int).set x.toNat (V.int (pl.getD x.toNat 0 + d))))) c = some (.lst ((putAt pl x.toNat d).map V.int)) := by rw [upd_same, ← putAt_map]
theorem setSub {H : Hp} {c : Addr} {d : Int} : (upd H c (.lst ((pl.map V.int).set x.toNat (V.int (pl.getD x.toNat 0 - d))))) c = some (.lst ((putAt pl x.toNat (-d)).map V.int)) := by rw [upd_same, ← putAt_map]; rfl
end
end Vf
namespace Vf
theorem dec2 {x : Int} : decide (2 ≤ x) = decide (1 < x) := decide_eq_decide.mpr (by omega)
theorem dec1 {x : Int} : decide (1 ≤ x) = decide (0 < x) := decide_eq_decide.mpr (by omega)
end Vf
namespace Vf
open PySem L2
theorem PP.got {H : Hp} {kvs : List (List Key × V)} {ks vl : List (Int × Int)} (p : PP H kvs ks vl) {k : Int × Int} {t : Addr} (ht : H t = some (.tup (encP k))) : ∃ t2, (valV kvs (keyP k)).getD (V.ref t) = .ref t2 ∧ H t2 = some (.tup (encP (meetOf ks vl k))) := by
  rcases p.get k with ⟨y1, y2⟩ | ⟨t2, y1, y2⟩
  · rw [y1, y2]
    exact ⟨t, rfl, ht⟩
  · rw [y1]
    exact ⟨t2, rfl, y2⟩
end Vf
namespace Vf
theorem putAt_mem {pl : List Int} {i : Nat} {c y : Int} (h : y ∈ putAt pl i c) : y ∈ pl ∨ (i < pl.length ∧ y = pl.getD i 0 + c) := by
  unfold putAt at h
  have h0 := h
  rcases List.mem_or_eq_of_mem_set h with h | h
  · exact .inl h
  · by_cases l : i < pl.length
    · exact .inr ⟨l, h⟩
    · rw [List.set_eq_of_length_le (by omega)] at h0
      exact .inl h0
theorem putAt_bound {pl : List Int} {i : Nat} {b : Int} (h : ∀ y ∈ pl, 0 ≤ y ∧ y ≤ b) (hi : i < pl.length) : ∀ y ∈ putAt pl i 1, 0 ≤ y ∧ y ≤ b + 1 := fun y hy => by
  rcases putAt_mem hy with m | ⟨_, rfl⟩
  · have := h y m
    omega
  · have := h _ (getD_mem hi (d := 0))
    omega
end Vf
namespace Vf
theorem bits_small {i : Nat} (h : i ≤ 1000000) : (i : Int).natAbs.log2 < 1920 := by
  rw [Int.natAbs_natCast]
  by_cases hz : i = 0
  · subst hz
    decide
  · exact (Nat.log2_lt hz).mpr (Nat.lt_of_le_of_lt h (by decide))
theorem refused_eq {i : Nat} : [L2.V.str "refused", L2.V.int (0 + (i : Int))] = [L2.V.str "refused", L2.V.int (i : Int)] := by rw [Int.zero_add]
end Vf
namespace Vf
open PySem L2
theorem catT {K : PySem.W.Frag} {H : Hp} {a b : Addr} {xs ys : List V} {Q : VK} (hx : H a = some (.tup xs)) (hy : SqT K H b ys) (ne : xs ≠ []) (hs : xs.length + ys.length ≤ sizeLine)
    (k : ∀ (p : Addr) (H' : Hp), Same H H' → H' p = some (.tup (xs ++ ys)) → Q (.ref p) H') : rCatT K (.ref a) (.ref b) H Q := by
  refine ⟨a, b, xs, ys, rfl, rfl, SqT.of hx, hy, ne, hs, fun e => ?_, fun _ p np => k p _ (Vf.Same.new (Same.refl H) np) upd_same⟩
  refine k a H (Same.refl H) ?_
  rw [e, List.append_nil]
  exact hx
theorem slT1 {K : PySem.W.Frag} {H : Hp} {a : Addr} {xs : List V} {Q : VK} (hx : SqT K H a xs) (h0 : 0 < xs.length) (k : ∀ (p : Addr) (H' : Hp), Same H H' → H' p = some (.tup (xs.drop 1)) → Q (.ref p) H') : rSlT K (.ref a) (some 1) none H Q := by
  refine ⟨a, xs, rfl, hx, ?_, fun p np => k p _ (Vf.Same.new (Same.refl H) np) ?_⟩
  · intro e
    have e1 : HT.sIx xs.length 0 (some ((1 : Nat) : Int)) = min 1 xs.length := HT.sIx_nat _ _ _
    have e2 : HT.sIx xs.length 0 (some (1 : Int)) = 0 := e.1
    rw [show ((1 : Nat) : Int) = (1 : Int) from rfl, e2] at e1
    omega
  · rw [upd_same]
    exact congrArg (fun z => some (HO.tup z)) (Vf.cut_from xs 1 h0)
theorem Tups.one {α : Type} {enc : α → List V} {H : Hp} {t : Addr} {a : α} (h : H t = some (.tup (enc a))) : Tups enc H [.ref t] [a] := Tups.snoc (xs := []) (l := []) Tups.nil h
end Vf
namespace Vf
open PySem L2
theorem PoolAt.pp {H : Hp} {p : Addr} {n : Int} {kvs : List (List Key × V)} {ks vl : List (Int × Int)} (P : PoolAt H p n) (q : PP H kvs ks vl) : PP (Er p H) kvs ks vl := ⟨q.keys, P.tups q.vals, q.nd⟩
theorem sum_pos : ∀ {ns : List Int}, 1 < ns.sum → ∃ k, k < ns.length ∧ 0 < ns.getD k 0
  | [], h => by simp at h
  | n :: r, h => by
    by_cases c : 0 < n
    · exact ⟨0, by simp, by simpa using c⟩
    · rw [List.sum_cons] at h
      obtain ⟨k, h1, h2⟩ := sum_pos (ns := r) (by omega)
      exact ⟨k + 1, by simp; omega, by simpa using h2⟩
theorem Keep.tup {p : Addr} {H H' : Hp} {o : HO} (k : Keep [p] H H') (hp : H p = some o) {t : Addr} {ys : List V} (ne : ∀ zs, o ≠ .tup zs) (h : H t = some (.tup ys)) : H' t = some (.tup ys) := k t _ (fun m => by
  rw [List.mem_singleton.mp m, hp] at h
  exact ne ys (Option.some.inj h)) h
end Vf
namespace Vf
open PySem L2
/-- while a run is drawn: the steps' list, the place, the pool -/
structure Stp (G : Hp) (pl dr st at_ : Addr) (xs : List V) (ms : List (Int × Int)) (cur : List Int) (H : Hp) (m : Int) : Prop where
  g : Same G H
  s : H st = some (.lst xs)
  t : Tups encP H xs ms
  a : H at_ = some (.tup (cur.map V.int))
  p : H pl = some (.lst [.ref dr, .int m])
section
variable {G H H' : Hp} {pl dr st at_ : Addr} {xs : List V} {ms : List (Int × Int)} {cur : List Int} {m m' : Int}
theorem Stp.same (S : Stp G pl dr st at_ xs ms cur H m) (e : Same H H') : Stp G pl dr st at_ xs ms cur H' m := ⟨S.g.trans e, e _ _ S.s, S.t.same e, e _ _ S.a, e _ _ S.p⟩
theorem nolst {x y : V} : ∀ zs, HO.lst [x, y] ≠ .tup zs := fun zs e => by cases e
theorem Stp.pick (S : Stp G pl dr st at_ xs ms cur H m) (gn : G pl = none) (ne : st ≠ pl) (h : H' pl = some (.lst [.ref dr, .int m'])) (k : Keep [pl] H H') : Stp G pl dr st at_ xs ms cur H' m' :=
  ⟨same_keep S.g gn k, k st _ (by simpa using ne) S.s, S.t.mono fun t ys e => k.tup S.p nolst e, k.tup S.p nolst S.a, h⟩
theorem Stp.at_ne (S : Stp G pl dr st at_ xs ms cur H m) {t : Addr} {ys : List V} (h : H t = some (.tup ys)) : t ≠ st ∧ t ≠ pl := ⟨fun e => (by rw [e, S.s] at h; cases h), fun e => (by rw [e, S.p] at h; cases h)⟩
/-- a step is put behind -/
theorem Stp.put (S : Stp G pl dr st at_ xs ms cur H m) (gn : G st = none) (ne : st ≠ pl) {t : Addr} {a : Int × Int} (h : H t = some (.tup (encP a))) : Stp G pl dr st at_ (xs ++ [.ref t]) (ms ++ [a]) cur (upd H st (.lst (xs ++ [.ref t]))) m := by
  have up : ∀ {x : Addr} {ys : List V}, H x = some (.tup ys) → (upd H st (.lst (xs ++ [.ref t]))) x = some (.tup ys) := fun {x ys} e => by rw [upd_ne (S.at_ne e).1]; exact e
  exact ⟨Vf.Same.chg S.g gn, upd_same, (S.t.mono fun x ys e => up e).snoc (up h), up S.a, by rw [upd_ne (Ne.symm ne)]; exact S.p⟩
end
theorem canLay_pairs : ∀ ms : List (Int × Int), PyData.canLayAll0 (ms.map fun m => PyData.tuple [.int m.1, .int m.2]) = true
  | [] => by simp [PyData.canLayAll0]
  | m :: r => by simp [PyData.canLayAll0, PyData.canLay0, canLay_pairs r]
theorem depth_pairs : ∀ ms : List (Int × Int), PyData.depthAll (ms.map fun m => PyData.tuple [.int m.1, .int m.2]) ≤ 2
  | [] => by simp [PyData.depthAll]
  | m :: r => by
    have := depth_pairs r
    simp only [List.map_cons, PyData.depthAll, PyData.depth]
    omega
theorem shaped_pairs (ms : List (Int × Int)) : SeqAt.shaped (.list (ms.map fun m => PyData.tuple [.int m.1, .int m.2])) = true := by
  have h1 := depth_pairs ms
  have h2 : PyData.depth (.list (ms.map fun m => PyData.tuple [.int m.1, .int m.2])) ≤ 64 := by
    simp only [PyData.depth]
    omega
  show (PyData.canLay0 (.list (ms.map fun m => PyData.tuple [.int m.1, .int m.2])) && decide (PyData.depth (.list (ms.map fun m => PyData.tuple [.int m.1, .int m.2])) ≤ 64)) = true
  rw [Bool.and_eq_true]
  exact ⟨by simp only [PyData.canLay0]; exact canLay_pairs ms, decide_eq_true h2⟩
theorem eqv_pairs (ms : List (Int × Int)) : PyData.eqv (.list (ms.map fun m => PyData.tuple [.int m.1, .int m.2])) (.list (ms.map fun m => PyData.tuple [.int m.1, .int m.2])) = true :=
  PySem.SeqAt.eqv_refl _ (by simp only [PyData.canLay0]; exact canLay_pairs ms)
theorem cut_to' (xs : List V) (t : Nat) : cutV xs none (some (t : Int)) = xs.take t := by
  have e1 : HT.sIx xs.length xs.length (some (t : Int)) = min t xs.length := HT.sIx_nat _ _ _
  have e2 : HT.sIx xs.length 0 none = 0 := rfl
  unfold cutV
  rw [e1, e2]
  show List.take (min t xs.length - 0) (xs.drop 0) = xs.take t
  rw [List.drop_zero, Nat.sub_zero]
  by_cases h : t ≤ xs.length
  · rw [Nat.min_eq_left h]
  · rw [Nat.min_eq_right (by omega), List.take_length, List.take_of_length_le (by omega)]
/-- places that do not fit -/
theorem bad_fit {n : Nat} {ns x : List Int} (h : ns.length = n) (h0 : 0 < n) (m : x ∈ [ns ++ [0], ns ++ [1], -1 :: ns.drop 1, ns.drop 1]) : ¬ Fits n x := by
  rintro ⟨l, p⟩
  simp only [List.mem_cons, List.not_mem_nil, or_false] at m
  rcases m with rfl | rfl | rfl | rfl
  · simp at l; omega
  · simp at l; omega
  · have := p (-1) (by simp)
    omega
  · simp at l; omega
theorem er_same {pl : Addr} {G H : Hp} (g : G pl = none) (s : Same G H) : Same G (Er pl H) := fun x o h => (if_neg (neq_none h g)).trans (s x o h)
end Vf

/-! ### enumerate(tuple); a list or a tuple walked; sorted of tuples of whole numbers -/
namespace Vf
open PySem PySem.Spec PyProof.Rows L2
def IteT (K : PySem.W.Frag) (a : Addr) : It :=
  ⟨fun i H => ∃ (xs : List V) (x : V), SqT K H a xs ∧ xs[i]? = some x, fun i H v H' => ∃ T x, v = .ref T ∧ H T = none ∧ H' = upd H T (.tup [.int (i : Nat), x]) ∧ ∀ xs, SqT K H a xs → xs[i]? = some x, fun i H => ∃ xs : List V, SqT K H a xs ∧ xs.length = i⟩
theorem turn_enumT {P : Program} {w : World} {K : PySem.W.Frag} {elts : List Expr} {kk : Nat} {tpos : Pos} (a e it : Addr) (hai : a ≠ it) (hae : a ≠ e) :
    Turn P w K (.Tuple elts kk tpos) (IteT K a) [e, it] e (fun i h => (∃ old, IsEnum h e it ((i : Nat) : Int) old) ∧ h.IsTupleIter it a i ∧ e ≠ it) where
  mem := by simp
  obj := fun i h st b hb => by
    obtain ⟨⟨old, he⟩, ⟨o, ho, hc, hd⟩, _⟩ := st
    have e' : b = e ∨ b = it := by simpa using hb
    rcases e' with z | z
    · rw [z]; exact ⟨_, he, fun v q => nomatch q⟩
    · rw [z]; exact ⟨o, ho, fun v q => by rw [hd] at q; cases q⟩
  keep := fun i h h' st k => let ⟨⟨old, he⟩, hi, hne⟩ := st; ⟨⟨old, k e (by simp) _ he⟩, hi.at fun o q => k it (by simp) o q, hne⟩
  item := by
    intro X hP hw hK hc i pins s σ H E I hf st hg
    subst hP hw hK
    obtain ⟨⟨old, he⟩, hit, hne⟩ := st
    obtain ⟨xs, x, hq, hx⟩ := hg
    obtain ⟨its, rv, p, hz⟩ := I.tuple hq
    obtain ⟨u, hu, ru⟩ := rv.get hx
    have hel : e < s.heap.objs.size := Heap.lt_size he
    have hil : it < s.heap.objs.size := by obtain ⟨_, q, _⟩ := hit; exact Heap.lt_size q
    have nh : X.A.in1.handled = none := I.ok.hd hc
    have lx := (List.getElem?_eq_some_iff.mp hu).1
    refine wpAny_pyNext_enum_itemD (Draws.tuple nh it a hai its.toArray) he ⟨hit, p⟩ (by simpa using lx) hne (by simp [hne, Ne.symm hae]) fun x1 h' tk e1 ho hst' hT hsz hk => ?_
    obtain rfl : u = x1 := by
      have e := e1
      simp only [List.getElem?_toArray] at e
      rw [hu] at e
      exact Option.some.inj e
    obtain ⟨hit', _⟩ := hst'
    refine ⟨_, rfl, wpAny_letOwnedTupleGo_enum (s := { s with heap := h', toks := tk + 1 }) ho fun h'' he' sb => ?_⟩
    have hT2 : h''.get? s.heap.objs.size = some { cls := .type "tuple", data := .seq #[.int i tk, u] } := (sb.2 _ (Nat.ne_of_gt hel)).trans hT
    have new : ObjOk X.prog X.w (upd H s.heap.objs.size (.tup [.int (i : Nat), x])) h'' s.heap.objs.size (.tup [.int (i : Nat), x]) :=
      ⟨by show 2 ≤ sizeLine; decide, [.int i tk, u], .cons ⟨_, rfl⟩ (.cons ru .nil), ⟨_, hT2, rfl, _, rfl⟩⟩
    have I1 : Inv X pins σ (upd H s.heap.objs.size (.tup [.int (i : Nat), x])) { s with heap := h'', toks := tk + 1 } :=
      I.turnedNew (ch := [e, it]) (fun b ob hb q => (sb.2 b (fun z => hb (by simp [z]))).trans (hk b ob (fun z => hb (by simp [z])) (fun z => hb (by simp [z])) q)) hf (Nat.le_refl _) new
    refine ⟨.ref s.heap.objs.size, _, I1, rfl, ⟨_, x, rfl, I.hok.fresh (Nat.le_refl _), rfl, fun ys hy => by rw [I.tuple_inj hy hq]; exact hx⟩, ⟨⟨u, ?_⟩, hit'.at fun o q => (sb.2 it (Ne.symm hne)).trans q, hne⟩, fun b hb => ?_⟩
    · have e1 : ((i + 1 : Nat) : Int) = (i : Int) + 1 := by omega
      rw [e1]; exact he'
    · have hb' : b < s.heap.objs.size := by
        have e' : b = e ∨ b = it := by simpa using hb
        rcases e' with z | z
        · rw [z]; exact hel
        · rw [z]; exact hil
      rw [upd_ne (Nat.ne_of_lt hb')]
      exact (hf b hb).1
  done := by
    intro X hP hw hK hc i pins s σ H E I hf st hg
    subst hP hw hK
    obtain ⟨⟨old, he⟩, hit, hne⟩ := st
    obtain ⟨xs, hq, hx⟩ := hg
    obtain ⟨its, rv, p, hz⟩ := I.tuple hq
    obtain ⟨f0, f1, f2, f3, f4, f5⟩ := hf it (by simp)
    have hl := rv.length
    have nh : X.A.in1.handled = none := I.ok.hd hc
    refine wpAny_pyNext_enum_endD (Draws.tuple nh it a hai its.toArray) he ⟨by rw [List.size_toArray, ← hl, hx]; exact hit, p⟩ fun h' eb => ⟨rfl, I.turned (t' := s.toks) (fun b o hb q => eb b o hb q) f0 f1 f3 f4 f5⟩
  self := fun A i s Q E st h => let ⟨⟨_, he⟩, _⟩ := st; wpAny_pyIter_enum he h
theorem meets_enumerate_newT (l : Addr) (items : Array Value) : Meets (Builtin.«enumerate.__new__» ⟨[.type "enumerate", .ref l], []⟩) (fun _ R s => s.heap.IsTuple l items ∧
      R (.ok (.ret (.ref (s.heap.push { cls := .type "tuple_iterator", data := .fields #[.ref l, .int 0 0] }).objs.size)))
        { s with heap := (s.heap.push { cls := .type "tuple_iterator", data := .fields #[.ref l, .int 0 0] }).push { cls := .type "enumerate", data := .fields #[.none, .bool false, .ref s.heap.objs.size, rawInt 0, .none, .none] } }) :=
  .of_wp fun prog w A R s h => by
    obtain ⟨hp, g, d, tk, os⟩ := s
    obtain ⟨hL, h⟩ := h
    have hsub := sub_enumerate
    have hL' : Heap.IsTuple (Shared.heap ⟨hp, g, d, tk, os⟩) l items := hL
    wp_walk
    refine wpAny_stack_any fun st => wpAny_pure ?_
    split
    · rename_i c _ _ _ _ _
      cases (c == Value.type "enumerate")
      · wp_walk using wpAny_pyIter_tuple hL'
        exact ⟨_, rfl, h⟩
      · wp_walk using wpAny_pyIter_tuple hL'
        exact ⟨_, rfl, h⟩
    · wp_walk using wpAny_pyIter_tuple hL'
      exact ⟨_, rfl, h⟩
theorem call_enumerate_tup {prog : Program} {w : World} {A : Around} {E : Value → Shared → Prop} {s : Shared} {l : Addr} {items : Array Value} {Q : Value → Shared → Prop} (hL : s.heap.IsTuple l items)
    (h : ∀ h', IsEnum h' (s.heap.objs.size + 1) s.heap.objs.size 0 .none → h'.IsTupleIter s.heap.objs.size l 0 → h'.objs.size = s.heap.objs.size + 2 →
      (∀ b o, s.heap.get? b = some o → h'.get? b = some o) → Q (.ref (s.heap.objs.size + 1)) { s with heap := h' }) :
    wpAny (model prog w) A (call (.type "enumerate") [.ref l]) Q E s := by
  refine callType_new F.called_enumerate (by decide) (F.typeCall_enumerate_1 _) (F.newCall_enumerate_1 _) (fun obj => F.args_object_init_2 obj _) F.entry_enumerate_new
    (meets_enumerate_newT l items) ⟨hL, ?_⟩
  have hz : (s.heap.push { cls := .type "tuple_iterator", data := .fields #[.ref l, .int 0 0] }).objs.size = s.heap.objs.size + 1 := Heap.size_push ..
  show _ ∧ _
  rw [hz]
  have he : IsEnum ((s.heap.push { cls := .type "tuple_iterator", data := .fields #[.ref l, .int 0 0] }).push
      { cls := .type "enumerate", data := .fields #[.none, .bool false, .ref s.heap.objs.size, rawInt 0, .none, .none] }) (s.heap.objs.size + 1) s.heap.objs.size 0 .none := by
    have := Heap.get?_push_size (s.heap.push { cls := .type "tuple_iterator", data := .fields #[.ref l, .int 0 0] })
      (o := { cls := .type "enumerate", data := .fields #[.none, .bool false, .ref s.heap.objs.size, rawInt 0, .none, .none] }) rfl
    rw [hz] at this; exact this
  refine ⟨⟨_, he, rfl⟩, h _ he ⟨_, Heap.get?_push_of_some _ (Heap.get?_push_size _ rfl), rfl, rfl⟩ (by rw [Heap.size_push, hz]) fun b o x => Heap.get?_push_of_some _ (Heap.get?_push_of_some _ x)⟩
def iEnumT (K : PySem.W.Frag) (ta : TA) : TI := fun σ H R => ta σ H fun vs H1 => ∃ a xs, vs = [.ref a] ∧ SqT K H1 a xs ∧ R (IteT K a) H1
theorem pi_enumT {X : Cx} {e : Expr} {ta : TA} {p pos tpos : Pos} {elts : List Expr} {kk : Nat} (hg : Gl X "enumerate") (hm : X.mg "enumerate" = none) (ha : PA X [e] ta) (hs : starEach [e] X.env = [(false, eval e X.env)] := by rfl) :
    PI X (.Tuple elts kk tpos) (.Call (.Name "enumerate" p) [e] [] pos) (iEnumT X.K ta) := by
  refine ⟨fun pins s σ H R I h => ?_⟩
  refine Call_ (ld_blt I hg hm boot_enumerate (PyProof.Rows.callWith_type1 (thn (ha.run pos pins s σ H _ I h) fun us s1 ⟨vs, H1, I1, r1, q1⟩ => ?_) hs rfl))
  obtain ⟨a, xs, ex, hq, q⟩ := q1
  subst ex
  cases r1 with
  | cons r rr =>
    cases rr
    cases r
    obtain ⟨its, rv, p', hz⟩ := I1.tuple hq
    obtain ⟨o1, w1, _⟩ := id p'
    have al : a < s1.heap.objs.size := Heap.lt_size w1
    refine call_enumerate_tup p' fun h' he hit hsz hk => wpAny_pyIter_enum he ?_
    have I2 : Inv X pins σ H1 { s1 with heap := h' } := I1.kept (t' := s1.toks) hk
    refine ⟨s1.heap.objs.size + 1, [s1.heap.objs.size + 1, s1.heap.objs.size], _, _, H1, rfl, I2, turn_enumT a (s1.heap.objs.size + 1) s1.heap.objs.size (Nat.ne_of_lt al) (Nat.ne_of_lt (Nat.lt_succ_of_lt al)), ⟨⟨.none, he⟩, hit, Nat.succ_ne_self _⟩, fun b hb => ?_, q⟩
    have e' : b = s1.heap.objs.size + 1 ∨ b = s1.heap.objs.size := by simpa using hb
    have hle : s1.heap.objs.size ≤ b := by
      rcases e' with z | z
      · rw [z]; exact Nat.le_add_right _ _
      · rw [z]; exact Nat.le_refl _
    exact I1.fpOk hle (I1.hok.fresh hle)
section
variable {K : PySem.W.Frag} {a : Addr} {xs : List V}
theorem walk_enumT : Walk (IteT K a) xs.length (fun H => SqT K H a xs) (YPair (fun i => some (.int (i : Nat))) (fun i => xs[i]?)) := by
  refine ⟨fun i _ hi q => ⟨xs, xs[i], q, by simp [hi]⟩, fun _ q => ⟨xs, q, rfl⟩, fun i H v H' _ q y => ?_⟩
  obtain ⟨T, x, h1, h2, h3, h4⟩ := y
  exact ⟨T, .int (i : Nat), x, h1, h2, h3, rfl, h4 xs q⟩
end
/-- a list or a tuple walked -/
def iSeq (K : PySem.W.Frag) (tl : TE) : TI := fun σ H R => tl σ H fun x H1 => (∃ a, x = .ref a ∧ (∃ xs, SqL K H1 a xs) ∧ R (Itl K a) H1) ∨ ∃ a, x = .ref a ∧ (∃ xs, SqT K H1 a xs) ∧ R (Itt K a) H1
theorem pi_seq {X : Cx} {tg l : Expr} {tl : TE} (hl : PE X l tl) : PI X tg l (iSeq X.K tl) := by
  refine ⟨fun pins s σ H R I h => ?_⟩
  refine thn (hl.run pins s σ H _ I h) fun v s1 ⟨x, H1, I1, r1, q1⟩ => ?_
  rcases q1 with ⟨a, e, ⟨xs, hq⟩, q⟩ | ⟨a, e, ⟨xs, hq⟩, q⟩
  · subst e
    cases r1
    obtain ⟨its, rv, p, hz⟩ := I1.list hq
    refine wpAny_pyIter_list p.isList ?_
    refine ⟨s1.heap.objs.size, [s1.heap.objs.size], _, _, H1, rfl, I1.kept (t' := s1.toks) fun b o e => Heap.get?_push_of_some _ e, turn_list a _, ⟨_, Heap.get?_push_size _ rfl, rfl, rfl⟩, fun b hb => ?_, q⟩
    have e : b = s1.heap.objs.size := by simpa using hb
    subst e
    exact I1.fpOk (Nat.le_refl _) (I1.hok.fresh (Nat.le_refl _))
  · subst e
    cases r1
    obtain ⟨its, rv, p, hz⟩ := I1.tuple hq
    refine wpAny_pyIter_tuple (show s1.heap.IsTuple a its.toArray from p) ?_
    refine ⟨s1.heap.objs.size, [s1.heap.objs.size], _, _, H1, rfl, I1.kept (t' := s1.toks) fun b o e => Heap.get?_push_of_some _ e, turn_tuple a _, ⟨_, Heap.get?_push_size _ rfl, rfl, rfl⟩, fun b hb => ?_, q⟩
    have e : b = s1.heap.objs.size := by simpa using hb
    subst e
    exact I1.fpOk (Nat.le_refl _) (I1.hok.fresh (Nat.le_refl _))
theorem pi_seqK {X : Cx} {K : PySem.W.Frag} {tg l : Expr} {tl : TE} (h : X.K = K) (hl : PE X l tl) : PI X tg l (iSeq K tl) := by
  subst h
  exact pi_seq hl
end Vf
namespace Vf
open PySem PySem.Spec PyProof.Rows L2
def encIs (ns : List Int) : List V := ns.map V.int
def iV : V → Int
  | .int i => i
  | _ => 0
/-- the ints of the tuple that a value is -/
def nsAt (H : Hp) : V → List Int
  | .ref a => match H a with
    | some (.tup xs) => xs.map iV
    | _ => []
  | _ => []
theorem nsAt_of {H : Hp} {a : Addr} {ns : List Int} (h : H a = some (.tup (encIs ns))) : nsAt H (.ref a) = ns := by
  show (match H a with | some (.tup xs) => xs.map iV | _ => []) = ns
  rw [h]
  show (ns.map V.int).map iV = ns
  rw [List.map_map]
  exact List.map_id' ns
theorem tups_nsAt {H : Hp} {xs : List V} {zs : List (List Int)} (t : Tups encIs H xs zs) : xs.map (nsAt H) = zs := by
  apply List.ext_getElem?
  intro i
  rw [List.getElem?_map]
  cases e : xs[i]? with
  | none =>
    have := List.getElem?_eq_none_iff.mp e
    rw [List.getElem?_eq_none (show zs.length ≤ i by rw [← t.1]; exact this)]
    rfl
  | some x =>
    obtain ⟨a, u, e1, rfl, e2⟩ := t.get e
    rw [e1]
    exact congrArg some (nsAt_of e2)
theorem tups_perm {H : Hp} {xs ys : List V} {zs : List (List Int)} (t : Tups encIs H xs zs) (p : ys.Perm xs) : Tups encIs H ys (ys.map (nsAt H)) := by
  refine ⟨(List.length_map ..).symm, fun i a e => ?_⟩
  rw [List.getElem?_map] at e
  cases e1 : ys[i]? with
  | none => rw [e1] at e; cases e
  | some y =>
    rw [e1] at e
    obtain rfl : nsAt H y = a := Option.some.inj e
    obtain ⟨j, hj⟩ := List.mem_iff_getElem?.mp (p.mem_iff.mp (List.mem_of_getElem? e1))
    obtain ⟨b, u, f1, rfl, f2⟩ := t.get hj
    exact ⟨u, rfl, by rw [nsAt_of f2]; exact f2⟩
def rSortTs (K : PySem.W.Frag) : List V → Hp → VK → Prop := fun vs H Q => ∃ (a : Addr) (xs : List V) (zs : List (List Int)) (d : Nat) (B : Int), vs = [V.ref a] ∧ H a = some (.lst xs) ∧ Tups encIs H xs zs ∧ zs.length < 64 ∧ 1 ≤ d ∧ (∀ z ∈ zs, z.length = d ∧ TS.Bd B z) ∧
  ∀ (p : Addr) (ys : List V) (ws : List (List Int)), H p = none → Tups encIs H ys ws → ws.Perm zs → ws.Pairwise (fun x y => TS.code B x ≤ TS.code B y) → Q (.ref p) (upd H p (.lst ys))
theorem cr_sortTs {X : Cx} : CallR X (.builtin "sorted") (rSortTs X.K) := by
  intro pins s σ H vs us Q I r h
  obtain ⟨a, xs, zs, d, B, rfl, ha, t, h64, hd, hz, q⟩ := h
  refine cr_sortT (d := d) (B := B) hd pins s σ H [V.ref a] us Q I r ⟨a, xs, rfl, SqL.of ha, by rw [t.1]; exact h64, fun x hx => ?_, fun ys p pm pw np => ?_⟩
  · obtain ⟨i, hi⟩ := List.mem_iff_getElem?.mp hx
    obtain ⟨z, u, e1, rfl, e2⟩ := t.get hi
    exact ⟨z, ⟨u, rfl, SqT.of e2⟩, hz z (List.mem_of_getElem? e1)⟩
  · have t2 := tups_perm t pm
    refine q p ys _ np t2 ?_ ?_
    · rw [← tups_nsAt t]
      exact pm.map _
    · rw [List.pairwise_map]
      refine pw.imp_of_mem fun {x y} hx hy hxy => ?_
      obtain ⟨i, hi⟩ := List.mem_iff_getElem?.mp hx
      obtain ⟨j, hj⟩ := List.mem_iff_getElem?.mp hy
      obtain ⟨z, u, e1, rfl, e2⟩ := t2.get hi
      obtain ⟨z', u', e1', rfl, e2'⟩ := t2.get hj
      exact hxy _ _ ⟨u, rfl, SqT.of (by rw [nsAt_of e2]; exact e2)⟩ ⟨u', rfl, SqT.of (by rw [nsAt_of e2']; exact e2')⟩
theorem code_inj {B : Int} : ∀ {x y : List Int}, x.length = y.length → TS.Bd B x → TS.Bd B y → TS.code B x = TS.code B y → x = y
  | [], [], _, _, _, _ => rfl
  | [], _ :: _, h, _, _, _ => by simp at h
  | _ :: _, [], h, _, _, _ => by simp at h
  | a :: r, b :: q, h, h1, h2, e => by
    have hl : r.length = q.length := by simpa using h
    have ab : a = b := by
      rcases Int.lt_trichotomy a b with c | c | c
      · have := TS.code_lt hl h1.tail h2.tail c
        omega
      · exact c
      · have := TS.code_lt hl.symm h2.tail h1.tail c
        omega
    subst ab
    have e2 : a * B ^ r.length + TS.code B r = a * B ^ q.length + TS.code B q := e
    rw [hl] at e2
    rw [code_inj hl h1.tail h2.tail (by omega)]
/-- sorted is one list only -/
theorem sort_one {B : Int} {d : Nat} {ws zs : List (List Int)} (p : ws.Perm zs) (hz : ∀ z ∈ zs, z.length = d ∧ TS.Bd B z) (h1 : ws.Pairwise (fun x y => TS.code B x ≤ TS.code B y)) (h2 : zs.Pairwise (fun x y => TS.code B x ≤ TS.code B y)) : ws = zs := by
  refine p.eq_of_pairwise (fun x y hx hy a b => ?_) h1 h2
  have zx := hz x (p.mem_iff.mp hx)
  have zy := hz y hy
  exact code_inj (zx.1.trans zy.1.symm) zx.2 zy.2 (Int.le_antisymm a b)
/-- sorted(d), d a dict whose keys are tuples of ints -/
def keyI (k : List Int) : List Key := k.map Sum.inl
theorem keyI_inj {a b : List Int} (h : keyI a = keyI b) : a = b := by
  have h2 := congrArg (List.map (fun k : Key => match k with | .inl i => i | .inr _ => 0)) h
  unfold keyI at h2
  rw [List.map_map, List.map_map] at h2
  exact (List.map_id' a).symm.trans (h2.trans (List.map_id' b))
theorem keyI_kV (k : List Int) : (keyI k).map kV = encIs k := by
  unfold keyI encIs
  rw [List.map_map]
  rfl
def rSortDTs : List V → Hp → VK → Prop := fun vs H Q => ∃ (a : Addr) (kvs : List (List Key × V)) (ks : List (List Int)) (d : Nat) (B : Int), vs = [V.ref a] ∧ Rd H a (.dT kvs) ∧ kvs.map (·.1) = ks.map keyI ∧ ks.length < 64 ∧ 1 ≤ d ∧ (∀ z ∈ ks, z.length = d ∧ TS.Bd B z) ∧
  ∀ (p : Addr) (ys : List V) (ws : List (List Int)), H p = none → Tups encIs H ys ws → ws.Perm ks → ws.Pairwise (fun x y => TS.code B x ≤ TS.code B y) → Q (.ref p) (upd H p (.lst ys))
theorem tupInts_of {X : Cx} {pins : List (Addr × Obj)} {σ : L2.St} {H : Hp} {s : Shared} (I : Inv X pins σ H s) {t : Addr} {ns : List Int} (h : H t = some (.tup (encIs ns))) : TS.TupInts s.heap (.ref t) ns := tupI_raw I (SqT.of h)
theorem cr_sortDTs {X : Cx} (hcalm : X.calm = true) : CallR X (.builtin "sorted") rSortDTs := by
  intro pins s σ H xs us Q I r h
  obtain ⟨d, kvs, ks, dd, B, rfl, hd, hks, h64, hd1, hz, q⟩ := h
  obtain ⟨u, rfl, rx⟩ := vals1 r
  cases rx
  obtain ⟨z, hs, xs, pr, o, es, ep, ho, hx, hdt, he, hn⟩ := (show ObjOk X.prog X.w H s.heap d (.dT kvs) from hd.ok I.hok)
  have l1 : es.size = xs.length := size_of_entries he
  have l2 : kvs.length = xs.length := Paired.length pr
  have l3 : kvs.length = ks.length := by
    have := congrArg List.length hks
    simpa using this
  have h16 : es.size ≤ sizeLine := by rw [sizeLine_eq]; omega
  refine Calls.call_function_entry PyProof.Rows.kind_sorted PyProof.Rows.plain_sorted PyProof.Rows.entry_sorted (PyProof.Rows.args_sorted1 _) ?_
  unfold Builtin.«sorted»
  refine wpAny_bind (m := checkCount "sorted" 1 1 _) (wpAny_pure ?_)
  refine wpAny_bind (PySem.W.kdu_collect (A := X.A.in1) (kdl_raw hs hx hdt) (I.ok.hd hcalm) ho h16 fun h' tk acc hk hacc => ?_)
  have ea : acc.toList = (xs.map fun x => x.2.1).map Value.ref := by
    have hl : acc.toList.length = xs.length := by rw [Array.length_toList, hacc.1, l1]
    apply List.ext_getElem?
    intro j
    rw [List.map_map, List.getElem?_map]
    cases hj : acc.toList[j]? with
    | none =>
      have h1 := List.getElem?_eq_none_iff.mp hj
      rw [List.getElem?_eq_none (by omega)]
      rfl
    | some v =>
      obtain ⟨en, hen, hv⟩ := hacc.2 j v (by rw [← Array.getElem?_toList]; exact hj)
      have qe := entry_at he j
      rw [hen] at qe
      cases hb : xs[j]? with
      | none =>
        rw [hb] at qe
        exact nomatch (show some en = none from qe)
      | some b =>
        rw [hb] at qe
        have e2 : en = entryOfKey (tupleKind (mixKind X.prog X.w)) b := Option.some.inj qe
        rw [hv, e2]
        rfl
  have I1 : Inv X pins σ H { s with heap := h', toks := tk } := I.kept hk
  -- the keys' tuples
  have T0 : Tups encIs H ((xs.map fun x => x.2.1).map V.ref) ks := by
    refine ⟨by rw [List.length_map, List.length_map]; omega, fun n k e => ?_⟩
    have hn' : n < xs.length := by
      have := (List.getElem?_eq_some_iff.mp e).1
      omega
    have ex : xs[n]? = some xs[n] := List.getElem?_eq_getElem hn'
    obtain ⟨y, hy, p1, p2, _⟩ := pair_get pr ex
    have hk1 : (kvs.map (·.1))[n]? = some y.1 := by rw [List.getElem?_map, hy]; rfl
    rw [hks, List.getElem?_map, e] at hk1
    have ek : y.1 = keyI k := (Option.some.inj hk1).symm
    rw [ek] at p2
    refine ⟨xs[n].2.1, by rw [List.getElem?_map, List.getElem?_map, ex]; rfl, ?_⟩
    rw [← keyI_kV]
    exact p2
  have hal : acc.toList.length < 64 := by
    rw [ea, List.length_map, List.length_map]
    omega
  refine wpAny_bind (wpAny_newList ?_ (by rw [sizeLine_eq]; omega))
  have hoL : (h'.push (seqObj "list" acc.toList.toArray 0)).get? h'.objs.size = some (seqObj "list" acc.toList.toArray 0) := Heap.get?_push_size _ rfl
  show wpAny _ _ _ _ _ { s with heap := h'.push (seqObj "list" acc.toList.toArray 0), toks := tk }
  have ok : TS.TupsOk (h'.push (seqObj "list" acc.toList.toArray 0)) dd B acc.toList := by
    intro v hv
    rw [ea] at hv
    obtain ⟨a, ha, rfl⟩ := List.mem_map.mp hv
    obtain ⟨n, hn'⟩ := List.mem_iff_getElem?.mp ha
    obtain ⟨k, t, e1, e2, e3⟩ := T0.get (i := n) (x := V.ref a) (by rw [List.getElem?_map, hn']; rfl)
    cases e2
    obtain ⟨z1, z2⟩ := hz k (List.mem_of_getElem? e1)
    exact ⟨k, (tupInts_of I1 e3).keeps fun b o e _ => Heap.get?_push_of_some _ e, z1, z2⟩
  refine wpAny_bind (wpAny_holding (wpAny_call_entry PyProof.Rows.slot_list_sort ⟨_, hoL, rfl⟩ PyProof.Rows.entry_list_sort
    (TS.sort_tups (s := { s with heap := h'.push (seqObj "list" acc.toList.toArray 0), toks := tk }) hoL hal hd1 ok (fun v => TS.code B (TS.intsOf (h'.push (seqObj "list" acc.toList.toArray 0)) v)) (fun v _ ns t => by
      show TS.code B (TS.intsOf _ v) = TS.code B ns
      rw [t.ints]) fun out hperm hs' => ⟨_, rfl, ?_⟩) (args_list_sort _)))
  obtain ⟨e', he'⟩ := PyProof.Rows.sortedHeap_at (vs := acc.toList) (out := out) hoL
  obtain ⟨bs, eb⟩ := refs_out out.toList fun u hu => by
    have hm := hperm.mem_iff.mp hu
    rw [ea] at hm
    obtain ⟨a, _, rfl⟩ := List.mem_map.mp hm
    exact ⟨a, rfl⟩
  rw [ea, eb] at hperm
  have hbp : bs.Perm (xs.map fun x => x.2.1) := by
    have hh := hperm.map (fun v : Value => match v with | .ref a => a | _ => 0)
    rw [List.map_map, List.map_map] at hh
    have e1 : bs.map ((fun v : Value => match v with | .ref a => a | _ => 0) ∘ Value.ref) = bs := List.map_id' bs
    have e2 : (xs.map fun x => x.2.1).map ((fun v : Value => match v with | .ref a => a | _ => 0) ∘ Value.ref) = (xs.map fun x => x.2.1) := List.map_id' _
    rw [e1, e2] at hh
    exact hh
  have vp : (bs.map V.ref).Perm ((xs.map fun x => x.2.1).map V.ref) := hbp.map _
  have t2 := tups_perm T0 vp
  have hlen : (bs.map V.ref).length ≤ sizeLine := by
    rw [List.length_map, hbp.length_eq, List.length_map, sizeLine_eq]
    omega
  refine wpAny_pure ⟨_, rfl, .ref h'.objs.size, upd H h'.objs.size (.lst (bs.map V.ref)), I1.laid (t' := tk) (fun b u e => ?_) (Nat.le_refl _)
    (show ObjOk X.prog X.w _ _ _ (.lst (bs.map V.ref)) from ⟨hlen, bs.map Value.ref, e', vals_refs bs, by rw [he', ← eb]⟩), rfl, q _ _ ((bs.map V.ref).map (nsAt H)) (I1.hok.fresh (Nat.le_refl _)) t2 ?_ ?_⟩
  · have hb : b < h'.objs.size := Heap.lt_size e
    rw [PyProof.Rows.sortedHeap_old (Nat.ne_of_lt hb) (by rw [size_push']; exact Nat.lt_succ_of_lt hb)]
    exact Heap.get?_push_of_some _ e
  · rw [← tups_nsAt T0]
    exact vp.map _
  · rw [eb] at hs'
    rw [List.pairwise_map] at hs'
    rw [List.pairwise_map, List.pairwise_map]
    refine hs'.imp_of_mem fun {x y} hx hy hxy => ?_
    have key : ∀ b ∈ bs, TS.intsOf (h'.push (seqObj "list" acc.toList.toArray 0)) (.ref b) = nsAt H (.ref b) := fun b hb => by
      obtain ⟨i, hi⟩ := List.mem_iff_getElem?.mp hb
      obtain ⟨zz, t, e1, e2, e3⟩ := t2.get (i := i) (x := V.ref b) (by rw [List.getElem?_map, hi]; rfl)
      cases e2
      have e4 := (tupInts_of I1 e3).keeps (h' := h'.push (seqObj "list" acc.toList.toArray 0)) fun b o e _ => Heap.get?_push_of_some _ e
      rw [e4.ints]
      exact (nsAt_of e3).symm
    rw [← key x hx, ← key y hy]
    exact hxy
end Vf
namespace Vf
open PySem PySem.Spec PyProof.Rows L2
theorem op_neIsK {X : Cx} {K : PySem.W.Frag} (h : X.K = K) (hu : X.A.units + 64 < cLine) : OpR X (compareOp .NotEq) (rNeIs K) := by
  subst h
  exact op_neIs hu
theorem op_eqIsK {X : Cx} {K : PySem.W.Frag} (h : X.K = K) (hu : X.A.units + 64 < cLine) : OpR X (compareOp .Eq) (rEqIs K) := by
  subst h
  exact op_eqIs hu
theorem _root_.L2.Room.units65 {k : Nat} {A : Around} (r : Room k A) : A.units + 65 < cLine := by
  have := r.un
  omega
end Vf

/-! ### the meetings of a place, and where they lead -/
namespace Vf
open PySem L2
theorem asc_eq : ∀ {l m : List Int}, l.Pairwise (· < ·) → m.Pairwise (· < ·) → (∀ x, x ∈ l ↔ x ∈ m) → l = m
  | [], [], _, _, _ => rfl
  | [], b :: m, _, _, h => by
    have := (h b).mpr (List.mem_cons_self ..)
    simp at this
  | a :: l, [], _, _, h => by
    have := (h a).mp (List.mem_cons_self ..)
    simp at this
  | a :: l, b :: m, h1, h2, h => by
    obtain ⟨a1, a2⟩ := List.pairwise_cons.mp h1
    obtain ⟨b1, b2⟩ := List.pairwise_cons.mp h2
    have e : a = b := by
      have ha := (h a).mp (List.mem_cons_self ..)
      have hb := (h b).mpr (List.mem_cons_self ..)
      rcases List.mem_cons.mp ha with e | e
      · exact e
      · rcases List.mem_cons.mp hb with e' | e'
        · exact e'.symm
        · have x1 := b1 a e
          have x2 := a1 b e'
          omega
    subst e
    rw [asc_eq a2 b2 fun x => ⟨fun hx => ?_, fun hx => ?_⟩]
    · have q := (h x).mp (List.mem_cons_of_mem _ hx)
      rcases List.mem_cons.mp q with e | e
      · have := a1 x hx
        omega
      · exact e
    · have q := (h x).mpr (List.mem_cons_of_mem _ hx)
      rcases List.mem_cons.mp q with e | e
      · have := b1 x hx
        omega
      · exact e
def nz (i : Nat) : Int := (i : Int)
theorem nz_asc (n : Nat) (p : Nat → Bool) : (((List.range n).filter p).map nz).Pairwise (· < ·) := by
  rw [List.pairwise_map]
  refine (List.pairwise_lt_range.filter p).imp fun {a b} h => ?_
  show (a : Int) < b
  omega
theorem nz_mem {n : Nat} {p : Nat → Bool} {x : Int} : x ∈ ((List.range n).filter p).map nz ↔ 0 ≤ x ∧ x < n ∧ p x.toNat = true := by
  rw [List.mem_map]
  constructor
  · rintro ⟨i, h, rfl⟩
    rw [List.mem_filter, List.mem_range] at h
    exact ⟨Int.natCast_nonneg _, Int.ofNat_lt.mpr h.1, by rw [show (nz i).toNat = i from Int.toNat_natCast i]; exact h.2⟩
  · rintro ⟨h0, h1, h2⟩
    exact ⟨x.toNat, List.mem_filter.mpr ⟨List.mem_range.mpr (by omega), h2⟩, Int.toNat_of_nonneg h0⟩
/-- a meeting that is possible and changes a state -/
def cM (f : Int × Int → Int × Int) (ns : List Int) (m : Int × Int) : Bool := !decide (f m = m) && canMeet ns m
/-- the seconds for a first one -/
def secs (n : Nat) (c : Int × Int → Bool) (a : Int) : List Int := ((List.range n).filter fun j => c (a, nz j)).map nz
/-- all of them, ascending -/
def prs (n : Nat) (c : Int × Int → Bool) : List (Int × Int) := (List.range n).flatMap fun i => (secs n c (nz i)).map fun j => (nz i, j)
theorem secs_len (n : Nat) (c : Int × Int → Bool) (a : Int) : (secs n c a).length ≤ n := by
  unfold secs
  rw [List.length_map]
  exact Nat.le_trans (List.length_filter_le ..) (Nat.le_of_eq List.length_range)
theorem prs_len (n : Nat) (c : Int × Int → Bool) : (prs n c).length ≤ n * n := by
  unfold prs
  have : ∀ k, ((List.range k).flatMap fun i => (secs n c (nz i)).map fun j => (nz i, j)).length ≤ k * n := by
    intro k
    induction k with
    | zero => simp
    | succ k ih =>
      rw [List.range_succ, List.flatMap_append, List.length_append, Nat.succ_mul]
      have h1 : ([k].flatMap fun i => (secs n c (nz i)).map fun j => (nz i, j)).length ≤ n := by
        rw [List.flatMap_singleton, List.length_map]
        exact secs_len n c _
      omega
  exact this n
theorem prs_mem {n : Nat} {c : Int × Int → Bool} {m : Int × Int} (h : m ∈ prs n c) : InR n m ∧ c m = true := by
  unfold prs at h
  rw [List.mem_flatMap] at h
  obtain ⟨i, hi, h⟩ := h
  rw [List.mem_range] at hi
  obtain ⟨j, hj, rfl⟩ := List.mem_map.mp h
  unfold secs at hj
  obtain ⟨h0, h1, h2⟩ := nz_mem.mp hj
  rw [show nz j.toNat = j from Int.toNat_of_nonneg h0] at h2
  refine ⟨⟨Int.natCast_nonneg _, Int.ofNat_lt.mpr hi, h0, h1⟩, h2⟩
/-- what is left of any ascending list that leaves none out -/
theorem secs_of {n : Nat} {f : Int × Int → Int × Int} {ns l : List Int} {a : Int} (hn : ns.length = n) (h1 : l.Pairwise (· < ·)) (h2 : ∀ j ∈ l, f (a, j) ≠ (a, j)) (h3 : ∀ j : Int, 0 ≤ j → j < n → f (a, j) ≠ (a, j) → 0 < ns.getD j.toNat 0 → j ∈ l) :
    l.filter (fun j => canMeet ns (a, j)) = secs n (cM f ns) a := by
  refine asc_eq (h1.filter _) (nz_asc ..) fun x => ?_
  unfold secs
  rw [nz_mem, List.mem_filter]
  constructor
  · rintro ⟨hx, hc⟩
    have r := canMeet_in hc
    rw [hn] at r
    refine ⟨r.2.2.1, r.2.2.2, ?_⟩
    rw [show nz x.toNat = x from Int.toNat_of_nonneg r.2.2.1]
    unfold cM
    rw [decide_eq_false (h2 x hx), hc]
    rfl
  · rintro ⟨h0, hx, hc⟩
    rw [show nz x.toNat = x from Int.toNat_of_nonneg h0] at hc
    unfold cM at hc
    rw [Bool.and_eq_true, Bool.not_eq_true', decide_eq_false_iff_not] at hc
    refine ⟨h3 x h0 hx hc.1 ?_, hc.2⟩
    have cm := hc.2
    unfold canMeet at cm
    split at cm
    · cases cm
    · split at cm
      · rename_i e
        rw [decide_eq_true_eq] at cm
        have : a = x := e
        subst this
        dsimp only at cm
        omega
      · rw [Bool.and_eq_true, decide_eq_true_eq, decide_eq_true_eq] at cm
        dsimp only at cm
        omega
/-- the states in which there are agents -/
def pres (n : Nat) (ns : List Int) : List Int := ((List.range n).filter fun i => decide (0 < ns.getD i 0)).map nz
theorem flat_filter {α β : Type} (p : α → Bool) (g : α → List β) (h : ∀ a, p a = false → g a = []) : ∀ l : List α, (l.filter p).flatMap g = l.flatMap g
  | [] => rfl
  | a :: l => by
    rw [List.flatMap_cons, List.filter_cons]
    by_cases c : p a = true
    · rw [if_pos c, List.flatMap_cons, flat_filter p g h l]
    · rw [if_neg c, flat_filter p g h l, h a (by simpa using c)]
      rfl
theorem secs_none {n : Nat} {f : Int × Int → Int × Int} {ns : List Int} {i : Nat} (h : decide (0 < ns.getD i 0) = false) : secs n (cM f ns) (nz i) = [] := by
  unfold secs
  rw [List.map_eq_nil_iff, List.filter_eq_nil_iff]
  intro j _ c
  unfold cM at c
  rw [Bool.and_eq_true] at c
  have cm := c.2
  have h' := of_decide_eq_false h
  unfold canMeet at cm
  split at cm
  · cases cm
  · have ei : (nz i).toNat = i := Int.toNat_natCast i
    dsimp only at cm
    rw [ei] at cm
    split at cm
    · rw [decide_eq_true_eq] at cm
      omega
    · rw [Bool.and_eq_true, decide_eq_true_eq, decide_eq_true_eq] at cm
      omega
theorem pres_flat (n : Nat) (f : Int × Int → Int × Int) (ns : List Int) : ((pres n ns).flatMap fun a => (secs n (cM f ns) a).map fun j => (a, j)) = prs n (cM f ns) := by
  unfold pres prs
  rw [List.flatMap_map]
  exact flat_filter _ _ (fun i h => by
    show (secs n (cM f ns) (nz i)).map _ = []
    rw [secs_none h]
    rfl) _
/-- the next places, in the order in which they are found -/
def nextS (f : Int × Int → Int × Int) (ns : List Int) (acc : List (List Int × (Int × Int))) (m : Int × Int) : List (List Int × (Int × Int)) :=
  if movePl ns m (f m) = ns ∨ movePl ns m (f m) ∈ acc.map Prod.fst then acc else acc ++ [(movePl ns m (f m), m)]
def nextL (f : Int × Int → Int × Int) (ns : List Int) (ms : List (Int × Int)) : List (List Int × (Int × Int)) := ms.foldl (nextS f ns) []
theorem nextL_snoc (f : Int × Int → Int × Int) (ns : List Int) {ms : List (Int × Int)} {i : Nat} {m : Int × Int} (h : ms[i]? = some m) : nextL f ns (ms.take (i + 1)) = nextS f ns (nextL f ns (ms.take i)) m := by
  unfold nextL
  rw [List.take_add_one, h]
  exact List.foldl_append ..
theorem nextL_len (f : Int × Int → Int × Int) (ns : List Int) (ms : List (Int × Int)) : (nextL f ns ms).length ≤ ms.length := by
  unfold nextL
  have : ∀ (ms : List (Int × Int)) (acc : List (List Int × (Int × Int))), (ms.foldl (nextS f ns) acc).length ≤ acc.length + ms.length := by
    intro ms
    induction ms with
    | nil => intro acc; exact Nat.le_refl _
    | cons m r ih =>
      intro acc
      rw [List.foldl_cons, List.length_cons]
      have h1 := ih (nextS f ns acc m)
      have h2 : (nextS f ns acc m).length ≤ acc.length + 1 := by
        unfold nextS
        split
        · omega
        · rw [List.length_append]; exact Nat.le_refl _
      omega
  simpa using this ms []
theorem nextL_mem {f : Int × Int → Int × Int} {ns : List Int} : ∀ {ms : List (Int × Int)} {z : List Int}, z ∈ (nextL f ns ms).map Prod.fst → ∃ m ∈ ms, z = movePl ns m (f m) := by
  have : ∀ (ms : List (Int × Int)) (acc : List (List Int × (Int × Int))) (z : List Int), z ∈ (ms.foldl (nextS f ns) acc).map Prod.fst → z ∈ acc.map Prod.fst ∨ ∃ m ∈ ms, z = movePl ns m (f m) := by
    intro ms
    induction ms with
    | nil => intro acc z h; exact .inl h
    | cons m r ih =>
      intro acc z h
      rw [List.foldl_cons] at h
      rcases ih _ _ h with h | ⟨m', h1, h2⟩
      · unfold nextS at h
        split at h
        · exact .inl h
        · rw [List.map_append] at h
          rcases List.mem_append.mp h with h | h
          · exact .inl h
          · exact .inr ⟨m, List.mem_cons_self .., by simpa using h⟩
      · exact .inr ⟨m', List.mem_cons_of_mem _ h1, h2⟩
  intro ms z h
  rcases this ms [] z h with h | h
  · simp at h
  · exact h
theorem putAt_le {pl : List Int} {i : Nat} {c b : Int} (h : ∀ y ∈ pl, y ≤ b) (hc : 0 ≤ b) : ∀ y ∈ putAt pl i c, y ≤ b + (if 0 ≤ c then c else 0) := fun y hy => by
  rcases putAt_mem hy with m | ⟨l, rfl⟩
  · have := h y m
    split <;> omega
  · have := h _ (getD_mem l (d := 0))
    split <;> omega
theorem move_le {ns : List Int} {m r : Int × Int} {b : Int} (h : ∀ y ∈ ns, y ≤ b) (hb : 0 ≤ b) : ∀ y ∈ movePl ns m r, y ≤ b + 2 := by
  unfold movePl
  have h1 := putAt_le (i := m.1.toNat) (c := -1) h hb
  have h2 := putAt_le (i := m.2.toNat) (c := -1) h1 (by omega)
  have h3 := putAt_le (i := r.1.toNat) (c := 1) h2 (by omega)
  have h4 := putAt_le (i := r.2.toNat) (c := 1) h3 (by omega)
  intro y hy
  have := h4 y hy
  simp at this
  omega
/-- the next places have the same length, and are bounded -/
theorem next_ok {n : Nat} {f : Int × Int → Int × Int} {ns : List Int} {b : Int} (h : Fits n ns) (hb : ∀ y ∈ ns, y ≤ b) (b0 : 0 ≤ b) : ∀ z ∈ (nextL f ns (prs n (cM f ns))).map Prod.fst, z.length = n ∧ TS.Bd (b + 3) z := by
  intro z hz
  obtain ⟨m, hm, rfl⟩ := nextL_mem hz
  obtain ⟨_, hc⟩ := prs_mem hm
  unfold cM at hc
  rw [Bool.and_eq_true] at hc
  have fm := move_fits (r := f m) h hc.2
  refine ⟨fm.1, fun y hy => ⟨fm.2 y hy, ?_⟩⟩
  have := move_le (m := m) (r := f m) hb b0 y hy
  omega
theorem fD_ch {D : DD} (v : ValidN D) {i : Nat} {j : Int} : (∃ (n : Nat) (w : Int × Int), (rks D)[n]? = some ((i : Int), j) ∧ (rvs D)[n]? = some w ∧ w ≠ ((i : Int), j)) ↔ fD D ((i : Int), j) ≠ ((i : Int), j) := by
  have nd : (rks D).Nodup := by
    have := (v.valid).nd
    exact this
  unfold fD meetOf
  constructor
  · rintro ⟨n, w, h1, h2, h3⟩
    have mem := List.mem_of_getElem? h1
    rw [if_pos mem]
    have e : (rks D).idxOf ((i : Int), j) = n := by
      have lt := List.idxOf_lt_length_of_mem mem
      have g : (rks D)[(rks D).idxOf ((i : Int), j)]? = some ((i : Int), j) := by
        rw [List.getElem?_eq_getElem lt]
        exact congrArg some (List.getElem_idxOf lt)
      exact nodup_ix nd g h1
    rw [e, List.getD_eq_getElem?_getD, h2]
    exact h3
  · intro h
    by_cases mem : ((i : Int), j) ∈ rks D
    · rw [if_pos mem] at h
      have lt := List.idxOf_lt_length_of_mem mem
      have l2 : (rvs D).length = (rks D).length := by simp [rvs, rks]
      refine ⟨(rks D).idxOf ((i : Int), j), (rvs D)[(rks D).idxOf ((i : Int), j)]'(by omega), ?_, List.getElem?_eq_getElem _, ?_⟩
      · rw [List.getElem?_eq_getElem lt]
        exact congrArg some (List.getElem_idxOf lt)
      · rw [List.getD_eq_getElem?_getD, List.getElem?_eq_getElem (by omega)] at h
        exact h
    · rw [if_neg mem] at h
      exact absurd rfl h
end Vf
namespace Vf
open PySem L2
theorem pair_ne {a b : Int × Int} : (!decide ([a.1, a.2] = [b.1, b.2])) = decide (a ≠ b) := by
  have : ([a.1, a.2] = [b.1, b.2]) ↔ a = b := by
    constructor
    · intro h
      simp only [List.cons.injEq, and_true] at h
      exact Prod.ext h.1 h.2
    · intro h
      rw [h]
  by_cases c : a = b
  · rw [decide_eq_true (this.mpr c), decide_eq_false (fun z => z c)]
    rfl
  · rw [decide_eq_false (fun z => c (this.mp z)), decide_eq_true c]
    rfl
theorem filter_take {α : Type} {p : α → Bool} {l : List α} {i : Nat} {x : α} (h : l[i]? = some x) : (l.take (i + 1)).filter p = (l.take i).filter p ++ if p x = true then [x] else [] := by
  rw [List.take_add_one, h, List.filter_append]
  congr 1
  by_cases c : p x = true
  · rw [if_pos c]
    simp [c]
  · rw [if_neg c]
    simp [c]
theorem range_filter {p : Nat → Bool} {i : Nat} : (List.range (i + 1)).filter p = (List.range i).filter p ++ if p i = true then [i] else [] := by
  rw [List.range_succ, List.filter_append]
  congr 1
  by_cases c : p i = true
  · rw [if_pos c]
    simp [c]
  · rw [if_neg c]
    simp [c]
end Vf
namespace Vf
open PySem L2
section
variable {J : It} {n : Nat} {G : Hp → Prop} {Y : Nat → Hp → V → Hp → Prop} {g g1 : TG} {tt tt1 : TT} {te : TE} {wi1 : TI} {vs vs1 : List Nat} {σ : L2.St} {H1 : Hp} {D : Addr} {Qd : Hp → Prop}
/-- the inner walk of a comprehension of two clauses -/
def LcIn (g1 : TG) (tt1 : TT) (te : TE) (vs1 : List Nat) (D : Addr) (σ2 : L2.St) (Nx : Hp → Prop) (J1 : It) (H4 : Hp) : Prop := ∃ W1 : Nat → Nat → Hp → Prop, (∃ m, W1 0 m H4) ∧ ∀ j k H, W1 j k H →
      (J1.stop j H ∧ Nx H) ∨ (J1.go j H ∧ ∃ Nx1 : Hp → Prop, (∀ H', Nx1 H' → ∃ k', k' < k ∧ W1 (j + 1) k' H') ∧ ∀ x H', J1.yld j H x H' → g1 x (wipe σ2 vs1) H' fun σ3 H5 => wipe σ3 vs1 = wipe σ2 vs1 ∧ tt1 σ3 H5 fun b H6 =>
        if b = true then te σ3 H6 fun y H7 => ∃ acc, H7 D = some (.lst acc) ∧ acc.length < sizeLine ∧ Nx1 (upd H7 D (.lst (acc ++ [y]))) else Nx1 H6)
theorem lc_in (w : Walk J n G Y) (Pv : Nat → Hp → Prop) (h0 : Pv 0 H1) (hG : ∀ i H, i ≤ n → Pv i H → G H)
    (hs : ∀ i x H H', i < n → Pv i H → Y i H x H' → g1 x (wipe σ vs1) H' fun σ2 H2 => wipe σ2 vs1 = wipe σ vs1 ∧ tt1 σ2 H2 fun b H3 =>
      if b = true then te σ2 H3 fun y H4 => ∃ acc, H4 D = some (.lst acc) ∧ acc.length < sizeLine ∧ Pv (i + 1) (upd H4 D (.lst (acc ++ [y]))) else Pv (i + 1) H3) (hd : ∀ H, Pv n H → Qd H) : LcIn g1 tt1 te vs1 D σ Qd J H1 := by
  refine ⟨fun i m H => m = n - i ∧ i ≤ n ∧ Pv i H, ⟨n, by simp, Nat.zero_le _, h0⟩, ?_⟩
  rintro i m H ⟨rfl, hi, p⟩
  have q := hG i H hi p
  by_cases hlt : i < n
  · exact .inr ⟨w.goes i H hlt q, Pv (i + 1), fun H' p' => ⟨n - (i + 1), by omega, rfl, hlt, p'⟩, fun x H' y => hs i x H H' hlt p (w.yields i H x H' hlt q y)⟩
  · have e : i = n := by omega
    subst e
    exact .inl ⟨w.stops H q, hd H p⟩
theorem lc2_it (w : Walk J n G Y) (Pv : Nat → Hp → Prop) (h0 : Pv 0 (upd H1 D (.lst []))) (hG : ∀ i H, i ≤ n → Pv i H → G H)
    (hs : ∀ i x H H', i < n → Pv i H → Y i H x H' → g x (wipe σ vs) H' fun σ2 H2 => wipe σ2 vs = wipe σ vs ∧ tt σ2 H2 fun b H3 =>
      if b = true then wi1 σ2 H3 (LcIn g1 tt1 te vs1 D σ2 (Pv (i + 1))) else Pv (i + 1) H3) (hd : ∀ H, Pv n H → Qd H) :
    ∃ W : Nat → Nat → Hp → Prop, (∃ m, W 0 m (upd H1 D (.lst []))) ∧ ∀ i m H, W i m H →
      (J.stop i H ∧ Qd H) ∨ (J.go i H ∧ ∃ Nx : Hp → Prop, (∀ H', Nx H' → ∃ m', m' < m ∧ W (i + 1) m' H') ∧ ∀ x H', J.yld i H x H' → g x (wipe σ vs) H' fun σ2 H2 => wipe σ2 vs = wipe σ vs ∧ tt σ2 H2 fun b H3 =>
        if b = true then wi1 σ2 H3 (LcIn g1 tt1 te vs1 D σ2 Nx) else Nx H3) := by
  refine ⟨fun i m H => m = n - i ∧ i ≤ n ∧ Pv i H, ⟨n, by simp, Nat.zero_le _, h0⟩, ?_⟩
  rintro i m H ⟨rfl, hi, p⟩
  have q := hG i H hi p
  by_cases hlt : i < n
  · exact .inr ⟨w.goes i H hlt q, Pv (i + 1), fun H' p' => ⟨n - (i + 1), by omega, rfl, hlt, p'⟩, fun x H' y => hs i x H H' hlt p (w.yields i H x H' hlt q y)⟩
  · have e : i = n := by omega
    subst e
    exact .inl ⟨w.stops H q, hd H p⟩
end
theorem pres_ok {n : Nat} {ns : List Int} : (pres n ns).Pairwise (· < ·) ∧ (∀ j ∈ pres n ns, 0 ≤ j ∧ j < n ∧ 0 < ns.getD j.toNat 0) ∧ (∀ j : Int, 0 ≤ j → j < n → 0 < ns.getD j.toNat 0 → j ∈ pres n ns) ∧ (pres n ns).length ≤ n := by
  refine ⟨nz_asc .., fun j h => ?_, fun j h0 h1 h2 => nz_mem.mpr ⟨h0, h1, decide_eq_true h2⟩, ?_⟩
  · obtain ⟨h0, h1, h2⟩ := nz_mem.mp h
    exact ⟨h0, h1, of_decide_eq_true h2⟩
  · unfold pres
    rw [List.length_map]
    exact Nat.le_trans (List.length_filter_le ..) (Nat.le_of_eq List.length_range)
theorem secs_le (n : Nat) (c : Int × Int → Bool) (l : List Int) : (l.flatMap fun a => (secs n c a).map fun j => (a, j)).length ≤ l.length * n := by
  induction l with
  | nil => simp
  | cons a r ih =>
    rw [List.flatMap_cons, List.length_append, List.length_map, List.length_cons, Nat.succ_mul]
    have := secs_len n c a
    omega
end Vf
namespace Vf
open PySem L2
theorem valV_in {κ : Type} [DecidableEq κ] {k : κ} : ∀ {kvs : List (κ × V)}, (valV kvs k).isSome = decide (k ∈ kvs.map Prod.fst)
  | [] => by simp [valV]
  | p :: r => by
    by_cases e : p.1 = k
    · rw [valV_pos e, List.map_cons, e]
      simp
    · rw [valV_neg e, valV_in (kvs := r), List.map_cons]
      refine decide_eq_decide.mpr ⟨fun h => List.mem_cons_of_mem _ h, fun h => ?_⟩
      rcases List.mem_cons.mp h with h | h
      · exact absurd h.symm e
      · exact h
/-- a dict from places to meetings -/
structure PPI (H : Hp) (kvs : List (List Key × V)) (nl : List (List Int × (Int × Int))) : Prop where
  keys : kvs.map (·.1) = (nl.map Prod.fst).map keyI
  vals : Tups encP H (kvs.map (·.2)) (nl.map Prod.snd)
section
variable {H H' : Hp} {kvs : List (List Key × V)} {nl : List (List Int × (Int × Int))}
theorem PPI.mono (p : PPI H kvs nl) (e : ∀ t ys, H t = some (.tup ys) → H' t = some (.tup ys)) : PPI H' kvs nl := ⟨p.keys, p.vals.mono e⟩
theorem PPI.same (p : PPI H kvs nl) (e : Same H H') : PPI H' kvs nl := ⟨p.keys, p.vals.same e⟩
theorem PPI.len (p : PPI H kvs nl) : kvs.length = nl.length := by
  have := congrArg List.length p.keys
  simpa using this
theorem PPI.mem (p : PPI H kvs nl) {z : List Int} : keyI z ∈ kvs.map Prod.fst ↔ z ∈ nl.map Prod.fst := by
  have e : kvs.map Prod.fst = (nl.map Prod.fst).map keyI := p.keys
  rw [e, List.mem_map]
  exact ⟨fun ⟨a, h1, h2⟩ => keyI_inj h2 ▸ h1, fun h => ⟨z, h, rfl⟩⟩
theorem PPI.snoc (p : PPI H kvs nl) {z : List Int} {m : Int × Int} {t : Addr} (e : ∀ t ys, H t = some (.tup ys) → H' t = some (.tup ys)) (h : H' t = some (.tup (encP m))) : PPI H' (kvs ++ [(keyI z, .ref t)]) (nl ++ [(z, m)]) := by
  refine ⟨by rw [List.map_append, List.map_append, List.map_append, p.keys]; rfl, ?_⟩
  rw [List.map_append, List.map_append]
  exact (p.vals.mono e).snoc h
end
end Vf
theorem Vf.dec_of {p : Prop} {i : Decidable p} (h : @decide p i = true) : p := by
  cases i with
  | isTrue h' => exact h'
  | isFalse h' => exact absurd h (by simp [decide])
namespace Vf
open PySem L2
def tD (z : List Int) : PyData := .tuple (z.map PyData.int)
theorem dpAll_tups {K : PySem.W.Frag} {H : Hp} : ∀ {xs : List V} {zs : List (List Int)}, Tups encIs H xs zs → DpAll K H xs (zs.map tD)
  | [], [], _ => .nil
  | [], m :: r, t => by have := t.1; simp at this
  | x :: xs, [], t => by have := t.1; simp at this
  | x :: xs, z :: r, t => by
    obtain ⟨u, e1, e2⟩ := t.2 0 z rfl
    obtain rfl : x = .ref u := Option.some.inj e1
    refine .cons (.tup (SqT.of e2) (dpAll_ints z)) (dpAll_tups ⟨Nat.succ.inj t.1, fun i a e => ?_⟩)
    exact t.2 (i + 1) a e
theorem shaped_list_ints (ns : List Int) : PyData.canLayAll0 (ns.map PyData.int) = true ∧ PyData.depthAll (ns.map PyData.int) ≤ 1 := by
  induction ns with
  | nil => simp [PyData.canLayAll0, PyData.depthAll]
  | cons a r ih =>
    constructor
    · simp [PyData.canLayAll0, PyData.canLay0, ih.1]
    · simp only [List.map_cons, PyData.depthAll, PyData.depth]
      have := ih.2
      omega
theorem shaped_list_tups (zs : List (List Int)) : PyData.canLayAll0 (zs.map tD) = true ∧ PyData.depthAll (zs.map tD) ≤ 2 := by
  induction zs with
  | nil => simp [PyData.canLayAll0, PyData.depthAll]
  | cons a r ih =>
    obtain ⟨a1, a2⟩ := shaped_list_ints a
    constructor
    · simp only [List.map_cons, PyData.canLayAll0, tD, PyData.canLay0, a1, Bool.true_and]
      exact ih.1
    · simp only [List.map_cons, PyData.depthAll, tD, PyData.depth]
      have := ih.2
      omega
theorem shaped_tups (zs : List (List Int)) : SeqAt.shaped (.list (zs.map tD)) = true := by
  obtain ⟨h0, h1⟩ := shaped_list_tups zs
  have h2 : PyData.depth (.list (zs.map tD)) ≤ 64 := by
    simp only [PyData.depth]
    omega
  show (PyData.canLay0 (.list (zs.map tD)) && decide (PyData.depth (.list (zs.map tD)) ≤ 64)) = true
  rw [Bool.and_eq_true]
  exact ⟨by simp only [PyData.canLay0]; exact h0, decide_eq_true h2⟩
theorem eqv_tups (zs : List (List Int)) : PyData.eqv (.list (zs.map tD)) (.list (zs.map tD)) = true :=
  PySem.SeqAt.eqv_refl _ (by simp only [PyData.canLay0]; exact (shaped_list_tups zs).1)
theorem eqv_tD (a b : List Int) : PyData.eqv (tD a) (tD b) = decide (a = b) :=
  (PySem.W.Datum.eqv (α := PySem.W.Tup Int) ⟨a⟩ ⟨b⟩).trans (decide_eq_decide.mpr ⟨fun e => congrArg PySem.W.Tup.items e, fun e => by rw [e]⟩)
theorem any_tD (z : List Int) : ∀ zs : List (List Int), ((zs.map tD).any fun x => PyData.eqv x (tD z)) = decide (z ∈ zs)
  | [] => by simp
  | a :: r => by
    rw [List.map_cons, List.any_cons, any_tD z r, eqv_tD]
    by_cases e : a = z
    · rw [e]; simp
    · rw [decide_eq_false e, Bool.false_or]
      refine decide_eq_decide.mpr ⟨fun h => List.mem_cons_of_mem _ h, fun h => ?_⟩
      rcases List.mem_cons.mp h with h | h
      · exact absurd h.symm e
      · exact h
end Vf

/-! ### set comprehensions, by what a set tracks -/
namespace Vf
open PySem PySem.Spec PyProof.Rows L2
/-- an empty set's object -/
abbrev noneIn (w : World) : Obj := { cls := .type "set", dict := none, data := .set #[] 0 (.fresh 0 0 (!w.params.followText "set-order")) }
structure SetLike (P : Program) (w : World) {τ : Type} (SO : Addr → τ → HO) (z : τ) (grow : τ → V → τ → Prop) : Prop where
  fresh : ∀ (H : Hp) (h : Heap), ObjOk P w H (h.push (noneIn w)) h.objs.size (SO h.objs.size z)
  put : ∀ {X : Cx}, X.prog = P → X.w = w → ∀ {pins : List (Addr × Obj)} {σ : L2.St} {H : Hp} {s : Shared} {E : Value → Shared → Prop} {D : Addr} {t t' : τ} {y : V} {u : Value} {Q : Value → Shared → Prop}, Inv X pins σ H s → RelV y u → H D = some (SO D t) → grow t y t' →
    (∀ s', Inv X pins σ (upd H D (SO D t')) s' → Q .none s') → wpAny (model X.prog X.w) X.A (call (.builtin "set.add") [.ref D, u]) Q E s
def tScG {τ : Type} (SO : Addr → τ → HO) (z : τ) (grow : τ → V → τ → Prop) (wi : TI) (g : TG) (tt : TT) (te : TE) (vs : List Nat) : TE := fun σ H Q => wi σ H fun J H1 => ∀ D, H1 D = none → ∃ W : Nat → Nat → Hp → Prop, (∃ m, W 0 m (upd H1 D (SO D z))) ∧ ∀ i m H, W i m H →
  (J.stop i H ∧ Q (.ref D) H) ∨ (J.go i H ∧ ∃ Nx : Hp → Prop, (∀ H', Nx H' → ∃ m', m' < m ∧ W (i + 1) m' H') ∧ ∀ x H', J.yld i H x H' → g x (wipe σ vs) H' fun σ2 H2 => wipe σ2 vs = wipe σ vs ∧ tt σ2 H2 fun b H3 =>
    if b = true then te σ2 H3 fun y H4 => ∃ t t' : τ, H4 D = some (SO D t) ∧ grow t y t' ∧ Nx (upd H4 D (SO D t')) else Nx H3)
section
variable {X : Cx} {τ : Type} {SO : Addr → τ → HO} {z : τ} {grow : τ → V → τ → Prop}
theorem pe_scG (L : SetLike X.prog X.w SO z grow) {elt tg iter : Expr} {ifs : List Expr} {scope : Scope} {own : List (Str × Nat)} {pos : Pos} {wi : TI} {g : TG} {tt : TT} {te : TE} (hc : X.calm = true) (hN : X.N.Nodup) (hi : PI X tg iter wi) (ok : BlkOk X.N X.env.scope scope own)
    (hg : ∀ (s : Shared) (H : Hp) (C : Addr) (cl : List (Str × Addr)) (fp : List Addr), PG (X.blk s H scope (compEnvC scope cl C X.env) fp) tg g)
    (ht : ∀ (s : Shared) (H : Hp) (C : Addr) (cl : List (Str × Addr)) (fp : List Addr), PTs (X.blk s H scope (compEnvC scope cl C X.env) fp) ifs tt)
    (he : ∀ (s : Shared) (H : Hp) (C : Addr) (cl : List (Str × Addr)) (fp : List Addr), PE (X.blk s H scope (compEnvC scope cl C X.env) fp) elt te)
    (hs : ∀ x, foldedSetIterable iter X.env x = pure x := by intro _; rfl) : PE X (.SetComp elt [⟨tg, iter, ifs, 0⟩] scope pos) (tScG SO z grow wi g tt te (own.map (·.2))) := by
  constructor
  intro pins s σ H Q I h
  rw [PpSet.eval_SetComp]
  have free : ∀ y ∈ scope.names, y.2 = .free → ∃ c, X.env.cells.lookup y.1 = some c := fun y hy e => I.ok.has _ (by exact ok.free y hy e)
  refine wpAny_comprehension_free (use := none) rfl hs (closure_ok free) ok.kind (fun y hy e => by rw [ok.uniq y hy, e]) (thn (hi.run pins s σ H _ I h) fun xv s1 hx => thn hx fun itv s2 got => ?_)
  obtain ⟨it, fp, tn, J, H2, rfl, I2, T, st2, f2, q⟩ := got
  refine PpSet.newSet_ok (newEnv_comp ?_)
  obtain ⟨D, hD⟩ : ∃ D, D = s2.heap.objs.size := ⟨_, rfl⟩
  obtain ⟨W, ⟨m0, w0⟩, turn⟩ := q D (I2.hok.fresh (Nat.le_of_eq hD.symm))
  rw [← hD]
  obtain ⟨s3, es3⟩ : ∃ s3 : Shared, s3 = { s2 with heap := s2.heap.push (noneIn X.w) } := ⟨_, rfl⟩
  have h3 : s3.heap = s2.heap.push (noneIn X.w) := by rw [es3]
  have I3 : Inv X pins σ (upd H2 D (SO D z)) s3 := by
    rw [es3]
    refine I2.laid (t' := s2.toks) (fun b o e => Heap.get?_push_of_some _ e) (Nat.le_of_eq hD.symm) ?_
    have fr := L.fresh (upd H2 D (SO D z)) s2.heap
    rw [← hD] at fr
    exact fr
  have below : ∀ b ∈ fp, b < s2.heap.objs.size := fun b hb => Heap.lt_size (T.obj _ _ st2 b hb).choose_spec.1
  have f3 : ∀ b ∈ fp, FpOk X pins (upd H2 D (SO D z)) b ∧ b < s3.heap.objs.size := fun b hb => by
    have lt := below b hb
    have ne : b ≠ D := by rw [hD]; exact Nat.ne_of_lt lt
    refine ⟨⟨?_, (f2 b hb).2⟩, ?_⟩
    · rw [upd_ne ne]
      exact (f2 b hb).1
    · rw [h3, Heap.size_push]
      exact Nat.lt_succ_of_lt lt
  have st3 : tn 0 s3.heap := T.keep _ _ _ st2 fun b _ o e => by rw [h3]; exact Heap.get?_push_of_some _ e
  have I4 := block_start I3 ok hN f3
  have pg := hg s3 (upd H2 D (SO D z)) s3.heap.objs.size (cellsFrom (s3.heap.objs.size + 1) scope.names (cloFrom X.env.cells scope.names [])) fp
  have pt := ht s3 (upd H2 D (SO D z)) s3.heap.objs.size (cellsFrom (s3.heap.objs.size + 1) scope.names (cloFrom X.env.cells scope.names [])) fp
  have pe := he s3 (upd H2 D (SO D z)) s3.heap.objs.size (cellsFrom (s3.heap.objs.size + 1) scope.names (cloFrom X.env.cells scope.names [])) fp
  have done : ∀ (s' : Shared) (m : Str → Option Value) (H' : Hp), Inv X pins σ H' s' → Q (.ref D) H' → s'.heap.Ns s3.heap.objs.size m → FpOk X pins H' s3.heap.objs.size → compPost (model X.prog X.w) X.A X.xe none (EP X pins σ Q) (.ref D) s3.heap.objs.size (.ok .next) s' := fun s' m H' I' qq hn f => ⟨m, hn, fun h'' sb => by
    obtain ⟨a0, a1, a2, a3, a4, a5⟩ := f
    exact ⟨.ref D, H', I'.turned (t' := s'.toks) (fun b o hb e => (sb.2 b hb).trans e) a0 a1 a3 a4 a5, rfl, qq⟩⟩
  have fin0 : ∀ {s4 : Shared} {ce : Env}, ce = compEnvC scope (cellsFrom (s3.heap.objs.size + 1) scope.names (cloFrom X.env.cells scope.names [])) s3.heap.objs.size X.env →
      s4 = { s3 with heap := pushCells (s3.heap.push { cls := .type "dict", data := .dict #[] }) scope.names } → codeAny (model X.prog X.w) X.A (.compStart (.SetComp elt [⟨tg, iter, ifs, 0⟩] scope pos) 0 (.ref it) (.ref D) ce) (compPost (model X.prog X.w) X.A X.xe none (EP X pins σ Q) (.ref D) s3.heap.objs.size) s4 := by
    intro s4 ce ece es4
    rw [← ece] at I4 pg pt pe
    rw [← es4] at I4
    have cL : ce.locals = s3.heap.objs.size := by rw [ece]; rfl
    have st4 : tn 0 s4.heap := T.keep _ _ _ st3 fun b _ o e => by rw [es4]; exact pushCells_keeps _ _ _ _ (Heap.get?_push_of_some _ e)
    have un : ∀ b ∈ fp, (upd H2 D (SO D z)) b = none := fun b hb => (f3 b hb).1.1
    generalize upd H2 D (SO D z) = H3 at I3 I4 pg pt pe w0 un f3
    have stat : ∀ {σ' : L2.St} {H' : Hp} {s' : Shared}, Inv (X.blk s3 H3 scope ce fp) [] σ' H' s' → (∀ b ∈ fp, H' b = none) → ∀ b ∈ fp, FpOk (X.blk s3 H3 scope ce fp) [] H' b := fun {σ' H' s'} I' hn b hb => by
      refine ⟨hn b hb, (I'.ok.exf b hb).1, I'.ok.exfs b hb, .inl hb, fun x c e => (I'.ok.exf b hb).2 x c e, fun p hp => ?_⟩
      simp at hp
    have loop : codeAny (model X.prog X.w) X.A (.compLoop (.SetComp elt [⟨tg, iter, ifs, 0⟩] scope pos) 0 (.ref it) (.ref D) ce) (compPost (model X.prog X.w) X.A X.xe none (EP X pins σ Q) (.ref D) s3.heap.objs.size) s4 := by
      refine PpSet.compLoopS_any (fun n s' => ∃ i H', Inv (X.blk s3 H3 scope ce fp) [] (wipe σ (own.map (·.2))) H' s' ∧ tn i s'.heap ∧ (∀ b ∈ fp, H' b = none) ∧ W i n H') (fun n s5 hI => ?_) m0 ⟨0, H3, I4, st4, un, w0⟩
      obtain ⟨i, H5, I5, st5, n5, w5⟩ := hI
      rcases turn i n H5 w5 with ⟨stop, qq⟩ | ⟨go, Nx, hNx, step⟩
      · refine thnF (T.done (X.blk s3 H3 scope ce fp) rfl rfl rfl hc i [] s5 _ H5 (fun _ _ => False) I5 (stat I5 n5) st5 stop) fun r s6 ⟨hr, I6⟩ => ?_
        subst hr
        have I7 : Inv X pins σ H5 s6 := I3.call' (ch := fp) I6.os I6.base I6.hok I6.bare fun b hb => ⟨(f3 b hb).1.2.2.2.1, (f3 b hb).1.2.1, (f3 b hb).1.2.2.2.2.1, (f3 b hb).1.2.2.2.2.2⟩
        obtain ⟨m, hn, _⟩ := I6.loc
        have fr : H5 ce.locals = none := I6.free
        have hn : s6.heap.Ns ce.locals m := hn
        rw [cL] at hn fr
        exact done s6 m H5 I7 qq hn (I3.fpOk (Nat.le_refl _) fr)
      · refine thnF (T.item (X.blk s3 H3 scope ce fp) rfl rfl rfl hc i [] s5 _ H5 (fun _ _ => False) I5 (stat I5 n5) st5 go) fun r s6 ⟨u, hr, h6⟩ => ?_
        subst hr
        refine thnF h6 fun _ s7 ⟨x, H7, I7, r7, y7, st7, n7⟩ => ?_
        have I8 := I7.pinned (stat I7 n7) (T.obj _ _ st7)
        refine thnF (pg.run _ s7 _ H7 x u _ I8 r7 (step x H7 y7)) fun _ s8 ⟨σ8, H8, I9, hw8, q8⟩ => ?_
        refine thnF (pt.run _ s8 σ8 H8 _ I9 q8) fun b s9 ⟨H9, I10, q9⟩ => ?_
        have next : ∀ {s' : Shared} {H' : Hp}, Inv (X.blk s3 H3 scope ce fp) ([] ++ pinsAt fp s7.heap) σ8 H' s' → Nx H' → ∃ m, m < n ∧ ∃ i H', Inv (X.blk s3 H3 scope ce fp) [] (wipe σ (own.map (·.2))) H' s' ∧ tn i s'.heap ∧ (∀ b ∈ fp, H' b = none) ∧ W i m H' := fun {s' H'} I' nx => by
          obtain ⟨m', hm, w'⟩ := hNx H' nx
          have held : ∀ b ∈ fp, ∀ o, s7.heap.get? b = some o → s'.heap.get? b = some o ∧ H' b = none := fun b hb o e => by
            have zz := I'.pin (b, o) (List.mem_append_right _ (List.mem_append_right _ (mem_pinsAt hb e)))
            exact ⟨zz.1, zz.2.1⟩
          refine ⟨m', hm, i + 1, H', (I'.unpinned (pins := [])).weak (by rw [← hw8, wipe_length]) (fun j v e => ?_), T.keep _ _ _ st7 fun b hb o e => (held b hb o e).1, fun b hb => ?_, w'⟩
          · rw [← hw8] at e
            exact (wipe_some e).1
          · obtain ⟨o, e, _⟩ := T.obj _ _ st7 b hb
            exact (held b hb o e).2
        cases b with
        | false =>
          simp only [Bool.false_eq_true, if_false] at q9 ⊢
          exact next I10 q9
        | true =>
          simp only [if_true] at q9 ⊢
          refine thnF (pe.run _ s9 σ8 H9 _ I10 q9) fun uv s10 ⟨yv, H10, I11, r10, t, t', hD10, gr, nx⟩ => ?_
          exact L.put (X := X.blk s3 H3 scope ce fp) rfl rfl I11 r10 hD10 gr fun s11 I12 => next I12 nx
    exact PpSet.codeAny_compStart_set loop (T.self X.A 0 _ _ _ st4 loop)
  have last := fin0 rfl rfl
  subst es3
  exact last
end
/-- a set of whole numbers -/
def soI (w : World) (a : Addr) (t : (Int → Bool) × Nat) : HO := SetO w a t.1 t.2
def zI : (Int → Bool) × Nat := (fun _ => false, 0)
def growI (t : (Int → Bool) × Nat) (y : V) (t' : (Int → Bool) × Nat) : Prop := ∃ k : Int, y = .int k ∧ t.2 + 1 < scanBound ∧ t' = (fun j => t.1 j || decide (j = k), if t.1 k = true then t.2 else t.2 + 1)
theorem setLikeI (P : Program) (w : World) : SetLike P w (soI w) zI growI where
  fresh H h := setO_new (setR_fresh w)
  put := by
    rintro X rfl rfl pins σ H s E D t t' y u Q I r hD ⟨k, rfl, room, rfl⟩ h
    obtain ⟨tk, rfl⟩ := r
    refine setR_add (setO_get I hD) room fun h' sb new => ?_
    obtain ⟨o, es, ep, tb, ho, _⟩ := id new
    exact h _ (I.write (e := D) (t' := s.toks + 1) (by rw [hD]; trivial) (.inl rfl) (fun b u hb hu => (sb.2 b hb).trans hu) ⟨o, ho⟩ (setO_new new))
theorem pe_scI {X : Cx} {elt tg iter : Expr} {ifs : List Expr} {scope : Scope} {own : List (Str × Nat)} {pos : Pos} {wi : TI} {g : TG} {tt : TT} {te : TE} (hc : X.calm = true) (hN : X.N.Nodup) (hi : PI X tg iter wi) (ok : BlkOk X.N X.env.scope scope own)
    (hg : ∀ (s : Shared) (H : Hp) (C : Addr) (cl : List (Str × Addr)) (fp : List Addr), PG (X.blk s H scope (compEnvC scope cl C X.env) fp) tg g)
    (ht : ∀ (s : Shared) (H : Hp) (C : Addr) (cl : List (Str × Addr)) (fp : List Addr), PTs (X.blk s H scope (compEnvC scope cl C X.env) fp) ifs tt)
    (he : ∀ (s : Shared) (H : Hp) (C : Addr) (cl : List (Str × Addr)) (fp : List Addr), PE (X.blk s H scope (compEnvC scope cl C X.env) fp) elt te)
    (hs : ∀ x, foldedSetIterable iter X.env x = pure x := by intro _; rfl) : PE X (.SetComp elt [⟨tg, iter, ifs, 0⟩] scope pos) (tScG (soI X.w) zI growI wi g tt te (own.map (·.2))) := pe_scG (setLikeI X.prog X.w) hc hN hi ok hg ht he hs
section
variable {τ : Type} {SO : Addr → τ → HO} {z : τ} {grow : τ → V → τ → Prop} {J : It} {n : Nat} {G : Hp → Prop} {Y : Nat → Hp → V → Hp → Prop} {g : TG} {tt : TT} {te : TE} {vs : List Nat} {σ : L2.St} {H1 : Hp} {D : Addr} {Qd : Hp → Prop}
theorem sc_it (w : Walk J n G Y) (Pv : Nat → Hp → Prop) (h0 : Pv 0 (upd H1 D (SO D z))) (hG : ∀ i H, i ≤ n → Pv i H → G H)
    (hs : ∀ i x H H', i < n → Pv i H → Y i H x H' → g x (wipe σ vs) H' fun σ2 H2 => wipe σ2 vs = wipe σ vs ∧ tt σ2 H2 fun b H3 =>
      if b = true then te σ2 H3 fun y H4 => ∃ t t' : τ, H4 D = some (SO D t) ∧ grow t y t' ∧ Pv (i + 1) (upd H4 D (SO D t')) else Pv (i + 1) H3) (hd : ∀ H, Pv n H → Qd H) :
    ∃ W : Nat → Nat → Hp → Prop, (∃ m, W 0 m (upd H1 D (SO D z))) ∧ ∀ i m H, W i m H →
      (J.stop i H ∧ Qd H) ∨ (J.go i H ∧ ∃ Nx : Hp → Prop, (∀ H', Nx H' → ∃ m', m' < m ∧ W (i + 1) m' H') ∧ ∀ x H', J.yld i H x H' → g x (wipe σ vs) H' fun σ2 H2 => wipe σ2 vs = wipe σ vs ∧ tt σ2 H2 fun b H3 =>
        if b = true then te σ2 H3 fun y H4 => ∃ t t' : τ, H4 D = some (SO D t) ∧ grow t y t' ∧ Nx (upd H4 D (SO D t')) else Nx H3) := by
  refine ⟨fun i m H => m = n - i ∧ i ≤ n ∧ Pv i H, ⟨n, by simp, Nat.zero_le _, h0⟩, ?_⟩
  rintro i m H ⟨rfl, hi, p⟩
  have q := hG i H hi p
  by_cases hlt : i < n
  · exact .inr ⟨w.goes i H hlt q, Pv (i + 1), fun H' p' => ⟨n - (i + 1), by omega, rfl, hlt, p'⟩, fun x H' y => hs i x H H' hlt p (w.yields i H x H' hlt q y)⟩
  · have e : i = n := by omega
    subst e
    exact .inl ⟨w.stops H q, hd H p⟩
end
/-- what comes out at a place, up to the i-th state -/
def OutAt (ou ns : List Int) (i : Nat) (k : Int) : Prop := ∃ j : Nat, j < i ∧ ou[j]? = some k ∧ ∃ c, ns[j]? = some c ∧ 0 < c
def totalOf (ou ns : List Int) : Int := ((ou.zip ns).map fun x => x.1 * x.2).sum
theorem OutAt.succ {ou ns : List Int} {i : Nat} {k o c : Int} (ho : ou[i]? = some o) (hc : ns[i]? = some c) : OutAt ou ns (i + 1) k ↔ OutAt ou ns i k ∨ (k = o ∧ 0 < c) := by
  constructor
  · rintro ⟨j, hj, h1, c1, h2, h3⟩
    by_cases e : j = i
    · subst e
      rw [ho] at h1
      rw [hc] at h2
      cases h1
      cases h2
      exact .inr ⟨rfl, h3⟩
    · exact .inl ⟨j, by omega, h1, c1, h2, h3⟩
  · rintro (⟨j, hj, r⟩ | ⟨rfl, h⟩)
    · exact ⟨j, by omega, r⟩
    · exact ⟨i, by omega, ho, c, hc, h⟩
theorem zip_at {α β : Type} {l : List α} {m : List β} {i : Nat} {a : α} {b : β} (h1 : l[i]? = some a) (h2 : m[i]? = some b) : (l.zip m)[i]? = some (a, b) := by
  rw [List.getElem?_zip_eq_some]
  exact ⟨h1, h2⟩
theorem totalOf_succ {ou ns : List Int} {i : Nat} {o c : Int} (ho : ou[i]? = some o) (hc : ns[i]? = some c) : ((((ou.zip ns).map fun x => x.1 * x.2).take (i + 1)).sum) = (((ou.zip ns).map fun x => x.1 * x.2).take i).sum + o * c := by
  have e : ((ou.zip ns).map fun x => x.1 * x.2)[i]? = some (o * c) := by
    rw [List.getElem?_map, zip_at ho hc]
    rfl
  rw [List.take_succ, e, List.sum_append]
  simp
/-- two ways that meet again: what comes behind is shown once -/
theorem seq_join {t u : TS} {D : Ends} {σ : L2.St} {H : Hp} (R : L2.St → Hp → Prop) (h1 : ∀ nx : L2.St → Hp → Prop, (∀ σ' H', R σ' H' → nx σ' H') → t { D with nx := nx } σ H) (h2 : ∀ σ' H', R σ' H' → u D σ' H') : tSeq t u D σ H := h1 (u D) h2
theorem inV_int (s : Int) (l : List Int) : inV (.int s) (l.map V.int) = decide (s ∈ l) := by
  unfold inV
  rw [Bool.eq_iff_iff, List.any_eq_true, decide_eq_true_iff]
  constructor
  · rintro ⟨y, hy, h⟩
    obtain ⟨t, ht, rfl⟩ := List.mem_map.mp hy
    have e : decide (t = s) = true := h
    rw [← of_decide_eq_true e]
    exact ht
  · intro h
    exact ⟨.int s, List.mem_map.mpr ⟨s, h, rfl⟩, (decide_eq_true rfl : decide (s = s) = true)⟩
theorem flat_int (l : List Int) : (l.map V.int).all flatV = true := by
  rw [List.all_eq_true]
  intro x hx
  obtain ⟨t, _, rfl⟩ := List.mem_map.mp hx
  rfl
theorem asc_of {l : List Int} (h : l.Pairwise (· ≤ ·)) (n : l.Nodup) : l.Pairwise (· < ·) := (h.and n).imp fun ⟨a, b⟩ => by omega
end Vf

namespace Vf
open PySem L2
theorem sum_set : ∀ {l : List Int} {i : Nat} {c : Int}, i < l.length → (l.set i (l.getD i 0 + c)).sum = l.sum + c
  | [], i, c, h => by simp at h
  | a :: r, 0, c, _ => by simp; omega
  | a :: r, i + 1, c, h => by
    have h' : i < r.length := by simpa using h
    have e := sum_set (c := c) h'
    rw [show (a :: r).getD (i + 1) 0 = r.getD i 0 from rfl, List.set_cons_succ, List.sum_cons, List.sum_cons, e]
    omega
theorem putAt_sum {l : List Int} {i : Nat} {c : Int} (h : i < l.length) : (putAt l i c).sum = l.sum + c := sum_set h
theorem move_sum {ns : List Int} {m r : Int × Int} (h : InR ns.length m) (h' : InR ns.length r) : (movePl ns m r).sum = ns.sum := by
  obtain ⟨a0, a1, b0, b1⟩ := h
  obtain ⟨c0, c1, d0, d1⟩ := h'
  unfold movePl
  rw [putAt_sum (by rw [putAt_len, putAt_len, putAt_len]; omega), putAt_sum (by rw [putAt_len, putAt_len]; omega), putAt_sum (by rw [putAt_len]; omega), putAt_sum (by omega)]
  omega
theorem in_sum {D : DD} (v : ValidN D) : ∀ (ps : List (Str × Str)) (cs pl : List Int), pl.length = D.st.length → ps.length = cs.length → (∀ p ∈ ps, p.2 ∈ D.st) → ((ps.zip cs).foldl (fun pl pc => putAt pl (D.st.idxOf pc.1.2) pc.2) pl).sum = pl.sum + cs.sum
  | [], [], pl, _, _, _ => by simp
  | [], _ :: _, _, _, h, _ => by simp at h
  | _ :: _, [], _, _, h, _ => by simp at h
  | p :: ps, c :: cs, pl, hl, hh, hm => by
    rw [List.zip_cons_cons, List.foldl_cons, in_sum v ps cs _ ((putAt_len ..).trans hl) (by simpa using hh) fun q hq => hm q (List.mem_cons_of_mem _ hq), List.sum_cons, putAt_sum (by rw [hl]; exact List.idxOf_lt_length_of_mem (hm p (List.mem_cons_self ..)))]
    omega
theorem ld_sum {D : DD} : ∀ (ls : List Str) (pl : List Int), pl.length = D.st.length → (∀ s ∈ ls, s ∈ D.st) → (ldPl D ls pl).sum = pl.sum + ls.length
  | [], pl, _, _ => by simp [ldPl]
  | s :: r, pl, hl, hm => by
    have e : ldPl D (s :: r) pl = ldPl D r (putAt pl (D.st.idxOf s) 1) := rfl
    rw [e, ld_sum r _ ((putAt_len ..).trans hl) fun q hq => hm q (List.mem_cons_of_mem _ hq), putAt_sum (by rw [hl]; exact List.idxOf_lt_length_of_mem (hm s (List.mem_cons_self ..))), List.length_cons]
    omega
theorem zero_sum (n : Nat) : (List.replicate n (0 : Int)).sum = 0 := by
  induction n with
  | zero => rfl
  | succ n ih => rw [List.replicate_succ, List.sum_cons, ih]; rfl
theorem first_sum {D : DD} (v : ValidN D) {cs : List Int} (h : cs.length = D.ins.length) : (firstPl D cs).sum = cs.sum + D.ld.length := by
  unfold firstPl
  rw [ld_sum _ _ (inPl_len ..) v.ldm]
  unfold inPl
  rw [in_sum v _ _ _ (List.length_replicate ..) h.symm fun p hp => (v.inm p hp).2, zero_sum]
  omega
theorem in_nn {D : DD} (n : Nat) : ∀ (ps : List (Str × Str)) (cs pl : List Int), (∀ y ∈ pl, 0 ≤ y) → (∀ y ∈ cs, 0 ≤ y) → ∀ y ∈ (ps.zip cs).foldl (fun pl pc => putAt pl (D.st.idxOf pc.1.2) pc.2) pl, 0 ≤ y
  | [], cs, pl, h, _ => by simpa using h
  | _ :: _, [], pl, h, _ => by simpa using h
  | p :: ps, c :: cs, pl, h, hc => by
    rw [List.zip_cons_cons, List.foldl_cons]
    refine in_nn n ps cs _ (fun y hy => ?_) fun y hy => hc y (List.mem_cons_of_mem _ hy)
    have c0 := hc c (List.mem_cons_self ..)
    rcases putAt_mem hy with m | ⟨l, rfl⟩
    · exact h y m
    · have := h _ (getD_mem l (d := 0))
      dsimp only at l this ⊢
      omega
theorem ld_nn {D : DD} : ∀ (ls : List Str) (pl : List Int), (∀ y ∈ pl, 0 ≤ y) → ∀ y ∈ ldPl D ls pl, 0 ≤ y
  | [], pl, h => h
  | s :: r, pl, h => by
    refine ld_nn r _ fun y hy => ?_
    rcases putAt_mem hy with m | ⟨l, rfl⟩
    · exact h y m
    · have := h _ (getD_mem l (d := 0))
      omega
theorem first_fits {D : DD} {cs : List Int} (h : ∀ y ∈ cs, 0 ≤ y) : Fits D.st.length (firstPl D cs) := by
  refine ⟨(ldPl_len ..).trans (inPl_len ..), ld_nn _ _ (in_nn D.st.length _ _ _ (fun y hy => ?_) h)⟩
  rw [List.eq_of_mem_replicate hy]
  exact Int.le_refl _
theorem le_sum : ∀ {l : List Int}, (∀ y ∈ l, 0 ≤ y) → ∀ i, l.getD i 0 ≤ l.sum ∧ 0 ≤ l.sum
  | [], _, i => by simp
  | a :: r, h, i => by
    have a0 := h a (List.mem_cons_self ..)
    have ih := le_sum (l := r) fun y hy => h y (List.mem_cons_of_mem _ hy)
    rw [List.sum_cons]
    cases i with
    | zero =>
      have := (ih 0).2
      show a ≤ _ ∧ _
      omega
    | succ i =>
      have := ih i
      show r.getD i 0 ≤ _ ∧ _
      omega
theorem le_sum2 : ∀ {l : List Int}, (∀ y ∈ l, 0 ≤ y) → ∀ i j, i ≠ j → l.getD i 0 + l.getD j 0 ≤ l.sum
  | [], _, i, j, _ => by simp
  | a :: r, h, i, j, ne => by
    have a0 := h a (List.mem_cons_self ..)
    have hr : ∀ y ∈ r, 0 ≤ y := fun y hy => h y (List.mem_cons_of_mem _ hy)
    rw [List.sum_cons]
    cases i with
    | zero =>
      cases j with
      | zero => exact absurd rfl ne
      | succ j =>
        have := (le_sum hr j).1
        show a + r.getD j 0 ≤ _
        omega
    | succ i =>
      cases j with
      | zero =>
        have := (le_sum hr i).1
        show r.getD i 0 + a ≤ _
        omega
      | succ j =>
        have := le_sum2 hr i j (fun e => ne (by rw [e]))
        show r.getD i 0 + r.getD j 0 ≤ _
        omega
/-- fewer than two agents do not meet -/
theorem canMeet_two {ns : List Int} {m : Int × Int} (h : ∀ y ∈ ns, 0 ≤ y) (c : canMeet ns m = true) : 2 ≤ ns.sum := by
  have r := canMeet_in c
  unfold canMeet at c
  split at c
  · cases c
  · split at c
    · rw [decide_eq_true_eq] at c
      have := (le_sum h m.1.toNat).1
      omega
    · rename_i ne
      rw [Bool.and_eq_true, decide_eq_true_eq, decide_eq_true_eq] at c
      have := le_sum2 h m.1.toNat m.2.toNat (fun e => ne (by obtain ⟨a, _, b, _⟩ := r; omega))
      omega
theorem nextL_all {f : Int × Int → Int × Int} {ns : List Int} {m : Int × Int} (ne : movePl ns m (f m) ≠ ns) : ∀ {ms : List (Int × Int)}, m ∈ ms → movePl ns m (f m) ∈ (nextL f ns ms).map Prod.fst := by
  have keep : ∀ (ms : List (Int × Int)) (acc : List (List Int × (Int × Int))) (z : List Int), z ∈ acc.map Prod.fst → z ∈ (ms.foldl (nextS f ns) acc).map Prod.fst := by
    intro ms
    induction ms with
    | nil => intro acc z h; exact h
    | cons a r ih =>
      intro acc z h
      rw [List.foldl_cons]
      refine ih _ _ ?_
      unfold nextS
      split
      · exact h
      · rw [List.map_append]
        exact List.mem_append_left _ h
  have go : ∀ (ms : List (Int × Int)) (acc : List (List Int × (Int × Int))), m ∈ ms → movePl ns m (f m) ∈ (ms.foldl (nextS f ns) acc).map Prod.fst := by
    intro ms
    induction ms with
    | nil => intro acc h; simp at h
    | cons a r ih =>
      intro acc h
      rw [List.foldl_cons]
      rcases List.mem_cons.mp h with rfl | h
      · refine keep _ _ _ ?_
        unfold nextS
        split
        · rename_i c
          rcases c with c | c
          · exact absurd c ne
          · exact c
        · rw [List.map_append]
          exact List.mem_append_right _ (by simp)
      · exact ih _ h
  intro ms h
  exact go ms [] h
theorem goPl_snoc {f : Int × Int → Int × Int} {m : Int × Int} {cur : List Int} (c : canMeet cur m = true) : ∀ {ms : List (Int × Int)} {k : Nat} {pl : List Int}, goPl f k ms pl = .inr cur → goPl f k (ms ++ [m]) pl = .inr (movePl cur m (f m))
  | [], k, pl, h => by
    have e : pl = cur := Sum.inr.inj h
    subst e
    show (if canMeet pl m = true then goPl f (k + 1) [] (movePl pl m (f m)) else .inl k) = _
    rw [if_pos c]
    rfl
  | a :: r, k, pl, h => by
    have h' : (if canMeet pl a = true then goPl f (k + 1) r (movePl pl a (f a)) else .inl k) = Sum.inr cur := h
    show (if canMeet pl a = true then goPl f (k + 1) (r ++ [m]) (movePl pl a (f a)) else .inl k) = _
    by_cases ca : canMeet pl a = true
    · rw [if_pos ca] at h' ⊢
      exact goPl_snoc c h'
    · rw [if_neg ca] at h'
      cases h'
theorem pairs_nil {ms : List (Int × Int)} : PyData.eqv (.list (ms.map fun m => PyData.tuple [.int m.1, .int m.2])) (.list []) = decide (ms = []) := by
  cases ms with
  | nil => simp [PyData.eqv, PyData.eqvAll]
  | cons a r => simp [PyData.eqv, PyData.eqvAll]
end Vf

namespace Vf
open PySem L2 PySem.Spec PyProof.Rows
/-- x == y, two objects of a class with an own __eq__ that answers with a truth value -/
def rEqOwn (C : Addr) (sp : Sp) (E : XK) : R2 := fun x y H Q => ∃ (a b dx dy : Addr) (fs gs : List (Str × V)), x = .ref a ∧ y = .ref b ∧ H a = some (.ins C dx fs) ∧ H b = some (.ins C dy gs) ∧ sp [.ref a, .ref b] H (fun v H' => ∃ c : Bool, v = .bl c ∧ Q (.bl c) H') E
theorem op_eqOwn {X : Cx} {CX : CXT} {k : Nat} {C f : Addr} {fd : FuncData} {ps : List Str} {sp : Sp} {E : XK} (F : FnOk X.prog X.w X.K X.mg X.base CX k f fd ps sp) (hr : Room k X.A)
    (fnd : PySem.W.findIn X.K (.ref C) "__eq__" = some (some (.ref f))) (isf : PySem.W.isFn X.K (.ref f) = true) (bd : Binds X.K fd ps []) (px : Passes CX X E) : OpR X (compareOp .Eq) (rEqOwn C sp E) := by
  intro pins s σ H x y v u Q I rx ry h
  obtain ⟨a, b, dx, dy, fs, gs, rfl, rfl, ha, hb, q⟩ := h
  obtain rfl : v = Value.ref a := rx
  obtain rfl : u = Value.ref b := ry
  obtain ⟨_, Ja, _⟩ := ins_get I.hok ha
  obtain ⟨_, Jb, _⟩ := ins_get I.hok hb
  obtain ⟨_, Ja, _⟩ := Ja.look
  obtain ⟨_, Jb, _⟩ := Jb.look
  obtain ⟨_, fr⟩ := I.fr
  have hl := F.len _ _ _ _ q
  have r2 : Vals [V.ref a, V.ref b] [Value.ref a, Value.ref b] := .cons rfl (.cons rfl .nil)
  have hbs : BindsTo s fd ⟨[Value.ref a, Value.ref b], []⟩ (ps.zip [Value.ref a, Value.ref b]) := by
    have := bd s [Value.ref a, Value.ref b] I.kIn (by simpa using hl)
    simpa using this
  show wpAny (model X.prog X.w) X.A (richCompare .Eq (.ref a) (.ref b)) (EP X pins σ Q) X.xe s
  refine PySem.W.cmp_K (op := .Eq) (tb := Value.ref C) hr.units0 fr I.ok.mod.kin Ja Jb.type (by simp [PySem.W.notFirst]) fnd isf (wpAny_call (codeAny_mono (F.run X.A X.stack s H _ _ _ _ E hr I.env0 hbs r2 q) fun r s' hq => ?_))
  cases r with
  | error e => exact px pins σ H s e s' I hq
  | ok fl =>
    cases fl with
    | ret z =>
      obtain ⟨zv, H', I', rz, c, rfl, q'⟩ := I.after hq
      obtain rfl : z = Value.bool c := rz
      exact ⟨.bl c, H', I', rfl, q'⟩
    | next => exact False.elim hq
    | brk => exact False.elim hq
    | cont => exact False.elim hq
end Vf

namespace Vf
open PySem PySem.W L2
/-! ### == of texts, pairs of texts, rules -/
def rEqP (K : PySem.W.Frag) (neg : Bool) : R2 := fun x y H Q => ∃ d e, Dp K H x d ∧ Dp K H y e ∧ (d.plain = true ∧ d.depth ≤ 64) ∧ (e.plain = true ∧ e.depth ≤ 64) ∧ Q (.bl (if neg then !PyData.eqv d e else PyData.eqv d e)) H
theorem op_eqP {X : Cx} (hu : X.A.units + 64 < cLine) : OpR X (compareOp .Eq) (rEqP X.K false) := by
  rintro pins s σ H x y v u Q I rx ry ⟨d, e, hd, he, ⟨pd, dd⟩, ⟨pe, _⟩, q⟩
  obtain ⟨_, r1⟩ := Dp.reads I d x v hd rx
  obtain ⟨_, r2⟩ := Dp.reads I e y u he ry
  exact SeqAt.eq_plain r1 r2 pd pe (by omega) ⟨.bl _, H, I, rfl, q⟩
theorem op_neP {X : Cx} (hu : X.A.units + 64 < cLine) : OpR X (compareOp .NotEq) (rEqP X.K true) := by
  rintro pins s σ H x y v u Q I rx ry ⟨d, e, hd, he, ⟨pd, dd⟩, ⟨pe, _⟩, q⟩
  obtain ⟨_, r1⟩ := Dp.reads I d x v hd rx
  obtain ⟨_, r2⟩ := Dp.reads I e y u he ry
  exact SeqAt.ne_plain r1 r2 pd pe (by omega) ⟨.bl _, H, I, rfl, q⟩
theorem datum_pl {α : Type} [DecidableEq α] [Datum α] (a : α) (h : Datum.depth α ≤ 64) : (Datum.toD a).plain = true ∧ (Datum.toD a).depth ≤ 64 := ⟨Datum.plain a, Nat.le_trans (Datum.depth_le a) h⟩
theorem dpAll_of {α : Type} {K : PySem.W.Frag} {H : Hp} {f : α → V} {g : α → PyData} (h : ∀ a, Dp K H (f a) (g a)) : ∀ l : List α, DpAll K H (l.map f) (l.map g)
  | [] => .nil
  | a :: r => .cons (h a) (dpAll_of h r)
theorem dpAll_strs {K : PySem.W.Frag} {H : Hp} (l : List Str) : DpAll K H (l.map V.str) (l.map Datum.toD) := dpAll_of (fun a => .str a) l
theorem dpAll_tupsG {α : Type} {K : PySem.W.Frag} {H : Hp} {enc : α → List V} {g : α → PyData} (h : ∀ (a : α) (t : Addr), H t = some (.tup (enc a)) → Dp K H (.ref t) (g a)) : ∀ {xs : List V} {l : List α}, Tups enc H xs l → DpAll K H xs (l.map g)
  | [], [], _ => .nil
  | [], _ :: _, t => by have := t.1; simp at this
  | _ :: _, [], t => by have := t.1; simp at this
  | x :: xs, a :: r, t => by
    obtain ⟨u, e1, e2⟩ := t.2 0 a rfl
    obtain rfl : x = .ref u := Option.some.inj e1
    exact .cons (h a u e2) (dpAll_tupsG h ⟨Nat.succ.inj t.1, fun i b e => t.2 (i + 1) b e⟩)
def t4 (r : S4) : T4 Str Str Str Str := ⟨r.1, r.2.1, r.2.2.1, r.2.2.2⟩
theorem t4_inj {a b : List S4} (h : a.map t4 = b.map t4) : a = b := by
  induction a generalizing b with
  | nil => cases b with
    | nil => rfl
    | cons y s => cases h
  | cons x r ih => cases b with
    | nil => cases h
    | cons y s =>
      obtain ⟨e, f⟩ := List.cons.inj h
      rw [ih f]
      obtain ⟨x1, x2, x3, x4⟩ := x
      obtain ⟨y1, y2, y3, y4⟩ := y
      cases e
      rfl
theorem dpAll_ins {K : PySem.W.Frag} {H : Hp} {xs : List V} {l : List (Str × Str)} (t : Tups enc2 H xs l) : DpAll K H xs (l.map Datum.toD) :=
  dpAll_tupsG (fun _ _ h => .tup (SqT.of h) (.cons (.str _) (.cons (.str _) .nil))) t
theorem dpAll_rus {K : PySem.W.Frag} {H : Hp} {xs : List V} {l : List S4} (t : Tups enc4 H xs l) : DpAll K H xs (l.map fun r => Datum.toD (t4 r)) :=
  dpAll_tupsG (fun _ _ h => .tup (SqT.of h) (.cons (.str _) (.cons (.str _) (.cons (.str _) (.cons (.str _) .nil))))) t
/-- the description of a tuple of texts, of pairs, of rules -/
def dStT (l : List Str) : PyData := Datum.toD (⟨l⟩ : Tup Str)
def dInT (l : List (Str × Str)) : PyData := Datum.toD (⟨l⟩ : Tup (Str × Str))
def dRuT (l : List S4) : PyData := Datum.toD (⟨l.map t4⟩ : Tup (T4 Str Str Str Str))
theorem dp_st {K : PySem.W.Frag} {H : Hp} {a : Addr} {l : List Str} (h : H a = some (.tup (l.map V.str))) : Dp K H (.ref a) (dStT l) := .tup (SqT.of h) (dpAll_strs l)
theorem dp_in {K : PySem.W.Frag} {H : Hp} {a : Addr} {xs : List V} {l : List (Str × Str)} (h : H a = some (.tup xs)) (t : Tups enc2 H xs l) : Dp K H (.ref a) (dInT l) := .tup (SqT.of h) (dpAll_ins t)
theorem dp_ru {K : PySem.W.Frag} {H : Hp} {a : Addr} {xs : List V} {l : List S4} (h : H a = some (.tup xs)) (t : Tups enc4 H xs l) : Dp K H (.ref a) (dRuT l) := .tup (SqT.of h) (by
  have := dpAll_rus (K := K) t
  show DpAll K H xs ((l.map t4).map Datum.toD)
  rw [List.map_map]
  exact this)
theorem eqv_st (a b : List Str) : PyData.eqv (dStT a) (dStT b) = decide (a = b) := (Datum.eqv (α := Tup Str) ⟨a⟩ ⟨b⟩).trans (decide_eq_decide.mpr ⟨fun e => congrArg Tup.items e, fun e => by rw [e]⟩)
theorem eqv_in (a b : List (Str × Str)) : PyData.eqv (dInT a) (dInT b) = decide (a = b) := (Datum.eqv (α := Tup (Str × Str)) ⟨a⟩ ⟨b⟩).trans (decide_eq_decide.mpr ⟨fun e => congrArg Tup.items e, fun e => by rw [e]⟩)
theorem eqv_ru (a b : List S4) : PyData.eqv (dRuT a) (dRuT b) = decide (a = b) := (Datum.eqv (α := Tup (T4 Str Str Str Str)) ⟨a.map t4⟩ ⟨b.map t4⟩).trans (decide_eq_decide.mpr ⟨fun e => t4_inj (congrArg Tup.items e), fun e => by rw [e]⟩)
theorem sh_st (l : List Str) : ((dStT l) : PyData).plain = true ∧ PyData.depth (dStT l) ≤ 64 := datum_pl _ (by decide)
theorem sh_in (l : List (Str × Str)) : ((dInT l) : PyData).plain = true ∧ PyData.depth (dInT l) ≤ 64 := datum_pl _ (by decide)
theorem sh_ru (l : List S4) : ((dRuT l) : PyData).plain = true ∧ PyData.depth (dRuT l) ≤ 64 := datum_pl _ (by decide)
end Vf
namespace Vf
open PySem L2
/-! ### what breaks point 4 -/
theorem nodup_seen {α : Type} {l : List α} (h : ∀ i x, l[i]? = some x → x ∉ l.take i) : l.Nodup := by
  rw [List.nodup_iff_pairwise_ne, List.pairwise_iff_getElem]
  intro i j hi hj ij e
  refine h j l[j] (List.getElem?_eq_getElem hj) ?_
  rw [← e]
  exact List.mem_iff_getElem?.mpr ⟨i, by rw [List.getElem?_take_of_lt ij]; exact List.getElem?_eq_getElem hi⟩
theorem last_in {α : Type} {l : List α} {n : Nat} (h : n < l.length) : ∃ x, l[n]? = some x := ⟨l[n], List.getElem?_eq_getElem h⟩
theorem Valid.stp {D : DD} (v : Valid D) {i : Nat} {s : Str} (h : D.st[i]? = some s) : (i < 400 ∧ isName s = true) ∧ s ∉ D.st.take i := by
  have hi := (List.getElem?_eq_some_iff.mp h).1
  obtain ⟨o, ho⟩ := last_in (l := D.ou) (n := i) (by rw [v.len]; exact hi)
  have g := v.st i s o h ho
  unfold DD.okState at g
  simp only [take_len h, Bool.and_eq_true, decide_eq_true_eq] at g
  exact ⟨⟨g.1.1.1, g.1.1.2⟩, g.1.2⟩
theorem Valid.n400 {D : DD} (v : Valid D) : D.st.length ≤ 400 := by
  by_cases h : D.st.length ≤ 400
  · exact h
  · obtain ⟨x, hx⟩ := last_in (l := D.st) (n := 400) (by omega)
    have := (v.stp hx).1.1
    omega
theorem Valid.nm {D : DD} (v : Valid D) {s : Str} (h : s ∈ D.st) : isName s = true := by
  obtain ⟨i, hi⟩ := List.mem_iff_getElem?.mp h
  exact (v.stp hi).1.2
theorem Valid.snd {D : DD} (v : Valid D) : D.st.Nodup := nodup_seen fun _ _ h => (v.stp h).2
theorem Valid.oup {D : DD} (v : Valid D) {o : Int} (h : o ∈ D.ou) : 0 ≤ o ∧ o ≤ 9 := by
  obtain ⟨i, hi⟩ := List.mem_iff_getElem?.mp h
  obtain ⟨s, hs⟩ := last_in (l := D.st) (n := i) (by rw [← v.len]; exact (List.getElem?_eq_some_iff.mp hi).1)
  have g := v.st i s o hs hi
  unfold DD.okState at g
  simp only [Bool.and_eq_true, decide_eq_true_eq] at g
  exact g.2
theorem Valid.inp {D : DD} (v : Valid D) {i : Nat} {x : Str × Str} (h : D.ins[i]? = some x) : ((i < 8 ∧ isName x.1 = true) ∧ x.1 ∉ (D.ins.take i).map (·.1)) ∧ x.2 ∈ D.st := by
  have g := v.ins i x h
  unfold DD.okInput at g
  simp only [take_len h, Bool.and_eq_true, decide_eq_true_eq] at g
  exact g
theorem Valid.n8 {D : DD} (v : Valid D) : D.ins.length ≤ 8 := by
  by_cases h : D.ins.length ≤ 8
  · exact h
  · obtain ⟨x, hx⟩ := last_in (l := D.ins) (n := 8) (by omega)
    have := (v.inp hx).1.1.1
    omega
theorem Valid.inm {D : DD} (v : Valid D) {x : Str × Str} (h : x ∈ D.ins) : isName x.1 = true ∧ x.2 ∈ D.st := by
  obtain ⟨i, hi⟩ := List.mem_iff_getElem?.mp h
  exact ⟨(v.inp hi).1.1.2, (v.inp hi).2⟩
theorem Valid.ind {D : DD} (v : Valid D) : (D.ins.map (·.1)).Nodup := nodup_seen fun i y h => by
  rw [List.getElem?_map] at h
  cases e : D.ins[i]? with
  | none => rw [e] at h; cases h
  | some x =>
    rw [e] at h
    cases h
    have := (v.inp e).1.2
    rwa [List.map_take] at this
theorem Valid.ldp {D : DD} (v : Valid D) {i : Nat} {s : Str} (h : D.ld[i]? = some s) : i < 10 ∧ s ∈ D.st := by
  have g := v.ld i s h
  unfold DD.okLeader at g
  simp only [take_len h, Bool.and_eq_true, decide_eq_true_eq] at g
  exact g
theorem Valid.n10 {D : DD} (v : Valid D) : D.ld.length ≤ 10 := by
  by_cases h : D.ld.length ≤ 10
  · exact h
  · obtain ⟨x, hx⟩ := last_in (l := D.ld) (n := 10) (by omega)
    have := (v.ldp hx).1
    omega
theorem Valid.ldm {D : DD} (v : Valid D) {s : Str} (h : s ∈ D.ld) : s ∈ D.st := by
  obtain ⟨i, hi⟩ := List.mem_iff_getElem?.mp h
  exact (v.ldp hi).2
def badNames : List Str := ["", "A", "1a", "a_b", "abcdefghijklm", "a b", "aB", "a-"]
theorem bad_all : (badNames.all fun s => decide (s.length ≤ 20) && !isName s) = true := by decide +kernel
theorem bad_at {r : Int} (h0 : 0 ≤ r) (h1 : r < 8) : ∃ s : Str, atI (badNames.map V.str) r = some (.str s) ∧ s.length ≤ 20 ∧ isName s = false := by
  have hl : r.toNat < badNames.length := by show r.toNat < 8; omega
  refine ⟨badNames.getD r.toNat Str.empty, map_at (f := V.str) (l := badNames) h0 (by show r < 8; exact h1), ?_⟩
  have := List.all_eq_true.mp bad_all _ (getD_mem (d := Str.empty) hl)
  simp only [Bool.and_eq_true, decide_eq_true_eq, Bool.not_eq_true'] at this
  exact this
def sameDD (D E : DD) : Bool := decide (D.st = E.st) && (decide (D.ins = E.ins) && (decide (D.ld = E.ld) && (decide (D.ru = E.ru) && decide (D.ou = E.ou))))
def rCopy (K : PySem.W.Frag) : List V → Hp → VK → Prop := fun vs H Q => ∃ a its, vs = [.ref a] ∧ (SqL K H a its ∨ SqT K H a its) ∧ ∀ u, H u = none → Q (.ref u) (upd H u (.lst its))
theorem call_list_ofK {X : Cx} {K : PySem.W.Frag} (h : X.K = K) : CallR X (.type "list") (rCopy K) := by
  subst h
  exact call_list_of
/-- five lists, the parts of a protocol -/
structure Five (H : Hp) (a b c d e : Addr) (D : DD) : Prop where
  st : H a = some (.lst (D.st.map V.str))
  ins : ∃ xi, H b = some (.lst xi) ∧ Tups enc2 H xi D.ins
  ld : H c = some (.lst (D.ld.map V.str))
  ru : ∃ xr, H d = some (.lst xr) ∧ Tups enc4 H xr D.ru
  ou : H e = some (.lst (D.ou.map V.int))
theorem Five.same {H H' : Hp} {a b c d e : Addr} {D : DD} (F : Five H a b c d e D) (s : Same H H') : Five H' a b c d e D := by
  obtain ⟨xi, i1, i2⟩ := F.ins
  obtain ⟨xr, r1, r2⟩ := F.ru
  exact ⟨s _ _ F.st, ⟨xi, s _ _ i1, i2.same s⟩, s _ _ F.ld, ⟨xr, s _ _ r1, r2.same s⟩, s _ _ F.ou⟩
theorem Five.parts {H : Hp} {a b c d e z : Addr} {D : DD} (F : Five H a b c d e D) (hz : H z = some (.tup [.ref a, .ref b, .ref c, .ref d, .ref e])) : PartsAt H z D := by
  obtain ⟨xi, i1, i2⟩ := F.ins
  obtain ⟨xr, r1, r2⟩ := F.ru
  exact ⟨a, b, c, d, e, xi, xr, hz, F.st, i1, i2, F.ld, r1, r2, F.ou⟩
def Copied (H H' : Hp) (C a b c d e : Addr) (D : DD) : Prop := Same H H' ∧ H' C = some (.lst [.ref a, .ref b, .ref c, .ref d, .ref e]) ∧ [C, a, b, c, d, e].Nodup ∧ (∀ x ∈ [C, a, b, c, d, e], H x = none) ∧ Five H' a b c d e D
theorem copy_parts {K : PySem.W.Frag} {q0 C : Addr} {D : DD} {H : Hp} {k : Nat} {σ : L2.St} {Qd : Hp → Prop} (PA : PartsAt H q0 D) (hk : k < σ.length) (hC : H C = none) (hd : ∀ H4 a b c d e, Copied H H4 C a b c d e D → Qd H4) :
    ∃ W : Nat → Nat → Hp → Prop, (∃ m, W 0 m (upd H C (.lst []))) ∧ ∀ i m H1, W i m H1 →
      ((Itt K q0).stop i H1 ∧ Qd H1) ∨ ((Itt K q0).go i H1 ∧ ∃ Nx : Hp → Prop, (∀ H', Nx H' → ∃ m', m' < m ∧ W (i + 1) m' H') ∧ ∀ x H', (Itt K q0).yld i H1 x H' → gName k x (wipe σ [k]) H' fun σ2 H2 => wipe σ2 [k] = wipe σ [k] ∧ tYes σ2 H2 fun b H3 =>
        if b = true then tCB (rCopy K) (tCons (tVar k) tNil) σ2 H3 fun y H4 => ∃ acc, H4 C = some (.lst acc) ∧ acc.length < sizeLine ∧ Nx (upd H4 C (.lst (acc ++ [y]))) else Nx H3) := by
  obtain ⟨ls, li, ll, lr, lo, xi, xr, h0, h1, h2, t2, h3, h4, t4, h5⟩ := PA
  have each : ∀ l ∈ [ls, li, ll, lr, lo], ∃ its, H l = some (.lst its) := by
    intro l hl
    simp only [List.mem_cons, List.not_mem_nil, or_false] at hl
    rcases hl with rfl | rfl | rfl | rfl | rfl
    · exact ⟨_, h1⟩
    · exact ⟨_, h2⟩
    · exact ⟨_, h3⟩
    · exact ⟨_, h4⟩
    · exact ⟨_, h5⟩
  refine lc_it (walk_tup (K := K) (a := q0) (xs := [.ref ls, .ref li, .ref ll, .ref lr, .ref lo])) (fun i H' => ∃ ts : List Addr, ts.length = i ∧ H' C = some (.lst (ts.map V.ref)) ∧ Same H H' ∧ (C :: ts).Nodup ∧ (∀ x ∈ ts, H x = none) ∧ ∀ (j : Nat) (t : Addr), ts[j]? = some t → ∃ (l : Addr) (its : List V), [ls, li, ll, lr, lo][j]? = some l ∧ H l = some (.lst its) ∧ H' t = some (.lst its)) ?_ ?_ ?_ ?_
  · exact ⟨[], rfl, upd_same, Same.new (Same.refl H) hC, by simp, by simp, fun j t h => by simp at h⟩
  · rintro i H' _ ⟨ts, _, _, s, _⟩
    exact SqT.of (s _ _ h0)
  · rintro i x H1 H2 hi ⟨ts, tl, c1, s1, nd, fr, al⟩ ⟨rfl, hx⟩
    have hi5 : i < [ls, li, ll, lr, lo].length := hi
    obtain ⟨l, hl⟩ : ∃ l, [ls, li, ll, lr, lo][i]? = some l := ⟨_, List.getElem?_eq_getElem hi5⟩
    have hx' : x = .ref l := by
      have e : ([.ref ls, .ref li, .ref ll, .ref lr, .ref lo] : List V) = [ls, li, ll, lr, lo].map V.ref := rfl
      rw [e, List.getElem?_map, hl] at hx
      exact (Option.some.inj hx).symm
    subst hx'
    obtain ⟨its, hits⟩ := each l (List.mem_of_getElem? hl)
    refine ⟨by simp only [wipe, List.set_set], ?_⟩
    refine ⟨_, ?_, l, its, rfl, .inl (SqL.of (s1 _ _ hits)), fun u hu => ?_⟩
    · show ((wipe σ [k]).set k (some (V.ref l)))[k]? = some (some (V.ref l))
      rw [List.getElem?_set_self]
      rw [wipe_length]
      exact hk
    have nu : H u = none := s1.free hu
    have uC : u ≠ C := fun e => by rw [e, c1] at hu; cases hu
    refine ⟨ts.map V.ref, by rw [upd_ne (Ne.symm uC)]; exact c1, ?_, ts ++ [u], by rw [List.length_append, tl]; rfl, by rw [upd_same, List.map_append]; rfl, Same.chg (Same.new s1 hu) hC, ?_, ?_, ?_⟩
    · rw [List.length_map, tl]
      exact Nat.lt_of_lt_of_le (show i < 5 from hi5) (by decide)
    · have ut : u ∉ ts := fun m => by
        obtain ⟨j, hj⟩ := List.mem_iff_getElem?.mp m
        obtain ⟨_, _, _, _, e⟩ := al j u hj
        rw [e] at hu
        cases hu
      rw [List.nodup_cons] at nd ⊢
      refine ⟨fun m => ?_, ?_⟩
      · rcases List.mem_append.mp m with m | m
        · exact nd.1 m
        · exact uC (List.mem_singleton.mp m).symm
      · rw [List.nodup_append]
        refine ⟨nd.2, by simp, fun y hy z hz e => ?_⟩
        rw [List.mem_singleton] at hz
        exact ut (hz ▸ e ▸ hy)
    · intro y hy
      rcases List.mem_append.mp hy with hy | hy
      · exact fr y hy
      · rw [List.mem_singleton.mp hy]
        exact nu
    · intro j t hj
      have Cn : ∀ y ∈ ts, y ≠ C := fun y hy e => (List.nodup_cons.mp nd).1 (e ▸ hy)
      by_cases hjl : j < ts.length
      · rw [List.getElem?_append_left hjl] at hj
        obtain ⟨l', its', e1, e2, e3⟩ := al j t hj
        have tm := List.mem_of_getElem? hj
        refine ⟨l', its', e1, e2, ?_⟩
        rw [upd_ne (Cn t tm), upd_ne (fun e => by rw [e, hu] at e3; cases e3)]
        exact e3
      · rw [List.getElem?_append_right (by omega)] at hj
        have j0 : j - ts.length = 0 := by
          have := (List.getElem?_eq_some_iff.mp hj).1
          simp at this
          omega
        rw [j0] at hj
        have e1 : u = t := Option.some.inj hj
        subst e1
        have e2 : j = i := by omega
        subst e2
        refine ⟨l, its, hl, hits, ?_⟩
        rw [upd_ne uC, upd_same]
  · rintro H4 ⟨ts, tl, c1, s1, nd, fr, al⟩
    have tl5 : ts.length = 5 := tl
    match ts, tl5, c1, nd, fr, al with
    | [a, b, c, d, e], _, c1, nd, fr, al =>
      have get : ∀ (j : Nat) (l t : Addr) (its : List V), [ls, li, ll, lr, lo][j]? = some l → [a, b, c, d, e][j]? = some t → H l = some (.lst its) → H4 t = some (.lst its) := fun j l t its e1 e2 e3 => by
        obtain ⟨l', its', f1, f2, f3⟩ := al j t e2
        rw [e1] at f1
        cases f1
        rw [e3] at f2
        cases f2
        exact f3
      refine hd H4 a b c d e ⟨s1, c1, nd, ?_, get 0 _ _ _ rfl rfl h1, ⟨xi, get 1 _ _ _ rfl rfl h2, t2.same s1⟩, get 2 _ _ _ rfl rfl h3, ⟨xr, get 3 _ _ _ rfl rfl h4, t4.same s1⟩, get 4 _ _ _ rfl rfl h5⟩
      intro x hx
      rcases List.mem_cons.mp hx with rfl | hx
      · exact hC
      · exact fr x hx
structure StA (H0 : Hp) (p d : Addr) (ds : List Int) (H : Hp) (m : Int) : Prop where
  keep : Keep [p] H0 H
  pool : PoolX H p d ds m
theorem StA.chg {H0 H : Hp} {p d a : Addr} {ds : List Int} {n m : Int} {o : HO} (s : StA H0 p d ds H m) (P : PoolX H0 p d ds n) (h : H0 a = none) : StA H0 p d ds (upd H a o) m := by
  refine ⟨fun b o' hb e => ?_, ?_, ?_, s.pool.2.2⟩
  · rw [upd_ne (neq_none e h)]
    exact s.keep b o' hb e
  · rw [upd_ne (neq_none P.1 h)]
    exact s.pool.1
  · rw [upd_ne (neq_none P.2.1 h)]
    exact s.pool.2.1
theorem StA.new {H0 H : Hp} {p d a : Addr} {ds : List Int} {m : Int} {o : HO} (s : StA H0 p d ds H m) (h : H a = none) : StA H0 p d ds (upd H a o) m := by
  refine ⟨fun b o' hb e => ?_, ?_, ?_, s.pool.2.2⟩
  · have e' := s.keep b o' hb e
    rw [upd_ne (neq_none e' h)]
    exact e'
  · rw [upd_ne (neq_none s.pool.1 h)]
    exact s.pool.1
  · rw [upd_ne (neq_none s.pool.2.1 h)]
    exact s.pool.2.1
theorem StA.go {H0 H H' : Hp} {p d : Addr} {ds : List Int} {m m' : Int} (s : StA H0 p d ds H m) (k : Keep [p] H H') (P : PoolX H' p d ds m') : StA H0 p d ds H' m' := ⟨s.keep.trans k, P⟩
theorem StA.same {H0 H H' : Hp} {p d : Addr} {ds : List Int} {m : Int} (s : StA H0 p d ds H m) (k : Same H H') : StA H0 p d ds H' m := ⟨s.keep.trans (Keep.of k), s.pool.same k⟩
structure Dis (a b c d e : Addr) : Prop where
  ab : a ≠ b
  ac : a ≠ c
  ad : a ≠ d
  ae : a ≠ e
  bc : b ≠ c
  bd : b ≠ d
  be : b ≠ e
  cd : c ≠ d
  ce : c ≠ e
  de : d ≠ e
theorem Dis.of {C a b c d e : Addr} (h : [C, a, b, c, d, e].Nodup) : Dis a b c d e := by
  simp only [List.nodup_cons, List.mem_cons, List.not_mem_nil, or_false, not_or, not_false_eq_true, and_true] at h
  obtain ⟨_, ⟨h1, h2, h3, h4⟩, ⟨h5, h6, h7⟩, ⟨h8, h9⟩, h10, _⟩ := h
  exact ⟨h1, h2, h3, h4, h5, h6, h7, h8, h9, h10⟩
theorem upd_tup {H : Hp} {a t : Addr} {xs ys : List V} {o : HO} (h : H a = some (.lst xs)) (ht : H t = some (.tup ys)) : (upd H a o) t = some (.tup ys) := by
  rw [upd_ne (fun e => by rw [e, h] at ht; cases ht)]
  exact ht
theorem Five.setSt {H : Hp} {a b c d e : Addr} {D : DD} (F : Five H a b c d e D) (n : Dis a b c d e) (st : List Str) : Five (upd H a (.lst (st.map V.str))) a b c d e { D with st := st } := by
  obtain ⟨xi, i1, i2⟩ := F.ins
  obtain ⟨xr, r1, r2⟩ := F.ru
  exact ⟨upd_same, ⟨xi, by rw [upd_ne (Ne.symm n.ab)]; exact i1, i2.mono fun t ys h => upd_tup F.st h⟩, by rw [upd_ne (Ne.symm n.ac)]; exact F.ld, ⟨xr, by rw [upd_ne (Ne.symm n.ad)]; exact r1, r2.mono fun t ys h => upd_tup F.st h⟩, by rw [upd_ne (Ne.symm n.ae)]; exact F.ou⟩
theorem Five.setOu {H : Hp} {a b c d e : Addr} {D : DD} (F : Five H a b c d e D) (n : Dis a b c d e) (ou : List Int) : Five (upd H e (.lst (ou.map V.int))) a b c d e { D with ou := ou } := by
  obtain ⟨xi, i1, i2⟩ := F.ins
  obtain ⟨xr, r1, r2⟩ := F.ru
  exact ⟨by rw [upd_ne n.ae]; exact F.st, ⟨xi, by rw [upd_ne n.be]; exact i1, i2.mono fun t ys h => upd_tup F.ou h⟩, by rw [upd_ne n.ce]; exact F.ld, ⟨xr, by rw [upd_ne n.de]; exact r1, r2.mono fun t ys h => upd_tup F.ou h⟩, upd_same⟩
theorem Five.setLd {H : Hp} {a b c d e : Addr} {D : DD} (F : Five H a b c d e D) (n : Dis a b c d e) (ld : List Str) : Five (upd H c (.lst (ld.map V.str))) a b c d e { D with ld := ld } := by
  obtain ⟨xi, i1, i2⟩ := F.ins
  obtain ⟨xr, r1, r2⟩ := F.ru
  exact ⟨by rw [upd_ne n.ac]; exact F.st, ⟨xi, by rw [upd_ne n.bc]; exact i1, i2.mono fun t ys h => upd_tup F.ld h⟩, upd_same, ⟨xr, by rw [upd_ne (Ne.symm n.cd)]; exact r1, r2.mono fun t ys h => upd_tup F.ld h⟩, by rw [upd_ne (Ne.symm n.ce)]; exact F.ou⟩
theorem Five.setIns {H : Hp} {a b c d e : Addr} {D : DD} (F : Five H a b c d e D) (n : Dis a b c d e) {xs : List V} {ins : List (Str × Str)} (t : Tups enc2 H xs ins) : Five (upd H b (.lst xs)) a b c d e { D with ins := ins } := by
  obtain ⟨xi, i1, i2⟩ := F.ins
  obtain ⟨xr, r1, r2⟩ := F.ru
  exact ⟨by rw [upd_ne n.ab]; exact F.st, ⟨xs, upd_same, t.mono fun t ys h => upd_tup i1 h⟩, by rw [upd_ne (Ne.symm n.bc)]; exact F.ld, ⟨xr, by rw [upd_ne (Ne.symm n.bd)]; exact r1, r2.mono fun t ys h => upd_tup i1 h⟩, by rw [upd_ne (Ne.symm n.be)]; exact F.ou⟩
theorem Five.er {H : Hp} {p a b c d e : Addr} {D : DD} (F : Five H a b c d e D) {n : Int} (P : PoolAt H p n) (h : p ≠ a ∧ p ≠ b ∧ p ≠ c ∧ p ≠ d ∧ p ≠ e) : Five (Er p H) a b c d e D := by
  obtain ⟨xi, i1, i2⟩ := F.ins
  obtain ⟨xr, r1, r2⟩ := F.ru
  have g : ∀ {x : Addr} {o : HO}, p ≠ x → H x = some o → Er p H x = some o := fun hx e => (if_neg (Ne.symm hx)).trans e
  exact ⟨g h.1 F.st, ⟨xi, g h.2.1 i1, P.tups i2⟩, g h.2.2.1 F.ld, ⟨xr, g h.2.2.2.1 r1, P.tups r2⟩, g h.2.2.2.2 F.ou⟩
/-! the thirteen ways -/
theorem dup_no {l r : List Str} {s : Str} {ins : List (Str × Str)} {ld : List Str} {ru : List S4} {ou : List Int} (h : s ∈ l ++ r) : ¬ Valid ⟨l ++ [s] ++ r, ins, ld, ru, ou⟩ := fun v => by
  have n := v.snd
  have n2 : (s :: (l ++ r)).Nodup := by
    refine (List.perm_middle (a := s) (l₁ := l) (l₂ := r)).nodup_iff.mp ?_
    have e : l ++ [s] ++ r = l ++ s :: r := by simp
    rw [← e]
    exact n
  exact (List.nodup_cons.mp n2).1 h
theorem zz_all : ((List.range 6).all fun i => (List.range 3).all fun j => decide (nmB.getD i Str.empty ++ nmS.getD j Str.empty ≠ ("zz9" : Str))) = true := by decide +kernel
theorem Small.zz {D : DD} (s : Small D) : ("zz9" : Str) ∉ D.st := fun m => by
  obtain ⟨i, hi⟩ := List.mem_iff_getElem?.mp m
  have il := (List.getElem?_eq_some_iff.mp hi).1
  have s6 := s.st6
  obtain ⟨j, hj, e⟩ := s.gn i _ hi
  have h := List.all_eq_true.mp (List.all_eq_true.mp zz_all i (List.mem_range.mpr (by omega))) j (List.mem_range.mpr hj)
  exact (of_decide_eq_true h) e.symm
theorem Short.st' {D : DD} (z : Short D) {st : List Str} (h : ∀ s ∈ st, s.length ≤ 1000000) : Short { D with st := st } := ⟨h, z.ou, z.ins, z.ld, z.ru, z.nru⟩
theorem Short.ou' {D : DD} (z : Short D) {ou : List Int} (h : ∀ o ∈ ou, o.natAbs.log2 < 1920) : Short { D with ou := ou } := ⟨z.st, h, z.ins, z.ld, z.ru, z.nru⟩
theorem Short.ins' {D : DD} (z : Short D) {ins : List (Str × Str)} (h : ∀ p ∈ ins, p.1.length ≤ 1000000 ∧ p.2.length ≤ 1000000) : Short { D with ins := ins } := ⟨z.st, z.ou, h, z.ld, z.ru, z.nru⟩
theorem Short.ld' {D : DD} (z : Short D) {ld : List Str} (h : ∀ s ∈ ld, s.length ≤ 1000000) : Short { D with ld := ld } := ⟨z.st, z.ou, z.ins, h, z.ru, z.nru⟩
theorem Short.ru' {D : DD} (z : Short D) {ru : List S4} (h : ∀ r ∈ ru, ∀ x ∈ r4 r, x.length ≤ 1000000) (n : ru.length ≤ 1000000) : Short { D with ru := ru } := ⟨z.st, z.ou, z.ins, z.ld, h, n⟩
theorem ins_map {α : Type} (f : α → V) (l : List α) (k : Nat) (x : α) : List.take k (l.map f) ++ [f x] ++ List.drop k (l.map f) = (l.take k ++ [x] ++ l.drop k).map f := by
  rw [List.map_append, List.map_append, List.map_take, List.map_drop]
  rfl
theorem app_map {α : Type} (f : α → V) (l : List α) (x : α) : l.map f ++ [f x] = (l ++ [x]).map f := by
  rw [List.map_append]
  rfl
theorem mem_ins {α : Type} {l : List α} {k : Nat} {x y : α} (h : y ∈ l.take k ++ [x] ++ l.drop k) : y ∈ l ∨ y = x := by
  rcases List.mem_append.mp h with h | h
  · rcases List.mem_append.mp h with h | h
    · exact .inl (List.mem_of_mem_take h)
    · exact .inr (List.mem_singleton.mp h)
  · exact .inl (List.mem_of_mem_drop h)
theorem in_ins {α : Type} {l : List α} {k : Nat} {x : α} : x ∈ l.take k ++ [x] ++ l.drop k := by simp
theorem l2 {o : Int} (h : o.natAbs < 2 ^ 100) : o.natAbs.log2 < 1920 := by
  by_cases hz : o.natAbs = 0
  · rw [hz]; decide
  · exact Nat.lt_of_lt_of_le ((Nat.log2_lt hz).mpr h) (by decide)
theorem at_last {st : List Str} (h : 1 ≤ st.length) : ∃ s, s ∈ st ∧ atI (st.map V.str) (-1) = some (V.str s) := by
  have ne : st ≠ [] := fun e => by rw [e] at h; simp at h
  refine ⟨st.getLast ne, List.getLast_mem ne, ?_⟩
  have e : st.map V.str = st.dropLast.map V.str ++ [V.str (st.getLast ne)] := by rw [app_map, List.dropLast_concat_getLast]
  rw [e]
  exact atI_last _ _
theorem four_len {a b c d : Str} (ha : a.length ≤ 1000000) (hb : b.length ≤ 1000000) (hc : c.length ≤ 1000000) (hd : d.length ≤ 1000000) : ∀ x ∈ r4 (a, b, c, d), x.length ≤ 1000000 := by
  intro x hx
  simp only [r4, List.mem_cons, List.not_mem_nil, or_false] at hx
  rcases hx with rfl | rfl | rfl | rfl <;> assumption
theorem set_zz {s : Str} (h : s.length ≤ 1000000) {r : Int} (h0 : 0 ≤ r) (h1 : r < 4) : ∃ R : S4, ([.str s, .str s, .str s, .str s] : List V).set r.toNat (.str "zz9") = enc4 R ∧ ("zz9" : Str) ∈ r4 R ∧ ∀ x ∈ r4 R, x.length ≤ 1000000 := by
  have z : (Str.ofString "zz9").length ≤ 1000000 := by decide
  obtain rfl | rfl | rfl | rfl : r = 0 ∨ r = 1 ∨ r = 2 ∨ r = 3 := by omega
  · exact ⟨("zz9", s, s, s), rfl, by simp [r4], four_len z h h h⟩
  · exact ⟨(s, "zz9", s, s), rfl, by simp [r4], four_len h z h h⟩
  · exact ⟨(s, s, "zz9", s), rfl, by simp [r4], four_len h h z h⟩
  · exact ⟨(s, s, s, "zz9"), rfl, by simp [r4], four_len h h h z⟩
theorem u_len : (Str.ofString "u").length ≤ 1000000 := by decide
theorem Five.oth {H : Hp} {a b c d e u : Addr} {D : DD} {ys : List V} {o : HO} (F : Five H a b c d e D) (hu : H u = some (.lst ys)) (ha : a ≠ u) (hb : b ≠ u) (hc : c ≠ u) (hd : d ≠ u) (he : e ≠ u) : Five (upd H u o) a b c d e D := by
  obtain ⟨xi, i1, i2⟩ := F.ins
  obtain ⟨xr, r1, r2⟩ := F.ru
  exact ⟨by rw [upd_ne ha]; exact F.st, ⟨xi, by rw [upd_ne hb]; exact i1, i2.mono fun t ys h => upd_tup hu h⟩, by rw [upd_ne hc]; exact F.ld, ⟨xr, by rw [upd_ne hd]; exact r1, r2.mono fun t ys h => upd_tup hu h⟩, by rw [upd_ne he]; exact F.ou⟩
theorem PartsAt.five {H : Hp} {p : Addr} {D : DD} (P : PartsAt H p D) : ∃ a b c d e : Addr, H p = some (.tup [.ref a, .ref b, .ref c, .ref d, .ref e]) ∧ Five H a b c d e D := by
  obtain ⟨ls, li, ll, lr, lo, xi, xr, hp, h1, h2, t2, h3, h4, t4, h5⟩ := P
  exact ⟨ls, li, ll, lr, lo, hp, h1, ⟨xi, h2, t2⟩, h3, ⟨xr, h4, t4⟩, h5⟩
theorem BookAt.chgL {C q x : Addr} {H : Hp} {a : RA} {D : DD} {xs : List V} {o : HO} (B : BookAt C H q a D) (h : H x = some (.lst xs)) : BookAt C (upd H x o) q a D := by
  have g : ∀ {y : Addr} {o' : HO}, H y = some o' → (∀ ys, o' ≠ .lst ys) → (upd H x o) y = some o' := fun e n => by
    rw [upd_ne (fun z => by rw [z, h] at e; exact n _ (Option.some.inj e).symm)]
    exact e
  obtain ⟨dx, h0⟩ := B.ob
  obtain ⟨x2, h2, T2⟩ := B.ins
  obtain ⟨x4, h4, T4⟩ := B.ru
  obtain ⟨kvs, hk, R⟩ := B.dr
  obtain ⟨xs', rows, r1, r2, r3, r4⟩ := B.rw
  have gt : ∀ t ys, H t = some (.tup ys) → (upd H x o) t = some (.tup ys) := fun t ys e => g e (fun _ z => by cases z)
  exact ⟨⟨dx, g h0 (fun _ z => by cases z)⟩, gt _ _ B.st, ⟨x2, gt _ _ h2, T2.mono gt⟩, gt _ _ B.ld, ⟨x4, gt _ _ h4, T4.mono gt⟩, gt _ _ B.ou, g B.dn (fun _ z => by cases z), ⟨kvs, g hk (fun _ z => by cases z), R.same gt⟩, ⟨xs', rows, gt _ _ r1, r2, fun i y hy => by obtain ⟨t, e, f⟩ := r3 i y hy; exact ⟨t, e, gt _ _ f⟩, r4⟩⟩
theorem sameDD_self (D : DD) : sameDD D D = true := by
  unfold sameDD
  simp only [decide_true, Bool.and_self]
theorem sameDD_eq {D E : DD} : sameDD D E = true ↔ D = E := by
  unfold sameDD
  simp only [Bool.and_eq_true, decide_eq_true_eq]
  constructor
  · rintro ⟨h1, h2, h3, h4, h5⟩
    cases D
    cases E
    simp only at h1 h2 h3 h4 h5
    subst h1 h2 h3 h4 h5
    rfl
  · rintro rfl
    exact ⟨rfl, rfl, rfl, rfl, rfl⟩
theorem sameDD_comm (D E : DD) : sameDD D E = sameDD E D := Bool.eq_iff_iff.mpr (sameDD_eq.trans (eq_comm.trans sameDD_eq.symm))
open PySem.W in
def dParts (D : DD) : PyData := .list [Datum.toD D.st, Datum.toD D.ins, Datum.toD D.ld, Datum.toD (D.ru.map t4), Datum.toD D.ou]
open PySem.W in
theorem eqv_parts (D E : DD) : PyData.eqv (dParts D) (dParts E) = sameDD D E := by
  unfold dParts sameDD
  simp only [PyData.eqv, PyData.eqvAll, Datum.eqv, Bool.and_true]
  rw [show decide (D.ru.map t4 = E.ru.map t4) = decide (D.ru = E.ru) from decide_eq_decide.mpr ⟨t4_inj, fun e => by rw [e]⟩]
open PySem.W in
theorem pl_parts (D : DD) : (dParts D).plain = true ∧ (dParts D).depth ≤ 64 := by
  unfold dParts
  constructor
  · simp only [PyData.plain, PyData.plainAll, Datum.plain, Bool.and_self]
  · simp only [PyData.depth, PyData.depthAll]
    have h1 := Datum.depth_le D.st
    have h2 := Datum.depth_le D.ins
    have h3 := Datum.depth_le D.ld
    have h4 := Datum.depth_le (D.ru.map t4)
    have h5 := Datum.depth_le D.ou
    have e1 : Datum.depth (List Str) = 1 := rfl
    have e2 : Datum.depth (List (Str × Str)) = 2 := rfl
    have e4 : Datum.depth (List (T4 Str Str Str Str)) = 2 := rfl
    have e5 : Datum.depth (List Int) = 1 := rfl
    omega
theorem dp_five {K : PySem.W.Frag} {H : Hp} {C a b c d e : Addr} {D : DD} (h : H C = some (.lst [.ref a, .ref b, .ref c, .ref d, .ref e])) (F : Five H a b c d e D) : Dp K H (.ref C) (dParts D) := by
  obtain ⟨xi, i1, i2⟩ := F.ins
  obtain ⟨xr, r1, r2⟩ := F.ru
  refine .lst (SqL.of h) (.cons (.lst (SqL.of F.st) (dpAll_strs _)) (.cons (.lst (SqL.of i1) (dpAll_ins i2)) (.cons (.lst (SqL.of F.ld) (dpAll_strs _)) (.cons (.lst (SqL.of r1) ?_) (.cons (.lst (SqL.of F.ou) (dpAll_ints _)) .nil)))))
  have := dpAll_rus (K := K) r2
  rw [List.map_map]
  exact this
theorem ValidN.setOu {D : DD} (v : ValidN D) {j : Nat} {y : Int} (h : 0 ≤ y ∧ y ≤ 9) : ValidN { D with ou := D.ou.set j y } where
  len := by show (D.ou.set j y).length = D.st.length; rw [List.length_set]; exact v.len
  n400 := v.n400
  nm := v.nm
  nd := v.nd
  ou := fun o ho => (List.mem_or_eq_of_mem_set ho).elim (v.ou o) fun e => by rw [e]; exact h
  n8 := v.n8
  inm := v.inm
  ind := v.ind
  n10 := v.n10
  ldm := v.ldm
  rum := v.rum
  rnd := v.rnd
theorem sameDD_ou (D : DD) (ou : List Int) : sameDD D { D with ou := ou } = decide (ou = D.ou) := by
  unfold sameDD
  simp only [decide_true, Bool.true_and]
  exact decide_eq_decide.mpr eq_comm
theorem er_none {p a : Addr} {H : Hp} (h : H a = none) : Er p H a = none := by
  unfold Er
  split
  · rfl
  · exact h
theorem er_sub {p : Addr} {H : Hp} : Same (Er p H) H := fun _ _ h => (er_some h).2
def tails : List Str := ["", "", "_", "x", "Z", " "]
theorem tails_all : (tails.all fun s => decide (s.length ≤ 1)) = true := by decide +kernel
theorem tail_at {r : Int} (h0 : 0 ≤ r) (h1 : r < 6) : ∃ s : Str, atI (tails.map V.str) r = some (.str s) ∧ s.length ≤ 1 := by
  have hl : r.toNat < tails.length := by show r.toNat < 6; omega
  exact ⟨tails.getD r.toNat Str.empty, map_at (f := V.str) (l := tails) h0 (by show r < 6; exact h1), of_decide_eq_true (List.all_eq_true.mp tails_all _ (getD_mem (d := Str.empty) hl))⟩
def chS (c : Nat) : Str := ⟨#[c]⟩
theorem in_both (c : Nat) : decide (c ∈ (LETTERS ++ DIGITS).cps.toList) = (lowC c || digC c) := by
  rw [← in_letters, ← in_digits, ← Bool.decide_or]
  refine decide_eq_decide.mpr ?_
  have e : (LETTERS ++ DIGITS).cps.toList = LETTERS.cps.toList ++ DIGITS.cps.toList := by decide +kernel
  rw [e, List.mem_append]
/-- the signs that no name has -/
def oddS (W : Str) (i : Nat) : List Nat := (W.cps.toList.take i).filter fun c => !(lowC c || digC c)
theorem oddS_succ {W : Str} {i c : Nat} (h : W.cps.toList[i]? = some c) : oddS W (i + 1) = oddS W i ++ if (!(lowC c || digC c)) = true then [c] else [] := by
  unfold oddS
  rw [take_snoc h, List.filter_append]
  congr 1
  simp only [List.filter_cons, List.filter_nil]
theorem oddS_len (W : Str) (i : Nat) : (oddS W i).length ≤ i := Nat.le_trans (List.length_filter_le _ _) (by rw [List.length_take]; omega)
theorem oddS_nil {W : Str} {c : Nat} {r : List Nat} (hc : W.cps.toList = c :: r) (h1 : (1 : Int) ≤ (W.length : Int)) (h2 : (W.length : Int) ≤ 12) (hl : lowC c = true) (n : Nat) (hn : W.cps.toList.length ≤ n) : decide ((oddS W n).map chS = []) = isName W := by
  have hlen : W.length = W.cps.toList.length := by show W.cps.size = _; simp
  unfold oddS isName isNameL
  rw [List.take_of_length_le hn, hc]
  rw [hlen, hc] at h1 h2
  rw [decide_eq_true (show 1 ≤ (c :: r).length by simp), decide_eq_true (show (c :: r).length ≤ 12 by omega)]
  simp only [List.head?_cons, Option.any_some, hl, Bool.true_and]
  rw [Bool.eq_iff_iff, decide_eq_true_iff, List.map_eq_nil_iff, List.filter_eq_nil_iff, List.all_eq_true]
  constructor
  · intro h x hx
    have := h x hx
    cases e : (lowC x || digC x) with
    | true => rfl
    | false =>
      rw [e] at this
      exact absurd rfl this
  · intro h x hx
    rw [h x hx]
    decide
end Vf

/-! ### dicts whose keys are tuples: {k: v}, and a comprehension -/
namespace Vf
open PySem PySem.Spec PyProof.Rows L2
abbrev emptyD : Obj := { cls := .type "dict", data := .dict #[] }
theorem d_dictSetT {X : Cx} {pins : List (Addr × Obj)} {σ : L2.St} {H : Hp} {s : Shared} {E : Value → Shared → Prop} {D b : Addr} {kvs : List (List Key × V)} {k : List Key} {v : V} {u r : Value} {Q : Unit → Shared → Prop} (hu : X.A.units + 1 < cLine) (I : Inv X pins σ H s)
    (hD : H D = some (.dT kvs)) (hz : kvs.length < sizeLine) (ry : RelV (.ref b) u) (eb : H b = some (.tup (k.map kV))) (rv : RelV v r) (h : ∀ s', Inv X pins σ (upd H D (.dT (putK kvs k v))) s' → Q () s') : wpAny (model X.prog X.w) X.A (dictSet D u r) Q E s := by
  obtain rfl : u = Value.ref b := ry
  obtain ⟨z, hd, xs, rel, dd⟩ := dt_of I.hok hD
  have xl : xs.length ≤ sizeLine := by
    rw [← Paired.length rel]
    exact z
  have pl : (putK kvs k v).length ≤ sizeLine := by
    have := length_putK kvs k v
    omega
  refine wpAny_dictSet_heap (hsz := xl) (show X.A.units < cLine by omega) (key_of I.hok eb) dd fun h' dd' hs => h _ ?_
  obtain ⟨q, es, ep, hq, h2, h3, h4, _, h5⟩ := dd'
  refine d_write I (by rw [hD]; trivial) hs ⟨q, hq⟩ ⟨pl, hd, _, (rel.put k eb rv).keeps fun c ys ec => ?_, q, es, ep, hq, h2, h3, h4, h5⟩
  rw [upd_ne (ne_of ec hD nofun)]
  exact ec
def tDcT (wi : TI) (g : TG) (tt : TT) (tk tv : TE) (vs : List Nat) : TE := fun σ H Q => wi σ H fun J H1 => ∀ D, H1 D = none → ∃ W : Nat → Nat → Hp → Prop, (∃ m, W 0 m (upd H1 D (.dT []))) ∧ ∀ i m H, W i m H →
  ((J.stop i H ∧ Q (.ref D) H) ∨ (J.go i H ∧ ∃ Nx : Hp → Prop, (∀ H', Nx H' → ∃ m', m' < m ∧ W (i + 1) m' H') ∧ ∀ x H', J.yld i H x H' → g x (wipe σ vs) H' fun σ2 H2 => wipe σ2 vs = wipe σ vs ∧ tt σ2 H2 fun b H3 =>
    if b = true then tk σ2 H3 fun y H4 => tv σ2 H4 fun z H5 => ∃ (kvs : List (List Key × V)) (k : List Key) (t : Addr), y = .ref t ∧ H5 t = some (.tup (k.map kV)) ∧ H5 D = some (.dT kvs) ∧ kvs.length < sizeLine ∧ Nx (upd H5 D (.dT (putK kvs k z))) else Nx H3))
section
variable {X : Cx}
theorem pe_dcT {kx vx tg iter : Expr} {ifs : List Expr} {scope : Scope} {own : List (Str × Nat)} {pos : Pos} {wi : TI} {g : TG} {tt : TT} {tk te : TE} (hu : X.A.units + 1 < cLine) (hc : X.calm = true) (hN : X.N.Nodup) (hi : PI X tg iter wi) (ok : BlkOk X.N X.env.scope scope own)
    (hg : ∀ (s : Shared) (H : Hp) (C : Addr) (cl : List (Str × Addr)) (fp : List Addr), PG (X.blk s H scope (compEnvC scope cl C X.env) fp) tg g)
    (ht : ∀ (s : Shared) (H : Hp) (C : Addr) (cl : List (Str × Addr)) (fp : List Addr), PTs (X.blk s H scope (compEnvC scope cl C X.env) fp) ifs tt)
    (hk : ∀ (s : Shared) (H : Hp) (C : Addr) (cl : List (Str × Addr)) (fp : List Addr), PE (X.blk s H scope (compEnvC scope cl C X.env) fp) kx tk)
    (he : ∀ (s : Shared) (H : Hp) (C : Addr) (cl : List (Str × Addr)) (fp : List Addr), PE (X.blk s H scope (compEnvC scope cl C X.env) fp) vx te)
    (hs : ∀ x, foldedSetIterable iter X.env x = pure x := by intro _; rfl) : PE X (.DictComp kx vx [⟨tg, iter, ifs, 0⟩] scope pos) (tDcT wi g tt tk te (own.map (·.2))) := by
  constructor
  intro pins s σ H Q I h
  rw [arm_eval_DictComp]
  have free : ∀ y ∈ scope.names, y.2 = .free → ∃ c, X.env.cells.lookup y.1 = some c := fun y hy e => I.ok.has _ (by exact ok.free y hy e)
  refine wpAny_comprehension_free (use := none) rfl hs (closure_ok free) ok.kind (fun y hy e => by rw [ok.uniq y hy, e]) (thn (hi.run pins s σ H _ I h) fun xv s1 hx => thn hx fun itv s2 got => ?_)
  obtain ⟨it, fp, tn, J, H2, rfl, I2, T, st2, f2, q⟩ := got
  refine wpAny_newObj_type (newEnv_comp ?_)
  obtain ⟨D, hD⟩ : ∃ D, D = s2.heap.objs.size := ⟨_, rfl⟩
  obtain ⟨W, ⟨m0, w0⟩, turn⟩ := q D (I2.hok.fresh (Nat.le_of_eq hD.symm))
  rw [← hD]
  obtain ⟨s3, es3⟩ : ∃ s3 : Shared, s3 = { s2 with heap := s2.heap.push emptyD } := ⟨_, rfl⟩
  have h3 : s3.heap = s2.heap.push emptyD := by rw [es3]
  have I3 : Inv X pins σ (upd H2 D (.dT [])) s3 := by
    rw [es3]
    refine I2.laid (t' := s2.toks) (fun b o e => Heap.get?_push_of_some _ e) (Nat.le_of_eq hD.symm) ?_
    have fr := dt_empty (P := X.prog) (w := X.w) (H := upd H2 D (.dT [])) s2.heap I2.big
    rw [← hD] at fr
    exact fr
  have below : ∀ b ∈ fp, b < s2.heap.objs.size := fun b hb => Heap.lt_size (T.obj _ _ st2 b hb).choose_spec.1
  have f3 : ∀ b ∈ fp, FpOk X pins (upd H2 D (.dT [])) b ∧ b < s3.heap.objs.size := fun b hb => by
    have lt := below b hb
    have ne : b ≠ D := by rw [hD]; exact Nat.ne_of_lt lt
    refine ⟨⟨?_, (f2 b hb).2⟩, ?_⟩
    · rw [upd_ne ne]
      exact (f2 b hb).1
    · rw [h3, Heap.size_push]
      exact Nat.lt_succ_of_lt lt
  have st3 : tn 0 s3.heap := T.keep _ _ _ st2 fun b _ o e => by rw [h3]; exact Heap.get?_push_of_some _ e
  have I4 := block_start I3 ok hN f3
  have pg := hg s3 (upd H2 D (.dT [])) s3.heap.objs.size (cellsFrom (s3.heap.objs.size + 1) scope.names (cloFrom X.env.cells scope.names [])) fp
  have pt := ht s3 (upd H2 D (.dT [])) s3.heap.objs.size (cellsFrom (s3.heap.objs.size + 1) scope.names (cloFrom X.env.cells scope.names [])) fp
  have pk := hk s3 (upd H2 D (.dT [])) s3.heap.objs.size (cellsFrom (s3.heap.objs.size + 1) scope.names (cloFrom X.env.cells scope.names [])) fp
  have pe := he s3 (upd H2 D (.dT [])) s3.heap.objs.size (cellsFrom (s3.heap.objs.size + 1) scope.names (cloFrom X.env.cells scope.names [])) fp
  have done : ∀ (s' : Shared) (m : Str → Option Value) (H' : Hp), Inv X pins σ H' s' → Q (.ref D) H' → s'.heap.Ns s3.heap.objs.size m → FpOk X pins H' s3.heap.objs.size → compPost (model X.prog X.w) X.A X.xe none (EP X pins σ Q) (.ref D) s3.heap.objs.size (.ok .next) s' := fun s' m H' I' qq hn f => ⟨m, hn, fun h'' sb => by
    obtain ⟨a0, a1, a2, a3, a4, a5⟩ := f
    exact ⟨.ref D, H', I'.turned (t' := s'.toks) (fun b o hb e => (sb.2 b hb).trans e) a0 a1 a3 a4 a5, rfl, qq⟩⟩
  have fin0 : ∀ {s4 : Shared} {ce : Env}, ce = compEnvC scope (cellsFrom (s3.heap.objs.size + 1) scope.names (cloFrom X.env.cells scope.names [])) s3.heap.objs.size X.env →
      s4 = { s3 with heap := pushCells (s3.heap.push { cls := .type "dict", data := .dict #[] }) scope.names } → codeAny (model X.prog X.w) X.A (.compStart (.DictComp kx vx [⟨tg, iter, ifs, 0⟩] scope pos) 0 (.ref it) (.ref D) ce) (compPost (model X.prog X.w) X.A X.xe none (EP X pins σ Q) (.ref D) s3.heap.objs.size) s4 := by
    intro s4 ce ece es4
    rw [← ece] at I4 pg pt pk pe
    rw [← es4] at I4
    have cL : ce.locals = s3.heap.objs.size := by rw [ece]; rfl
    have st4 : tn 0 s4.heap := T.keep _ _ _ st3 fun b _ o e => by rw [es4]; exact pushCells_keeps _ _ _ _ (Heap.get?_push_of_some _ e)
    have un : ∀ b ∈ fp, (upd H2 D (.dT [])) b = none := fun b hb => (f3 b hb).1.1
    generalize upd H2 D (.dT []) = H3 at I3 I4 pg pt pk pe w0 un f3
    have stat : ∀ {σ' : L2.St} {H' : Hp} {s' : Shared}, Inv (X.blk s3 H3 scope ce fp) [] σ' H' s' → (∀ b ∈ fp, H' b = none) → ∀ b ∈ fp, FpOk (X.blk s3 H3 scope ce fp) [] H' b := fun {σ' H' s'} I' hn b hb => by
      refine ⟨hn b hb, (I'.ok.exf b hb).1, I'.ok.exfs b hb, .inl hb, fun x c e => (I'.ok.exf b hb).2 x c e, fun p hp => ?_⟩
      simp at hp
    have loop : codeAny (model X.prog X.w) X.A (.compLoop (.DictComp kx vx [⟨tg, iter, ifs, 0⟩] scope pos) 0 (.ref it) (.ref D) ce) (compPost (model X.prog X.w) X.A X.xe none (EP X pins σ Q) (.ref D) s3.heap.objs.size) s4 := by
      refine compLoop_anyD (fun n s' => ∃ i H', Inv (X.blk s3 H3 scope ce fp) [] (wipe σ (own.map (·.2))) H' s' ∧ tn i s'.heap ∧ (∀ b ∈ fp, H' b = none) ∧ W i n H') (fun n s5 hI => ?_) m0 ⟨0, H3, I4, st4, un, w0⟩
      obtain ⟨i, H5, I5, st5, n5, w5⟩ := hI
      rcases turn i n H5 w5 with ⟨stop, qq⟩ | ⟨go, Nx, hNx, step⟩
      · refine thnF (T.done (X.blk s3 H3 scope ce fp) rfl rfl rfl hc i [] s5 _ H5 (fun _ _ => False) I5 (stat I5 n5) st5 stop) fun r s6 ⟨hr, I6⟩ => ?_
        subst hr
        have I7 : Inv X pins σ H5 s6 := I3.call' (ch := fp) I6.os I6.base I6.hok I6.bare fun b hb => ⟨(f3 b hb).1.2.2.2.1, (f3 b hb).1.2.1, (f3 b hb).1.2.2.2.2.1, (f3 b hb).1.2.2.2.2.2⟩
        obtain ⟨m, hn, _⟩ := I6.loc
        have fr : H5 ce.locals = none := I6.free
        have hn : s6.heap.Ns ce.locals m := hn
        rw [cL] at hn fr
        exact done s6 m H5 I7 qq hn (I3.fpOk (Nat.le_refl _) fr)
      · refine thnF (T.item (X.blk s3 H3 scope ce fp) rfl rfl rfl hc i [] s5 _ H5 (fun _ _ => False) I5 (stat I5 n5) st5 go) fun r s6 ⟨u, hr, h6⟩ => ?_
        subst hr
        refine thnF h6 fun _ s7 ⟨x, H7, I7, r7, y7, st7, n7⟩ => ?_
        have I8 := I7.pinned (stat I7 n7) (T.obj _ _ st7)
        refine thnF (pg.run _ s7 _ H7 x u _ I8 r7 (step x H7 y7)) fun _ s8 ⟨σ8, H8, I9, hw8, q8⟩ => ?_
        refine thnF (pt.run _ s8 σ8 H8 _ I9 q8) fun b s9 ⟨H9, I10, q9⟩ => ?_
        have next : ∀ {s' : Shared} {H' : Hp}, Inv (X.blk s3 H3 scope ce fp) ([] ++ pinsAt fp s7.heap) σ8 H' s' → Nx H' → ∃ m, m < n ∧ ∃ i H', Inv (X.blk s3 H3 scope ce fp) [] (wipe σ (own.map (·.2))) H' s' ∧ tn i s'.heap ∧ (∀ b ∈ fp, H' b = none) ∧ W i m H' := fun {s' H'} I' nx => by
          obtain ⟨m', hm, w'⟩ := hNx H' nx
          have held : ∀ b ∈ fp, ∀ o, s7.heap.get? b = some o → s'.heap.get? b = some o ∧ H' b = none := fun b hb o e => by
            have zz := I'.pin (b, o) (List.mem_append_right _ (List.mem_append_right _ (mem_pinsAt hb e)))
            exact ⟨zz.1, zz.2.1⟩
          refine ⟨m', hm, i + 1, H', (I'.unpinned (pins := [])).weak (by rw [← hw8, wipe_length]) (fun j v e => ?_), T.keep _ _ _ st7 fun b hb o e => (held b hb o e).1, fun b hb => ?_, w'⟩
          · rw [← hw8] at e
            exact (wipe_some e).1
          · obtain ⟨o, e, _⟩ := T.obj _ _ st7 b hb
            exact (held b hb o e).2
        cases b with
        | false =>
          simp only [Bool.false_eq_true, if_false] at q9 ⊢
          exact next I10 q9
        | true =>
          simp only [if_true] at q9 ⊢
          refine thnF (pk.run _ s9 σ8 H9 _ I10 q9) fun uk s10 ⟨yk, H10, I11, r10, q10⟩ => ?_
          refine thnF (pe.run _ s10 σ8 H10 _ I11 q10) fun uv s11 ⟨yv, H11, I12, r11, kvs, kk, b, ek, eb, hD11, hz, nx⟩ => ?_
          subst ek
          exact d_dictSetT (X := X.blk s3 H3 scope ce fp) hu I12 hD11 hz r10 eb r11 fun s12 I13 => next I13 nx
    exact codeAny_compStart_dict loop (T.self X.A 0 _ _ _ st4 loop)
  have last := fin0 rfl rfl
  subst es3
  exact last
end
/-- {k: v}, k a tuple; the new dict stands empty while the two are made -/
def tDT1 (tk tv : TE) : TE := fun σ H Q => ∀ p, H p = none → tk σ (upd H p (.dT [])) fun x H1 => tv σ H1 fun y H2 => ∃ (b : Addr) (k : List Key), x = .ref b ∧ H2 b = some (.tup (k.map kV)) ∧ H2 p = some (.dT []) ∧ Q (.ref p) (upd H2 p (.dT (putK [] k y)))
theorem pe_dispT {X : Cx} {ke ve : Expr} {pos : Pos} {tk tv : TE} (hu : X.A.units + 1 < cLine) (hk : PE X ke tk) (hv : PE X ve tv) : PE X (.Dict [some ke] [ve] pos) (tDT1 tk tv) := by
  constructor
  intro pins s σ H Q I q
  have fr := I.hok.fresh (Nat.le_refl s.heap.objs.size)
  have I0 := I.laid (a := s.heap.objs.size) (o := .dT []) (h' := s.heap.push emptyD) (t' := s.toks) (fun _ _ z => Heap.get?_push_of_some _ z) (Nat.le_refl _) (dt_empty s.heap I.big)
  rw [arm_eval_Dict, zip_pairTrees [some ke] [ve] X.env pos rfl rfl, dictDisplay_pairs _ (by simp [pairTrees]) (by simp [pairTrees])]
  refine wpAny_bind (wpAny_standAt (wpAny_bind ?_))
  unfold subDict
  refine wpAny_bind (wpAny_alloc (wpAny_bind (wpAny_holding ?_)))
  rw [if_pos (by simp [pairTrees])]
  refine wpAny_bind (pairTrees_cons_walk (thn (hk.run pins _ σ _ _ I0 (q _ fr)) fun ku s1 got => ?_))
  obtain ⟨x, H1, I1, rx, q1⟩ := got
  refine thn (hv.run pins s1 σ H1 _ I1 q1) fun vu s2 got => pairTrees_nil_walk ?_
  obtain ⟨y, H2, I2, ry, b, k, rfl, eb, hp, q2⟩ := got
  refine wpAny_holding ?_
  rw [List.forIn_cons]
  refine wpAny_bind (wpAny_bind (wpAny_bind (d_dictSetT hu I2 hp (by decide) rx eb ry fun s3 I3 => wpAny_pure ?_)))
  show wpAny _ _ (forIn [] PUnit.unit _) _ _ s3
  rw [List.forIn_nil]
  exact wpAny_pure (wpAny_pure (wpAny_pure (wpAny_pure ⟨.ref s.heap.objs.size, _, I3, rfl, q2⟩)))
/-- a def called with its last arguments by name -/
def kwG {α : Type} (n m : Nat) (us ws : List α) : List α := if us.length = n ∧ ws.length = m then us ++ ws else []
def KB (K : PySem.W.Frag) (fd : FuncData) (ps ks : List Str) (n m : Nat) : Prop := KBinds K fd ps ks (kwG n m) (kwG n m)
theorem kbinds {K : PySem.W.Frag} {x qual : Str} {st : Stmt} {f : Addr} {fd : FuncData} {ps ks : List Str} {n m : Nat} (F : Fun K x qual st f fd) (hp : ps ≠ [])
    (h : ∀ (kV doc pm : Value) (an : Option Addr) (cdv ct : Value) (us ws : List Value), us.length = n → ws.length = m → bindArgs (PySem.W.fnOf x qual (defArgs st) (defBody st) (defScope st) .none kV doc pm an cdv ct) ⟨us, ks.zip ws⟩ = pure (ps.zip (us ++ ws))) : KB K fd ps ks n m := by
  obtain ⟨oc, od, kV, doc, pm, an, cdv, ct, osl, rfl, lk, hcd⟩ := F.ex
  constructor
  · intro s us ws _ hl
    unfold kwG at hl ⊢
    by_cases c : us.length = n ∧ ws.length = m
    · rw [if_pos c]
      exact .of_eq (h kV doc pm an cdv ct us ws c.1 c.2)
    · rw [if_neg c] at hl
      exact absurd (List.length_eq_zero_iff.mp hl.symm) hp
  · intro vs us zs ws r1 r2
    unfold kwG
    rw [r1.length, r2.length]
    by_cases c : us.length = n ∧ ws.length = m
    · rw [if_pos c, if_pos c]
      exact Vals.append r1 r2
    · rw [if_neg c, if_neg c]
      exact .nil
end Vf
namespace Vf
open PySem PySem.Spec PyProof.Rows L2
/-- a def as it stands, with one keyword-only parameter y whose default is the number n -/
def FunKw (K : PySem.W.Frag) (x qual : Str) (st : Stmt) (f : Addr) (y : Str) (n : Int) : Prop :=
  ∃ (oc : Value) (od : Option Addr) (D : Addr) (t : Tok) (doc pm : Value) (an : Option Addr) (cdv ct : Value) (osl : Array (Option Value)),
    K.lookup f = some ⟨oc, od, .func (PySem.W.fnOf x qual (defArgs st) (defBody st) (defScope st) .none (.ref D) doc pm an cdv ct), osl⟩ ∧ PySem.W.codeIn K cdv qual = true ∧ PySem.W.keepIn K (.ref f) = true ∧ PySem.W.nsIn K D y = some (some (.int n t))
def KwN (K : PySem.W.Frag) (fd : FuncData) (y : Str) (n : Int) : Prop := ∃ (D : Addr) (t : Tok), fd.kwdefaults = .ref D ∧ PySem.W.nsIn K D y = some (some (.int n t))
theorem FunKw.get {K : PySem.W.Frag} {x qual : Str} {st : Stmt} {f : Addr} {y : Str} {n : Int} (h : FunKw K x qual st f y n) : ∃ fd, Fun K x qual st f fd ∧ KwN K fd y n := by
  obtain ⟨oc, od, D, t, doc, pm, an, cdv, ct, osl, h1, h2, h3, h4⟩ := h
  exact ⟨_, fun_mk h1 h2 h3, D, t, rfl, h4⟩
/-- called without it -/
theorem kwDef {K : PySem.W.Frag} {x qual : Str} {st : Stmt} {f : Addr} {fd : FuncData} {y : Str} {n : Int} {ps : List Str} (m : Nat) (F : Fun K x qual st f fd) (hk : KwN K fd y n) (hm : ps.length = m + 1)
    (h : ∀ (D : Addr) (doc pm : Value) (an : Option Addr) (cdv ct : Value) (us : List Value) (u : Value), us.length = m → KwChain D [(y, u)] (bindArgs (PySem.W.fnOf x qual (defArgs st) (defBody st) (defScope st) .none (.ref D) doc pm an cdv ct) ⟨us, []⟩) (ps.zip (us ++ [u]))) :
    ∃ ds, Vals [.int n] ds ∧ Binds K fd ps ds := by
  obtain ⟨oc, od, kV, doc, pm, an, cdv, ct, osl, rfl, lk, hcd⟩ := F.ex
  obtain ⟨D, t, e, hn⟩ := hk
  have e : kV = .ref D := e
  subst e
  refine ⟨[.int n t], .cons ⟨_, rfl⟩ .nil, fun s us X hl => BindsTo.of_looks fun M => KwChain.looks X (fun q hq => ?_) (h D doc pm an cdv ct us (.int n t) ?_)⟩
  · rw [List.mem_singleton.mp hq]
    exact hn
  · rw [List.length_append, hm] at hl
    exact Nat.succ.inj hl
end Vf
namespace Vf
open PySem L2
section
variable {J : It} {n : Nat} {G : Hp → Prop} {Y : Nat → Hp → V → Hp → Prop}
theorem dcT_it (w : Walk J n G Y) {g : TG} {tt : TT} {tk te : TE} {vs : List Nat} {σ : L2.St} {H1 : Hp} {D : Addr} {Qd : Hp → Prop} (Pv : Nat → Hp → Prop) (h0 : Pv 0 (upd H1 D (.dT []))) (hG : ∀ i H, i ≤ n → Pv i H → G H)
    (hs : ∀ i x H H', i < n → Pv i H → Y i H x H' → g x (wipe σ vs) H' fun σ2 H2 => wipe σ2 vs = wipe σ vs ∧ tt σ2 H2 fun b H3 =>
      if b = true then tk σ2 H3 fun y H4 => te σ2 H4 fun z H5 => ∃ (kvs : List (List Key × V)) (k : List Key) (t : Addr), y = .ref t ∧ H5 t = some (.tup (k.map kV)) ∧ H5 D = some (.dT kvs) ∧ kvs.length < sizeLine ∧ Pv (i + 1) (upd H5 D (.dT (putK kvs k z))) else Pv (i + 1) H3) (hd : ∀ H, Pv n H → Qd H) :
    ∃ W : Nat → Nat → Hp → Prop, (∃ m, W 0 m (upd H1 D (.dT []))) ∧ ∀ i m H, W i m H →
      (J.stop i H ∧ Qd H) ∨ (J.go i H ∧ ∃ Nx : Hp → Prop, (∀ H', Nx H' → ∃ m', m' < m ∧ W (i + 1) m' H') ∧ ∀ x H', J.yld i H x H' → g x (wipe σ vs) H' fun σ2 H2 => wipe σ2 vs = wipe σ vs ∧ tt σ2 H2 fun b H3 =>
        if b = true then tk σ2 H3 fun y H4 => te σ2 H4 fun z H5 => ∃ (kvs : List (List Key × V)) (k : List Key) (t : Addr), y = .ref t ∧ H5 t = some (.tup (k.map kV)) ∧ H5 D = some (.dT kvs) ∧ kvs.length < sizeLine ∧ Nx (upd H5 D (.dT (putK kvs k z))) else Nx H3) := by
  refine ⟨fun i m H => m = n - i ∧ i ≤ n ∧ Pv i H, ⟨n, by simp, Nat.zero_le _, h0⟩, ?_⟩
  rintro i m H ⟨rfl, hi, p⟩
  have q := hG i H hi p
  by_cases hlt : i < n
  · refine .inr ⟨w.goes i H hlt q, Pv (i + 1), fun H' p' => ⟨n - (i + 1), by omega, rfl, hlt, p'⟩, fun x H' y => hs i x H H' hlt p (w.yields i H x H' hlt q y)⟩
  · have e : i = n := by omega
    subst e
    exact .inl ⟨w.stops H q, hd H p⟩
end
end Vf

namespace Vf
open PySem L2
/-! ### the graph of the places that can be reached -/
abbrev NL := List (List Int × (Int × Int))
def nlOf (f : Int × Int → Int × Int) (x : List Int) : NL := nextL f x (prs x.length (cM f x))
/-- ascending -/
def codeLe (B : Int) (x y : List Int) : Bool := decide (TS.code B x ≤ TS.code B y)
def nxt (B : Int) (nl : NL) : List (List Int) := (nl.map Prod.fst).mergeSort (codeLe B)
theorem nxt_perm (B : Int) (nl : NL) : (nxt B nl).Perm (nl.map Prod.fst) := List.mergeSort_perm ..
theorem nxt_pw (B : Int) (nl : NL) : (nxt B nl).Pairwise (fun x y => TS.code B x ≤ TS.code B y) := by
  refine (List.pairwise_mergeSort (le := codeLe B) (fun a b c h1 h2 => ?_) (fun a b => ?_) _).imp fun {a b} h => ?_
  · unfold codeLe at *
    rw [decide_eq_true_eq] at *
    omega
  · unfold codeLe
    rw [Bool.or_eq_true, decide_eq_true_eq, decide_eq_true_eq]
    omega
  · unfold codeLe at h
    exact of_decide_eq_true h
theorem nxt_mem {B : Int} {nl : NL} {z : List Int} : z ∈ nxt B nl ↔ z ∈ nl.map Prod.fst := (nxt_perm B nl).mem_iff
theorem nxt_one {B : Int} {d : Nat} {nl : NL} {ws : List (List Int)} (p : ws.Perm (nl.map Prod.fst)) (hz : ∀ z ∈ nl.map Prod.fst, z.length = d ∧ TS.Bd B z) (h : ws.Pairwise (fun x y => TS.code B x ≤ TS.code B y)) : ws = nxt B nl :=
  sort_one (d := d) (p.trans (nxt_perm B nl).symm) (fun z hz' => hz z (nxt_mem.mp hz')) h (nxt_pw B nl)
/-- the meeting that leads there -/
def mOf (nl : NL) (w : List Int) : Int × Int := (nl.map Prod.snd).getD ((nl.map Prod.fst).idxOf w) (0, 0)
abbrev Og := Option (Int × (Int × Int))
structure BF where
  ps : List (List Int)
  og : List Og
  rows : List (List Int)
def addF (lim : Nat) (h : Int) (nl : NL) : List (List Int) → List (List Int) → List Og → Option (List (List Int) × List Og)
  | [], ps, og => some (ps, og)
  | w :: ws, ps, og => if w ∈ ps then addF lim h nl ws ps og else if ps.length = lim then none else addF lim h nl ws (ps ++ [w]) (og ++ [some (h, mOf nl w)])
def iLe (x y : Int) : Bool := decide (x ≤ y)
def sortI (l : List Int) : List Int := l.mergeSort iLe
theorem sortI_perm (l : List Int) : (sortI l).Perm l := List.mergeSort_perm ..
theorem sortI_pw (l : List Int) : (sortI l).Pairwise (· ≤ ·) := by
  refine (List.pairwise_mergeSort (le := iLe) (fun a b c h1 h2 => ?_) (fun a b => ?_) _).imp fun {a b} h => ?_
  · unfold iLe at *
    rw [decide_eq_true_eq] at *
    omega
  · unfold iLe
    rw [Bool.or_eq_true, decide_eq_true_eq, decide_eq_true_eq]
    omega
  · unfold iLe at h
    exact of_decide_eq_true h
theorem sortI_one {l z : List Int} (p : z.Perm l) (h : z.Pairwise (· ≤ ·)) : z = sortI l := (p.trans (sortI_perm l).symm).eq_of_pairwise (fun _ _ _ _ a b => Int.le_antisymm a b) h (sortI_pw l)
theorem sortI_congr {l z : List Int} (p : z.Perm l) : sortI z = sortI l := sortI_one ((sortI_perm z).trans p) (sortI_pw z)
def ixP (ps : List (List Int)) (w : List Int) : Int := (ps.idxOf w : Nat)
def rowF (ps : List (List Int)) (ws : List (List Int)) : List Int := sortI (ws.map (ixP ps))
def bfs (f : Int × Int → Int × Int) (B : Int) (lim : Nat) : Nat → BF → Option BF
  | 0, s => some s
  | k + 1, s => match s.ps[s.rows.length]? with
    | none => some s
    | some x => match addF lim (s.rows.length : Nat) (nlOf f x) (nxt B (nlOf f x)) s.ps s.og with
      | none => none
      | some po => bfs f B lim k ⟨po.1, po.2, s.rows ++ [rowF po.1 ((nlOf f x).map Prod.fst)]⟩
def bf0 (x : List Int) : BF := ⟨[x], [none], []⟩
def bfsAll (f : Int × Int → Int × Int) (B : Int) (lim : Nat) (x : List Int) : Option BF := bfs f B lim lim (bf0 x)
section
variable {f : Int × Int → Int × Int} {B : Int} {lim k : Nat} {s : BF}
theorem bfs_end (h : s.ps.length ≤ s.rows.length) : bfs f B lim k s = some s := by
  cases k with
  | zero => rfl
  | succ k =>
    unfold bfs
    rw [List.getElem?_eq_none h]
theorem bfs_step {x : List Int} {po : List (List Int) × List Og} (h : s.ps[s.rows.length]? = some x) (h2 : addF lim (s.rows.length : Nat) (nlOf f x) (nxt B (nlOf f x)) s.ps s.og = some po) :
    bfs f B lim (k + 1) s = bfs f B lim k ⟨po.1, po.2, s.rows ++ [rowF po.1 ((nlOf f x).map Prod.fst)]⟩ := by
  rw [bfs, h]
  dsimp only
  rw [h2]
theorem bfs_stop {x : List Int} (h : s.ps[s.rows.length]? = some x) (h2 : addF lim (s.rows.length : Nat) (nlOf f x) (nxt B (nlOf f x)) s.ps s.og = none) : bfs f B lim (k + 1) s = none := by
  rw [bfs, h]
  dsimp only
  rw [h2]
/-! what it keeps -/
def In1 (ps ps' : List (List Int)) : Prop := ∃ r, ps' = ps ++ r
structure GInv (n : Nat) (tot : Int) (lim : Nat) (s : BF) : Prop where
  nd : s.ps.Nodup
  fit : ∀ x ∈ s.ps, Fits n x ∧ x.sum = tot
  ogl : s.og.length = s.ps.length
  rl : s.rows.length ≤ s.ps.length
  pl : s.ps.length ≤ lim
  rows : ∀ r ∈ s.rows, ∀ z ∈ r, 0 ≤ z ∧ z < (s.ps.length : Nat)
theorem nl_in {D : DD} (v : ValidN D) {n : Nat} {x : List Int} (hn : n = D.st.length) (h : Fits n x) {z : List Int} (hz : z ∈ (nlOf (fD D) x).map Prod.fst) : Fits n z ∧ z.sum = x.sum := by
  unfold nlOf at hz
  obtain ⟨m, hm, rfl⟩ := nextL_mem hz
  obtain ⟨hr, hc⟩ := prs_mem hm
  unfold cM at hc
  rw [Bool.and_eq_true] at hc
  exact ⟨move_fits h hc.2, move_sum hr (by rw [h.1, hn]; exact meetOf_in v (by rw [← hn, ← h.1]; exact hr))⟩
theorem addF_inv {h : Int} {nl : NL} {n : Nat} {tot : Int} : ∀ {ws ps : List (List Int)} {og : List Og} {po : List (List Int) × List Og}, addF lim h nl ws ps og = some po → (∀ w ∈ ws, Fits n w ∧ w.sum = tot) →
    ps.Nodup → (∀ x ∈ ps, Fits n x ∧ x.sum = tot) → og.length = ps.length → ps.length ≤ lim →
    po.1.Nodup ∧ (∀ x ∈ po.1, Fits n x ∧ x.sum = tot) ∧ po.2.length = po.1.length ∧ po.1.length ≤ lim ∧ In1 ps po.1 ∧ (∀ w ∈ ws, w ∈ po.1) ∧ ps.length ≤ po.1.length
  | [], ps, og, po, h, _, nd, ft, ol, pl => by
    have e : (ps, og) = po := Option.some.inj h
    subst e
    exact ⟨nd, ft, ol, pl, ⟨[], (List.append_nil _).symm⟩, fun w hw => by simp at hw, Nat.le_refl _⟩
  | w :: ws, ps, og, po, h, hw, nd, ft, ol, pl => by
    rw [addF] at h
    split at h
    · rename_i c
      obtain ⟨a1, a2, a3, a4, a5, a6, a7⟩ := addF_inv h (fun z hz => hw z (List.mem_cons_of_mem _ hz)) nd ft ol pl
      refine ⟨a1, a2, a3, a4, a5, fun z hz => ?_, a7⟩
      rcases List.mem_cons.mp hz with rfl | hz
      · obtain ⟨r, e⟩ := a5
        rw [e]
        exact List.mem_append_left _ c
      · exact a6 z hz
    · rename_i c
      split at h
      · cases h
      · rename_i c2
        obtain ⟨a1, a2, a3, a4, ⟨r, e⟩, a6, a7⟩ := addF_inv h (fun z hz => hw z (List.mem_cons_of_mem _ hz)) (by
          rw [List.nodup_append]
          exact ⟨nd, by simp, fun a ha b hb => by rw [List.mem_singleton.mp hb]; exact fun e => c (e ▸ ha)⟩) (fun x hx => by
          rcases List.mem_append.mp hx with hx | hx
          · exact ft x hx
          · rw [List.mem_singleton.mp hx]; exact hw w (List.mem_cons_self ..)) (by rw [List.length_append, List.length_append, ol]; rfl) (by rw [List.length_append]; show ps.length + 1 ≤ lim; omega)
        have e' : po.1 = ps ++ (w :: r) := by rw [e]; simp
        refine ⟨a1, a2, a3, a4, ⟨_, e'⟩, fun z hz => ?_, ?_⟩
        · rcases List.mem_cons.mp hz with rfl | hz
          · rw [e']; simp
          · exact a6 z hz
        · rw [List.length_append] at a7
          omega
theorem ixP_bd {ps : List (List Int)} {w : List Int} (h : w ∈ ps) : 0 ≤ ixP ps w ∧ ixP ps w < (ps.length : Nat) := by
  have := List.idxOf_lt_length_of_mem h
  unfold ixP
  omega
theorem GInv.zero {n : Nat} {x : List Int} (h : Fits n x) (hl : 1 ≤ lim) : GInv n x.sum lim (bf0 x) :=
  ⟨by simp [bf0], fun z hz => by rw [List.mem_singleton.mp hz]; exact ⟨h, rfl⟩, rfl, Nat.zero_le _, hl, fun r hr => by simp [bf0] at hr⟩
theorem GInv.next {D : DD} (v : ValidN D) {tot : Int} (g : GInv D.st.length tot lim s) {x : List Int} {po : List (List Int) × List Og} (h : s.ps[s.rows.length]? = some x) (h2 : addF lim (s.rows.length : Nat) (nlOf (fD D) x) (nxt B (nlOf (fD D) x)) s.ps s.og = some po) :
    GInv D.st.length tot lim ⟨po.1, po.2, s.rows ++ [rowF po.1 ((nlOf (fD D) x).map Prod.fst)]⟩ := by
  obtain ⟨fx, sx⟩ := g.fit x (List.mem_of_getElem? h)
  obtain ⟨a1, a2, a3, a4, ⟨r, a5⟩, a6, a7⟩ := addF_inv h2 (fun w hw => by
    obtain ⟨b1, b2⟩ := nl_in v rfl fx (nxt_mem.mp hw)
    exact ⟨b1, b2.trans sx⟩) g.nd g.fit g.ogl g.pl
  have lt := (List.getElem?_eq_some_iff.mp h).1
  refine ⟨a1, a2, a3, ?_, a4, fun q hq z hz => ?_⟩
  · show (s.rows ++ [_]).length ≤ po.1.length
    rw [List.length_append]
    show s.rows.length + 1 ≤ _
    omega
  · rcases List.mem_append.mp hq with hq | hq
    · have := g.rows q hq z hz
      show 0 ≤ z ∧ z < (po.1.length : Nat)
      omega
    · rw [List.mem_singleton.mp hq] at hz
      unfold rowF at hz
      rw [(sortI_perm _).mem_iff, List.mem_map] at hz
      obtain ⟨w, hw, rfl⟩ := hz
      exact ixP_bd (a6 w (nxt_mem.mpr hw))
theorem bfs_inv {D : DD} (v : ValidN D) {tot : Int} : ∀ {k : Nat} {s t : BF}, bfs (fD D) B lim k s = some t → GInv D.st.length tot lim s → lim - s.rows.length ≤ k → GInv D.st.length tot lim t ∧ t.rows.length = t.ps.length
  | 0, s, t, h, g, hk => by
    have e : s = t := Option.some.inj h
    subst e
    have := g.rl
    have := g.pl
    exact ⟨g, by omega⟩
  | k + 1, s, t, h, g, hk => by
    cases e : s.ps[s.rows.length]? with
    | none =>
      have le := List.getElem?_eq_none_iff.mp e
      rw [bfs_end le] at h
      have e : s = t := Option.some.inj h
      subst e
      have := g.rl
      exact ⟨g, by omega⟩
    | some x =>
      cases e2 : addF lim (s.rows.length : Nat) (nlOf (fD D) x) (nxt B (nlOf (fD D) x)) s.ps s.og with
      | none => rw [bfs_stop e e2] at h; cases h
      | some po =>
        rw [bfs_step e e2] at h
        exact bfs_inv v h (g.next v e e2) (by
          show lim - (s.rows ++ [_]).length ≤ k
          rw [List.length_append]
          show lim - (s.rows.length + 1) ≤ k
          omega)
end
/-! ### in the heap -/
/-- the numbers of places -/
def kNum (ps : List (List Int)) : List (List Key × V) := ps.zipIdx.map fun p => (keyI p.1, V.int (p.2 : Int))
theorem kNum_snoc (ps : List (List Int)) (w : List Int) : kNum (ps ++ [w]) = kNum ps ++ [(keyI w, V.int (ps.length : Int))] := by
  unfold kNum
  rw [List.zipIdx_append, List.map_append]
  simp
theorem kNum_len (ps : List (List Int)) : (kNum ps).length = ps.length := by
  unfold kNum
  simp
theorem kNum_from : ∀ (ps : List (List Int)) (n : Nat) (w : List Int), valV ((ps.zipIdx n).map fun p => (keyI p.1, V.int (p.2 : Int))) (keyI w) = if w ∈ ps then some (V.int ((n + ps.idxOf w : Nat) : Int)) else none
  | [], n, w => rfl
  | t :: ps, n, w => by
    rw [List.zipIdx_cons, List.map_cons]
    by_cases e : t = w
    · subst e
      rw [valV_pos rfl, if_pos List.mem_cons_self, List.idxOf_cons_self]
      rfl
    · rw [valV_neg (by intro z; exact e (keyI_inj z)), kNum_from ps (n + 1) w]
      have e' : (t == w) = false := by simpa using e
      by_cases hm : w ∈ ps
      · rw [if_pos hm, if_pos (List.mem_cons_of_mem _ hm), List.idxOf_cons, e']
        simp only [cond_false]
        congr 3
        omega
      · rw [if_neg hm, if_neg (by simp [hm, Ne.symm e])]
theorem kNum_val (ps : List (List Int)) (w : List Int) : valV (kNum ps) (keyI w) = if w ∈ ps then some (V.int (ixP ps w)) else none := by
  have h := kNum_from ps 0 w
  simpa [kNum, ixP] using h
theorem kNum_put {ps : List (List Int)} {w : List Int} (h : w ∉ ps) : putK (kNum ps) (keyI w) (V.int (ps.length : Int)) = kNum (ps ++ [w]) := by
  rw [putK_new _ (by rw [kNum_val, if_neg h]), kNum_snoc]
theorem PPI.at {H : Hp} {kvs : List (List Key × V)} {nl : NL} (p : PPI H kvs nl) (nd : (nl.map Prod.fst).Nodup) {w : List Int} (h : w ∈ nl.map Prod.fst) : ∃ t, valV kvs (keyI w) = some (.ref t) ∧ H t = some (.tup (encP (mOf nl w))) := by
  have lt := List.idxOf_lt_length_of_mem h
  have l2 : (nl.map Prod.fst).idxOf w < (nl.map Prod.snd).length := by rw [List.length_map] at lt ⊢; exact lt
  obtain ⟨t, h1, h2⟩ := p.vals.2 ((nl.map Prod.fst).idxOf w) _ (List.getElem?_eq_getElem l2)
  have k1 : (kvs.map (·.1))[(nl.map Prod.fst).idxOf w]? = some (keyI w) := by
    rw [p.keys, List.getElem?_map, List.getElem?_eq_getElem lt, List.getElem_idxOf]
    rfl
  refine ⟨t, ?_, ?_⟩
  · refine valV_at (n := (nl.map Prod.fst).idxOf w) ?_ ?_
    · have e : kvs.map Prod.fst = (nl.map Prod.fst).map keyI := p.keys
      rw [e]
      unfold List.Nodup
      rw [List.pairwise_map]
      exact nd.imp fun h e => h (keyI_inj e)
    · rw [List.getElem?_map] at h1 k1
      cases e : kvs[(nl.map Prod.fst).idxOf w]? with
      | none => rw [e] at h1; cases h1
      | some q =>
        rw [e] at h1 k1
        have a1 : q.2 = V.ref t := Option.some.inj h1
        have a2 : q.1 = keyI w := Option.some.inj k1
        rw [show q = (q.1, q.2) from rfl, a1, a2]
  · unfold mOf
    rw [List.getD_eq_getElem?_getD, List.getElem?_eq_getElem l2]
    exact h2
theorem nextL_nd (f : Int × Int → Int × Int) (ns : List Int) (ms : List (Int × Int)) : ((nextL f ns ms).map Prod.fst).Nodup := by
  have go : ∀ (ms : List (Int × Int)) (acc : NL), (acc.map Prod.fst).Nodup → ((ms.foldl (nextS f ns) acc).map Prod.fst).Nodup := by
    intro ms
    induction ms with
    | nil => intro acc h; exact h
    | cons m r ih =>
      intro acc h
      rw [List.foldl_cons]
      refine ih _ ?_
      unfold nextS
      split
      · exact h
      · rename_i c
        rw [List.map_append, List.nodup_append]
        exact ⟨h, by simp, fun a ha b hb => by
          have e : b = movePl ns m (f m) := by simpa using hb
          rw [e]
          exact fun e2 => c (.inr (e2 ▸ ha))⟩
  exact go ms [] (by simp)
def OgAt (H : Hp) (x : V) : Og → Prop
  | none => x = .non
  | some (h, m) => ∃ t u, x = .ref t ∧ H t = some (.tup [.int h, .ref u]) ∧ H u = some (.tup (encP m))
def Ogs (H : Hp) (xs : List V) (l : List Og) : Prop := xs.length = l.length ∧ ∀ (i : Nat) (o : Og), l[i]? = some o → ∃ x, xs[i]? = some x ∧ OgAt H x o
theorem OgAt.mono {H H' : Hp} {x : V} {o : Og} (h : OgAt H x o) (e : ∀ t ys, H t = some (.tup ys) → H' t = some (.tup ys)) : OgAt H' x o := by
  cases o with
  | none => exact h
  | some q =>
    obtain ⟨t, u, h1, h2, h3⟩ := h
    exact ⟨t, u, h1, e _ _ h2, e _ _ h3⟩
theorem Ogs.mono {H H' : Hp} {xs : List V} {l : List Og} (h : Ogs H xs l) (e : ∀ t ys, H t = some (.tup ys) → H' t = some (.tup ys)) : Ogs H' xs l := ⟨h.1, fun i o ho => by
  obtain ⟨x, h1, h2⟩ := h.2 i o ho
  exact ⟨x, h1, h2.mono e⟩⟩
theorem Ogs.snoc {H : Hp} {xs : List V} {l : List Og} (h : Ogs H xs l) {x : V} {o : Og} (hx : OgAt H x o) : Ogs H (xs ++ [x]) (l ++ [o]) := by
  refine ⟨by simp [h.1], fun i b e => ?_⟩
  by_cases hi : i < l.length
  · rw [List.getElem?_append_left hi] at e
    obtain ⟨u, h1, h2⟩ := h.2 i b e
    exact ⟨u, by rw [List.getElem?_append_left (by rw [h.1]; exact hi)]; exact h1, h2⟩
  · rw [List.getElem?_append_right (by omega)] at e
    have z : i - l.length = 0 := by
      cases q : i - l.length with
      | zero => rfl
      | succ n => rw [q] at e; simp at e
    rw [z] at e
    have ea : o = b := Option.some.inj e
    subst ea
    exact ⟨x, by rw [List.getElem?_append_right (by rw [h.1]; omega), h.1, z]; rfl, hx⟩
/-- lists of ints, each a list of its own -/
def Lsts (H : Hp) (xs : List V) (l : List (List Int)) : Prop := xs.length = l.length ∧ ∀ (i : Nat) (r : List Int), l[i]? = some r → ∃ t, xs[i]? = some (.ref t) ∧ H t = some (.lst (r.map V.int))
theorem Lsts.mono {H H' : Hp} {xs : List V} {l : List (List Int)} (h : Lsts H xs l) (e : ∀ t ys, V.ref t ∈ xs → H t = some (.lst ys) → H' t = some (.lst ys)) : Lsts H' xs l := ⟨h.1, fun i r hr => by
  obtain ⟨t, h1, h2⟩ := h.2 i r hr
  exact ⟨t, h1, e _ _ (List.mem_of_getElem? h1) h2⟩⟩
theorem Lsts.snoc {H : Hp} {xs : List V} {l : List (List Int)} (h : Lsts H xs l) {t : Addr} {r : List Int} (ht : H t = some (.lst (r.map V.int))) : Lsts H (xs ++ [.ref t]) (l ++ [r]) := by
  refine ⟨by simp [h.1], fun i b e => ?_⟩
  by_cases hi : i < l.length
  · rw [List.getElem?_append_left hi] at e
    obtain ⟨u, h1, h2⟩ := h.2 i b e
    exact ⟨u, by rw [List.getElem?_append_left (by rw [h.1]; exact hi)]; exact h1, h2⟩
  · rw [List.getElem?_append_right (by omega)] at e
    have z : i - l.length = 0 := by
      cases q : i - l.length with
      | zero => rfl
      | succ n => rw [q] at e; simp at e
    rw [z] at e
    have ea : r = b := Option.some.inj e
    subst ea
    exact ⟨t, by rw [List.getElem?_append_right (by rw [h.1]; omega), h.1, z]; rfl, ht⟩
theorem Lsts.get {H : Hp} {xs : List V} {l : List (List Int)} (h : Lsts H xs l) {i : Nat} {x : V} (e : xs[i]? = some x) : ∃ r t, l[i]? = some r ∧ x = .ref t ∧ H t = some (.lst (r.map V.int)) := by
  have hi := (List.getElem?_eq_some_iff.mp e).1
  have hl : i < l.length := by rw [← h.1]; exact hi
  obtain ⟨t, h1, h2⟩ := h.2 i l[i] (List.getElem?_eq_getElem hl)
  rw [e] at h1
  exact ⟨l[i], t, List.getElem?_eq_getElem hl, Option.some.inj h1, h2⟩
structure GA where
  t1 : Addr
  dn : Addr
  t2 : Addr
  t3 : Addr
def gFs (b : Addr) (a : GA) : List (Str × V) := [("protocol", .ref b), ("_places", .ref a.t1), ("_numbers", .ref a.dn), ("_steps", .ref a.t2), ("_origins", .ref a.t3)]
theorem gFs_new (b : Addr) (a : GA) : putF "_origins" (.ref a.t3) (putF "_steps" (.ref a.t2) (putF "_numbers" (.ref a.dn) (putF "_places" (.ref a.t1) (putF "protocol" (.ref b) [])))) = gFs b a := by rfl
structure GraphAt (C : Addr) (H : Hp) (g b : Addr) (a : GA) (s : BF) : Prop where
  ob : ∃ dx, H g = some (.ins C dx (gFs b a))
  ps : ∃ xs, H a.t1 = some (.tup xs) ∧ Tups encIs H xs s.ps
  dn : H a.dn = some (.dT (kNum s.ps))
  st : ∃ xs, H a.t2 = some (.tup xs) ∧ Tups encIs H xs s.rows
  og : ∃ xs, H a.t3 = some (.tup xs) ∧ Ogs H xs s.og
theorem GraphAt.same {C : Addr} {H H' : Hp} {g b : Addr} {a : GA} {s : BF} (S : GraphAt C H g b a s) (e : Same H H') : GraphAt C H' g b a s := by
  obtain ⟨dx, h0⟩ := S.ob
  obtain ⟨x1, h1, T1⟩ := S.ps
  obtain ⟨x2, h2, T2⟩ := S.st
  obtain ⟨x3, h3, T3⟩ := S.og
  exact ⟨⟨dx, e _ _ h0⟩, ⟨x1, e _ _ h1, T1.same e⟩, e _ _ S.dn, ⟨x2, e _ _ h2, T2.same e⟩, ⟨x3, e _ _ h3, T3.mono fun t ys => e t _⟩⟩
/-- .. but for these objects -/
theorem Tups.keepD {α : Type} {enc : α → List V} {H H' : Hp} {xs : List V} {l : List α} (h : Tups enc H xs l) (e : ∀ t ys, H t = some (.tup ys) → H' t = some (.tup ys)) : Tups enc H' xs l := h.mono e
/-- lists and a dict under way: places, their numbers, rows; S: other lists -/
structure XL (S : List Addr) (H0 H : Hp) (lp dn ls : Addr) (ps kd rows : List (List Int)) : Prop where
  same : Same H0 H
  np : H0 lp = none
  nd : H0 dn = none
  ns : H0 ls = none
  ne : lp ≠ ls
  sp : lp ∉ S
  sd : dn ∉ S
  ss : ls ∉ S
  hp : ∃ xp, H lp = some (.lst xp) ∧ Tups encIs H xp ps
  hd : H dn = some (.dT (kNum kd))
  hs : ∃ xs, H ls = some (.lst xs) ∧ Lsts H xs rows ∧ ∀ t, V.ref t ∈ xs → t ≠ lp ∧ t ≠ ls ∧ t ∉ S
section
variable {S : List Addr} {H0 H H' : Hp} {lp dn ls : Addr} {ps kd rows : List (List Int)}
theorem XL.go (X : XL S H0 H lp dn ls ps kd rows) (e : Same H H') : XL S H0 H' lp dn ls ps kd rows := by
  obtain ⟨xp, h1, t1⟩ := X.hp
  obtain ⟨xs, h2, t2, a2⟩ := X.hs
  exact ⟨X.same.trans e, X.np, X.nd, X.ns, X.ne, X.sp, X.sd, X.ss, ⟨xp, e _ _ h1, t1.same e⟩, e _ _ X.hd, ⟨xs, e _ _ h2, t2.mono fun t ys _ h => e _ _ h, a2⟩⟩
theorem ne_in {x y : Addr} (hx : x ∈ S) (h : y ∉ S) : y ≠ x := fun e => h (by rw [e]; exact hx)
theorem upd_tups {H : Hp} {p : Addr} {o o' : HO} (h : H p = some o) (n : ∀ ys, o ≠ .tup ys) : ∀ t ys, H t = some (.tup ys) → (upd H p o') t = some (.tup ys) := fun t ys ht => by
  rw [upd_ne (fun e => by rw [e, h] at ht; exact n _ (Option.some.inj ht))]
  exact ht
theorem XL.putD (X : XL S H0 H lp dn ls ps kd rows) (kd' : List (List Int)) : XL S H0 (upd H dn (.dT (kNum kd'))) lp dn ls ps kd' rows := by
  obtain ⟨xp, h1, t1⟩ := X.hp
  obtain ⟨xs, h2, t2, a2⟩ := X.hs
  have up := upd_tups (o' := .dT (kNum kd')) X.hd (by intro ys e; cases e)
  have ne1 : ∀ {x : Addr} {ys : List V}, H x = some (.lst ys) → x ≠ dn := fun h e => by rw [e, X.hd] at h; cases h
  exact ⟨Vf.Same.chg X.same X.nd, X.np, X.nd, X.ns, X.ne, X.sp, X.sd, X.ss, ⟨xp, by rw [upd_ne (ne1 h1)]; exact h1, t1.mono up⟩, upd_same, ⟨xs, by rw [upd_ne (ne1 h2)]; exact h2, t2.mono fun t ys _ h => by rw [upd_ne (ne1 h)]; exact h, a2⟩⟩
theorem XL.appP (X : XL S H0 H lp dn ls ps kd rows) {xp : List V} {t : Addr} {w : List Int} (h : H lp = some (.lst xp)) (ht : H t = some (.tup (encIs w))) : XL S H0 (upd H lp (.lst (xp ++ [.ref t]))) lp dn ls (ps ++ [w]) kd rows := by
  obtain ⟨xp', h1, t1⟩ := X.hp
  rw [h] at h1
  cases h1
  obtain ⟨xs, h2, t2, a2⟩ := X.hs
  have up := upd_tups (o' := .lst (xp ++ [.ref t])) h (by intro ys e; cases e)
  exact ⟨Vf.Same.chg X.same X.np, X.np, X.nd, X.ns, X.ne, X.sp, X.sd, X.ss, ⟨_, upd_same, (t1.mono up).snoc (up _ _ ht)⟩, by rw [upd_ne (fun e => by rw [← e, X.hd] at h; cases h)]; exact X.hd,
    ⟨xs, by rw [upd_ne (Ne.symm X.ne)]; exact h2, t2.mono fun t ys m h => by rw [upd_ne (a2 t m).1]; exact h, a2⟩⟩
theorem XL.appS (X : XL S H0 H lp dn ls ps kd rows) {xs : List V} {t : Addr} {r : List Int} (h : H ls = some (.lst xs)) (ht : H t = some (.lst (r.map V.int))) (n : t ≠ lp ∧ t ≠ ls ∧ t ∉ S) : XL S H0 (upd H ls (.lst (xs ++ [.ref t]))) lp dn ls ps kd (rows ++ [r]) := by
  obtain ⟨xp, h1, t1⟩ := X.hp
  obtain ⟨xs', h2, t2, a2⟩ := X.hs
  rw [h] at h2
  cases h2
  have up := upd_tups (o' := .lst (xs ++ [.ref t])) h (by intro ys e; cases e)
  refine ⟨Vf.Same.chg X.same X.ns, X.np, X.nd, X.ns, X.ne, X.sp, X.sd, X.ss, ⟨xp, by rw [upd_ne X.ne]; exact h1, t1.mono up⟩, by rw [upd_ne (fun e => by rw [← e, X.hd] at h; cases h)]; exact X.hd, ⟨_, upd_same, ?_, fun u m => ?_⟩⟩
  · refine (t2.mono fun u ys m h => ?_).snoc ?_
    · rw [upd_ne (a2 u m).2.1]; exact h
    · rw [upd_ne n.2.1]; exact ht
  · rcases List.mem_append.mp m with m | m
    · exact a2 u m
    · have e : V.ref u = V.ref t := List.mem_singleton.mp m
      cases e
      exact n
theorem XL.oth (X : XL S H0 H lp dn ls ps kd rows) {x : Addr} {ys zs : List V} (hx : x ∈ S) (h0 : H0 x = none) (h : H x = some (.lst ys)) : XL S H0 (upd H x (.lst zs)) lp dn ls ps kd rows := by
  obtain ⟨xp, h1, t1⟩ := X.hp
  obtain ⟨xs, h2, t2, a2⟩ := X.hs
  have up := upd_tups (o' := .lst zs) h (by intro ys e; cases e)
  exact ⟨Vf.Same.chg X.same h0, X.np, X.nd, X.ns, X.ne, X.sp, X.sd, X.ss, ⟨xp, by rw [upd_ne (ne_in hx X.sp)]; exact h1, t1.mono up⟩, by rw [upd_ne (ne_in hx X.sd)]; exact X.hd,
    ⟨xs, by rw [upd_ne (ne_in hx X.ss)]; exact h2, t2.mono fun u ys m h => by rw [upd_ne (ne_in hx (a2 u m).2.2)]; exact h, a2⟩⟩
theorem XL.more (X : XL [] H0 H lp dn ls ps kd rows) {x : Addr} {o : HO} (nx : H x = none) : XL [x] H0 (upd H x o) lp dn ls ps kd rows := by
  have s := Vf.Same.new (o := o) (Same.refl H) nx
  have Y := X.go s
  obtain ⟨xp, h1, t1⟩ := X.hp
  obtain ⟨xs, h2, t2, a2⟩ := X.hs
  refine ⟨Y.same, Y.np, Y.nd, Y.ns, Y.ne, fun m => ?_, fun m => ?_, fun m => ?_, Y.hp, Y.hd, ⟨xs, s _ _ h2, t2.mono fun t ys _ h => s _ _ h, fun t m => ⟨(a2 t m).1, (a2 t m).2.1, fun m2 => ?_⟩⟩⟩
  · rw [← List.mem_singleton.mp m, h1] at nx; cases nx
  · rw [← List.mem_singleton.mp m, X.hd] at nx; cases nx
  · rw [← List.mem_singleton.mp m, h2] at nx; cases nx
  · obtain ⟨i, hi⟩ := List.mem_iff_getElem?.mp m
    obtain ⟨r, u, _, e, hu⟩ := t2.get hi
    cases e
    rw [← List.mem_singleton.mp m2, hu] at nx
    cases nx
theorem XL.less (X : XL S H0 H lp dn ls ps kd rows) : XL [] H0 H lp dn ls ps kd rows := by
  obtain ⟨xs, h2, t2, a2⟩ := X.hs
  exact ⟨X.same, X.np, X.nd, X.ns, X.ne, by simp, by simp, by simp, X.hp, X.hd, ⟨xs, h2, t2, fun t m => ⟨(a2 t m).1, (a2 t m).2.1, by simp⟩⟩⟩
end
/-- the law's graph: places and rows -/
structure DueAt (H : Hp) (l : Addr) (s : BF) : Prop where
  ex : ∃ (lf lr : Addr) (xf xr : List V), H l = some (.lst [.ref lf, .ref lr]) ∧ H lf = some (.lst xf) ∧ Tups encIs H xf s.ps ∧ H lr = some (.lst xr) ∧ Lsts H xr s.rows
theorem DueAt.same {H H' : Hp} {l : Addr} {s : BF} (d : DueAt H l s) (e : Same H H') : DueAt H' l s := by
  obtain ⟨lf, lr, xf, xr, h1, h2, h3, h4, h5⟩ := d.ex
  exact ⟨lf, lr, xf, xr, e _ _ h1, e _ _ h2, h3.same e, e _ _ h4, h5.mono fun t ys _ h => e _ _ h⟩
end Vf

/-! ### enumerate(list, start=k) -/
namespace Vf
open PySem PySem.Spec PyProof.Rows L2
def IteS (K : PySem.W.Frag) (a : Addr) (c : Int) : It where
  go := fun i H => ∃ (xs : List V) (x : V), SqL K H a xs ∧ xs[i]? = some x
  yld := fun i H v H' => ∃ (T : Addr) (x : V), (v = .ref T ∧ H T = none ∧ H' = upd H T (.tup [.int (c + i), x])) ∧ ∀ xs, SqL K H a xs → xs[i]? = some x
  stop := fun i H => ∃ xs : List V, SqL K H a xs ∧ xs.length = i
theorem isl {h : Heap} {a : Addr} {its : Array Value} (p : PlainL h a its) : h.IsList a its := by
  obtain ⟨o, m, e, c, d, z⟩ := p
  exact ⟨o, e, c, m, z⟩
theorem turn_enumS {P : Program} {w : World} {K : PySem.W.Frag} {elts : List Expr} {kk : Nat} {tpos : Pos} (c : Int) (a e it : Addr) (hai : a ≠ it) (hae : a ≠ e) :
    Turn P w K (.Tuple elts kk tpos) (IteS K a c) [e, it] e (fun i h => (∃ old, IsEnum h e it (c + (i : Int)) old) ∧ h.IsListIter it a i ∧ e ≠ it) where
  mem := List.mem_cons_self ..
  obj := by
    rintro i h ⟨⟨old, he⟩, ⟨o, ho, _, hd⟩, _⟩ b hb
    rcases (show b = e ∨ b = it by simpa using hb) with rfl | rfl
    · exact ⟨_, he, nofun⟩
    · refine ⟨o, ho, fun v z => ?_⟩
      rw [hd] at z
      cases z
  keep := by
    rintro i h h' ⟨⟨old, he⟩, hi, ne⟩ k
    exact ⟨⟨old, k e (by simp) _ he⟩, hi.at fun o z => k it (by simp) o z, ne⟩
  item := by
    rintro X rfl rfl rfl hc i pins s σ H E I hf ⟨⟨old, he⟩, hit, ne⟩ ⟨xs, x, hq, hx⟩
    obtain ⟨its, rv, pn, _⟩ := I.list hq
    have p := isl pn
    obtain ⟨u, hu, ru⟩ := rv.get hx
    have hel : e < s.heap.objs.size := Heap.lt_size he
    have hil : it < s.heap.objs.size := by
      obtain ⟨_, z, _⟩ := hit
      exact Heap.lt_size z
    have nh : X.A.in1.handled = none := I.ok.hd hc
    have lx := (List.getElem?_eq_some_iff.mp hu).1
    refine wpAny_pyNext_enum_itemC (c := c + (i : Int)) (Draws.list nh it a hai its.toArray) he ⟨hit, p⟩ (by simpa using lx) ne (by simp [ne, Ne.symm hae]) fun x1 h' tk e1 ho hst' hT hsz hk => ?_
    have ux : u = x1 := by
      simp only [List.getElem?_toArray] at e1
      rw [hu] at e1
      exact Option.some.inj e1
    subst ux
    obtain ⟨hit', _⟩ := hst'
    refine ⟨_, rfl, wpAny_letOwnedTupleGo_enum (s := { s with heap := h', toks := tk + 1 }) ho fun h2 he' sb => ?_⟩
    have hT2 : h2.get? s.heap.objs.size = some { cls := .type "tuple", data := .seq #[.int (c + (i : Int)) tk, u] } := (sb.2 _ (Nat.ne_of_gt hel)).trans hT
    have new : ObjOk X.prog X.w (upd H s.heap.objs.size (.tup [.int (c + (i : Int)), x])) h2 s.heap.objs.size (.tup [.int (c + (i : Int)), x]) :=
      ⟨(by decide : 2 ≤ sizeLine), [.int (c + (i : Int)) tk, u], .cons ⟨_, rfl⟩ (.cons ru .nil), ⟨_, hT2, rfl, _, rfl⟩⟩
    have J : Inv X pins σ (upd H s.heap.objs.size (.tup [.int (c + (i : Int)), x])) { s with heap := h2, toks := tk + 1 } :=
      I.turnedNew (ch := [e, it]) (fun b ob hb z => (sb.2 b (fun y => hb (by simp [y]))).trans (hk b ob (fun y => hb (by simp [y])) (fun y => hb (by simp [y])) z)) hf (Nat.le_refl _) new
    refine ⟨.ref s.heap.objs.size, _, J, rfl, ⟨_, x, ⟨rfl, I.hok.fresh (Nat.le_refl _), rfl⟩, fun ys hy => by rw [I.list_inj hy hq]; exact hx⟩, ⟨⟨u, ?_⟩, hit'.at fun o z => (sb.2 it (Ne.symm ne)).trans z, ne⟩, fun b hb => ?_⟩
    · have e2 : c + ((i + 1 : Nat) : Int) = c + (i : Int) + 1 := by omega
      rw [e2]
      exact he'
    · have lt : b < s.heap.objs.size := by
        rcases (show b = e ∨ b = it by simpa using hb) with rfl | rfl
        · exact hel
        · exact hil
      rw [upd_ne (Nat.ne_of_lt lt)]
      exact (hf b hb).1
  done := by
    rintro X rfl rfl rfl hc i pins s σ H E I hf ⟨⟨old, he⟩, hit, ne⟩ ⟨xs, hq, hx⟩
    obtain ⟨its, rv, pn, _⟩ := I.list hq
    have p := isl pn
    obtain ⟨f0, f1, f2, f3, f4, f5⟩ := hf it (by simp)
    have hl := rv.length
    have nh : X.A.in1.handled = none := I.ok.hd hc
    exact wpAny_pyNext_enum_endD (Draws.list nh it a hai its.toArray) he ⟨by rw [List.size_toArray, ← hl, hx]; exact hit, p⟩ fun h' eb => ⟨rfl, I.turned (t' := s.toks) (fun b o hb z => eb b o hb z) f0 f1 f3 f4 f5⟩
  self := fun A i s Q E st h => by
    obtain ⟨⟨_, he⟩, _⟩ := st
    exact wpAny_pyIter_enum he h
/-- a call of a built-in class with keywords -/
theorem callWith_tyK {M : Model} {A : Around} {E : Value → Shared → Prop} {s : Shared} {env : Env} {pos : Pos} {T : String} {e : Expr} {rest : List Expr} {kws : List Keyword} {Q : Value → Shared → Prop}
    (h : wpAny M A (spliced (backTo pos (starEach (e :: rest) env))) (fun us s' => wpAny M A (evalAll ((backToKw pos (keywordEach kws env)).map (·.2)))
      (fun ws s'' => wpAny M A (call (.type T) us (((backToKw pos (keywordEach kws env)).filterMap (·.1)).zip ws)) Q E s'') E s') E s)
    (he : backTo pos (starEach (e :: rest) env) = (false, eval e env) :: backTo pos (starEach rest env))
    (hp : (backTo pos (starEach (e :: rest) env)).any (·.1) = false) (hall : (backToKw pos (keywordEach kws env)).all (·.1.isSome) = true) (hk : (backToKw pos (keywordEach kws env)).any (·.1.isNone) = false) :
    wpAny M A (callWith pos (.type T) [] (backTo pos (starEach (e :: rest) env)) (backToKw pos (keywordEach kws env))) Q E s := by
  have step : wpAny M A (evalArgs (.type T) true (backTo pos (starEach (e :: rest) env)) (backToKw pos (keywordEach kws env))) (fun a s' => wpAny M A (call (.type T) ([] ++ a.pos) a.kw) Q E s') E s := by
    rw [he] at h ⊢
    exact evalArgs_kwB hall h
  unfold callWith
  refine wpAny_bind (wpAny_holding (wpAny_mono step (fun a s' q => wpAny_bind (wpAny_standAt ?_)) fun _ _ z => z))
  simp only [hp, hk, Bool.or_false]
  exact wpAny_bind (wpAny_pure (wpAny_bind (wpAny_mono q (fun r s2 z => wpAny_bind (wpAny_holding (wpAny_point (wpAny_pure z)))) fun _ _ z => z)))
def iEnumS (K : PySem.W.Frag) (ta tk : TA) : TI := fun σ H R => ta σ H fun vs H1 => ∃ a, vs = [.ref a] ∧ tk σ H1 fun zs H2 => ∃ (xs : List V) (c : Int), zs = [.int c] ∧ SqL K H2 a xs ∧ -(2 ^ 63) ≤ c ∧ c < 2 ^ 63 ∧ R (IteS K a c) H2
theorem pi_enumS {X : Cx} {e : Expr} {ta tk : TA} {p pos tpos : Pos} {elts : List Expr} {kk : Nat} {kws : List Keyword} (hg : Gl X "enumerate") (hm : X.mg "enumerate" = none) (ha : PA X [e] ta) (hk : PK X kws tk)
    (he : backTo pos (starEach [e] X.env) = (false, eval e X.env) :: backTo pos (starEach [] X.env) := by rfl) (hp : (backTo pos (starEach [e] X.env)).any (·.1) = false := by rfl)
    (hall : (backToKw pos (keywordEach kws X.env)).all (·.1.isSome) = true := by rfl) (hno : (backToKw pos (keywordEach kws X.env)).any (·.1.isNone) = false := by rfl) (hks : (backToKw pos (keywordEach kws X.env)).filterMap (·.1) = [Str.ofString "start"] := by rfl) :
    PI X (.Tuple elts kk tpos) (.Call (.Name "enumerate" p) [e] kws pos) (iEnumS X.K ta tk) := by
  refine ⟨fun pins s σ H R I h => ?_⟩
  refine wpAny_Call_Name_kw (ld_blt I hg hm boot_enumerate ?_)
  refine callWith_tyK (thn (ha.run pos pins s σ H _ I h) fun us s1 ⟨vs, H1, I1, r1, q1⟩ => ?_) he hp hall hno
  obtain ⟨a, rfl, q1⟩ := q1
  refine thn (hk.run pos pins s1 σ H1 _ I1 q1) fun ws s2 ⟨zs, H2, I2, r2, q2⟩ => ?_
  obtain ⟨xs, c, rfl, hq, c0, c1, q⟩ := q2
  rw [hks]
  obtain rfl := Vals.ref1 r1
  obtain ⟨v, rfl, rv⟩ := vals1 r2
  obtain ⟨t, rfl⟩ := rv
  obtain ⟨its, rl, pn, _⟩ := I2.list hq
  have pl := isl pn
  obtain ⟨o1, w1, _⟩ := id pl
  have al : a < s2.heap.objs.size := Heap.lt_size w1
  refine enum_begins_start (begins_list a its.toArray) pl c0 c1 fun h' he hit hsz hk => wpAny_pyIter_enum he ?_
  have J : L2.Inv X pins σ H2 { s2 with heap := h' } := I2.kept (t' := s2.toks) hk
  have e0 : c + ((0 : Nat) : Int) = c := by omega
  refine ⟨s2.heap.objs.size + 1, [s2.heap.objs.size + 1, s2.heap.objs.size], _, _, H2, rfl, J, turn_enumS c a (s2.heap.objs.size + 1) s2.heap.objs.size (Nat.ne_of_lt al) (Nat.ne_of_lt (Nat.lt_succ_of_lt al)), ⟨⟨.none, by rw [e0]; exact he⟩, ⟨_, hit, rfl, rfl⟩, Nat.succ_ne_self _⟩, fun b hb => ?_, q⟩
  have le : s2.heap.objs.size ≤ b := by
    rcases (show b = s2.heap.objs.size + 1 ∨ b = s2.heap.objs.size by simpa using hb) with rfl | rfl
    · exact Nat.le_add_right _ _
    · exact Nat.le_refl _
  exact I2.fpOk le (I2.hok.fresh le)
section
variable {K : PySem.W.Frag} {a : Addr} {xs : List V} {c : Int}
theorem walk_enumS : Walk (IteS K a c) xs.length (fun H => SqL K H a xs) (YPair (fun i => some (.int (c + (i : Int)))) (fun i => xs[i]?)) := by
  refine ⟨fun i _ hi q => ⟨xs, xs[i], q, by simp [hi]⟩, fun _ q => ⟨xs, q, rfl⟩, fun i H v H' _ q y => ?_⟩
  obtain ⟨T, x, ⟨h1, h2, h3⟩, h4⟩ := y
  exact ⟨T, .int (c + (i : Int)), x, h1, h2, h3, rfl, h4 xs q⟩
end
/-- a tuple of texts of the module itself -/
def TupK (K : PySem.W.Frag) (a : Addr) (l : List Str) : Prop := ∃ (o : Obj) (its : Array Value) (n : Nat), K.lookup a = some o ∧ o.cls = .type "tuple" ∧ o.dict = none ∧ o.data = .seq its n ∧ its.size ≤ sizeLine ∧ Vals (l.map V.str) its.toList
theorem TupK.seq {K : PySem.W.Frag} {a : Addr} {l : List Str} (h : TupK K a l) (H : Hp) : SqT K H a (l.map V.str) := by
  obtain ⟨o, its, n, h1, h2, _, h3⟩ := h
  exact .inr ⟨o, its, n, h1, h2, h3⟩
theorem TupK.ty {K : PySem.W.Frag} {a : Addr} {l : List Str} (h : TupK K a l) (H : Hp) : tyV K "tuple" (.ref a) H := by
  obtain ⟨o, _, _, h1, h2, h3, _⟩ := h
  exact .inr (.inl ⟨rfl, o, h1, h2, h3⟩)
end Vf

namespace Vf
open PySem L2
theorem cut_hi (xs : List V) (c : Nat) : cutV xs none (some (c : Int)) = xs.take c := by
  unfold cutV
  rw [HT.sIx_nat, show HT.sIx xs.length 0 none = 0 from rfl, List.drop_zero, Nat.sub_zero]
  by_cases h : c ≤ xs.length
  · rw [Nat.min_eq_left h]
  · rw [Nat.min_eq_right (by omega), List.take_of_length_le (Nat.le_refl _), List.take_of_length_le (by omega)]
theorem cut_lo (xs : List V) (c : Nat) : cutV xs (some (c : Int)) none = xs.drop c := by
  unfold cutV
  rw [HT.sIx_nat, show HT.sIx xs.length xs.length none = xs.length from rfl]
  by_cases h : c ≤ xs.length
  · rw [Nat.min_eq_left h, List.take_of_length_le (by rw [List.length_drop]; omega)]
  · rw [Nat.min_eq_right (by omega), List.drop_of_length_le (Nat.le_refl _), List.drop_of_length_le (by omega), List.take_nil]
theorem Tups.takeT {α : Type} {enc : α → List V} {H : Hp} {xs : List V} {l : List α} (h : Tups enc H xs l) (c : Nat) : Tups enc H (xs.take c) (l.take c) := ⟨by rw [List.length_take, List.length_take, h.1], fun i a e => by
  rw [List.getElem?_take] at e
  by_cases ic : i < c
  · rw [if_pos ic] at e
    obtain ⟨t, h1, h2⟩ := h.2 i a e
    exact ⟨t, by rw [List.getElem?_take, if_pos ic]; exact h1, h2⟩
  · rw [if_neg ic] at e
    cases e⟩
theorem Tups.dropT {α : Type} {enc : α → List V} {H : Hp} {xs : List V} {l : List α} (h : Tups enc H xs l) (c : Nat) : Tups enc H (xs.drop c) (l.drop c) := ⟨by rw [List.length_drop, List.length_drop, h.1], fun i a e => by
  rw [List.getElem?_drop] at e
  obtain ⟨t, h1, h2⟩ := h.2 _ a e
  exact ⟨t, by rw [List.getElem?_drop]; exact h1, h2⟩⟩
theorem Tups.join {α : Type} {enc : α → List V} {H : Hp} {xs ys : List V} {l m : List α} (h : Tups enc H xs l) (k : Tups enc H ys m) : Tups enc H (xs ++ ys) (l ++ m) := by
  refine ⟨by rw [List.length_append, List.length_append, h.1, k.1], fun i a e => ?_⟩
  by_cases c : i < l.length
  · rw [List.getElem?_append_left c] at e
    obtain ⟨t, h1, h2⟩ := h.2 i a e
    exact ⟨t, by rw [List.getElem?_append_left (by rw [h.1]; exact c)]; exact h1, h2⟩
  · rw [List.getElem?_append_right (by omega)] at e
    obtain ⟨t, h1, h2⟩ := k.2 _ a e
    exact ⟨t, by rw [List.getElem?_append_right (by rw [h.1]; omega), h.1]; exact h1, h2⟩
end Vf
namespace Vf
open PySem L2
theorem ans_or2 {t u : TT} {σ : L2.St} {H : Hp} {b1 b2 : Bool} (h1 : Ans t σ H b1) (h2 : Ans u σ H b2) : Ans (tOr t u) σ H (b1 || b2) := fun R r => by
  refine h1 _ ?_
  cases b1 with
  | true => exact ite_b (fun _ => r) (fun c => absurd c (by decide))
  | false => exact ite_b (fun c => absurd c (by decide)) (fun _ => h2 R r)
end Vf

namespace Vf
open PySem L2
/-! ### crowds and schedules -/
def agOk (n : Nat) (m : Int × Int) : Bool := decide (m.1 ≠ m.2) && (decide (0 ≤ (if m.2 < m.1 then m.2 else m.1)) && decide ((if m.2 > m.1 then m.2 else m.1) < (n : Int)))
theorem agOk_iff {n : Nat} {m : Int × Int} : agOk n m = true ↔ m.1 ≠ m.2 ∧ (0 ≤ m.1 ∧ 0 ≤ m.2) ∧ m.1 < n ∧ m.2 < n := by
  unfold agOk
  rw [Bool.and_eq_true, Bool.and_eq_true, decide_eq_true_eq, decide_eq_true_eq, decide_eq_true_eq]
  refine and_congr Iff.rfl (and_congr ?_ ?_) <;> split <;> omega
def stepC (f : Int × Int → Int × Int) (cs : List Int) (m : Int × Int) : List Int :=
  (cs.set m.1.toNat (f (cs.getD m.1.toNat 0, cs.getD m.2.toNat 0)).1).set m.2.toNat (f (cs.getD m.1.toNat 0, cs.getD m.2.toNat 0)).2
def goC (f : Int × Int → Int × Int) : Nat → List (Int × Int) → List Int → Nat ⊕ List Int
  | _, [], cs => .inr cs
  | k, m :: r, cs => if agOk cs.length m = true then goC f (k + 1) r (stepC f cs m) else .inl k
theorem goC_step {f : Int × Int → Int × Int} {ms : List (Int × Int)} {i : Nat} {m : Int × Int} {cs : List Int} (h : ms[i]? = some m) : goC f i (ms.drop i) cs = if agOk cs.length m = true then goC f (i + 1) (ms.drop (i + 1)) (stepC f cs m) else .inl i := by
  have hi := (List.getElem?_eq_some_iff.mp h).1
  rw [List.drop_eq_getElem_cons hi, (List.getElem?_eq_some_iff.mp h).2]
  rfl
theorem goC_end {f : Int × Int → Int × Int} {ms : List (Int × Int)} {i : Nat} {cs : List Int} (h : ms.length ≤ i) : goC f i (ms.drop i) cs = .inr cs := by
  rw [List.drop_eq_nil_iff.mpr h]
  rfl
def InC (n : Nat) (cs : List Int) : Prop := ∀ c ∈ cs, 0 ≤ c ∧ c < (n : Int)
theorem InC.get {n : Nat} {cs : List Int} (h : InC n cs) {i : Nat} (hi : i < cs.length) : 0 ≤ cs.getD i 0 ∧ cs.getD i 0 < (n : Int) := h _ (by rw [List.getD_eq_getElem?_getD, List.getElem?_eq_getElem hi]; exact List.getElem_mem hi)
theorem InC.set {n : Nat} {cs : List Int} (h : InC n cs) {i : Nat} {x : Int} (hx : 0 ≤ x ∧ x < (n : Int)) : InC n (cs.set i x) := fun c hc => by
  rcases List.mem_or_eq_of_mem_set hc with k | k
  · exact h c k
  · rw [k]; exact hx
theorem stepC_len (f : Int × Int → Int × Int) (cs : List Int) (m : Int × Int) : (stepC f cs m).length = cs.length := by
  unfold stepC
  rw [List.length_set, List.length_set]
theorem stepC_in {D : DD} (v : ValidN D) {cs : List Int} {m : Int × Int} (h : InC D.st.length cs) (ok : agOk cs.length m = true) : InC D.st.length (stepC (fD D) cs m) := by
  obtain ⟨_, ⟨a, b⟩, c, d⟩ := agOk_iff.mp ok
  have h1 := h.get (i := m.1.toNat) (by omega)
  have h2 := h.get (i := m.2.toNat) (by omega)
  have r := meetOf_in v (m := (cs.getD m.1.toNat 0, cs.getD m.2.toNat 0)) ⟨h1.1, h1.2, h2.1, h2.2⟩
  unfold stepC
  exact (h.set ⟨r.1, r.2.1⟩).set ⟨r.2.2.1, r.2.2.2⟩
/-- what following a schedule tells -/
def ToldC (H : Hp) (v : V) : Nat ⊕ List Int → Prop
  | .inl k => ∃ u, v = .ref u ∧ H u = some (.tup [.str "index", .int (k : Int)])
  | .inr cs => ∃ u l, v = .ref u ∧ H u = some (.tup [.str "crowd", .ref l]) ∧ H l = some (.lst (cs.map V.int))
theorem ToldC.same {H H' : Hp} {v : V} {r : Nat ⊕ List Int} (h : ToldC H v r) (s : Same H H') : ToldC H' v r := by
  cases r with
  | inl k => obtain ⟨u, e, h1⟩ := h; exact ⟨u, e, s _ _ h1⟩
  | inr cs => obtain ⟨u, l, e, h1, h2⟩ := h; exact ⟨u, l, e, s _ _ h1, s _ _ h2⟩
def countsC (n : Nat) (cs : List Int) : List Int := cs.foldl (fun pl c => putAt pl c.toNat 1) (List.replicate n 0)
theorem countsC_snoc {n : Nat} {cs : List Int} {k : Nat} {c : Int} (h : cs[k]? = some c) : countsC n (cs.take (k + 1)) = putAt (countsC n (cs.take k)) c.toNat 1 := by
  unfold countsC
  rw [take_snoc h, List.foldl_append]
  rfl
end Vf
namespace Vf
open PySem L2
def crowdOf (n : Nat) (pl : List Int) : List Int := (List.range n).flatMap fun i => List.replicate (pl.getD i 0).toNat (i : Int)
theorem crowdOf_succ (n : Nat) (pl : List Int) : crowdOf (n + 1) pl = crowdOf n pl ++ List.replicate (pl.getD n 0).toNat (n : Int) := by
  unfold crowdOf
  rw [List.range_succ, List.flatMap_append]
  simp
theorem crowdOf_lt (pl : List Int) : ∀ (n : Nat) (z : Int), z ∈ crowdOf n pl → 0 ≤ z ∧ z < n
  | 0, z, h => by simp [crowdOf] at h
  | n + 1, z, h => by
    rw [crowdOf_succ, List.mem_append, List.mem_replicate] at h
    rcases h with h | ⟨_, rfl⟩
    · have := crowdOf_lt pl n z h
      omega
    · omega
theorem crowdOf_asc (pl : List Int) : ∀ n : Nat, (crowdOf n pl).Pairwise (· ≤ ·)
  | 0 => by simp [crowdOf]
  | n + 1 => by
    rw [crowdOf_succ, List.pairwise_append]
    refine ⟨crowdOf_asc pl n, ?_, fun a ha b hb => ?_⟩
    · exact List.pairwise_replicate.mpr (.inr (Int.le_refl _))
    · have := crowdOf_lt pl n a ha
      rw [List.mem_replicate] at hb
      omega
theorem crowdOf_count (pl : List Int) : ∀ (n k : Nat), (crowdOf n pl).count (k : Int) = if k < n then (pl.getD k 0).toNat else 0
  | 0, k => by simp [crowdOf]
  | n + 1, k => by
    rw [crowdOf_succ, List.count_append, crowdOf_count pl n k, List.count_replicate]
    by_cases e : n = k
    · subst e
      rw [if_neg (Nat.lt_irrefl _), if_pos (by simp), if_pos (Nat.lt_succ_self _)]
      omega
    · have z : ((n : Int) == (k : Int)) = false := by rw [beq_eq_false_iff_ne]; omega
      rw [z, if_neg (show ¬ (false = true) by decide)]
      by_cases l : k < n
      · rw [if_pos l, if_pos (show k < n + 1 by omega)]; rfl
      · rw [if_neg l, if_neg (show ¬ k < n + 1 by omega)]
theorem countsC_len (n : Nat) (cs : List Int) : (countsC n cs).length = n := by
  unfold countsC
  have : ∀ (cs pl : List Int), (cs.foldl (fun pl c => putAt pl c.toNat 1) pl).length = pl.length := by
    intro cs
    induction cs with
    | nil => intro pl; rfl
    | cons c r ih => intro pl; rw [List.foldl_cons, ih, putAt_len]
  rw [this, List.length_replicate]
theorem countsC_get {n : Nat} {cs : List Int} (h : InC n cs) {k : Nat} (hk : k < n) : (countsC n cs).getD k 0 = (cs.count (k : Int) : Nat) := by
  have : ∀ (cs pl : List Int), InC n cs → pl.length = n → (cs.foldl (fun pl c => putAt pl c.toNat 1) pl).getD k 0 = pl.getD k 0 + (cs.count (k : Int) : Nat) := by
    intro cs
    induction cs with
    | nil => intro pl _ _; simp
    | cons c r ih =>
      intro pl hc hl
      have c1 := hc c (by simp)
      rw [List.foldl_cons, ih _ (fun x hx => hc x (by simp [hx])) (by rw [putAt_len]; exact hl), putAt_get, List.count_cons]
      by_cases e : c = (k : Int)
      · rw [if_pos ⟨by omega, by omega⟩, if_pos (by simp [e])]
        omega
      · rw [if_neg (by omega), if_neg (by simpa using e)]
        omega
  unfold countsC
  rw [this cs _ h (List.length_replicate ..)]
  have z : (List.replicate n (0 : Int)).getD k 0 = 0 := by rw [List.getD_eq_getElem?_getD, List.getElem?_replicate]; split <;> rfl
  rw [z]
  omega
theorem crowdOf_perm {n : Nat} {cs : List Int} (h : InC n cs) : (crowdOf n (countsC n cs)).Perm cs := by
  rw [List.perm_iff_count]
  intro z
  by_cases zz : 0 ≤ z ∧ z < (n : Int)
  · obtain ⟨k, rfl⟩ : ∃ k : Nat, z = (k : Int) := ⟨z.toNat, by omega⟩
    rw [crowdOf_count, if_pos (by omega), countsC_get h (by omega)]
    omega
  · rw [List.count_eq_zero.mpr fun m => zz (crowdOf_lt _ _ _ m), List.count_eq_zero.mpr fun m => zz (h z m)]
theorem crowdOf_sorted {n : Nat} {cs ls : List Int} (h : InC n cs) (pm : ls.Perm cs) (pw : ls.Pairwise (· ≤ ·)) : crowdOf n (countsC n cs) = ls :=
  ((crowdOf_perm h).trans pm.symm).eq_of_pairwise (fun x y _ _ h1 h2 => Int.le_antisymm h1 h2) (crowdOf_asc _ _) pw
end Vf
namespace Vf
open PySem L2
theorem crowdOf_len (pl : List Int) (h : ∀ y ∈ pl, y ≤ 1000) : ∀ n : Nat, (crowdOf n pl).length ≤ 1000 * n
  | 0 => by simp [crowdOf]
  | n + 1 => by
    rw [crowdOf_succ, List.length_append, List.length_replicate]
    have := crowdOf_len pl h n
    have b : pl.getD n 0 ≤ 1000 := by
      rw [List.getD_eq_getElem?_getD]
      cases e : pl[n]? with
      | none => decide
      | some y => exact h y (List.mem_of_getElem? e)
    omega
end Vf
namespace Vf
open PySem L2
theorem drawn_ok {n : Nat} {a b : Int} (hn : 2 ≤ n) : agOk n (a % (n : Int), (a % (n : Int) + 1 + b % ((n : Int) - 1)) % (n : Int)) = true := by
  have f0 : 0 ≤ a % (n : Int) := Int.emod_nonneg _ (by omega)
  have f1 : a % (n : Int) < n := Int.emod_lt_of_pos _ (by omega)
  have r0 : 0 ≤ b % ((n : Int) - 1) := Int.emod_nonneg _ (by omega)
  have r1 : b % ((n : Int) - 1) < (n : Int) - 1 := Int.emod_lt_of_pos _ (by omega)
  generalize a % (n : Int) = f at *
  generalize b % ((n : Int) - 1) = r at *
  rw [agOk_iff]
  have key : (f + 1 + r) % (n : Int) = if f + 1 + r < n then f + 1 + r else f + 1 + r - n := by
    split
    · exact Int.emod_eq_of_lt (by omega) (by assumption)
    · have e : (f + 1 + r - n + n) % (n : Int) = (f + 1 + r - n) % (n : Int) := Int.add_emod_right ..
      rw [Int.sub_add_cancel] at e
      rw [e]
      exact Int.emod_eq_of_lt (by omega) (by omega)
  dsimp only
  rw [key]
  split <;> omega
end Vf
namespace Vf
open PySem L2
theorem goC_bad {f : Int × Int → Int × Int} {w : Int × Int} {r : List (Int × Int)} {n : Nat} (hw : agOk n w = false) : ∀ (l : List (Int × Int)) (i : Nat) (cs : List Int), cs.length = n → (∀ m ∈ l, agOk n m = true) → goC f i (l ++ w :: r) cs = .inl (i + l.length)
  | [], i, cs, hn, _ => by
    show (if agOk cs.length w = true then _ else _) = _
    rw [hn, if_neg (by rw [hw]; decide)]
    rfl
  | m :: l, i, cs, hn, h => by
    show (if agOk cs.length m = true then goC f (i + 1) (l ++ w :: r) (stepC f cs m) else _) = _
    rw [hn, if_pos (h m (by simp)), goC_bad hw l (i + 1) (stepC f cs m) (by rw [stepC_len]; exact hn) (fun x hx => h x (by simp [hx]))]
    congr 1
    show i + 1 + l.length = i + (l.length + 1)
    omega
end Vf
namespace Vf
open PySem L2
theorem countsC_le {n : Nat} {cs : List Int} (h : InC n cs) : ∀ y ∈ countsC n cs, 0 ≤ y ∧ y ≤ (cs.length : Int) := fun y hy => by
  obtain ⟨k, hk⟩ := List.mem_iff_getElem?.mp hy
  have kl := (List.getElem?_eq_some_iff.mp hk).1
  rw [countsC_len] at kl
  have e := countsC_get h kl
  rw [List.getD_eq_getElem?_getD, hk] at e
  have e : y = (cs.count (k : Int) : Nat) := e
  have := List.count_le_length (a := (k : Int)) (l := cs)
  omega
end Vf

namespace Vf
open PySem L2
/-! ### the layers of a schedule -/
abbrev P2 := Int × Int
def lastOf (c : Nat → Bool) : Nat → Nat
  | 0 => 0
  | k + 1 => if c k = true then k + 1 else lastOf c k
theorem lastOf_le (c : Nat → Bool) : ∀ n, lastOf c n ≤ n
  | 0 => Nat.le_refl _
  | n + 1 => by
    unfold lastOf
    have := lastOf_le c n
    split <;> omega
theorem lastOf_congr {c d : Nat → Bool} : ∀ {n : Nat}, (∀ k, k < n → c k = d k) → lastOf c n = lastOf d n
  | 0, _ => rfl
  | n + 1, h => by
    unfold lastOf
    rw [h n (Nat.lt_succ_self n), lastOf_congr (n := n) fun k hk => h k (Nat.lt_succ_of_lt hk)]
theorem lastOf_or (c d : Nat → Bool) : ∀ n, lastOf (fun k => c k || d k) n = max (lastOf c n) (lastOf d n)
  | 0 => rfl
  | n + 1 => by
    unfold lastOf
    rw [lastOf_or c d n]
    have h1 := lastOf_le c n
    have h2 := lastOf_le d n
    cases c n <;> cases d n <;> simp <;> omega
theorem lastOf_high {c : Nat → Bool} : ∀ {n k : Nat}, lastOf c n ≤ k → k < n → c k = false
  | 0, k, _, h => absurd h (Nat.not_lt_zero _)
  | n + 1, k, h1, h2 => by
    unfold lastOf at h1
    by_cases e : c n = true
    · rw [if_pos e] at h1; omega
    · rw [if_neg e] at h1
      by_cases l : k < n
      · exact lastOf_high h1 l
      · rw [show k = n by omega]
        exact Bool.eq_false_iff.mpr e
theorem lastOf_of {c : Nat → Bool} {l : Nat} (h : c l = true) : ∀ {n : Nat}, l < n → (∀ k, l < k → k < n → c k = false) → lastOf c n = l + 1
  | 0, hl, _ => absurd hl (Nat.not_lt_zero _)
  | n + 1, hl, hn => by
    unfold lastOf
    by_cases e : l = n
    · rw [← e, if_pos h]
    · rw [hn n (by omega) (Nat.lt_succ_self n), if_neg Bool.false_ne_true]
      exact lastOf_of h (by omega) fun k h1 h2 => hn k h1 (Nat.lt_succ_of_lt h2)
theorem lastOf_zero {c : Nat → Bool} : ∀ {n : Nat}, (∀ k, k < n → c k = false) → lastOf c n = 0
  | 0, _ => rfl
  | n + 1, h => by
    unfold lastOf
    rw [h n (Nat.lt_succ_self n), if_neg Bool.false_ne_true]
    exact lastOf_zero fun k hk => h k (Nat.lt_succ_of_lt hk)
def inP (m : P2) (a : Int) : Bool := decide (a = m.1) || decide (a = m.2)
def has (rows : List (List P2)) (a : Int) (k : Nat) : Bool := (rows.getD k []).any fun m => inP m a
def layAt (rows : List (List P2)) (m : P2) : Nat := max (lastOf (has rows m.1) rows.length) (lastOf (has rows m.2) rows.length)
def padL (rows : List (List P2)) (m : P2) : List (List P2) := if layAt rows m = rows.length then rows ++ [[]] else rows
def layS (rows : List (List P2)) (m : P2) : List (List P2) := (padL rows m).set (layAt rows m) ((padL rows m).getD (layAt rows m) [] ++ [m])
def lay (ms : List P2) : List (List P2) := ms.foldl layS []
theorem layAt_le (rows : List (List P2)) (m : P2) : layAt rows m ≤ rows.length := by
  unfold layAt
  have := lastOf_le (has rows m.1) rows.length
  have := lastOf_le (has rows m.2) rows.length
  omega
theorem padL_lt (rows : List (List P2)) (m : P2) : layAt rows m < (padL rows m).length := by
  unfold padL
  have := layAt_le rows m
  split
  · rw [List.length_append]; show _ < _ + 1; omega
  · omega
theorem padL_get (rows : List (List P2)) (m : P2) (k : Nat) : (padL rows m).getD k [] = rows.getD k [] := by
  unfold padL
  split
  · rw [List.getD_eq_getElem?_getD, List.getD_eq_getElem?_getD]
    by_cases h : k < rows.length
    · rw [List.getElem?_append_left h]
    · rw [List.getElem?_append_right (by omega), List.getElem?_eq_none (show rows.length ≤ k by omega)]
      cases k - rows.length <;> simp
  · rfl
theorem padL_len_le (rows : List (List P2)) (m : P2) : (padL rows m).length ≤ rows.length + 1 := by
  unfold padL
  split
  · rw [List.length_append]; exact Nat.le_refl _
  · omega
theorem layS_len (rows : List (List P2)) (m : P2) : (layS rows m).length = (padL rows m).length := by
  unfold layS
  rw [List.length_set]
theorem getD_set' {α : Type} (l : List α) (i k : Nat) (x d : α) (h : i < l.length) : (l.set i x).getD k d = if i = k then x else l.getD k d := by
  rw [List.getD_eq_getElem?_getD, List.getD_eq_getElem?_getD, List.getElem?_set]
  by_cases e : i = k
  · rw [if_pos e, if_pos e, if_pos h]; rfl
  · rw [if_neg e, if_neg e]
theorem layS_get (rows : List (List P2)) (m : P2) (k : Nat) : (layS rows m).getD k [] = if layAt rows m = k then rows.getD k [] ++ [m] else rows.getD k [] := by
  unfold layS
  rw [getD_set' _ _ _ _ _ (padL_lt rows m), padL_get, padL_get]
  split
  · next e => rw [e]
  · rfl
theorem layS_has (rows : List (List P2)) (m : P2) (a : Int) (k : Nat) : has (layS rows m) a k = (has rows a k || (decide (layAt rows m = k) && inP m a)) := by
  unfold has
  rw [layS_get]
  by_cases e : layAt rows m = k
  · rw [if_pos e, decide_eq_true e, List.any_append]
    simp
  · rw [if_neg e, decide_eq_false e]
    simp
theorem has_out {rows : List (List P2)} {a : Int} {k : Nat} (h : rows.length ≤ k) : has rows a k = false := by
  unfold has
  rw [List.getD_eq_getElem?_getD, List.getElem?_eq_none h]
  rfl
theorem layS_last (rows : List (List P2)) (m : P2) (a : Int) : lastOf (has (layS rows m) a) (layS rows m).length = if inP m a = true then layAt rows m + 1 else lastOf (has rows a) rows.length := by
  have hp := padL_lt rows m
  by_cases e : inP m a = true
  · rw [if_pos e]
    refine lastOf_of ?_ (by rw [layS_len]; exact hp) fun k h1 h2 => ?_
    · rw [layS_has, decide_eq_true rfl, e]; simp
    · rw [layS_has, decide_eq_false (by omega), Bool.false_and, Bool.or_false]
      by_cases hk : k < rows.length
      · refine lastOf_high ?_ hk
        have l1 : lastOf (has rows a) rows.length ≤ layAt rows m := by
          unfold layAt
          unfold inP at e
          rw [Bool.or_eq_true, decide_eq_true_eq, decide_eq_true_eq] at e
          rcases e with e | e <;> rw [e] <;> omega
        omega
      · exact has_out (by omega)
  · rw [if_neg e]
    have eh : ∀ k, has (layS rows m) a k = has rows a k := fun k => by
      rw [layS_has, Bool.eq_false_iff.mpr e, Bool.and_false, Bool.or_false]
    rw [lastOf_congr fun k _ => eh k, layS_len]
    unfold padL
    split
    · rw [List.length_append]
      show lastOf (has rows a) (rows.length + 1) = _
      rw [lastOf, has_out (Nat.le_refl _), if_neg Bool.false_ne_true]
    · rfl
theorem lay_snoc {ms : List P2} {k : Nat} {m : P2} (h : ms[k]? = some m) : lay (ms.take (k + 1)) = layS (lay (ms.take k)) m := by
  unfold lay
  rw [take_snoc h, List.foldl_append]
  rfl
theorem lay_snoc' (ms : List P2) (m : P2) : lay (ms ++ [m]) = layS (lay ms) m := by
  unfold lay
  rw [List.foldl_append]
  rfl
structure LayOk (rows : List (List P2)) (ms : List P2) : Prop where
  few : rows.length ≤ ms.length
  row : ∀ r ∈ rows, r.length ≤ ms.length ∧ ∀ m ∈ r, m ∈ ms
theorem LayOk.step {rows : List (List P2)} {ms : List P2} (h : LayOk rows ms) (m : P2) : LayOk (layS rows m) (ms ++ [m]) := by
  refine ⟨?_, fun r hr => ?_⟩
  · rw [layS_len, List.length_append]
    have := padL_len_le rows m
    have := h.few
    show _ ≤ _ + 1
    omega
  · have g : ∀ k, ((layS rows m).getD k []).length ≤ ms.length + 1 ∧ ∀ x ∈ (layS rows m).getD k [], x ∈ ms ++ [m] := fun k => by
      have o : (rows.getD k []).length ≤ ms.length ∧ ∀ x ∈ rows.getD k [], x ∈ ms := by
        by_cases hk : k < rows.length
        · rw [List.getD_eq_getElem?_getD, List.getElem?_eq_getElem hk]
          exact h.row _ (List.getElem_mem hk)
        · rw [List.getD_eq_getElem?_getD, List.getElem?_eq_none (by omega)]
          exact ⟨Nat.zero_le _, fun x hx => nomatch hx⟩
      rw [layS_get]
      split
      · refine ⟨by rw [List.length_append]; exact Nat.succ_le_succ o.1, fun x hx => ?_⟩
        rcases List.mem_append.mp hx with hx | hx
        · exact List.mem_append_left _ (o.2 x hx)
        · exact List.mem_append_right _ hx
      · exact ⟨by have := o.1; omega, fun x hx => List.mem_append_left _ (o.2 x hx)⟩
    obtain ⟨k, hk⟩ := List.mem_iff_getElem?.mp hr
    have := g k
    rw [List.getD_eq_getElem?_getD, hk] at this
    exact ⟨by rw [List.length_append]; exact this.1, this.2⟩
theorem lay_ok (ms : List P2) : LayOk (lay ms) ms := by
  have : ∀ (r : List P2) (rows : List (List P2)) (a : List P2), LayOk rows a → LayOk (r.foldl layS rows) (a ++ r) := by
    intro r
    induction r with
    | nil => intro rows a h; rw [List.append_nil]; exact h
    | cons x r ih =>
      intro rows a h
      rw [List.foldl_cons, show a ++ x :: r = (a ++ [x]) ++ r by simp]
      exact ih _ _ (h.step x)
  exact this ms [] [] ⟨Nat.le_refl _, fun r hr => nomatch hr⟩
/-! ### sorted pairs -/
def pLe (a b : P2) : Bool := decide (a.1 * 64 + a.2 ≤ b.1 * 64 + b.2)
def sortPr (l : List P2) : List P2 := l.mergeSort pLe
theorem sortPr_perm (l : List P2) : (sortPr l).Perm l := List.mergeSort_perm ..
theorem sortPr_pw (l : List P2) : (sortPr l).Pairwise (fun a b => a.1 * 64 + a.2 ≤ b.1 * 64 + b.2) := by
  refine (List.pairwise_mergeSort (le := pLe) (fun a b c h1 h2 => ?_) (fun a b => ?_) _).imp fun {a b} h => ?_
  · unfold pLe at *
    rw [decide_eq_true_eq] at *
    omega
  · unfold pLe
    rw [Bool.or_eq_true, decide_eq_true_eq, decide_eq_true_eq]
    omega
  · unfold pLe at h
    exact of_decide_eq_true h
theorem sortPr_len (l : List P2) : (sortPr l).length = l.length := (sortPr_perm l).length_eq
theorem sortPr_one {l z : List P2} (hb : ∀ m ∈ l, (0 ≤ m.1 ∧ m.1 < 64) ∧ (0 ≤ m.2 ∧ m.2 < 64)) (p : z.Perm l) (h : z.Pairwise (fun a b => a.1 * 64 + a.2 ≤ b.1 * 64 + b.2)) : z = sortPr l :=
  (p.trans (sortPr_perm l).symm).eq_of_pairwise (fun a b ha hb' h1 h2 => by
    have a1 := hb a (p.mem_iff.mp ha)
    have b1 := hb b ((sortPr_perm l).mem_iff.mp hb')
    exact Prod.ext (by omega) (by omega)) h (sortPr_pw l)
def eP (m : P2) : List Int := [m.1, m.2]
def dP (l : List Int) : P2 := (l.getD 0 0, l.getD 1 0)
theorem Tups.toIs {H : Hp} {xs : List V} {ms : List P2} (h : Tups encP H xs ms) : Tups encIs H xs (ms.map eP) := ⟨by rw [List.length_map]; exact h.1, fun i a e => by
  obtain ⟨m, e1, rfl⟩ := map_get e
  exact h.2 i m e1⟩
theorem Tups.ofIs {H : Hp} {xs : List V} {ms : List P2} (h : Tups encIs H xs (ms.map eP)) : Tups encP H xs ms := ⟨by have := h.1; rw [List.length_map] at this; exact this, fun i a e => h.2 i (eP a) (by rw [List.getElem?_map, e]; rfl)⟩
theorem map_self {α : Type} {f : α → α} : ∀ {l : List α}, (∀ x ∈ l, f x = x) → l.map f = l
  | [], _ => rfl
  | x :: r, h => by rw [List.map_cons, h x (List.mem_cons_self ..), map_self fun y hy => h y (List.mem_cons_of_mem _ hy)]
def rSortPr : List V → Hp → VK → Prop := fun vs H Q => ∃ (a : Addr) (xs : List V) (zs : List P2), vs = [V.ref a] ∧ H a = some (.lst xs) ∧ Tups encP H xs zs ∧ zs.length < 64 ∧ (∀ m ∈ zs, (0 ≤ m.1 ∧ m.1 < 64) ∧ (0 ≤ m.2 ∧ m.2 < 64)) ∧
  ∀ (p : Addr) (ys : List V), H p = none → Tups encP H ys (sortPr zs) → Q (.ref p) (upd H p (.lst ys))
theorem cr_sortPr {X : Cx} : CallR X (.builtin "sorted") rSortPr := by
  intro pins s σ H vs us Q I r h
  obtain ⟨a, xs, zs, rfl, ha, t, h64, hb, q⟩ := h
  refine cr_sortTs pins s σ H [V.ref a] us Q I r ⟨a, xs, zs.map eP, 2, 64, rfl, ha, t.toIs, by rw [List.length_map]; exact h64, by decide, fun z hz => ?_, fun p ys ws np tw pm pw => ?_⟩
  · obtain ⟨m, hm, rfl⟩ := List.mem_map.mp hz
    have b := hb m hm
    refine ⟨rfl, fun x hx => ?_⟩
    rcases List.mem_cons.mp hx with rfl | hx
    · exact b.1
    · rw [List.mem_singleton.mp hx]; exact b.2
  · have e1 : ws = (ws.map dP).map eP := by
      rw [List.map_map]
      refine (map_self fun w hw => ?_).symm
      obtain ⟨m, _, rfl⟩ := List.mem_map.mp (pm.mem_iff.mp hw)
      rfl
    have e2 : (ws.map dP).Perm zs := by
      have := pm.map dP
      rw [List.map_map] at this
      exact this.trans (List.Perm.of_eq (map_self fun _ _ => rfl))
    rw [e1] at tw pw
    refine q p ys np ?_
    rw [← sortPr_one hb e2 ?_]
    · exact tw.ofIs
    · rw [List.pairwise_map] at pw
      exact pw.imp fun {x y} h => by
        unfold eP at h
        rw [code_pair, code_pair] at h
        exact h
end Vf
namespace Vf
open PySem L2
/-! ### lists of lists of pairs -/
def LstsP (H : Hp) (xs : List V) (rows : List (List P2)) : Prop := xs.length = rows.length ∧ ∀ (i : Nat) (r : List P2), rows[i]? = some r → ∃ (t : Addr) (zs : List V), xs[i]? = some (.ref t) ∧ H t = some (.lst zs) ∧ Tups encP H zs r
theorem LstsP.same {H H' : Hp} {xs : List V} {rows : List (List P2)} (h : LstsP H xs rows) (s : Same H H') : LstsP H' xs rows := ⟨h.1, fun i r e => by
  obtain ⟨t, zs, h1, h2, h3⟩ := h.2 i r e
  exact ⟨t, zs, h1, s _ _ h2, h3.same s⟩⟩
theorem LstsP.mono {H H' : Hp} {xs : List V} {rows : List (List P2)} (h : LstsP H xs rows) (k : ∀ t zs, V.ref t ∈ xs → H t = some (.lst zs) → H' t = some (.lst zs)) (k2 : ∀ t ys, H t = some (.tup ys) → H' t = some (.tup ys)) : LstsP H' xs rows := ⟨h.1, fun i r e => by
  obtain ⟨t, zs, h1, h2, h3⟩ := h.2 i r e
  exact ⟨t, zs, h1, k _ _ (List.mem_of_getElem? h1) h2, h3.mono k2⟩⟩
theorem LstsP.snoc {H : Hp} {xs zs : List V} {rows : List (List P2)} {r : List P2} {t : Addr} (h : LstsP H xs rows) (ht : H t = some (.lst zs)) (hz : Tups encP H zs r) : LstsP H (xs ++ [.ref t]) (rows ++ [r]) := by
  refine ⟨by rw [List.length_append, List.length_append, h.1]; rfl, fun i r' e => ?_⟩
  by_cases c : i < rows.length
  · rw [List.getElem?_append_left c] at e
    obtain ⟨t, zs, h1, h2, h3⟩ := h.2 i r' e
    exact ⟨t, zs, by rw [List.getElem?_append_left (by rw [h.1]; exact c)]; exact h1, h2, h3⟩
  · rw [List.getElem?_append_right (by omega)] at e
    have e0 : i - rows.length = 0 := by
      cases q : i - rows.length with
      | zero => rfl
      | succ k => rw [q] at e; simp at e
    rw [e0] at e
    obtain rfl : r = r' := Option.some.inj e
    exact ⟨t, zs, by rw [List.getElem?_append_right (by rw [h.1]; omega), h.1, e0]; rfl, ht, hz⟩
/-- lists of pairs in a list, each another one -/
structure RowsP (H0 H : Hp) (R : Addr) (as : List Addr) (rows : List (List P2)) : Prop where
  at_ : H R = some (.lst (as.map V.ref))
  len : as.length = rows.length
  nd : as.Nodup
  row : ∀ (i : Nat) (a : Addr) (r : List P2), as[i]? = some a → rows[i]? = some r → (∃ xs, H a = some (.lst xs) ∧ Tups encP H xs r) ∧ a ≠ R ∧ H0 a = none
theorem RowsP.lsts {H0 H : Hp} {R : Addr} {as : List Addr} {rows : List (List P2)} (W : RowsP H0 H R as rows) : LstsP H (as.map V.ref) rows :=
  ⟨by rw [List.length_map, W.len], fun i r hr => by
    have hi : i < as.length := by rw [W.len]; exact (List.getElem?_eq_some_iff.mp hr).1
    obtain ⟨⟨xs, h1, h2⟩, _⟩ := W.row i _ r (List.getElem?_eq_getElem hi) hr
    exact ⟨as[i], xs, by rw [List.getElem?_map, List.getElem?_eq_getElem hi]; rfl, h1, h2⟩⟩
theorem RowsP.same {H0 H H' : Hp} {R : Addr} {as : List Addr} {rows : List (List P2)} (W : RowsP H0 H R as rows) (s : Same H H') : RowsP H0 H' R as rows :=
  ⟨s _ _ W.at_, W.len, W.nd, fun i a r h1 h2 => by
    obtain ⟨⟨xs, e1, e2⟩, e3⟩ := W.row i a r h1 h2
    exact ⟨⟨xs, s _ _ e1, e2.same s⟩, e3⟩⟩
/-- another object, not one of these and no tuple of them, is changed -/
theorem RowsP.chg {H0 H : Hp} {R b : Addr} {o o' : HO} {as : List Addr} {rows : List (List P2)} (W : RowsP H0 H R as rows) (hb : H b = some o) (hn : ∀ xs, o ≠ .lst xs) (hm : ∀ xs, o ≠ .tup xs) : RowsP H0 (upd H b o') R as rows := by
  have nl : ∀ a xs, H a = some (.lst xs) → a ≠ b := fun a xs h e => by rw [e, hb] at h; exact hn _ (Option.some.inj h)
  have nt : ∀ a xs, H a = some (.tup xs) → a ≠ b := fun a xs h e => by rw [e, hb] at h; exact hm _ (Option.some.inj h)
  refine ⟨by rw [upd_ne (nl _ _ W.at_)]; exact W.at_, W.len, W.nd, fun i a r h1 h2 => ?_⟩
  obtain ⟨⟨xs, e1, e2⟩, e3⟩ := W.row i a r h1 h2
  exact ⟨⟨xs, by rw [upd_ne (nl _ _ e1)]; exact e1, e2.mono fun t ys k => by rw [upd_ne (nt _ _ k)]; exact k⟩, e3⟩
theorem RowsP.snoc {H0 H : Hp} {R b : Addr} {as : List Addr} {rows : List (List P2)} (W : RowsP H0 H R as rows) (hb : H b = none) (h0 : H0 b = none) : RowsP H0 (upd (upd H b (.lst [])) R (.lst (as.map V.ref ++ [.ref b]))) R (as ++ [b]) (rows ++ [[]]) := by
  have nb : R ≠ b := ne_of_none W.at_ hb
  have nt : ∀ a xs, H a = some (.tup xs) → a ≠ R := fun a xs h e => by rw [e, W.at_] at h; cases h
  refine ⟨by rw [upd_same, List.map_append]; rfl, by rw [List.length_append, List.length_append, W.len]; rfl, ?_, fun n a r hn hr => ?_⟩
  · rw [List.nodup_append]
    refine ⟨W.nd, by simp, fun a ha c hc => ?_⟩
    rw [List.mem_singleton] at hc
    subst hc
    obtain ⟨n, hn⟩ := List.mem_iff_getElem?.mp ha
    have hl : n < rows.length := by rw [← W.len]; exact (List.getElem?_eq_some_iff.mp hn).1
    obtain ⟨⟨xs, h1, _⟩, _⟩ := W.row n a _ hn (List.getElem?_eq_getElem hl)
    exact ne_of_none h1 hb
  · by_cases hl : n < as.length
    · rw [List.getElem?_append_left hl] at hn
      rw [List.getElem?_append_left (by rw [← W.len]; exact hl)] at hr
      obtain ⟨⟨xs, h1, h2⟩, h3, h4⟩ := W.row n a r hn hr
      refine ⟨⟨xs, by rw [upd_ne h3, upd_ne (ne_of_none h1 hb)]; exact h1, h2.mono fun t ys k => ?_⟩, h3, h4⟩
      rw [upd_ne (nt _ _ k), upd_ne (ne_of_none k hb)]
      exact k
    · rw [List.getElem?_append_right (by omega)] at hn
      rw [List.getElem?_append_right (by rw [← W.len]; omega)] at hr
      have e0 : n - as.length = 0 := by
        cases q' : n - as.length with
        | zero => rfl
        | succ k => rw [q'] at hn; simp at hn
      rw [e0] at hn
      rw [← W.len, e0] at hr
      obtain rfl : b = a := Option.some.inj hn
      obtain rfl : [] = r := Option.some.inj hr
      exact ⟨⟨[], by rw [upd_ne (Ne.symm nb), upd_same], Tups.nil⟩, Ne.symm nb, h0⟩
/-- one more pair in a row -/
theorem RowsP.put {H0 H : Hp} {R a t : Addr} {as : List Addr} {rows : List (List P2)} {i : Nat} {r : List P2} {m : P2} {xs : List V} (W : RowsP H0 H R as rows) (ha : as[i]? = some a) (hr : rows[i]? = some r) (hx : H a = some (.lst xs)) (ht : H t = some (.tup (encP m))) :
    RowsP H0 (upd H a (.lst (xs ++ [.ref t]))) R as (rows.set i (r ++ [m])) := by
  obtain ⟨⟨xs', e1, e2⟩, aR, a0⟩ := W.row i a r ha hr
  rw [hx] at e1
  obtain rfl : xs = xs' := by injection e1 with e1; injection e1
  have nt : ∀ c ys, H c = some (.tup ys) → c ≠ a := fun c ys h e => by rw [e, hx] at h; cases h
  have il : i < rows.length := (List.getElem?_eq_some_iff.mp hr).1
  have mo : ∀ {zs : List V} {l : List P2}, Tups encP H zs l → Tups encP (upd H a (.lst (xs ++ [.ref t]))) zs l := fun h => h.mono fun c ys k => by rw [upd_ne (nt _ _ k)]; exact k
  refine ⟨by rw [upd_ne (Ne.symm aR)]; exact W.at_, by rw [List.length_set]; exact W.len, W.nd, fun j b r' hb hr' => ?_⟩
  by_cases e : j = i
  · subst e
    rw [ha] at hb
    obtain rfl : a = b := Option.some.inj hb
    rw [List.getElem?_set_self il] at hr'
    obtain rfl : r ++ [m] = r' := Option.some.inj hr'
    exact ⟨⟨_, upd_same, (mo e2).snoc (by rw [upd_ne (nt _ _ ht)]; exact ht)⟩, aR, a0⟩
  · rw [List.getElem?_set_ne (Ne.symm e)] at hr'
    obtain ⟨⟨ys, h1, h2⟩, h3⟩ := W.row j b r' hb hr'
    have nb : b ≠ a := fun z => by
      rw [z] at hb
      exact e (nodup_ix W.nd hb ha)
    exact ⟨⟨ys, by rw [upd_ne nb]; exact h1, mo h2⟩, h3⟩
end Vf
namespace Vf
open PySem L2
theorem pi_listK2 {X : Cx} {K : PySem.W.Frag} (hk : X.K = K) {tg l : Expr} {tl : TE} (hl : PE X l tl) : PI X tg l (iList K tl) := by
  subst hk
  exact pi_list hl
theorem flat_take {α : Type} {rows : List (List α)} {i : Nat} {r : List α} (h : rows[i]? = some r) : (rows.take (i + 1)).flatten = (rows.take i).flatten ++ r := by
  rw [take_snoc h, List.flatten_append]
  simp
theorem flat_take_len {α : Type} (rows : List (List α)) (i : Nat) : (rows.take i).flatten.length ≤ rows.flatten.length := by
  have h := congrArg (fun l => (List.flatten l).length) (List.take_append_drop i rows)
  simp only [List.flatten_append, List.length_append] at h
  omega
end Vf
namespace Vf
open PySem L2
def hs (rows : List (List P2)) (m : P2) (k : Nat) : Bool := has rows m.1 k || has rows m.2 k
theorem hs_last (rows : List (List P2)) (m : P2) : lastOf (hs rows m) rows.length = layAt rows m := lastOf_or (has rows m.1) (has rows m.2) rows.length
def sh (m o : P2) : Bool := inP o m.1 || inP o m.2
theorem hs_any (rows : List (List P2)) (m : P2) (k : Nat) : hs rows m k = (rows.getD k []).any (sh m) := by
  unfold hs has sh
  generalize rows.getD k [] = l
  induction l with
  | nil => rfl
  | cons x r ih =>
    rw [List.any_cons, List.any_cons, List.any_cons, ← ih]
    cases inP x m.1 <;> cases inP x m.2 <;> cases List.any r (fun y => inP y m.1) <;> cases List.any r (fun y => inP y m.2) <;> rfl
theorem LstsP.set {H : Hp} {xs zs : List V} {rows : List (List P2)} {r : List P2} {t : Addr} (h : LstsP H xs rows) (i : Nat) (ht : H t = some (.lst zs)) (hz : Tups encP H zs r) : LstsP H (xs.set i (.ref t)) (rows.set i r) := by
  refine ⟨by rw [List.length_set, List.length_set]; exact h.1, fun j r' e => ?_⟩
  by_cases c : i = j
  · subst c
    have il : i < rows.length := by
      have := (List.getElem?_eq_some_iff.mp e).1
      rw [List.length_set] at this
      exact this
    rw [List.getElem?_set_self il] at e
    obtain rfl : r = r' := Option.some.inj e
    exact ⟨t, zs, List.getElem?_set_self (by rw [h.1]; exact il), ht, hz⟩
  · rw [List.getElem?_set_ne c] at e
    obtain ⟨u, ys, h1, h2, h3⟩ := h.2 j r' e
    exact ⟨u, ys, by rw [List.getElem?_set_ne c]; exact h1, h2, h3⟩
end Vf
namespace Vf
theorem flat_len {α : Type} {b : Nat} : ∀ {rows : List (List α)}, (∀ r ∈ rows, r.length ≤ b) → rows.flatten.length ≤ rows.length * b
  | [], _ => Nat.zero_le _
  | r :: l, h => by
    rw [List.flatten_cons, List.length_append, List.length_cons, Nat.succ_mul]
    have h1 := h r (List.mem_cons_self ..)
    have h2 := flat_len (rows := l) fun x hx => h x (List.mem_cons_of_mem _ hx)
    omega
end Vf
namespace Vf
open PySem L2
theorem op_notIn_seqK2 {X : Cx} {K : PySem.W.Frag} (hk : X.K = K) : OpR X (compareOp .NotIn) (rIn K true) := by
  subst hk
  exact op_notIn_seq
theorem op_in_seqK2 {X : Cx} {K : PySem.W.Frag} (hk : X.K = K) : OpR X (compareOp .In) (rIn K false) := by
  subst hk
  exact op_in_seq
end Vf

namespace Vf
open PySem PySem.Spec PyProof.Rows L2
/-- a def's body, with its code object -/
theorem okC {P : Program} {w : World} {K : PySem.W.Frag} {mg : Str → Option Value} {base : Heap} {x qual : Str} {st : Stmt} {f : Addr} {fd : FuncData} {N ps : List Str} {k : Nat} {sp : Sp} (F : Fun K x qual st f fd) (S : FnScope N ps (defScope st)) (len : ∀ vs H Q E, sp vs H Q E → vs.length = ps.length)
    (hbody : ∀ (cdv : Value) (_ : PySem.W.codeIn K cdv qual = true) (A : Around) (outer : List Env) (s : Shared) (H : Hp) (vs : List V) (Q : VK) (E : XK), Room k (A.deeper (envOfC qual (defScope st) s.heap.objs.size f cdv)) → sp vs H Q E →
      ∃ t, PSs (cxOf CX0 P w K mg base N qual (defScope st) f cdv A outer s H E).nox (defBody st) t ∧ t { nx := fun _ H' => Q .non H', rt := Q } (start N vs) H) : FnOk P w K mg base CX0 (k + 1) f fd ps sp := by
  obtain ⟨oc, od, kV, doc, pm, an, cdv, ct, osl, rfl, lk, hcd⟩ := F.ex
  refine fn_of lk hcd S len fun A outer s H vs Q E hr hsp => ?_
  obtain ⟨t, h, q⟩ := hbody cdv hcd A outer s H vs Q E hr hsp
  exact ⟨t, h.nox, q⟩
/-- {e}, e an int -/
def tSet1 (w : World) (te : TE) : TE := fun σ H Q => ∀ p, H p = none → te σ (upd H p (SetO w p (fun _ => false) 0)) fun x H1 => ∃ k, x = .int k ∧ H1 p = some (SetO w p (fun _ => false) 0) ∧ Q (.ref p) (upd H1 p (SetO w p (fun j => decide (j = k)) 1))
theorem newSet_led {P : Program} {w : World} {A : Around} {E : Value → Shared → Prop} {s : Shared} {Q : Value → Shared → Prop}
    (h : SetR w (s.heap.push { cls := .type "set", dict := none, data := .set #[] 0 (.fresh 0 0 (!w.params.followText "set-order")) }) s.heap.objs.size (fun _ => false) 0 →
      Q (.ref s.heap.objs.size) { s with heap := s.heap.push { cls := .type "set", dict := none, data := .set #[] 0 (.fresh 0 0 (!w.params.followText "set-order")) } }) :
    wpAny (model P w) A (newSet (.type "set")) Q E s := by
  unfold newSet setsByText
  refine wpAny_bind (wpAny_bind (wpAny_askSetting (wpAny_pure ?_)))
  dsimp only
  simp only [newObj]
  exact wpAny_bind (wpAny_alloc (wpAny_pure (h (setR_fresh w))))
theorem pe_set1 {X : Cx} {e : Expr} {te : TE} {pos : Pos} (he : PE X e te) (hp : PySem.W.kdsPlain e = true) (hcd : PySem.W.kdsCode X.K X.env.code = true) : PE X (.Set [e] 0 pos) (tSet1 X.w te) := by
  refine ⟨fun pins s σ H Q I h => ?_⟩
  rw [arm_eval_Set]
  refine wpAny_bind (wpAny_standAt ?_)
  refine wpAny_bind (PySem.W.kds_main I.kIn hcd fun b => ?_)
  rw [PySem.W.kds_star [e] (by rw [List.all_cons, hp]; rfl), List.map_map]
  have hd : displayRoad 0 [e] = .oneByOne := rfl
  rw [hd, arm_evalEach_cons]
  show wpAny (model X.prog X.w) X.A (setDisplay .oneByOne b [(false, do let v ← eval e X.env; standAt pos; pure v)]) _ _ _
  unfold setDisplay
  try dsimp only
  rw [if_neg (by decide)]
  refine wpAny_bind (newSet_led fun R => ?_)
  dsimp only
  refine wpAny_bind (wpAny_holding ?_)
  have I1 : Inv X pins σ (upd H s.heap.objs.size (SetO X.w s.heap.objs.size (fun _ => false) 0)) { s with heap := s.heap.push { cls := .type "set", dict := none, data := .set #[] 0 (.fresh 0 0 (!X.w.params.followText "set-order")) } } := I.laid (t' := s.toks) (fun b u e => Heap.get?_push_of_some _ e) (Nat.le_refl _) (setO_new R)
  have h1 := h s.heap.objs.size (I.hok.fresh (Nat.le_refl _))
  refine wpAny_bind (wpAny_mono (Q := fun vs s' => ∃ v, vs = [v] ∧ ∃ x H', Inv X pins σ H' s' ∧ RelV x v ∧ ∃ k, x = .int k ∧ H' s.heap.objs.size = some (SetO X.w s.heap.objs.size (fun _ => false) 0) ∧ Q (.ref s.heap.objs.size) (upd H' s.heap.objs.size (SetO X.w s.heap.objs.size (fun j => decide (j = k)) 1))) (PySem.W.kds_all pos [e] _ _ (thn (he.run pins _ σ _ _ I1 h1) fun v s' hv => ?_)) (fun vs s' hv => ?_) fun _ _ x => x)
  · obtain ⟨x, H', I2, r, q⟩ := hv
    exact ⟨v, rfl, x, H', I2, r, q⟩
  obtain ⟨v, rfl, x, H', I2, r, k, rfl, hp2, q⟩ := hv
  obtain ⟨tk, rfl⟩ := r
  refine wpAny_bind (wpAny_holding ?_)
  rw [List.forIn_cons]
  have R2 := setO_get I2 hp2
  refine wpAny_bind (wpAny_bind (wpAny_bind ?_))
  unfold PySem.setAdd
  refine wpAny_holding (wpAny_bind ((intKind X.prog X.w).pyHash (intKind_is X.prog X.w k tk) ?_))
  refine setR_add_hashed (s := { s' with toks := s'.toks + 1 }) R2 (by decide) fun h' sb new => ?_
  refine wpAny_pure ?_
  dsimp only
  rw [List.forIn_nil]
  refine wpAny_pure ?_
  rw [if_neg (by decide)]
  refine wpAny_pure ?_
  refine wpAny_bind (wpAny_pure (wpAny_pure ?_))
  have he' : ∃ u, h'.get? s.heap.objs.size = some u := by
    obtain ⟨o, _, _, _, ho, _⟩ := id new
    exact ⟨o, ho⟩
  have e1 : (fun j => (false || decide (j = k))) = (fun j : Int => decide (j = k)) := funext fun j => Bool.false_or _
  rw [e1] at new
  exact wpAny_pure ⟨.ref _, upd H' s.heap.objs.size (SetO X.w s.heap.objs.size (fun j => decide (j = k)) 1), I2.write (e := s.heap.objs.size) (t' := s'.toks + 1) (by rw [hp2]; trivial) (.inl rfl) (fun b u hb hu => (sb.2 b hb).trans hu) he' (setO_new new), rfl, q⟩
end Vf
namespace Vf
open PySem L2
/-! ### the past of an agent -/
def bkS (a : Int) : List P2 → Int → Bool
  | [], x => decide (x = a)
  | m :: r, x => bkS a r x || ((bkS a r m.1 || bkS a r m.2) && inP m x)
def hitB (a : Int) (m : P2) (r : List P2) : Bool := bkS a r m.1 || bkS a r m.2
def up (a : Int) : List P2 → Nat → List Nat
  | [], _ => []
  | m :: r, b => (if hitB a m r = true then [b] else []) ++ up a r (b + 1)
def kept (a : Int) : List P2 → List P2
  | [] => []
  | m :: r => if hitB a m r = true then m :: kept a r else kept a r
def fstep (F : Int → Bool) (m : P2) : Int → Bool := fun x => F x || ((F m.1 || F m.2) && inP m x)
def fw (F : Int → Bool) (r : List P2) : Int → Bool := r.foldl fstep F
theorem inP_self1 (m : P2) : inP m m.1 = true := by unfold inP; simp
theorem inP_self2 (m : P2) : inP m m.2 = true := by unfold inP; simp
theorem inP_iff {m : P2} {x : Int} : inP m x = true ↔ x = m.1 ∨ x = m.2 := by unfold inP; rw [Bool.or_eq_true, decide_eq_true_eq, decide_eq_true_eq]
theorem fw_bk (a : Int) : ∀ (r : List P2) (F : Int → Bool), fw F r a = true ↔ ∃ x, F x = true ∧ bkS a r x = true
  | [], F => by
    show F a = true ↔ _
    constructor
    · intro h
      exact ⟨a, h, decide_eq_true rfl⟩
    · rintro ⟨x, h, e⟩
      rw [← of_decide_eq_true e]
      exact h
  | m :: r, F => by
    show fw (fstep F m) r a = true ↔ _
    rw [fw_bk a r (fstep F m)]
    constructor
    · rintro ⟨x, h, e⟩
      unfold fstep at h
      rw [Bool.or_eq_true, Bool.and_eq_true, Bool.or_eq_true] at h
      rcases h with h | ⟨h, k⟩
      · exact ⟨x, h, by unfold bkS; rw [e]; rfl⟩
      · have hit : (bkS a r m.1 || bkS a r m.2) = true := by
          rcases inP_iff.mp k with k | k
          · rw [← k, e]; rfl
          · rw [← k, e, Bool.or_true]
        rcases h with h | h
        · exact ⟨m.1, h, by unfold bkS; rw [hit, inP_self1]; simp⟩
        · exact ⟨m.2, h, by unfold bkS; rw [hit, inP_self2]; simp⟩
    · rintro ⟨x, h, e⟩
      unfold bkS at e
      rw [Bool.or_eq_true, Bool.and_eq_true, Bool.or_eq_true] at e
      rcases e with e | ⟨e, k⟩
      · exact ⟨x, by unfold fstep; rw [h]; rfl, e⟩
      · have hf : (F m.1 || F m.2) = true := by
          rcases inP_iff.mp k with k | k
          · rw [← k, h]; rfl
          · rw [← k, h, Bool.or_true]
        rcases e with e | e
        · exact ⟨m.1, by unfold fstep; rw [hf, inP_self1]; simp, e⟩
        · exact ⟨m.2, by unfold fstep; rw [hf, inP_self2]; simp, e⟩
theorem fw_hit (a : Int) (m : P2) (r : List P2) : fw (inP m) r a = hitB a m r := by
  rw [Bool.eq_iff_iff, fw_bk]
  unfold hitB
  rw [Bool.or_eq_true]
  constructor
  · rintro ⟨x, h, e⟩
    rcases inP_iff.mp h with k | k
    · exact .inl (by rw [← k]; exact e)
    · exact .inr (by rw [← k]; exact e)
  · rintro (h | h)
    · exact ⟨m.1, inP_self1 m, h⟩
    · exact ⟨m.2, inP_self2 m, h⟩
theorem bkS_kept (a : Int) : ∀ (r : List P2) (x : Int), bkS a r x = (decide (x = a) || (kept a r).any fun m => inP m x)
  | [], x => by simp [bkS, kept]
  | m :: r, x => by
    unfold bkS kept hitB
    rw [bkS_kept a r x]
    by_cases h : (bkS a r m.1 || bkS a r m.2) = true
    · rw [h, if_pos rfl, List.any_cons]
      cases inP m x <;> cases decide (x = a) <;> cases List.any (kept a r) (fun m => inP m x) <;> rfl
    · rw [Bool.eq_false_iff.mpr h, if_neg Bool.false_ne_true, Bool.false_and, Bool.or_false]
theorem up_kept (a : Int) (ms : List P2) : ∀ (r : List P2) (b : Nat), ms.drop b = r → (up a r b).map (fun i => ms.getD i (0, 0)) = kept a r
  | [], b, _ => rfl
  | m :: r, b, h => by
    have e : ms[b]? = some m := by
      have := congrArg (fun l => l[0]?) h
      simpa using this
    have e2 : ms.drop (b + 1) = r := by
      have := congrArg (List.drop 1) h
      simpa [List.drop_drop, Nat.add_comm] using this
    unfold up kept
    rw [List.map_append, up_kept a ms r (b + 1) e2]
    split
    · rw [List.map_cons, List.map_nil, List.getD_eq_getElem?_getD, e]; rfl
    · rfl
theorem up_mem (a : Int) : ∀ (r : List P2) (b i : Nat), i ∈ up a r b → b ≤ i ∧ i < b + r.length
  | [], b, i, h => by simp [up] at h
  | m :: r, b, i, h => by
    unfold up at h
    rw [List.mem_append] at h
    rw [List.length_cons]
    rcases h with h | h
    · split at h
      · rw [List.mem_singleton] at h; omega
      · simp at h
    · have := up_mem a r (b + 1) i h
      omega
theorem up_pw (a : Int) : ∀ (r : List P2) (b : Nat), (up a r b).Pairwise (· < ·)
  | [], b => List.Pairwise.nil
  | m :: r, b => by
    unfold up
    rw [List.pairwise_append]
    refine ⟨?_, up_pw a r (b + 1), fun x hx y hy => ?_⟩
    · split
      · exact List.pairwise_singleton ..
      · exact List.Pairwise.nil
    · split at hx
      · rw [List.mem_singleton] at hx
        have := up_mem a r (b + 1) y hy
        omega
      · simp at hx
/-- the law's list: the meetings from which a chain leads to the agent -/
theorem up_filter (a : Int) (ms : List P2) : ∀ (r : List P2) (b : Nat), ms.drop b = r → up a r b = (List.range' b r.length).filter fun i => fw (inP (ms.getD i (0, 0))) (ms.drop (i + 1)) a
  | [], b, _ => rfl
  | m :: r, b, h => by
    have e : ms[b]? = some m := by
      have := congrArg (fun l => l[0]?) h
      simpa using this
    have e2 : ms.drop (b + 1) = r := by
      have := congrArg (List.drop 1) h
      simpa [List.drop_drop, Nat.add_comm] using this
    unfold up
    rw [up_filter a ms r (b + 1) e2, List.length_cons, List.range'_succ, List.filter_cons]
    have e3 : ms.getD b (0, 0) = m := by rw [List.getD_eq_getElem?_getD, e]; rfl
    rw [e3, e2, fw_hit]
    split <;> rfl
theorem nat_sorted {l : List Int} {u : List Nat} (hu : u.Pairwise (· < ·)) (p : l.Perm (u.reverse.map fun (i : Nat) => (i : Int))) (h : l.Pairwise (· ≤ ·)) : l = u.map fun (i : Nat) => (i : Int) := by
  have p2 : l.Perm (u.map fun (i : Nat) => (i : Int)) := p.trans ((List.reverse_perm u).map _)
  refine p2.eq_of_pairwise (fun _ _ _ _ a b => Int.le_antisymm a b) h ?_
  rw [List.pairwise_map]
  exact hu.imp fun h => by omega
/-- two ascending lists with the same members -/
theorem asc_same : ∀ {l k : List Int}, l.Pairwise (· < ·) → k.Pairwise (· ≤ ·) → k.Nodup → (∀ z, z ∈ l ↔ z ∈ k) → l = k := by
  intro l k hl hk nd h
  have p : l.Perm k := (List.perm_ext_iff_of_nodup (hl.imp fun h => by omega) nd).mpr h
  exact p.eq_of_pairwise (fun _ _ _ _ a b => Int.le_antisymm a b) (hl.imp fun h => by omega) hk
end Vf
namespace Vf
theorem up_len (a : Int) : ∀ (r : List P2) (b : Nat), (up a r b).length ≤ r.length
  | [], b => Nat.le_refl _
  | m :: r, b => by
    unfold up
    rw [List.length_append, List.length_cons]
    have := up_len a r (b + 1)
    split
    · show 1 + _ ≤ _; omega
    · show 0 + _ ≤ _; omega
end Vf
namespace Vf
theorem up_cons (a : Int) (m : P2) (r : List P2) (b : Nat) : up a (m :: r) b = (if hitB a m r = true then [b] else []) ++ up a r (b + 1) := rfl
end Vf
namespace Vf
theorem fw_snoc (F : Int → Bool) (r : List P2) (m : P2) (x : Int) : fw F (r ++ [m]) x = (fw F r x || ((fw F r m.1 || fw F r m.2) && inP m x)) := by
  unfold fw
  rw [List.foldl_append]
  rfl
end Vf

namespace Vf
open PySem L2
/-! ### schedules followed -/
def runC (f : P2 → P2) (ms : List P2) (cs : List Int) : List Int := ms.foldl (stepC f) cs
theorem goC_run {f : P2 → P2} : ∀ {ms : List P2} {cs : List Int} {k : Nat}, (∀ m ∈ ms, agOk cs.length m = true) → goC f k ms cs = .inr (runC f ms cs)
  | [], _, _, _ => rfl
  | m :: r, cs, k, h => by
    show (if agOk cs.length m = true then goC f (k + 1) r (stepC f cs m) else .inl k) = _
    rw [if_pos (h m (List.mem_cons_self ..))]
    exact goC_run fun x hx => by rw [stepC_len]; exact h x (List.mem_cons_of_mem _ hx)
theorem runC_len (f : P2 → P2) : ∀ (ms : List P2) (cs : List Int), (runC f ms cs).length = cs.length
  | [], _ => rfl
  | m :: r, cs => by
    show (runC f r (stepC f cs m)).length = _
    rw [runC_len f r, stepC_len]
theorem stepC_get {f : P2 → P2} {cs : List Int} {m : P2} (h : agOk cs.length m = true) {x : Int} (x0 : 0 ≤ x) :
    (stepC f cs m).getD x.toNat 0 = if x = m.2 then (f (cs.getD m.1.toNat 0, cs.getD m.2.toNat 0)).2 else if x = m.1 then (f (cs.getD m.1.toNat 0, cs.getD m.2.toNat 0)).1 else cs.getD x.toNat 0 := by
  obtain ⟨ne, ⟨a, b⟩, c, d⟩ := agOk_iff.mp h
  unfold stepC
  rw [getD_set' _ _ _ _ _ (by rw [List.length_set]; omega)]
  by_cases e2 : x = m.2
  · rw [if_pos (by rw [e2]), if_pos e2]
  · rw [if_neg (by omega), if_neg e2, getD_set' _ _ _ _ _ (by omega)]
    by_cases e1 : x = m.1
    · rw [if_pos (by rw [e1]), if_pos e1]
    · rw [if_neg (by omega), if_neg e1]
def agree (S : Int → Bool) (cs cs' : List Int) : Prop := ∀ x : Int, 0 ≤ x → S x = true → cs.getD x.toNat 0 = cs'.getD x.toNat 0
theorem kept_mem (a : Int) : ∀ (ms : List P2) (m : P2), m ∈ kept a ms → m ∈ ms
  | [], m, h => h
  | x :: r, m, h => by
    unfold kept at h
    split at h
    · rcases List.mem_cons.mp h with h | h
      · rw [h]; exact List.mem_cons_self ..
      · exact List.mem_cons_of_mem _ (kept_mem a r m h)
    · exact List.mem_cons_of_mem _ (kept_mem a r m h)
theorem run_kept {f : P2 → P2} {a : Int} (a0 : 0 ≤ a) {n : Nat} : ∀ {ms : List P2} {cs cs' : List Int}, cs.length = n → cs'.length = n → (∀ m ∈ ms, agOk n m = true) → agree (bkS a ms) cs cs' →
    (runC f (kept a ms) cs).getD a.toNat 0 = (runC f ms cs').getD a.toNat 0
  | [], cs, cs', _, _, _, g => g a a0 (decide_eq_true rfl)
  | m :: r, cs, cs', l, l', ok, g => by
    have okm := ok m (List.mem_cons_self ..)
    have okr : ∀ x ∈ r, agOk n x = true := fun x hx => ok x (List.mem_cons_of_mem _ hx)
    obtain ⟨ne, ⟨a1, b1⟩, _, _⟩ := agOk_iff.mp okm
    show _ = (runC f r (stepC f cs' m)).getD _ _
    have mono : ∀ x, bkS a r x = true → bkS a (m :: r) x = true := fun x h => by
      show (bkS a r x || _) = true
      rw [h]; rfl
    by_cases hit : hitB a m r = true
    · have k : kept a (m :: r) = m :: kept a r := if_pos hit
      rw [k]
      show (runC f (kept a r) (stepC f cs m)).getD _ _ = _
      refine run_kept a0 (by rw [stepC_len]; exact l) (by rw [stepC_len]; exact l') okr fun x x0 hx => ?_
      have hm : ∀ y, inP m y = true → bkS a (m :: r) y = true := fun y h => by
        show (bkS a r y || ((bkS a r m.1 || bkS a r m.2) && inP m y)) = true
        unfold hitB at hit
        rw [hit, h]; simp
      rw [stepC_get (by rw [l]; exact okm) x0, stepC_get (by rw [l']; exact okm) x0, g m.1 a1 (hm _ (inP_self1 m)), g m.2 b1 (hm _ (inP_self2 m)), g x x0 (mono x hx)]
    · have k : kept a (m :: r) = kept a r := if_neg hit
      rw [k]
      refine run_kept a0 l (by rw [stepC_len]; exact l') okr fun x x0 hx => ?_
      have n1 : x ≠ m.1 := fun e => hit (by unfold hitB; rw [← e, hx]; rfl)
      have n2 : x ≠ m.2 := fun e => hit (by unfold hitB; rw [← e, hx, Bool.or_true])
      rw [stepC_get (by rw [l']; exact okm) x0, if_neg n2, if_neg n1, g x x0 (mono x hx)]
theorem run_same {f : P2 → P2} {a : Int} (a0 : 0 ≤ a) {n : Nat} {ms : List P2} {cs cs' : List Int} (l : cs.length = n) (l' : cs'.length = n) (ok : ∀ m ∈ ms, agOk n m = true) (g : agree (bkS a ms) cs cs') :
    (runC f ms cs').getD a.toNat 0 = (runC f ms cs).getD a.toNat 0 :=
  (run_kept a0 l l' ok g).symm.trans (run_kept a0 l l ok fun _ _ _ => rfl)
end Vf

namespace Vf
open PySem L2
/-! ### schedules with the same layers -/
def lays (ms : List P2) : List (List P2) := (lay ms).map sortPr
theorem rows_ext {a b : List (List P2)} (l : a.length = b.length) (h : ∀ k, a.getD k [] = b.getD k []) : a = b := by
  apply List.ext_getElem l
  intro i h1 h2
  have := h i
  rw [List.getD_eq_getElem?_getD, List.getD_eq_getElem?_getD, List.getElem?_eq_getElem h1, List.getElem?_eq_getElem h2] at this
  exact this
theorem layS_length (rows : List (List P2)) (m : P2) : (layS rows m).length = max rows.length (layAt rows m + 1) := by
  rw [layS_len]
  have := layAt_le rows m
  unfold padL
  split
  · rw [List.length_append]; show _ + 1 = _; omega
  · omega
/-- the same layers, each in some order -/
def Lk (a b : List (List P2)) : Prop := a.length = b.length ∧ ∀ k, (a.getD k []).Perm (b.getD k [])
theorem Lk.has {a b : List (List P2)} (h : Lk a b) (x : Int) (k : Nat) : has a x k = has b x k := by
  unfold Vf.has
  exact (h.2 k).any_eq
theorem Lk.at_ {a b : List (List P2)} (h : Lk a b) (m : P2) : layAt a m = layAt b m := by
  unfold layAt
  rw [h.1, lastOf_congr fun k _ => h.has m.1 k, lastOf_congr fun k _ => h.has m.2 k]
theorem Lk.step {a b : List (List P2)} (h : Lk a b) (m : P2) : Lk (layS a m) (layS b m) := by
  refine ⟨by rw [layS_length, layS_length, h.1, h.at_ m], fun k => ?_⟩
  rw [layS_get, layS_get, h.at_ m]
  split
  · exact (h.2 k).append_right _
  · exact h.2 k
theorem Lk.fold : ∀ (r : List P2) {a b : List (List P2)}, Lk a b → Lk (r.foldl layS a) (r.foldl layS b)
  | [], _, _, h => h
  | m :: r, _, _, h => Lk.fold r (h.step m)
def apart (a b : P2) : Bool := !inP a b.1 && !inP a b.2
theorem apart_at {rows : List (List P2)} {a b : P2} (h : apart a b = true) : layAt (layS rows a) b = layAt rows b := by
  unfold apart at h
  rw [Bool.and_eq_true, Bool.not_eq_true', Bool.not_eq_true'] at h
  unfold layAt
  rw [layS_last, layS_last, h.1, h.2, if_neg Bool.false_ne_true, if_neg Bool.false_ne_true]
theorem apart_symm {a b : P2} (h : apart a b = true) : apart b a = true := by
  unfold apart inP at *
  simp only [Bool.and_eq_true, Bool.not_eq_true', Bool.or_eq_false_iff, decide_eq_false_iff_not] at *
  obtain ⟨⟨h1, h2⟩, h3, h4⟩ := h
  exact ⟨⟨fun e => h1 e.symm, fun e => h3 e.symm⟩, fun e => h2 e.symm, fun e => h4 e.symm⟩
theorem Lk.swap (rows : List (List P2)) {a b : P2} (h : apart a b = true) : Lk (layS (layS rows a) b) (layS (layS rows b) a) := by
  refine ⟨?_, fun k => ?_⟩
  · rw [layS_length, layS_length, layS_length, layS_length, apart_at h, apart_at (apart_symm h)]
    omega
  · rw [layS_get, layS_get, layS_get, layS_get, apart_at h, apart_at (apart_symm h)]
    by_cases ea : layAt rows a = k <;> by_cases eb : layAt rows b = k
    · rw [if_pos ea, if_pos eb, if_pos ea, if_pos eb, List.append_assoc, List.append_assoc]
      exact (List.Perm.swap b a []).append_left _
    · rw [if_neg eb, if_pos ea, if_pos ea, if_neg eb]
    · rw [if_pos eb, if_neg ea, if_neg ea, if_pos eb]
    · rw [if_neg eb, if_neg ea, if_neg ea, if_neg eb]
def B64 (ms : List P2) : Prop := ∀ m ∈ ms, (0 ≤ m.1 ∧ m.1 < 64) ∧ (0 ≤ m.2 ∧ m.2 < 64)
theorem Lk.sorted {a b : List (List P2)} (h : Lk a b) (hb : ∀ r ∈ b, B64 r) : a.map sortPr = b.map sortPr := by
  apply List.ext_getElem (by rw [List.length_map, List.length_map, h.1])
  intro i h1 h2
  rw [List.length_map] at h1 h2
  have p := h.2 i
  rw [List.getD_eq_getElem?_getD, List.getD_eq_getElem?_getD, List.getElem?_eq_getElem h1, List.getElem?_eq_getElem h2] at p
  have p : a[i].Perm b[i] := p
  rw [List.getElem_map, List.getElem_map]
  exact sortPr_one (hb _ (List.getElem_mem h2)) ((sortPr_perm _).trans p) (sortPr_pw _)
theorem lay_B64 {ms : List P2} (h : B64 ms) : ∀ r ∈ lay ms, B64 r := fun r hr m hm => h m (((lay_ok ms).row r hr).2 m hm)
theorem lays_swap {p r : List P2} {a b : P2} (h : apart a b = true) (hb : B64 (p ++ a :: b :: r)) : lays (p ++ b :: a :: r) = lays (p ++ a :: b :: r) := by
  unfold lays
  refine Lk.sorted ?_ (lay_B64 hb)
  unfold lay
  rw [List.foldl_append, List.foldl_append]
  exact Lk.fold r (Lk.swap _ (apart_symm h))
/-! ### what each agent does -/
theorem lastOf_at {c : Nat → Bool} {k : Nat} : ∀ {n : Nat}, lastOf c n = k + 1 → c k = true ∧ k < n
  | 0, h => by unfold lastOf at h; omega
  | n + 1, h => by
    unfold lastOf at h
    by_cases e : c n = true
    · rw [if_pos e] at h
      obtain rfl : n = k := by omega
      exact ⟨e, Nat.lt_succ_self _⟩
    · rw [if_neg e] at h
      have := lastOf_at h
      exact ⟨this.1, by omega⟩
structure WL (R : List (List P2)) : Prop where
  one : ∀ k x, ((R.getD k []).filter fun m => inP m x).length ≤ 1
  sh : ∀ k, ∀ m ∈ R.getD (k + 1) [], hs R m k = true
  ne : ∀ k, k < R.length → R.getD k [] ≠ []
theorem no_has {R : List (List P2)} {x : Int} {k : Nat} (h : has R x k = false) : (R.getD k []).filter (fun m => inP m x) = [] := by
  unfold has at h
  rw [List.any_eq_false] at h
  exact List.filter_eq_nil_iff.mpr fun m hm => h m hm
theorem at_has {R : List (List P2)} {m : P2} {x : Int} (h : inP m x = true) {k : Nat} (hk : layAt R m ≤ k) : has R x k = false := by
  by_cases l : k < R.length
  · refine lastOf_high (n := R.length) ?_ l
    unfold layAt at hk
    rcases inP_iff.mp h with e | e <;> rw [e] <;> omega
  · exact has_out (by omega)
theorem WL.nil : WL [] := ⟨fun k x => by simp, fun k m h => by simp at h, fun k h => by simp at h⟩
theorem WL.step {R : List (List P2)} (h : WL R) (m : P2) : WL (layS R m) := by
  refine ⟨fun k x => ?_, fun k m' hm' => ?_, fun k hk => ?_⟩
  · rw [layS_get]
    split
    · next e =>
      rw [List.filter_append, List.filter_cons]
      by_cases hx : inP m x = true
      · rw [no_has (at_has hx (Nat.le_of_eq e)), if_pos hx]
        exact Nat.le_refl _
      · rw [if_neg hx, List.filter_nil, List.append_nil]
        exact h.one k x
    · exact h.one k x
  · have mono : ∀ m'', hs R m'' k = true → hs (layS R m) m'' k = true := fun m'' g => by
      unfold hs at *
      rw [layS_has, layS_has]
      rw [Bool.or_eq_true] at g ⊢
      rcases g with g | g
      · exact .inl (by rw [g]; rfl)
      · exact .inr (by rw [g]; rfl)
    rw [layS_get] at hm'
    split at hm'
    · next e =>
      rcases List.mem_append.mp hm' with hm' | hm'
      · exact mono _ (h.sh k m' hm')
      · rw [List.mem_singleton.mp hm']
        refine mono _ ?_
        unfold layAt at e
        unfold hs
        rw [Bool.or_eq_true]
        by_cases c : lastOf (has R m.1) R.length = k + 1
        · exact .inl (lastOf_at c).1
        · exact .inr (lastOf_at (show lastOf (has R m.2) R.length = k + 1 by omega)).1
    · exact mono _ (h.sh k m' hm')
  · rw [layS_get]
    split
    · simp
    · next e =>
      rw [layS_length] at hk
      have := layAt_le R m
      exact h.ne k (by omega)
theorem wl_lay (ms : List P2) : WL (lay ms) := by
  have : ∀ (r : List P2) (R : List (List P2)), WL R → WL (r.foldl layS R) := by
    intro r
    induction r with
    | nil => intro R h; exact h
    | cons m r ih => intro R h; exact ih _ (h.step m)
  exact this ms [] WL.nil
theorem WL.like {a b : List (List P2)} (h : WL b) (k : Lk a b) : WL a := by
  refine ⟨fun i x => ?_, fun i m hm => ?_, fun i hi e => ?_⟩
  · rw [((k.2 i).filter _).length_eq]
    exact h.one i x
  · unfold hs
    rw [k.has, k.has]
    exact h.sh i m ((k.2 (i + 1)).mem_iff.mp hm)
  · have p := k.2 i
    rw [e] at p
    exact h.ne i (by rw [← k.1]; exact hi) (List.Perm.nil_eq p).symm
theorem lk_sort (R : List (List P2)) : Lk (R.map sortPr) R := by
  refine ⟨List.length_map .., fun k => ?_⟩
  rw [List.getD_eq_getElem?_getD, List.getD_eq_getElem?_getD, List.getElem?_map]
  cases R[k]? with
  | none => exact List.Perm.refl _
  | some r => exact sortPr_perm r
theorem wl_lays (ms : List P2) : WL (lays ms) := (wl_lay ms).like (lk_sort _)
end Vf
namespace Vf
open PySem L2
/-! ### the layers one after the other have the same layers -/
theorem lastOf_cut {c : Nat → Bool} {k : Nat} : ∀ {n : Nat}, k ≤ n → (∀ i, k ≤ i → i < n → c i = false) → lastOf c n = lastOf c k
  | 0, h, _ => by rw [show k = 0 by omega]
  | n + 1, h, z => by
    by_cases e : k = n + 1
    · rw [e]
    · show (if c n = true then n + 1 else lastOf c n) = _
      rw [z n (by omega) (Nat.lt_succ_self n), if_neg Bool.false_ne_true]
      exact lastOf_cut (n := n) (by omega) fun i h1 h2 => z i h1 (Nat.lt_succ_of_lt h2)
theorem lastOf_top {c : Nat → Bool} {k : Nat} (h : c k = true) : lastOf c (k + 1) = k + 1 := by
  unfold lastOf
  rw [if_pos h]
/-- a part of the next layer is there -/
def part (R : List (List P2)) (k j : Nat) : List (List P2) := R.take k ++ if j = 0 then [] else [(R.getD k []).take j]
theorem part_get (R : List (List P2)) {k j : Nat} (hk : k < R.length) (i : Nat) : (part R k j).getD i [] = if i < k then R.getD i [] else if i = k then (R.getD k []).take j else [] := by
  have tl : (R.take k).length = k := by rw [List.length_take]; omega
  unfold part
  rw [List.getD_eq_getElem?_getD]
  by_cases h : i < k
  · rw [if_pos h, List.getElem?_append_left (by omega), List.getElem?_take, if_pos h, List.getD_eq_getElem?_getD]
  · rw [if_neg h, List.getElem?_append_right (by omega), tl]
    by_cases e : i = k
    · rw [if_pos e, e, Nat.sub_self]
      by_cases j0 : j = 0
      · rw [if_pos j0, j0]; rfl
      · rw [if_neg j0]; rfl
    · rw [if_neg e]
      by_cases j0 : j = 0
      · rw [if_pos j0]; rfl
      · rw [if_neg j0, List.getElem?_eq_none (by show 1 ≤ _; omega)]; rfl
theorem part_len (R : List (List P2)) {k j : Nat} (hk : k < R.length) : (part R k j).length = if j = 0 then k else k + 1 := by
  unfold part
  rw [List.length_append, List.length_take]
  split
  · show _ + 0 = _; omega
  · show _ + 1 = _; omega
theorem part_has (R : List (List P2)) {k j : Nat} (hk : k < R.length) (x : Int) {i : Nat} (h : i < k) : has (part R k j) x i = has R x i := by
  unfold has
  rw [part_get R hk, if_pos h]
theorem WL.early {R : List (List P2)} (h : WL R) {k j : Nat} {m : P2} (e : (R.getD k [])[j]? = some m) {x : Int} (hx : inP m x = true) : ((R.getD k []).take j).any (fun m => inP m x) = false := by
  rw [List.any_eq_false]
  intro m' hm' g
  have o := h.one k x
  rw [← List.take_append_drop j (R.getD k []), List.filter_append, List.length_append] at o
  have p1 : 0 < (((R.getD k []).take j).filter fun m => inP m x).length := List.length_pos_of_mem (List.mem_filter.mpr ⟨hm', g⟩)
  have p2 : 0 < (((R.getD k []).drop j).filter fun m => inP m x).length := by
    refine List.length_pos_of_mem (a := m) (List.mem_filter.mpr ⟨?_, hx⟩)
    exact List.mem_of_getElem? (i := 0) (by rw [List.getElem?_drop]; exact e)
  omega
theorem WL.part_at {R : List (List P2)} (h : WL R) {k j : Nat} (hk : k < R.length) {m : P2} (e : (R.getD k [])[j]? = some m) : layAt (part R k j) m = k := by
  have far : ∀ x, inP m x = true → lastOf (has (part R k j) x) (part R k j).length = lastOf (has R x) k := fun x hx => by
    rw [lastOf_cut (k := k) (by rw [part_len R hk]; split <;> omega) fun i h1 h2 => ?_]
    · exact lastOf_congr fun i hi => part_has R hk x hi
    · unfold has
      rw [part_get R hk, if_neg (by omega)]
      split
      · exact h.early e hx
      · rfl
  unfold layAt
  rw [far m.1 (inP_self1 m), far m.2 (inP_self2 m)]
  have l1 := lastOf_le (has R m.1) k
  have l2 := lastOf_le (has R m.2) k
  cases k with
  | zero => omega
  | succ k' =>
    have s := h.sh k' m (List.mem_of_getElem? e)
    unfold hs at s
    rw [Bool.or_eq_true] at s
    rcases s with s | s
    · rw [lastOf_top s] at *; omega
    · rw [lastOf_top s] at *; omega
theorem WL.part_step {R : List (List P2)} (h : WL R) {k j : Nat} (hk : k < R.length) {m : P2} (e : (R.getD k [])[j]? = some m) : layS (part R k j) m = part R k (j + 1) := by
  have at_ := h.part_at hk e
  refine rows_ext ?_ fun i => ?_
  · rw [layS_length, at_, part_len R hk, part_len R hk, if_neg (Nat.succ_ne_zero j)]
    split <;> omega
  · rw [layS_get, at_, part_get R hk, part_get R hk]
    by_cases e1 : k = i
    · subst e1
      rw [if_pos rfl, if_neg (Nat.lt_irrefl _), if_pos rfl, if_neg (Nat.lt_irrefl _), if_pos rfl, take_snoc e]
    · rw [if_neg e1]
      by_cases l : i < k
      · rw [if_pos l, if_pos l]
      · rw [if_neg l, if_neg l, if_neg (Ne.symm e1), if_neg (Ne.symm e1)]
theorem WL.part_all {R : List (List P2)} (h : WL R) {k : Nat} (hk : k < R.length) : ∀ j, j ≤ (R.getD k []).length → ((R.getD k []).take j).foldl layS (R.take k) = part R k j
  | 0, _ => by unfold part; simp
  | j + 1, hj => by
    have e := List.getElem?_eq_getElem (show j < (R.getD k []).length by omega)
    rw [take_snoc e, List.foldl_append, h.part_all hk j (by omega)]
    exact h.part_step hk e
theorem WL.flat {R : List (List P2)} (h : WL R) : ∀ k, k ≤ R.length → lay ((R.take k).flatten) = R.take k
  | 0, _ => by simp [lay]
  | k + 1, hk => by
    have hk : k < R.length := hk
    have e := List.getElem?_eq_getElem hk
    have g : R.getD k [] = R[k] := by rw [List.getD_eq_getElem?_getD, e]; rfl
    have n0 : R.getD k [] ≠ [] := h.ne k hk
    rw [flat_take e]
    unfold lay
    rw [List.foldl_append]
    have ih := h.flat k (Nat.le_of_lt hk)
    unfold lay at ih
    rw [ih, ← g]
    have a := h.part_all hk (R.getD k []).length (Nat.le_refl _)
    rw [List.take_length] at a
    rw [a]
    unfold part
    rw [if_neg (fun z => n0 (List.length_eq_zero_iff.mp z)), List.take_length, take_snoc e, g]
theorem sortPr_twice {l : List P2} (hb : B64 l) : sortPr (sortPr l) = sortPr l :=
  (sortPr_one (z := sortPr l) (fun m hm => hb m ((sortPr_perm l).mem_iff.mp hm)) (List.Perm.refl _) (sortPr_pw l)).symm
theorem lays_flat {ms : List P2} (hb : B64 ms) : lays (lays ms).flatten = lays ms := by
  have h := (wl_lays ms).flat (lays ms).length (Nat.le_refl _)
  rw [List.take_length] at h
  show (lay (lays ms).flatten).map sortPr = lays ms
  rw [h]
  refine map_self fun r hr => ?_
  obtain ⟨r0, h0, rfl⟩ := List.mem_map.mp hr
  exact sortPr_twice (lay_B64 hb _ h0)
theorem lays_B64 {ms : List P2} (hb : B64 ms) : B64 (lays ms).flatten := fun m hm => by
  obtain ⟨r, hr, hm⟩ := List.mem_flatten.mp hm
  obtain ⟨r0, h0, rfl⟩ := List.mem_map.mp hr
  exact lay_B64 hb _ h0 m ((sortPr_perm r0).mem_iff.mp hm)
/-! ### the meetings of an agent, in order -/
def proj (x : Int) (R : List (List P2)) : List P2 := R.flatMap fun r => r.filter fun m => inP m x
theorem rows_get (F : List P2 → List P2) (hF : F [] = []) (R : List (List P2)) (n : Nat) (h : R.length ≤ n) : R.flatMap F = (List.range n).flatMap fun k => F (R.getD k []) := by
  have e : (List.range n).map (fun k => F (R.getD k [])) = R.map F ++ List.replicate (n - R.length) [] := by
    apply List.ext_getElem?
    intro i
    rw [List.getElem?_map]
    by_cases c : i < R.length
    · rw [List.getElem?_append_left (by rw [List.length_map]; exact c), List.getElem?_map, List.getElem?_range (by omega), List.getElem?_eq_getElem c]
      show some (F (R.getD i [])) = some (F R[i])
      rw [List.getD_eq_getElem?_getD, List.getElem?_eq_getElem c]
      rfl
    · rw [List.getElem?_append_right (by rw [List.length_map]; omega), List.length_map, List.getElem?_replicate]
      by_cases d : i < n
      · rw [List.getElem?_range d, if_pos (by omega)]
        show some (F (R.getD i [])) = some []
        rw [List.getD_eq_getElem?_getD, List.getElem?_eq_none (by omega)]
        exact congrArg some hF
      · rw [if_neg (by omega), List.getElem?_eq_none (by rw [List.length_range]; omega)]
        rfl
  rw [List.flatMap_def, List.flatMap_def, e, List.flatten_append]
  have z : ∀ n : Nat, (List.replicate n ([] : List P2)).flatten = [] := fun n => by induction n with
    | zero => rfl
    | succ n ih => rw [List.replicate_succ, List.flatten_cons, ih]; rfl
  rw [z, List.append_nil]
theorem proj_get (x : Int) (R : List (List P2)) (n : Nat) (h : R.length ≤ n) : proj x R = (List.range n).flatMap fun k => (R.getD k []).filter fun m => inP m x :=
  rows_get (fun r => r.filter fun m => inP m x) rfl R n h
theorem len_more {g g' : Nat → List P2} {l : Nat} (h1 : ∀ k, k ≠ l → g' k = g k) (h2 : (g' l).length = (g l).length + 1) : ∀ n, ((List.range n).flatMap g').length = ((List.range n).flatMap g).length + if l < n then 1 else 0
  | 0 => rfl
  | n + 1 => by
    rw [List.range_succ, List.flatMap_append, List.flatMap_append, List.length_append, List.length_append, len_more h1 h2 n]
    show _ + (g' n ++ []).length = _ + (g n ++ []).length + _
    rw [List.append_nil, List.append_nil]
    by_cases e : n = l
    · subst e
      rw [if_neg (Nat.lt_irrefl _), if_pos (Nat.lt_succ_self _), h2]
      omega
    · rw [h1 n e]
      by_cases c : l < n
      · rw [if_pos c, if_pos (by omega)]; omega
      · rw [if_neg c, if_neg (by omega)]; omega
theorem layS_total (R : List (List P2)) (m : P2) : (layS R m).flatten.length = R.flatten.length + 1 := by
  have ll := layS_length R m
  have e : ∀ Z : List (List P2), Z.flatten = Z.flatMap id := fun Z => by rw [List.flatMap_def, List.map_id]
  rw [e, e, rows_get id rfl (layS R m) _ (Nat.le_refl _), rows_get id rfl R (layS R m).length (by omega), len_more (l := layAt R m) (g := fun k => id (R.getD k [])) (fun k hk => ?_) ?_, if_pos (by omega)]
  · show ((layS R m).getD _ []).length = (R.getD _ []).length + 1
    rw [layS_get, if_pos rfl, List.length_append]
    rfl
  · show (layS R m).getD k [] = R.getD k []
    rw [layS_get, if_neg (Ne.symm hk)]
theorem lays_total (ms : List P2) : (lays ms).flatten.length = ms.length := by
  have : ∀ (r : List P2) (R : List (List P2)), (r.foldl layS R).flatten.length = R.flatten.length + r.length := by
    intro r
    induction r with
    | nil => intro R; rfl
    | cons m r ih =>
      intro R
      show (r.foldl layS (layS R m)).flatten.length = _
      rw [ih, layS_total, List.length_cons]
      omega
  have h := this ms []
  have e : ∀ Z : List (List P2), (Z.map sortPr).flatten.length = Z.flatten.length := fun Z => by
    induction Z with
    | nil => rfl
    | cons r Z ih => rw [List.map_cons, List.flatten_cons, List.flatten_cons, List.length_append, List.length_append, ih, sortPr_len]
  unfold lays
  rw [e]
  exact h.trans (Nat.zero_add _)
end Vf
namespace Vf
open PySem L2
theorem one_more {g g' : Nat → List P2} {l : Nat} {m : P2} (h1 : ∀ k, k ≠ l → g' k = g k) (h2 : g l = []) (h3 : g' l = [m]) (h4 : ∀ k, l < k → g k = []) : ∀ n, (List.range n).flatMap g' = (List.range n).flatMap g ++ if l < n then [m] else []
  | 0 => rfl
  | n + 1 => by
    rw [List.range_succ, List.flatMap_append, List.flatMap_append, one_more h1 h2 h3 h4 n]
    show _ ++ (g' n ++ []) = _ ++ (g n ++ []) ++ _
    rw [List.append_nil, List.append_nil]
    by_cases e : n = l
    · subst e
      rw [if_neg (Nat.lt_irrefl _), if_pos (Nat.lt_succ_self _), h2, h3, List.append_nil]
    · rw [h1 n e]
      by_cases c : l < n
      · rw [if_pos c, if_pos (by omega), h4 n c, List.append_nil, List.append_nil]
      · rw [if_neg c, if_neg (by omega), List.append_nil, List.append_nil]
theorem proj_layS (x : Int) (R : List (List P2)) (m : P2) : proj x (layS R m) = proj x R ++ if inP m x = true then [m] else [] := by
  have ll := layS_length R m
  have n1 : R.length ≤ (layS R m).length := by omega
  rw [proj_get x (layS R m) _ (Nat.le_refl _), proj_get x R _ n1]
  by_cases hx : inP m x = true
  · rw [if_pos hx, one_more (l := layAt R m) (m := m) (fun k hk => ?_) (no_has (at_has hx (Nat.le_refl _))) ?_ (fun k hk => no_has (at_has hx (Nat.le_of_lt hk))), if_pos (by omega)]
    · rw [layS_get, if_pos rfl, List.filter_append, no_has (at_has hx (Nat.le_refl _)), List.filter_cons, if_pos hx]
      rfl
    · rw [layS_get, if_neg (Ne.symm hk)]
  · rw [if_neg hx, List.append_nil]
    refine congrArg (fun g => List.flatMap g _) (funext fun k => ?_)
    rw [layS_get]
    split
    · rw [List.filter_append, List.filter_cons, if_neg hx, List.filter_nil, List.append_nil]
    · rfl
theorem proj_lay (x : Int) (ms : List P2) : proj x (lay ms) = ms.filter fun m => inP m x := by
  have : ∀ (r : List P2) (R : List (List P2)), proj x (r.foldl layS R) = proj x R ++ r.filter fun m => inP m x := by
    intro r
    induction r with
    | nil => intro R; rw [List.filter_nil, List.append_nil]; rfl
    | cons m r ih =>
      intro R
      show proj x (r.foldl layS (layS R m)) = _
      rw [ih, proj_layS, List.append_assoc, List.filter_cons]
      split <;> rfl
  have h := this ms []
  rw [show proj x [] = [] from rfl, List.nil_append] at h
  exact h
theorem proj_lays (x : Int) (ms : List P2) : proj x (lays ms) = ms.filter fun m => inP m x := by
  rw [← proj_lay]
  have h1 := wl_lay ms
  have e : (lays ms).length = (lay ms).length := List.length_map ..
  rw [proj_get x (lays ms) (lays ms).length (Nat.le_refl _), proj_get x (lay ms) (lays ms).length (by omega)]
  refine congrArg (fun g => List.flatMap g _) (funext fun k => ?_)
  have p := ((lk_sort (lay ms)).2 k).filter fun m => inP m x
  have o := h1.one k x
  change (((lays ms).getD k []).filter _).Perm _ at p
  cases q : ((lay ms).getD k []).filter fun m => inP m x with
  | nil =>
    rw [q] at p
    exact p.eq_nil
  | cons y t =>
    rw [q] at o p
    have t0 : t = [] := List.length_eq_zero_iff.mp (by rw [List.length_cons] at o; omega)
    subst t0
    exact List.perm_singleton.mp p
/-- a meeting left out -/
theorem lays_less {p r : List P2} {m : P2} : lays (p ++ m :: r) ≠ lays (p ++ r) := fun e => by
  have h := congrArg (fun R => (proj m.1 R).length) e
  simp only [proj_lays, List.filter_append, List.filter_cons, inP_self1, if_true, List.length_append, List.length_cons] at h
  omega
/-- two meetings with a common agent, the other way round -/
theorem lays_turned {p r : List P2} {a b : P2} {x : Int} (ne : a ≠ b) (ha : inP a x = true) (hb : inP b x = true) : lays (p ++ a :: b :: r) ≠ lays (p ++ b :: a :: r) := fun e => by
  have h := congrArg (proj x) e
  simp only [proj_lays, List.filter_append, List.filter_cons, ha, hb, if_true] at h
  have h2 := List.append_cancel_left h
  exact ne (List.cons.inj h2).1
theorem step_swap {f : P2 → P2} {cs : List Int} {a b : P2} (oa : agOk cs.length a = true) (ob : agOk cs.length b = true) (h : apart a b = true) : stepC f (stepC f cs a) b = stepC f (stepC f cs b) a := by
  have h' := h
  unfold apart inP at h'
  simp only [Bool.and_eq_true, Bool.not_eq_true', Bool.or_eq_false_iff, decide_eq_false_iff_not] at h'
  obtain ⟨⟨n11, n12⟩, n21, n22⟩ := h'
  obtain ⟨_, ⟨a1, a2⟩, _, _⟩ := agOk_iff.mp oa
  obtain ⟨_, ⟨b1, b2⟩, _, _⟩ := agOk_iff.mp ob
  have oa2 : agOk (stepC f cs b).length a = true := by rw [stepC_len]; exact oa
  have ob2 : agOk (stepC f cs a).length b = true := by rw [stepC_len]; exact ob
  have g : ∀ i : Nat, (stepC f (stepC f cs a) b).getD i 0 = (stepC f (stepC f cs b) a).getD i 0 := fun i => by
    have i0 : (0 : Int) ≤ (i : Int) := Int.natCast_nonneg _
    have k1 := stepC_get (f := f) ob2 i0
    have k2 := stepC_get (f := f) oa2 i0
    rw [show ((i : Nat) : Int).toNat = i from rfl] at k1 k2
    rw [k1, k2, show (stepC f cs a).getD i 0 = (stepC f cs a).getD ((i : Nat) : Int).toNat 0 from rfl, show (stepC f cs b).getD i 0 = (stepC f cs b).getD ((i : Nat) : Int).toNat 0 from rfl, stepC_get oa b1, stepC_get oa b2, stepC_get ob a1, stepC_get ob a2, stepC_get oa i0, stepC_get ob i0]
    rw [if_neg n12, if_neg n11, if_neg n22, if_neg n21, if_neg (Ne.symm n22), if_neg (Ne.symm n21), if_neg (Ne.symm n12), if_neg (Ne.symm n11)]
    by_cases e1 : (i : Int) = b.2
    · have z1 : (i : Int) ≠ a.2 := fun e => n22 (e1.symm.trans e)
      have z2 : (i : Int) ≠ a.1 := fun e => n21 (e1.symm.trans e)
      rw [if_pos e1, if_neg z1, if_neg z2, if_pos e1]
    · rw [if_neg e1]
      by_cases e2 : (i : Int) = b.1
      · have z1 : (i : Int) ≠ a.2 := fun e => n12 (e2.symm.trans e)
        have z2 : (i : Int) ≠ a.1 := fun e => n11 (e2.symm.trans e)
        rw [if_pos e2, if_neg z1, if_neg z2, if_neg e1, if_pos e2]
      · rw [if_neg e2, if_neg e1, if_neg e2]
  apply List.ext_getElem (by rw [stepC_len, stepC_len, stepC_len, stepC_len])
  intro i h1 h2
  have := g i
  rw [List.getD_eq_getElem?_getD, List.getD_eq_getElem?_getD, List.getElem?_eq_getElem h1, List.getElem?_eq_getElem h2] at this
  exact this
/-- a schedule made by exchanges -/
structure Eqv (n : Nat) (ms k : List P2) : Prop where
  len : k.length = ms.length
  ok : ∀ m ∈ k, agOk n m = true
  same : lays k = lays ms
  run : ∀ (f : P2 → P2) (cs : List Int), cs.length = n → runC f k cs = runC f ms cs
theorem ok_B64 {n : Nat} {k : List P2} (n8 : n ≤ 8) (h : ∀ m ∈ k, agOk n m = true) : B64 k := fun m hm => by
  have := agOk_iff.mp (h m hm)
  omega
theorem Eqv.swap {n : Nat} {ms p r : List P2} {a b : P2} (n8 : n ≤ 8) (h : Eqv n ms (p ++ a :: b :: r)) (d : apart a b = true) : Eqv n ms (p ++ b :: a :: r) := by
  refine ⟨by rw [← h.len]; simp, fun m hm => h.ok m ?_, by rw [← h.same]; exact lays_swap d (ok_B64 n8 h.ok), fun f cs l => ?_⟩
  · simp only [List.mem_append, List.mem_cons] at hm ⊢
    rcases hm with h | h | h | h <;> simp [h]
  · rw [← h.run f cs l]
    unfold runC
    rw [List.foldl_append, List.foldl_append]
    have lr : (p.foldl (stepC f) cs).length = n := by rw [← l]; exact runC_len f p cs
    have ha : agOk n a = true := h.ok a (by simp)
    have hb : agOk n b = true := h.ok b (by simp)
    show r.foldl (stepC f) (stepC f (stepC f (p.foldl (stepC f) cs) b) a) = r.foldl (stepC f) (stepC f (stepC f (p.foldl (stepC f) cs) a) b)
    rw [step_swap (by rw [lr]; exact ha) (by rw [lr]; exact hb) d]
theorem split2 {α : Type} {l : List α} {i : Nat} {a b : α} (ha : l[i]? = some a) (hb : l[i + 1]? = some b) : l = l.take i ++ a :: b :: l.drop (i + 2) := by
  have h1 := (List.getElem?_eq_some_iff.mp ha)
  have h2 := (List.getElem?_eq_some_iff.mp hb)
  conv => lhs; rw [← List.take_append_drop i l]
  rw [List.drop_eq_getElem_cons h1.1, h1.2, List.drop_eq_getElem_cons h2.1, h2.2]
theorem set2 {α : Type} {l : List α} {i : Nat} {a b c d : α} (ha : l[i]? = some a) (hb : l[i + 1]? = some b) : (l.set i c).set (i + 1) d = l.take i ++ c :: d :: l.drop (i + 2) := by
  have h1 := (List.getElem?_eq_some_iff.mp ha).1
  have h2 := (List.getElem?_eq_some_iff.mp hb).1
  apply List.ext_getElem?
  intro k
  have tl : (l.take i).length = i := by rw [List.length_take]; omega
  by_cases e1 : k < i
  · rw [List.getElem?_set_ne (by omega), List.getElem?_set_ne (by omega), List.getElem?_append_left (by omega), List.getElem?_take, if_pos e1]
  · rw [List.getElem?_append_right (by omega), tl]
    by_cases e2 : k = i
    · subst e2
      rw [List.getElem?_set_ne (by omega), List.getElem?_set_self h1, Nat.sub_self]
      rfl
    · by_cases e3 : k = i + 1
      · subst e3
        rw [List.getElem?_set_self (by rw [List.length_set]; exact h2), show i + 1 - i = 1 by omega]
        rfl
      · rw [List.getElem?_set_ne (by omega), List.getElem?_set_ne (by omega), show k - i = (k - (i + 2)) + 2 by omega]
        show _ = (l.drop (i + 2))[k - (i + 2)]?
        rw [List.getElem?_drop]
        congr 1
        omega
theorem Tups.set {α : Type} {enc : α → List V} {H : Hp} {xs : List V} {l : List α} (h : Tups enc H xs l) (i : Nat) {t : Addr} {a : α} (ht : H t = some (.tup (enc a))) : Tups enc H (xs.set i (.ref t)) (l.set i a) := by
  refine ⟨by rw [List.length_set, List.length_set]; exact h.1, fun j b e => ?_⟩
  by_cases c : i = j
  · subst c
    have il : i < l.length := by
      have := (List.getElem?_eq_some_iff.mp e).1
      rw [List.length_set] at this
      exact this
    rw [List.getElem?_set_self il] at e
    obtain rfl : a = b := Option.some.inj e
    exact ⟨t, List.getElem?_set_self (by rw [h.1]; exact il), ht⟩
  · rw [List.getElem?_set_ne c] at e
    obtain ⟨u, h1, h2⟩ := h.2 j b e
    exact ⟨u, by rw [List.getElem?_set_ne c]; exact h1, h2⟩
end Vf
namespace Vf
open PySem PySem.W L2
theorem dpAll_rows {K : PySem.W.Frag} {H : Hp} : ∀ {xs : List V} {rows : List (List P2)}, LstsP H xs rows → DpAll K H xs (rows.map Datum.toD)
  | [], [], _ => .nil
  | [], _ :: _, t => by have := t.1; simp at this
  | _ :: _, [], t => by have := t.1; simp at this
  | x :: xs, r :: rows, t => by
    obtain ⟨u, zs, e1, e2, e3⟩ := t.2 0 r rfl
    obtain rfl : x = .ref u := Option.some.inj e1
    exact .cons (.lst (SqL.of e2) (dpAll_pairs e3)) (dpAll_rows ⟨Nat.succ.inj t.1, fun i b e => t.2 (i + 1) b e⟩)
end Vf

namespace Pf
open PySem L2
def top (i : Nat) : Stmt := PySem.Challenge.pw_mingle_k86_whole_equivalent_schedules.main.body.getD i (.Pass ⟨0, 0, 0, 0⟩)
abbrev s__law_cell : Stmt := (top 5)
abbrev s__law_draws : Stmt := (top 6)
abbrev s__law_schedule : Stmt := (top 9)
abbrev s_layers : Stmt := (top 1)
abbrev s_are_equivalent : Stmt := (top 2)
abbrev s_flattened : Stmt := (top 3)
abbrev s__law_parts : Stmt := (top 7)
abbrev s__law_table : Stmt := (top 8)
abbrev s__law_followed : Stmt := (top 10)
abbrev s_law : Stmt := (top 11)
structure Ad where
  f__law_cell : Addr
  d__law_cell : FuncData
  f__law_draws : Addr
  d__law_draws : FuncData
  f__law_schedule : Addr
  d__law_schedule : FuncData
  f_layers : Addr
  d_layers : FuncData
  f_are_equivalent : Addr
  d_are_equivalent : FuncData
  f_flattened : Addr
  d_flattened : FuncData
  f__law_parts : Addr
  d__law_parts : FuncData
  f__law_table : Addr
  d__law_table : FuncData
  f__law_followed : Addr
  d__law_followed : FuncData
  f_law : Addr
  d_law : FuncData
structure Txt (K : PySem.W.Frag) (mg : Str → Option Value) (A : Ad) : Prop where
  F__law_cell : Fun K "_law_cell" "_law_cell" s__law_cell A.f__law_cell A.d__law_cell
  B__law_cell : Binds K A.d__law_cell ["script", "k"] []
  G__law_cell : mg "_law_cell" = some (.ref A.f__law_cell)
  F__law_draws : Fun K "_law_draws" "_law_draws" s__law_draws A.f__law_draws A.d__law_draws
  B__law_draws : Binds K A.d__law_draws ["cell", "count"] []
  G__law_draws : mg "_law_draws" = some (.ref A.f__law_draws)
  F__law_schedule : Fun K "_law_schedule" "_law_schedule" s__law_schedule A.f__law_schedule A.d__law_schedule
  B__law_schedule : Binds K A.d__law_schedule ["cell", "agents", "most"] []
  G__law_schedule : mg "_law_schedule" = some (.ref A.f__law_schedule)
  F_layers : Fun K "layers" "layers" s_layers A.f_layers A.d_layers
  B_layers : Binds K A.d_layers ["schedule"] []
  G_layers : mg "layers" = some (.ref A.f_layers)
  F_are_equivalent : Fun K "are_equivalent" "are_equivalent" s_are_equivalent A.f_are_equivalent A.d_are_equivalent
  B_are_equivalent : Binds K A.d_are_equivalent ["first", "second"] []
  G_are_equivalent : mg "are_equivalent" = some (.ref A.f_are_equivalent)
  F_flattened : Fun K "flattened" "flattened" s_flattened A.f_flattened A.d_flattened
  B_flattened : Binds K A.d_flattened ["rows"] []
  G_flattened : mg "flattened" = some (.ref A.f_flattened)
  F__law_parts : Fun K "_law_parts" "_law_parts" s__law_parts A.f__law_parts A.d__law_parts
  B__law_parts : Binds K A.d__law_parts ["cell", "most"] []
  G__law_parts : mg "_law_parts" = some (.ref A.f__law_parts)
  F__law_table : Fun K "_law_table" "_law_table" s__law_table A.f__law_table A.d__law_table
  B__law_table : Binds K A.d__law_table ["parts"] []
  G__law_table : mg "_law_table" = some (.ref A.f__law_table)
  F__law_followed : Fun K "_law_followed" "_law_followed" s__law_followed A.f__law_followed A.d__law_followed
  B__law_followed : Binds K A.d__law_followed ["table", "crowd", "schedule"] []
  G__law_followed : mg "_law_followed" = some (.ref A.f__law_followed)
  F_law : Fun K "law" "law" s_law A.f_law A.d_law
  G_law : mg "law" = some (.ref A.f_law)
  N_int : mg "int" = none
  N_isinstance : mg "isinstance" = none
  N_len : mg "len" = none
  N_list : mg "list" = none
  N_max : mg "max" = none
  N_range : mg "range" = none
  N_sorted : mg "sorted" = none
  N_str : mg "str" = none
section
variable {P : Program} {w : World} {K : PySem.W.Frag} {mg : Str → Option Value} {base : Heap}
theorem sc__law_cell : FnScope ["script", "k"] ["script", "k"] (defScope s__law_cell) := ⟨rfl, rfl, rfl, by decide +kernel, rfl, by decide +kernel, by decide +kernel⟩
theorem sc__law_draws : FnScope ["cell", "count", "rows", "left", "k", "mixed"] ["cell", "count"] (defScope s__law_draws) := ⟨rfl, rfl, rfl, by decide +kernel, rfl, by decide +kernel, by decide +kernel⟩
theorem sc__law_schedule : FnScope ["cell", "agents", "most", "draws", "found", "k", "first", "second"] ["cell", "agents", "most"] (defScope s__law_schedule) := ⟨rfl, rfl, rfl, by decide +kernel, rfl, by decide +kernel, by decide +kernel⟩
theorem sc_layers : FnScope ["schedule", "rows", "reached", "first", "second", "layer", "row"] ["schedule"] (defScope s_layers) := ⟨rfl, rfl, rfl, by decide +kernel, rfl, by decide +kernel, by decide +kernel⟩
theorem sc_are_equivalent : FnScope ["first", "second"] ["first", "second"] (defScope s_are_equivalent) := ⟨rfl, rfl, rfl, by decide +kernel, rfl, by decide +kernel, by decide +kernel⟩
theorem sc_flattened : FnScope ["rows", "row", "pair"] ["rows"] (defScope s_flattened) := ⟨rfl, rfl, rfl, by decide +kernel, rfl, by decide +kernel, by decide +kernel⟩
theorem sc__law_parts : FnScope ["cell", "most", "draws", "count", "names", "outputs", "inputs", "leaders", "rules", "share", "first", "second", "draw", "third", "fourth", "turn", "k"] ["cell", "most"] (defScope s__law_parts) := ⟨rfl, rfl, rfl, by decide +kernel, rfl, by decide +kernel, by decide +kernel⟩
theorem sc__law_table : FnScope ["parts", "table", "first", "second", "third", "fourth", "pair"] ["parts"] (defScope s__law_table) := ⟨rfl, rfl, rfl, by decide +kernel, rfl, by decide +kernel, by decide +kernel⟩
theorem sc__law_followed : FnScope ["table", "crowd", "schedule", "agents", "first", "second", "pair"] ["table", "crowd", "schedule"] (defScope s__law_followed) := ⟨rfl, rfl, rfl, by decide +kernel, rfl, by decide +kernel, by decide +kernel⟩
theorem sc_law : FnScope ["script", "agents", "schedule", "draws", "other", "k", "at", "one", "two", "parts", "table", "crowd"] ["script"] (defScope s_law) := ⟨rfl, rfl, rfl, by decide +kernel, rfl, by decide +kernel, by decide +kernel⟩
end
local macro_rules | `(tactic| walk_at "hp") => `(tactic| ((try dsimp only); repeat (first | exact upd_same | assumption | (rw [upd_ne] <;> first | (show _ ≠ _; first | assumption | exact Ne.symm (by assumption)) | skip))))
local macro_rules | `(tactic| walk_at "sm") => `(tactic| first | with_reducible assumption | (with_reducible refine Vf.sm_num ?_; first | with_reducible assumption | decide +kernel) | (with_reducible refine Vf.sm_lit ?_; decide +kernel))
local macro_rules | `(tactic| walk_at "fit") => `(tactic| first | (with_reducible refine Vf.fit1 ?_ <;> walk_at "sm") | (with_reducible refine Vf.fit2 ?_ ?_ <;> walk_at "sm") | (with_reducible refine Vf.fit3 ?_ ?_ ?_ <;> walk_at "sm") | (with_reducible refine Vf.fit4 ?_ ?_ ?_ ?_ <;> walk_at "sm") | (with_reducible refine Vf.fit5 ?_ ?_ ?_ ?_ ?_ <;> walk_at "sm") | (with_reducible refine Vf.fit6 ?_ ?_ ?_ ?_ ?_ ?_ <;> walk_at "sm") | (with_reducible refine Vf.fit7 ?_ ?_ ?_ ?_ ?_ ?_ ?_ <;> walk_at "sm") | (with_reducible refine Vf.fit8 ?_ ?_ ?_ ?_ ?_ ?_ ?_ ?_ <;> walk_at "sm") | (with_reducible refine Vf.fit9 ?_ ?_ ?_ ?_ ?_ ?_ ?_ ?_ ?_ <;> walk_at "sm") | (with_reducible refine Vf.fit10 ?_ ?_ ?_ ?_ ?_ ?_ ?_ ?_ ?_ ?_ <;> walk_at "sm"))
def sp__law_cell (K : PySem.W.Frag) (A : Ad) : Sp := fun vs H Q _ => ∃ (a : Addr) (ns : List Int) (k : Int), vs = [.ref a, .int k] ∧ SqL K H a (ns.map V.int) ∧ 0 ≤ k ∧ Q (.int (ns.getD k.toNat 0)) H
theorem len__law_cell {K : PySem.W.Frag} {A : Ad} (vs : List V) (H : Hp) (Q : VK) (E : XK) (h : sp__law_cell K A vs H Q E) : vs.length = ["script", "k"].length := by
  obtain ⟨a, ns, k, rfl, _⟩ := h
  rfl

section
variable {P : Program} {w : World} {K : PySem.W.Frag} {mg : Str → Option Value} {base : Heap}
set_option maxHeartbeats 4000000 in
theorem ok__law_cell {A : Ad} (T : Txt K mg A) : FnOk P w K mg base CX0 1 A.f__law_cell A.d__law_cell ["script", "k"] (sp__law_cell K A) := by
  refine T.F__law_cell.ok sc__law_cell len__law_cell (fun cdv Ar outer s H vs Q E hr h => ?_)
  have hu := hu_of hr
  obtain ⟨a, ns, k, rfl, hS, h0, q⟩ := h
  refine ⟨_, (pss_cons (ps_if (pt_cmpR op_lt (pv 1) (pe_callB call_len_seq (by rfl) T.N_len PySem.boot_len (pa_cons (pv 0) pa_nil)) (nomark _)) (pss_one (ps_ret (pe_ix ix_list (pv 0) (pv 1) (fun _ _ => rfl)))) pss_nil)
      (pss_one (ps_ret pe_int))), ?_⟩
  refine ⟨_, rfl, _, rfl, a, _, rfl, .inl hS, _, _, rfl, rfl, _, rfl, ?_⟩
  refine Vf.ite_d (fun h1 => ?_) (fun h1 => ?_)
  · rw [List.length_map] at h1
    exact ⟨_, rfl, _, rfl, a, _, _, _, rfl, rfl, hS, Vf.int_at h0 h1, q⟩
  · rw [List.length_map] at h1
    have e : ns.getD k.toNat 0 = 0 := by
      rw [List.getD_eq_getElem?_getD, List.getElem?_eq_none (by omega)]
      rfl
    rw [e] at q
    exact q
end

def sp__law_draws (K : PySem.W.Frag) (A : Ad) : Sp := fun vs H Q _ => ∃ (cell count : Int), vs = [.int cell, .int count] ∧ 0 ≤ count ∧ count ≤ 10000 ∧ Vf.NewInts H Q fun ds => (ds.length : Int) = count ∧ ∀ d ∈ ds, 0 ≤ d ∧ d < 4096
theorem len__law_draws {K : PySem.W.Frag} {A : Ad} (vs : List V) (H : Hp) (Q : VK) (E : XK) (h : sp__law_draws K A vs H Q E) : vs.length = ["cell", "count"].length := by
  obtain ⟨a, b, rfl, _⟩ := h
  rfl

section
variable {P : Program} {w : World} {K : PySem.W.Frag} {mg : Str → Option Value} {base : Heap}
set_option maxHeartbeats 4000000 in
theorem ok__law_draws {A : Ad} (T : Txt K mg A) : FnOk P w K mg base CX0 1 A.f__law_draws A.d__law_draws ["cell", "count"] (sp__law_draws K A) := by
  refine T.F__law_draws.ok sc__law_draws len__law_draws (fun cdv Ar outer s H vs Q E hr h => ?_)
  have hu := hu_of hr
  obtain ⟨cell, count, rfl, h0, h1, q⟩ := h
  refine ⟨_, (pss_cons (ps_set (i := 2) sc__law_draws.nd rfl (Or.inl rfl) (pe_lst pa_nil))
      (pss_cons (ps_set (i := 3) sc__law_draws.nd rfl (Or.inl rfl) (pv 0))
      (pss_cons (ps_for PassesOwn.never rfl (pi_range1 rfl T.N_range (pa_cons (pv 1) pa_nil)) (pg_name (i := 4) sc__law_draws.nd rfl (Or.inl rfl))
        (pss_one (ps_if (PW.pt (pw_and (pt_cmpR op_ge (pv 0) (pe_op op_pow pe_int pe_int) (nomark _)) (pw_and1 (pt_cmpR op_gt (pv 3) pe_int (nomark _))))) (pss_cons (ps_expr (pe_bm PySem.F.plainAttrs_list PySem.F.slot_list_append PySem.F.type_list_append mt_append (pv 2) (pa_cons (pe_op op_mod (pe_callTy call_int1 (by rfl) T.N_int (by decide +kernel) (pa_cons (pv 3) pa_nil)) pe_int) pa_nil)))
      (pss_one (ps_set (i := 3) sc__law_draws.nd rfl (Or.inl rfl) (pe_op op_fdiv (pv 3) pe_int)))) (pss_cons (ps_set (i := 5) sc__law_draws.nd rfl (Or.inl rfl) (pe_op op_mod (pe_callTy call_int1 (by rfl) T.N_int (by decide +kernel) (pa_cons (pe_op op_add (pe_op op_mul (pv 0) pe_int) (pe_op op_mul (pe_op op_add (pv 4) pe_int) pe_int)) pa_nil)) pe_int))
      (pss_cons (ps_set (i := 5) sc__law_draws.nd rfl (Or.inl rfl) (pe_op op_mod (pe_callTy call_int1 (by rfl) T.N_int (by decide +kernel) (pa_cons (pe_op op_add (pe_op op_add (pe_op op_mul (pv 5) (pv 5)) (pe_op op_mul (pv 5) pe_int)) (pe_op op_mul (pv 4) pe_int)) pa_nil)) pe_int))
      (pss_cons (ps_set (i := 5) sc__law_draws.nd rfl (Or.inl rfl) (pe_op op_mod (pe_callTy call_int1 (by rfl) T.N_int (by decide +kernel) (pa_cons (pe_op op_add (pe_op op_add (pe_op op_mul (pv 5) (pv 5)) (pv 0)) (pe_op op_mul pe_int (pv 4))) pa_nil)) pe_int))
      (pss_one (ps_expr (pe_bm PySem.F.plainAttrs_list PySem.F.slot_list_append PySem.F.type_list_append mt_append (pv 2) (pa_cons (pe_op op_mod (pe_op op_fdiv (pv 5) pe_int) pe_int) pa_nil))))))))))
      (pss_one (ps_ret (pv 2)))))), ?_⟩
  refine ⟨(by show 0 ≤ sizeLine; decide), fun p hp => ?_⟩
  refine ⟨_, rfl, _, rfl, count, rfl, by omega, by omega, for_range (lo := 0) (n := count.toNat) (fun i σ H' => ∃ (ds : List Int) (left : Int) (k m : Option V), σ = [some (.int cell), some (.int count), some (.ref p), some (.int left), k, m] ∧ Same H H' ∧ H' p = some (.lst (ds.map V.int)) ∧ ds.length = i ∧ ∀ d ∈ ds, 0 ≤ d ∧ d < 4096) ?_ ?_ ?_⟩
  · exact ⟨[], cell, none, none, rfl, Vf.Same.new (Same.refl H) hp, upd_same, rfl, fun d hd => nomatch hd⟩
  · rintro i σ H' hi ⟨ds, left, k, m, rfl, s1, hl, rfl, hr1⟩
    -- the word again, with one more
    have fin : ∀ (z left' : Int) (m' : Option V), 0 ≤ z → z < 4096 → ∃ (ds' : List Int) (l' : Int) (k' m'' : Option V), [some (V.int cell), some (.int count), some (.ref p), some (.int left'), some (.int (0 + (ds.length : Int))), m'] = [some (.int cell), some (.int count), some (.ref p), some (.int l'), k', m''] ∧
        Same H (upd H' p (.lst (ds.map V.int ++ [V.int z]))) ∧ (upd H' p (.lst (ds.map V.int ++ [V.int z]))) p = some (.lst (ds'.map V.int)) ∧ ds'.length = ds.length + 1 ∧ ∀ d ∈ ds', 0 ≤ d ∧ d < 4096 := by
      intro z left' m' z0 z1
      refine ⟨ds ++ [z], left', _, m', rfl, Vf.Same.chg s1 hp, by rw [upd_same, List.map_append]; rfl, by simp, fun d hd => ?_⟩
      rcases List.mem_append.mp hd with hd | hd
      · exact hr1 d hd
      · obtain rfl : d = z := by simpa using hd
        exact ⟨z0, z1⟩
    have big : (ds.map V.int).length < sizeLine := by rw [List.length_map]; exact Nat.lt_of_lt_of_le (show ds.length < 10000 by omega) (by decide)
    refine Vf.st_if (b := decide ((10 : Int) ^ (18 : Int).toNat ≤ cell) && decide ((0 : Int) < left)) (ans_and2 (fun Q q => ⟨_, rfl, _, _, rfl, rfl, ⟨by decide, by decide, by decide⟩, _, _, rfl, rfl, _, rfl, q⟩) (fun Q q => ⟨_, rfl, _, _, rfl, rfl, _, rfl, q⟩)) (fun hb => ?_) (fun hb => ?_)
    · refine ⟨_, rfl, .inl ⟨rfl, _, SqL.of hl⟩, _, rfl, .inl ⟨_, rfl, _, _, rfl, rfl, (by show (0 : Int) < 4096; decide), p, _, _, rfl, rfl, hl, big, ?_⟩⟩
      refine ⟨_, rfl, _, _, rfl, rfl, ⟨by decide, by decide⟩, ?_⟩
      exact fin _ _ _ (Int.emod_nonneg _ (by decide)) (Int.emod_lt_of_pos _ (by decide))
    · refine ⟨_, rfl, _, _, rfl, rfl, .inr ⟨by decide, by decide⟩, _, rfl, _, _, rfl, rfl, _, _, rfl, rfl, .inr ⟨by decide, by decide⟩, _, _, rfl, rfl, .inl ⟨_, rfl, _, _, rfl, rfl, (by show (0 : Int) < 2147483647; decide), ?_⟩⟩
      refine ⟨_, rfl, _, rfl, _, _, rfl, rfl, .inl (Vf.mod_w (by decide) (by decide)), _, rfl, _, _, rfl, rfl, .inl (Vf.mod_w (by decide) (by decide)), _, _, rfl, rfl, _, rfl, _, _, rfl, rfl, .inr ⟨by decide, by decide⟩, _, _, rfl, rfl, .inl ⟨_, rfl, _, _, rfl, rfl, (by show (0 : Int) < 2147483629; decide), ?_⟩⟩
      refine ⟨_, rfl, _, rfl, _, _, rfl, rfl, .inl (Vf.mod_w (by decide) (by decide)), _, rfl, _, _, rfl, rfl, _, rfl, _, _, rfl, rfl, .inl ⟨by decide, by decide⟩, _, _, rfl, rfl, .inl ⟨_, rfl, _, _, rfl, rfl, (by show (0 : Int) < 2147483587; decide), ?_⟩⟩
      refine ⟨_, rfl, .inl ⟨rfl, _, SqL.of hl⟩, _, rfl, _, _, rfl, rfl, ⟨by decide, by decide⟩, _, _, rfl, rfl, (by show (0 : Int) < 4096; decide), p, _, _, rfl, rfl, hl, big, ?_⟩
      exact fin _ _ _ (Int.emod_nonneg _ (by decide)) (Int.emod_lt_of_pos _ (by decide))
  · rintro σ H' ⟨ds, left, k, m, rfl, s1, hl, hn, hr1⟩
    exact ⟨_, rfl, q p H' ds hp s1 hl ⟨by omega, hr1⟩⟩
end

def sp__law_schedule (K : PySem.W.Frag) (A : Ad) : Sp := fun vs H Q _ => ∃ (cell most : Int) (n : Nat), vs = [.int cell, .int n, .int most] ∧ n ≤ 1000 ∧ 0 ≤ most ∧ most ≤ 1000 ∧
  ∀ (t : Addr) (xs : List V) (ms : List (Int × Int)) (H' : Hp), H t = none → Same H H' → H' t = some (.lst xs) → Vf.Tups Vf.encP H' xs ms → (∀ m ∈ ms, Vf.agOk n m = true) → (ms.length : Int) ≤ most → Q (.ref t) H'
theorem len__law_schedule {K : PySem.W.Frag} {A : Ad} (vs : List V) (H : Hp) (Q : VK) (E : XK) (h : sp__law_schedule K A vs H Q E) : vs.length = ["cell", "agents", "most"].length := by
  obtain ⟨a, b, c, rfl, _⟩ := h
  rfl

section
variable {P : Program} {w : World} {K : PySem.W.Frag} {mg : Str → Option Value} {base : Heap}
set_option maxHeartbeats 4000000 in
theorem ok__law_schedule {A : Ad} (T : Txt K mg A) : FnOk P w K mg base CX0 2 A.f__law_schedule A.d__law_schedule ["cell", "agents", "most"] (sp__law_schedule K A) := by
  have G__law_draws := ok__law_draws (P := P) (w := w) (base := base) T
  refine T.F__law_schedule.ok sc__law_schedule len__law_schedule (fun cdv Ar outer s H vs Q E hr h => ?_)
  have hu := hu_of hr
  obtain ⟨cell, most, n, rfl, n2, m0, m1, q⟩ := h
  refine ⟨_, (pss_cons (ps_set (i := 3) sc__law_schedule.nd rfl (Or.inl rfl) (pe_call G__law_draws hr (by rfl) T.G__law_draws T.F__law_draws.kp T.B__law_draws .nil pass0 (pa_cons (pv 0) (pa_cons (pe_op op_add (pe_op op_mul pe_int (pv 2)) pe_int) pa_nil))))
      (pss_cons (ps_set (i := 4) sc__law_schedule.nd rfl (Or.inl rfl) (pe_lst pa_nil))
      (pss_cons (ps_if (pt_cmpR op_lt (pv 1) pe_int (nomark _)) (pss_one (ps_ret (pv 4))) pss_nil)
      (pss_cons (ps_for PassesOwn.never rfl (pi_range1 rfl T.N_range (pa_cons (pe_op op_mod (pe_ix ix_list (pv 3) (pe_op op_mul pe_int (pv 2)) (fun _ _ => rfl)) (pe_op op_add (pv 2) pe_int)) pa_nil)) (pg_name (i := 5) sc__law_schedule.nd rfl (Or.inl rfl))
        (pss_cons (ps_set (i := 6) sc__law_schedule.nd rfl (Or.inl rfl) (pe_op op_mod (pe_ix ix_list (pv 3) (pe_op op_mul pe_int (pv 5)) (fun _ _ => rfl)) (pv 1)))
      (pss_cons (ps_set (i := 7) sc__law_schedule.nd rfl (Or.inl rfl) (pe_op op_mod (pe_callTy call_int1 (by rfl) T.N_int (by decide +kernel) (pa_cons (pe_op op_add (pe_op op_add (pv 6) pe_int) (pe_op op_mod (pe_ix ix_list (pv 3) (pe_op op_add (pe_op op_mul pe_int (pv 5)) pe_int) (fun _ _ => rfl)) (pe_op op_sub (pv 1) pe_int))) pa_nil)) (pv 1)))
      (pss_one (ps_expr (pe_bm PySem.F.plainAttrs_list PySem.F.slot_list_append PySem.F.type_list_append mt_append (pv 4) (pa_cons (pe_tup (pa_cons (pv 6) (pa_cons (pv 7) pa_nil))) pa_nil)))))))
      (pss_one (ps_ret (pv 4))))))), ?_⟩
  refine ⟨_, rfl, _, rfl, _, _, rfl, rfl, .inl ⟨by decide, by decide⟩, _, _, rfl, rfl, cell, 2 * most + 1, rfl, by omega, by omega, fun d H1 ds nd s1 hd ⟨hl, hr⟩ => ?_⟩
  refine ⟨(by show 0 ≤ sizeLine; decide), fun L nL => ?_⟩
  have s2 := Vf.Same.new (o := .lst []) s1 nL
  have nH := s1.free nL
  refine ⟨_, rfl, _, _, rfl, rfl, _, rfl, Vf.ite_d (fun c => ?_) (fun c => ?_)⟩
  · exact ⟨_, rfl, q L [] [] _ nH s2 upd_same Vf.Tups.nil (fun m h => (nomatch h)) (by show (0 : Int) ≤ most; omega)⟩
  have hd2 := (Vf.Same.new (o := .lst []) (Same.refl H1) nL) _ _ hd
  refine ⟨_, rfl, _, rfl, _, _, rfl, rfl, .inl ⟨by decide, by decide⟩, d, _, _, _, rfl, rfl, SqL.of hd2, Vf.int_at (by omega) (by omega), _, rfl, _, _, rfl, rfl, _, _, rfl, rfl, (by show (0 : Int) < most + 1; omega), ?_⟩
  have t0 : 0 ≤ ds.getD (2 * most).toNat 0 % (most + 1) := Int.emod_nonneg _ (by omega)
  have t1 : ds.getD (2 * most).toNat 0 % (most + 1) < most + 1 := Int.emod_lt_of_pos _ (by omega)
  generalize htot : ds.getD (2 * most).toNat 0 % (most + 1) = tot at t0 t1
  have dL : d ≠ L := fun e => by rw [e, nL] at hd; cases hd
  refine ⟨tot, (by rw [← htot]), by omega, by omega, for_range (lo := 0) (n := tot.toNat) (fun k σ H' => (∃ v5 v6 v7 : Option V, σ = [some (.int cell), some (.int (n : Int)), some (.int most), some (.ref d), some (.ref L), v5, v6, v7]) ∧ Same H H' ∧ H' d = some (.lst (ds.map V.int)) ∧ ∃ (xs : List V) (ms : List (Int × Int)), H' L = some (.lst xs) ∧ Vf.Tups Vf.encP H' xs ms ∧ (∀ m ∈ ms, Vf.agOk n m = true) ∧ ms.length = k) ⟨⟨_, _, _, rfl⟩, s2, hd2, [], [], upd_same, Vf.Tups.nil, fun m h => (nomatch h), rfl⟩ ?_ ?_⟩
  · rintro k σ Ha hk ⟨⟨v5, v6, v7, rfl⟩, sa, hda, xs, ms, hL, ht, ok, ml⟩
    have nn : (0 : Int) < (n : Int) := by omega
    refine ⟨_, rfl, _, rfl, _, _, rfl, rfl, .inl ⟨by decide, by decide⟩, d, _, _, _, rfl, rfl, SqL.of hda, Vf.int_at (by omega) (by omega), _, rfl, _, _, rfl, rfl, nn, ?_⟩
    refine ⟨_, rfl, _, _, rfl, rfl, _, rfl, _, rfl, _, _, rfl, rfl, .inl ⟨by decide, by decide⟩, _, _, rfl, rfl, d, _, _, _, rfl, rfl, SqL.of hda, Vf.int_at (by omega) (by omega), _, rfl, _, _, rfl, rfl, _, _, rfl, rfl, (by show (0 : Int) < (n : Int) - 1; omega), _, _, rfl, rfl, .inl ⟨_, rfl, _, rfl, _, _, rfl, rfl, nn, ?_⟩⟩
    refine ⟨_, rfl, Vf.tyL hL, _, rfl, _, rfl, (by show 2 ≤ sizeLine; decide), fun t nt => ?_⟩
    have st := Vf.Same.new (o := .tup (Vf.encP (ds.getD (2 * (0 + (k : Int))).toNat 0 % (n : Int), (ds.getD (2 * (0 + (k : Int))).toNat 0 % (n : Int) + 1 + ds.getD (2 * (0 + (k : Int)) + 1).toNat 0 % ((n : Int) - 1)) % (n : Int)))) (Same.refl Ha) nt
    have hLt := st _ _ hL
    have htl := (ht.same st).snoc (t := t) (a := (ds.getD (2 * (0 + (k : Int))).toNat 0 % (n : Int), (ds.getD (2 * (0 + (k : Int))).toNat 0 % (n : Int) + 1 + ds.getD (2 * (0 + (k : Int)) + 1).toNat 0 % ((n : Int) - 1)) % (n : Int))) upd_same
    refine ⟨L, xs, _, rfl, rfl, hLt, Nat.lt_of_le_of_lt (show xs.length ≤ 1000 by rw [ht.1, ml]; omega) (by decide), ⟨_, _, _, rfl⟩, Vf.Same.chg (sa.trans st) nH, ?_, _, _, upd_same, htl.mono fun u ys hu => ?_, fun m hm => ?_, by rw [List.length_append, ml]; rfl⟩
    · rw [upd_ne dL]
      exact st _ _ hda
    · rw [upd_ne (fun e => by rw [e, hLt] at hu; cases hu)]
      exact hu
    · rcases List.mem_append.mp hm with z | z
      · exact ok m z
      · rw [List.mem_singleton.mp z]
        exact Vf.drawn_ok (by omega)
  rintro σ Ha ⟨⟨v5, v6, v7, rfl⟩, sa, hda, xs, ms, hL, ht, ok, ml⟩
  exact ⟨_, rfl, q L xs ms Ha nH sa hL ht ok (by omega)⟩
end

def sp_layers (K : PySem.W.Frag) (A : Ad) : Sp := fun vs H Q _ => ∃ (l : Addr) (xs : List V) (ms : List (Int × Int)), vs = [.ref l] ∧ H l = some (.lst xs) ∧ Vf.Tups Vf.encP H xs ms ∧ ms.length < 64 ∧ (∀ m ∈ ms, (0 ≤ m.1 ∧ m.1 < 64) ∧ (0 ≤ m.2 ∧ m.2 < 64)) ∧
  ∀ (p : Addr) (ys : List V) (H' : Hp), H p = none → Same H H' → H' p = some (.lst ys) → Vf.LstsP H' ys ((Vf.lay ms).map Vf.sortPr) → Q (.ref p) H'
theorem len_layers {K : PySem.W.Frag} {A : Ad} (vs : List V) (H : Hp) (Q : VK) (E : XK) (h : sp_layers K A vs H Q E) : vs.length = ["schedule"].length := by
  obtain ⟨a, b, c, rfl, _⟩ := h
  rfl

section
variable {P : Program} {w : World} {K : PySem.W.Frag} {mg : Str → Option Value} {base : Heap}
set_option maxHeartbeats 4000000 in
theorem ok_layers {A : Ad} (T : Txt K mg A) : FnOk P w K mg base CX0 1 A.f_layers A.d_layers ["schedule"] (sp_layers K A) := by
  refine T.F_layers.ok sc_layers len_layers (fun cdv Ar outer s H vs Q E hr h => ?_)
  have hu := hu_of hr
  obtain ⟨l, xs, ms, rfl, hl, ht, h64, hb, q⟩ := h
  refine ⟨_, (pss_cons (ps_set (i := 1) sc_layers.nd rfl (Or.inl rfl) (pe_lst pa_nil))
      (pss_cons (ps_set (i := 2) sc_layers.nd rfl (Or.inl rfl) pe_dnewK)
      (pss_cons (ps_for PassesOwn.never rfl (pi_list (pv 0)) (pg_tup (by rfl) (pgs_cons (pg_name (i := 3) sc_layers.nd rfl (Or.inl rfl)) (pgs_cons (pg_name (i := 4) sc_layers.nd rfl (Or.inl rfl)) pgs_nil)))
        (pss_cons (ps_set (i := 5) sc_layers.nd rfl (Or.inl rfl) (pe_callB (call_max2 rfl) (by rfl) T.N_max (by decide +kernel) (pa_cons (pe_dget2 (by exact hu) (pv 2) (pv 3) pe_int ⟨by rfl, by rfl, by rfl, by rfl⟩) (pa_cons (pe_dget2 (by exact hu) (pv 2) (pv 4) pe_int ⟨by rfl, by rfl, by rfl, by rfl⟩) pa_nil))))
      (pss_cons (ps_if (pt_cmpR op_eq (pv 5) (pe_callB call_len_seq (by rfl) T.N_len PySem.boot_len (pa_cons (pv 1) pa_nil)) (nomark _)) (pss_one (ps_expr (pe_bm PySem.F.plainAttrs_list PySem.F.slot_list_append PySem.F.type_list_append mt_append (pv 1) (pa_cons (pe_lst pa_nil) pa_nil)))) pss_nil)
      (pss_cons (ps_expr (pe_bm PySem.F.plainAttrs_list PySem.F.slot_list_append PySem.F.type_list_append mt_append (pe_ix ix_list (pv 1) (pv 5) (fun _ _ => rfl)) (pa_cons (pe_tup (pa_cons (pv 3) (pa_cons (pv 4) pa_nil))) pa_nil)))
      (pss_cons (ps_dput hu (pv 2) (pv 3) (pe_op op_add (pv 5) pe_int) rfl)
      (pss_one (ps_dput hu (pv 2) (pv 4) (pe_op op_add (pv 5) pe_int) rfl)))))))
      (pss_one (ps_ret (pe_lc (own := [("row", 6)]) (g := (gName 6)) (tt := tYes) rfl sc_layers.nd (pi_list (pv 1)) (blkOk_by (N := ["schedule", "rows", "reached", "first", "second", "layer", "row"]) (sc := defScope s_layers) (by decide +kernel)) (fun _ _ _ _ _ => (pg_name (i := 6) sc_layers.nd rfl (Or.inl rfl))) (fun _ _ _ _ _ => pts_nil) (fun _ _ _ _ _ => (pe_callB Vf.cr_sortPr (by rfl) T.N_sorted (by decide +kernel) (pa_cons (pv 6) pa_nil))))))))), ?_⟩
  refine ⟨(by show 0 ≤ sizeLine; decide), fun R nR => ?_⟩
  have s1 := Vf.Same.new (o := .lst []) (Same.refl H) nR
  refine fun D nD => ?_
  have s2 := Vf.Same.new (o := .dK []) s1 nD
  have nD0 := s1.free nD
  have W0 : Vf.RowsP H (upd (upd H R (.lst [])) D (.dK [])) R [] (Vf.lay (ms.take 0)) := ⟨by rw [upd_ne (ne_of_none upd_same nD), upd_same]; rfl, rfl, List.nodup_nil, fun i a r h _ => by simp at h⟩
  refine ⟨_, rfl, l, rfl, ⟨_, SqL.of (s2 _ _ hl)⟩, for_list (K := K) (a := l) (xs := xs) (fun i σ H' => (∃ v3 v4 v5 : Option V, σ = [some (.ref l), some (.ref R), some (.ref D), v3, v4, v5, none]) ∧ Same H H' ∧ ∃ (as : List Addr) (kv : List (Key × V)), Vf.RowsP H H' R as (Vf.lay (ms.take i)) ∧ H' D = some (.dK kv) ∧ (∀ z : Int, (valV kv (Sum.inl z)).getD (.int 0) = .int (Vf.lastOf (Vf.has (Vf.lay (ms.take i)) z) (Vf.lay (ms.take i)).length : Nat)) ∧ kv.length ≤ 2 * i) ⟨⟨none, none, none, rfl⟩, s2, [], [], W0, upd_same, fun z => rfl, Nat.le_refl _⟩ (fun _ _ _ _ h => SqL.of (h.2.1 _ _ hl)) ?_ ?_⟩
  · rintro i x σ H1 hi ⟨⟨v3, v4, v5, rfl⟩, sa, as, kv, W, hD, hv, kl⟩
    obtain ⟨m, t, em, rfl, htm⟩ := ht.get hi
    have hm := sa _ _ htm
    have il : i < ms.length := (List.getElem?_eq_some_iff.mp em).1
    have g1 := hv m.1
    have g2 := hv m.2
    refine ⟨t, _, rfl, SqT.of hm, rfl, _, _, rfl, _, _, rfl, ?_⟩
    refine ⟨rfl, _, rfl, D, rfl, .inl ⟨_, .inl hD⟩, _, rfl, _, DGet.k (k := Sum.inl m.1) hD, ?_⟩
    rw [g1]
    refine ⟨_, rfl, D, rfl, .inl ⟨_, .inl hD⟩, _, rfl, _, DGet.k (k := Sum.inl m.2) hD, ?_⟩
    rw [g2]
    rw [Vf.lay_snoc em]
    have stk : (Vf.lay (ms.take i)).length ≤ 64 ∧ ∀ r ∈ Vf.lay (ms.take i), r.length ≤ 64 := by
      have o := Vf.lay_ok (ms.take i)
      have : (ms.take i).length ≤ ms.length := List.length_take_le' ..
      exact ⟨by have := o.few; omega, fun r hr => by have := (o.row r hr).1; omega⟩
    generalize Vf.lay (ms.take i) = st at W hv g1 g2 stk
    refine ⟨_, _, rfl, ?_⟩
    have eM : (if ((Vf.lastOf (Vf.has st m.2) st.length : Nat) : Int) > ((Vf.lastOf (Vf.has st m.1) st.length : Nat) : Int) then ((Vf.lastOf (Vf.has st m.2) st.length : Nat) : Int) else ((Vf.lastOf (Vf.has st m.1) st.length : Nat) : Int)) = (Vf.layAt st m : Nat) := by
      unfold Vf.layAt
      split <;> omega
    rw [eM]
    dsimp only [gName]
    have hal := Vf.layAt_le st m
    refine Vf.seq_join (R := fun σ' H' => σ' = [some (.ref l), some (.ref R), some (.ref D), some (.int m.1), some (.int m.2), some (.int (Vf.layAt st m : Nat)), none] ∧ Same H H' ∧ H' D = some (.dK kv) ∧ ∃ as, Vf.RowsP H H' R as (Vf.padL st m)) (fun nx hn => ?_) ?_
    · refine ⟨_, rfl, _, rfl, R, _, rfl, .inl (SqL.of W.at_), rfl, ?_⟩
      rw [List.length_map, W.len]
      refine ⟨_, rfl, Vf.ite_d (fun c => ?_) (fun c => ?_)⟩
      · have c : Vf.layAt st m = st.length := by injection c with c; omega
        have dR : D ≠ R := fun e => by rw [e, W.at_] at hD; cases hD
        refine ⟨_, rfl, Vf.tyL W.at_, (by show 0 ≤ sizeLine; decide), fun b nb => ?_⟩
        have few : (as.map V.ref).length < sizeLine := Nat.lt_of_le_of_lt (show (as.map V.ref).length ≤ 64 by rw [List.length_map, W.len]; exact stk.1) (by decide)
        refine ⟨R, _, _, rfl, rfl, by rw [upd_ne (ne_of_none W.at_ nb)]; exact W.at_, few, hn _ _ ⟨rfl, Vf.Same.chg (Vf.Same.new sa nb) nR, by rw [upd_ne dR, upd_ne (ne_of_none hD nb)]; exact hD, as ++ [b], ?_⟩⟩
        unfold Vf.padL
        rw [if_pos c]
        exact W.snoc nb (sa.free nb)
      · have c : ¬ Vf.layAt st m = st.length := fun e => c (by rw [e])
        refine hn _ _ ⟨rfl, sa, hD, as, ?_⟩
        unfold Vf.padL
        rw [if_neg c]
        exact W
    rintro σ' H2 ⟨rfl, s3, hD2, as2, W2⟩
    have pl := Vf.padL_lt st m
    have al : Vf.layAt st m < as2.length := by rw [W2.len]; exact pl
    obtain ⟨⟨rx, hA, hrx⟩, aR, a0⟩ := W2.row _ _ _ (List.getElem?_eq_getElem al) (List.getElem?_eq_getElem pl)
    refine ⟨_, rfl, _, rfl, R, _, _, _, rfl, rfl, SqL.of W2.at_, atI_nat (by rw [List.getElem?_map, List.getElem?_eq_getElem al]; rfl), Vf.tyL hA, _, rfl, _, rfl, (by show 2 ≤ sizeLine; decide), fun u nu => ?_⟩
    have W3 := W2.same (Vf.Same.new (o := .tup (Vf.encP m)) (Same.refl H2) nu)
    have hA3 := (Vf.Same.new (o := .tup (Vf.encP m)) (Same.refl H2) nu) _ _ hA
    have hD3 := (Vf.Same.new (o := .tup (Vf.encP m)) (Same.refl H2) nu) _ _ hD2
    have W4 := W3.put (List.getElem?_eq_getElem al) (List.getElem?_eq_getElem pl) hA3 (upd_same (H := H2))
    have rfew : rx.length < sizeLine := Nat.lt_of_le_of_lt (show rx.length ≤ 64 by
      rw [hrx.1]
      have e : (Vf.padL st m)[Vf.layAt st m] = st.getD (Vf.layAt st m) [] := by rw [← Vf.padL_get, List.getD_eq_getElem?_getD, List.getElem?_eq_getElem pl]; rfl
      rw [e]
      by_cases c : Vf.layAt st m < st.length
      · rw [List.getD_eq_getElem?_getD, List.getElem?_eq_getElem c]; exact stk.2 _ (List.getElem_mem c)
      · rw [List.getD_eq_getElem?_getD, List.getElem?_eq_none (by omega)]; exact Nat.zero_le _) (by decide)
    have Da : D ≠ as2[Vf.layAt st m] := fun e => by rw [e, hA] at hD2; cases hD2
    have e5 : (Vf.padL st m).set (Vf.layAt st m) ((Vf.padL st m)[Vf.layAt st m] ++ [m]) = Vf.layS st m := by
      unfold Vf.layS
      rw [List.getD_eq_getElem?_getD, List.getElem?_eq_getElem pl]
      rfl
    rw [e5] at W4
    have hD4 : (upd (upd H2 u (.tup (Vf.encP m))) as2[Vf.layAt st m] (.lst (rx ++ [.ref u]))) D = some (.dK kv) := by
      rw [upd_ne Da]
      exact hD3
    have s4 : Same H (upd (upd H2 u (.tup (Vf.encP m))) as2[Vf.layAt st m] (.lst (rx ++ [.ref u]))) := Vf.Same.chg (Vf.Same.new s3 nu) a0
    have lk1 := length_putK kv (Sum.inl m.1) (V.int ((Vf.layAt st m : Nat) + 1))
    have lk2 := length_putK (putK kv (Sum.inl m.1) (V.int ((Vf.layAt st m : Nat) + 1))) (Sum.inl m.2) (V.int ((Vf.layAt st m : Nat) + 1))
    refine ⟨_, rx, _, rfl, rfl, hA3, rfew, ?_⟩
    refine ⟨_, rfl, _, _, rfl, rfl, _, rfl, _, rfl, D, _, rfl, DPut.k (k := Sum.inl m.1) hD4 (Nat.lt_of_le_of_lt (show kv.length ≤ 200 by omega) (by decide)), ?_⟩
    refine ⟨_, rfl, _, _, rfl, rfl, _, rfl, _, rfl, D, _, rfl, DPut.k (k := Sum.inl m.2) upd_same (Nat.lt_of_le_of_lt (show (putK kv (Sum.inl m.1) (V.int ((Vf.layAt st m : Nat) + 1))).length ≤ 200 by omega) (by decide)), ?_⟩
    have W5 := W4.chg (o' := .dK (putK kv (Sum.inl m.1) (V.int ((Vf.layAt st m : Nat) + 1)))) hD4 (fun _ h => nomatch h) (fun _ h => nomatch h)
    have W6 := W5.chg (o' := .dK (putK (putK kv (Sum.inl m.1) (V.int ((Vf.layAt st m : Nat) + 1))) (Sum.inl m.2) (V.int ((Vf.layAt st m : Nat) + 1)))) upd_same (fun _ h => nomatch h) (fun _ h => nomatch h)
    refine ⟨⟨_, _, _, rfl⟩, Vf.Same.chg (Vf.Same.chg s4 nD0) nD0, as2, _, W6, upd_same, fun z => ?_, Nat.le_trans lk2 (Nat.le_trans (Nat.succ_le_succ lk1) (by omega))⟩
    rw [valV_put, valV_put, Vf.layS_last]
    have i2 : ((Sum.inl z : Key) = Sum.inl m.2) ↔ z = m.2 := ⟨fun h => Sum.inl.inj h, fun h => by rw [h]⟩
    have i1 : ((Sum.inl z : Key) = Sum.inl m.1) ↔ z = m.1 := ⟨fun h => Sum.inl.inj h, fun h => by rw [h]⟩
    unfold Vf.inP
    by_cases c2 : z = m.2
    · rw [if_pos (i2.mpr c2), decide_eq_true c2, Bool.or_true, if_pos rfl]; rfl
    · rw [if_neg (fun h => c2 (i2.mp h)), decide_eq_false c2, Bool.or_false]
      by_cases c1 : z = m.1
      · rw [if_pos (i1.mpr c1), decide_eq_true c1, if_pos rfl]; rfl
      · rw [if_neg (fun h => c1 (i1.mp h)), decide_eq_false c1, if_neg Bool.false_ne_true]
        exact hv z
  rintro σ H1 ⟨⟨v3, v4, v5, rfl⟩, sa, as, kv, W, hD, hv, kl⟩
  rw [show xs.length = ms.length from ht.1, List.take_length] at W
  have o := Vf.lay_ok ms
  refine ⟨_, rfl, R, rfl, ⟨_, SqL.of W.at_⟩, fun C hC => ?_⟩
  have nC := sa.free hC
  refine lc_it (walk_list (K := K) (a := R) (xs := as.map V.ref)) (fun j H' => ∃ acc, H' C = some (.lst acc) ∧ Same H1 H' ∧ Vf.LstsP H' acc (((Vf.lay ms).map Vf.sortPr).take j) ∧ ∀ t, V.ref t ∈ acc → t ≠ C) ⟨[], upd_same, Vf.Same.new (Same.refl H1) hC, ⟨rfl, fun i r h => by simp at h⟩, fun t h => by simp at h⟩ (fun _ _ _ ⟨_, _, s, _⟩ => SqL.of (s _ _ W.at_)) ?_ ?_
  · rintro j y H8 H7 hj ⟨acc, hacc, s7, tacc, nac⟩ ⟨rfl, hy⟩
    obtain ⟨a, ha, rfl⟩ := Vf.map_get hy
    have jl : j < (Vf.lay ms).length := by rw [← W.len]; exact (List.getElem?_eq_some_iff.mp ha).1
    have er := List.getElem?_eq_getElem jl
    obtain ⟨⟨rx, hA, hrx⟩, _, _⟩ := W.row j a _ ha er
    have o2 := o.row _ (List.getElem_mem jl)
    refine ⟨rfl, Vf.tyes ?_⟩
    refine ⟨_, rfl, a, rx, _, rfl, s7 _ _ hA, hrx.same s7, Nat.lt_of_le_of_lt o2.1 h64, fun m hm => hb m (o2.2 m hm), fun p ys np ty => ?_⟩
    have npC : p ≠ C := fun e => by rw [e, hacc] at np; cases np
    have nt : ∀ t zs, (upd H7 p (.lst ys)) t = some (.tup zs) → t ≠ C := fun t zs h e => by
      rw [e, upd_ne (Ne.symm npC), hacc] at h
      cases h
    refine ⟨acc, by rw [upd_ne (Ne.symm npC)]; exact hacc, Nat.lt_of_le_of_lt (show acc.length ≤ 100000 by rw [tacc.1]; refine Nat.le_trans (List.length_take_le' ..) ?_; rw [List.length_map]; have := o.few; omega) (by decide), _, upd_same, Vf.Same.chg (Vf.Same.new s7 np) hC, ?_, fun t m => ?_⟩
    · rw [Vf.take_snoc (show ((Vf.lay ms).map Vf.sortPr)[j]? = some _ by rw [List.getElem?_map, er]; rfl)]
      have s8 := Vf.Same.new (o := .lst ys) (Same.refl H7) np
      refine ((tacc.same s8).mono (fun t zs m h => ?_) (fun t zs h => ?_)).snoc (t := p) (zs := ys) ?_ ?_
      · rw [upd_ne (nac t m)]
        exact h
      · rw [upd_ne (nt _ _ h)]
        exact h
      · rw [upd_ne npC, upd_same]
      · refine (ty.same s8).mono fun t zs h => ?_
        rw [upd_ne (nt _ _ h)]
        exact h
    · rcases List.mem_append.mp m with m | m
      · exact nac t m
      · cases List.mem_singleton.mp m
        exact npC
  rintro H7 ⟨acc, hacc, s7, tacc, _⟩
  rw [List.length_map, W.len, show (Vf.lay ms).length = ((Vf.lay ms).map Vf.sortPr).length by rw [List.length_map], List.take_length] at tacc
  exact q C acc H7 nC (sa.trans s7) hacc tacc
end

def sp_are_equivalent (K : PySem.W.Frag) (A : Ad) : Sp := fun vs H Q _ => ∃ (l1 l2 : Addr) (x1 x2 : List V) (m1 m2 : List (Int × Int)), vs = [.ref l1, .ref l2] ∧ H l1 = some (.lst x1) ∧ Vf.Tups Vf.encP H x1 m1 ∧ m1.length < 64 ∧ Vf.B64 m1 ∧ H l2 = some (.lst x2) ∧ Vf.Tups Vf.encP H x2 m2 ∧ m2.length < 64 ∧ Vf.B64 m2 ∧
  ∀ H', Same H H' → Q (.bl (decide (Vf.lays m1 = Vf.lays m2))) H'
theorem len_are_equivalent {K : PySem.W.Frag} {A : Ad} (vs : List V) (H : Hp) (Q : VK) (E : XK) (h : sp_are_equivalent K A vs H Q E) : vs.length = ["first", "second"].length := by
  obtain ⟨a, b, c, d, e, f, rfl, _⟩ := h
  rfl

section
variable {P : Program} {w : World} {K : PySem.W.Frag} {mg : Str → Option Value} {base : Heap}
set_option maxHeartbeats 4000000 in
theorem ok_are_equivalent {A : Ad} (T : Txt K mg A) : FnOk P w K mg base CX0 2 A.f_are_equivalent A.d_are_equivalent ["first", "second"] (sp_are_equivalent K A) := by
  have G_layers := ok_layers (P := P) (w := w) (base := base) T
  refine T.F_are_equivalent.ok sc_are_equivalent len_are_equivalent (fun cdv Ar outer s H vs Q E hr h => ?_)
  have hu := hu_of hr
  obtain ⟨l1, l2, x1, x2, m1, m2, rfl, h1, t1, n1, b1, h2, t2, n2, b2, q⟩ := h
  refine ⟨_, (pss_one (ps_ret (pe_cmpR (Vf.op_eqP hr.units) (pe_call G_layers hr (by rfl) T.G_layers T.F_layers.kp T.B_layers .nil pass0 (pa_cons (pv 0) pa_nil)) (pe_call G_layers hr (by rfl) T.G_layers T.F_layers.kp T.B_layers .nil pass0 (pa_cons (pv 1) pa_nil)) (nomark _)))), ?_⟩
  refine ⟨_, rfl, l1, x1, m1, rfl, h1, t1, n1, b1, fun p1 y1 H1 np1 s1 hp1 e1 => ?_⟩
  refine ⟨_, rfl, l2, x2, m2, rfl, s1 _ _ h2, t2.same s1, n2, b2, fun p2 y2 H2 np2 s2 hp2 e2 => ?_⟩
  refine ⟨_, _, .lst (SqL.of (s2 _ _ hp1)) (Vf.dpAll_rows (e1.same s2)), .lst (SqL.of hp2) (Vf.dpAll_rows e2), Vf.datum_pl (α := List (List (Int × Int))) _ (by decide), Vf.datum_pl (α := List (List (Int × Int))) _ (by decide), ?_⟩
  rw [if_neg Bool.false_ne_true]
  have e := PySem.W.Datum.eqv (α := List (List (Int × Int))) (Vf.lays m1) (Vf.lays m2)
  show Q (.bl (PyData.eqv (PySem.W.Datum.toD (Vf.lays m1)) (PySem.W.Datum.toD (Vf.lays m2)))) H2
  rw [e]
  exact q H2 (s1.trans s2)
end

def sp_flattened (K : PySem.W.Frag) (A : Ad) : Sp := fun vs H Q _ => ∃ (l : Addr) (xs : List V) (rows : List (List (Int × Int))), vs = [.ref l] ∧ H l = some (.lst xs) ∧ Vf.LstsP H xs rows ∧ rows.flatten.length ≤ 100000 ∧
  ∀ (p : Addr) (ys : List V) (H' : Hp), H p = none → Same H H' → H' p = some (.lst ys) → Vf.Tups Vf.encP H' ys rows.flatten → Q (.ref p) H'
theorem len_flattened {K : PySem.W.Frag} {A : Ad} (vs : List V) (H : Hp) (Q : VK) (E : XK) (h : sp_flattened K A vs H Q E) : vs.length = ["rows"].length := by
  obtain ⟨a, b, c, rfl, _⟩ := h
  rfl

section
variable {P : Program} {w : World} {K : PySem.W.Frag} {mg : Str → Option Value} {base : Heap}
set_option maxHeartbeats 4000000 in
theorem ok_flattened {A : Ad} (T : Txt K mg A) : FnOk P w K mg base CX0 1 A.f_flattened A.d_flattened ["rows"] (sp_flattened K A) := by
  refine T.F_flattened.ok sc_flattened len_flattened (fun cdv Ar outer s H vs Q E hr h => ?_)
  have hu := hu_of hr
  obtain ⟨l, xs, rows, rfl, hl, ht, few, q⟩ := h
  refine ⟨_, (pss_one (ps_ret (pe_lc2 (own := [("row", 1), ("pair", 2)]) (vs1 := [2]) (g := (gName 1)) (g1 := (gName 2)) (tt := tYes) (tt1 := tYes) rfl sc_flattened.nd (pi_list (pv 0)) (blkOk_by (N := ["rows", "row", "pair"]) (sc := defScope s_flattened) (by decide +kernel)) (by decide) (fun _ _ _ _ _ => (pg_name (i := 1) sc_flattened.nd rfl (Or.inl rfl))) (fun _ _ _ _ _ => pts_nil) (fun _ _ _ _ _ => (Vf.pi_listK2 (K := K) rfl (pv 1))) (fun _ _ _ _ _ => (pg_name (i := 2) sc_flattened.nd rfl (Or.inl rfl))) (fun _ _ _ _ _ => pts_nil) (fun _ _ _ _ _ => (pv 2))))), ?_⟩
  refine ⟨_, rfl, l, rfl, ⟨_, SqL.of hl⟩, fun C hC => ?_⟩
  have nlC : ∀ {H' : Hp} {t : Addr} {zs : List V}, H' C = some (.lst zs) → ∀ ys, H' t = some (.tup ys) → t ≠ C := fun h ys k e => by rw [e, h] at k; cases k
  refine Vf.lc2_it (walk_list (K := K) (a := l) (xs := xs)) (fun i H' => ∃ acc, H' C = some (.lst acc) ∧ Same H H' ∧ Vf.Tups Vf.encP H' acc ((rows.take i).flatten)) ⟨[], upd_same, Vf.Same.new (Same.refl H) hC, Vf.Tups.nil⟩ (fun i H' _ ⟨_, _, s, _⟩ => SqL.of (s _ _ hl)) ?_ ?_
  · rintro i x Ha Hb hi ⟨acc, hacc, sa, ta⟩ ⟨rfl, hx⟩
    have il : i < rows.length := by rw [← ht.1]; exact hi
    obtain ⟨t, zs, e1, h1, h2⟩ := ht.2 i _ (List.getElem?_eq_getElem il)
    obtain rfl : x = .ref t := Option.some.inj (hx.symm.trans e1)
    have er := List.getElem?_eq_getElem il
    refine ⟨rfl, Vf.tyes ?_⟩
    have nc : t ≠ C := ne_of_none h1 hC
    refine ⟨_, rfl, t, rfl, ⟨_, SqL.of (sa _ _ h1)⟩, Vf.lc_in (walk_list (K := K) (a := t) (xs := zs)) (fun j H' => ∃ acc, H' C = some (.lst acc) ∧ Same H H' ∧ Vf.Tups Vf.encP H' acc ((rows.take i).flatten ++ rows[i].take j)) ⟨acc, hacc, sa, by rw [List.take_zero, List.append_nil]; exact ta⟩ (fun j H' _ ⟨_, _, s, _⟩ => SqL.of (s _ _ h1)) ?_ ?_⟩
    · rintro j y Hx Hy hj ⟨acc, hacc, sx, tx⟩ ⟨rfl, hy⟩
      obtain ⟨m, u, em, rfl, hu⟩ := h2.get hy
      refine ⟨rfl, Vf.tyes ?_⟩
      have hu2 := sx _ _ hu
      refine ⟨_, rfl, acc, hacc, Nat.lt_of_le_of_lt (show acc.length ≤ 100000 by
        rw [tx.1, List.length_append]
        have q1 := Vf.flat_take_len rows (i + 1)
        rw [Vf.flat_take er, List.length_append] at q1
        have q2 := List.length_take_le' j rows[i]
        omega) (by decide), _, upd_same, Vf.Same.chg sx hC, ?_⟩
      rw [Vf.take_snoc em, ← List.append_assoc]
      refine (tx.mono fun u ys h => ?_).snoc ?_
      · rw [upd_ne (nlC hacc _ h)]
        exact h
      · rw [upd_ne (nlC hacc _ hu2)]
        exact hu2
    · rintro Hx ⟨acc, hacc, sx, tx⟩
      rw [h2.1, List.take_length] at tx
      exact ⟨acc, hacc, sx, by rw [Vf.flat_take er]; exact tx⟩
  rintro Ha ⟨acc, hacc, sa, ta⟩
  rw [ht.1, List.take_length] at ta
  exact q C acc Ha hC sa hacc ta
end

def sp__law_parts (K : PySem.W.Frag) (A : Ad) : Sp := fun vs H Q _ => ∃ (cell most : Int), vs = [.int cell, .int most] ∧ 1 ≤ most ∧ most ≤ 6 ∧
  ∀ (p : Addr) (H' : Hp) (D : Vf.DD), Vf.PartsAt H' p D → Vf.ValidN D → Vf.Small D → Same H H' → H p = none → Q (.ref p) H'
theorem len__law_parts {K : PySem.W.Frag} {A : Ad} (vs : List V) (H : Hp) (Q : VK) (E : XK) (h : sp__law_parts K A vs H Q E) : vs.length = ["cell", "most"].length := by
  obtain ⟨a, b, rfl, _⟩ := h
  rfl
/-- the rules drawn so far: at most one for each pair of names looked at -/
def RulesAt (H5 : Hp) (ns : List Str) (n : Nat) (R : Addr) (H' : Hp) (k : Nat) : Prop := Same H5 H' ∧ ∃ (ru : List Vf.S4) (xr : List V) (fs : List (Nat × Nat)), H' R = some (.lst xr) ∧ Vf.Tups Vf.enc4 H' xr ru ∧ (∀ r ∈ ru, r.1 ∈ ns ∧ r.2.1 ∈ ns ∧ r.2.2.1 ∈ ns ∧ r.2.2.2 ∈ ns) ∧
  ru.map (fun r => (r.1, r.2.1)) = fs.map (fun p => (ns.getD p.1 Str.empty, ns.getD p.2 Str.empty)) ∧ fs.Nodup ∧ (∀ p ∈ fs, p.1 < n ∧ p.2 < n ∧ p.1 * n + p.2 < k) ∧ ru.length ≤ k
theorem RulesAt.more {H5 H' : Hp} {ns : List Str} {n : Nat} {R t : Addr} {i j : Nat} {r : Vf.S4} {ru : List Vf.S4} {xr : List V} {fs : List (Nat × Nat)} (W : RulesAt H5 ns n R H' (i * n + j)) (hR : H5 R = none) (nRt : R ≠ t) (ht : H' t = none) (hR' : H' R = some (.lst xr)) (tr : Vf.Tups Vf.enc4 H' xr ru)
    (rm : ∀ r ∈ ru, r.1 ∈ ns ∧ r.2.1 ∈ ns ∧ r.2.2.1 ∈ ns ∧ r.2.2.2 ∈ ns) (rf : ru.map (fun r => (r.1, r.2.1)) = fs.map (fun p => (ns.getD p.1 Str.empty, ns.getD p.2 Str.empty))) (fnd : fs.Nodup) (fb : ∀ p ∈ fs, p.1 < n ∧ p.2 < n ∧ p.1 * n + p.2 < i * n + j) (rl : ru.length ≤ i * n + j)
    (hi : i < n) (hj : j < n) (e1 : r.1 = ns.getD i Str.empty) (e2 : r.2.1 = ns.getD j Str.empty) (m1 : r.1 ∈ ns) (m2 : r.2.1 ∈ ns) (m3 : r.2.2.1 ∈ ns) (m4 : r.2.2.2 ∈ ns) : RulesAt H5 ns n R (upd (upd H' t (.tup (Vf.enc4 r))) R (.lst (xr ++ [.ref t]))) (i * n + (j + 1)) := by
  have sN : Same H' (upd H' t (.tup (Vf.enc4 r))) := Vf.Same.new (Same.refl H') ht
  refine ⟨Vf.Same.chg (W.1.trans sN) hR, ru ++ [r], xr ++ [.ref t], fs ++ [(i, j)], upd_same, ?_, ?_, ?_, ?_, ?_, ?_⟩
  · have keep : ∀ u ys, (upd H' t (.tup (Vf.enc4 r))) u = some (.tup ys) → (upd (upd H' t (.tup (Vf.enc4 r))) R (.lst (xr ++ [.ref t]))) u = some (.tup ys) := fun u ys hu => by
      rw [upd_ne (fun z => by rw [z, upd_ne nRt, hR'] at hu; cases hu)]
      exact hu
    exact ((tr.same sN).mono keep).snoc (keep t _ upd_same)
  · intro x hx
    rw [List.mem_append, List.mem_singleton] at hx
    rcases hx with hx | rfl
    · exact rm x hx
    · exact ⟨m1, m2, m3, m4⟩
  · rw [List.map_append, List.map_append, rf]
    show _ ++ [(r.1, r.2.1)] = _ ++ [(ns.getD i Str.empty, ns.getD j Str.empty)]
    rw [e1, e2]
  · rw [List.nodup_append]
    refine ⟨fnd, by simp, fun a ha b hb => ?_⟩
    rw [List.mem_singleton] at hb
    subst hb
    intro z
    subst z
    have := (fb _ ha).2.2
    exact absurd this (Nat.lt_irrefl _)
  · intro p hp
    rw [List.mem_append, List.mem_singleton] at hp
    rcases hp with hp | rfl
    · obtain ⟨b1, b2, b3⟩ := fb p hp
      exact ⟨b1, b2, by omega⟩
    · exact ⟨hi, hj, by show i * n + j < _; omega⟩
  · rw [List.length_append]
    show ru.length + 1 ≤ _
    omega

section
variable {P : Program} {w : World} {K : PySem.W.Frag} {mg : Str → Option Value} {base : Heap}
set_option maxHeartbeats 4000000 in
theorem ok__law_parts {A : Ad} (T : Txt K mg A) : FnOk P w K mg base CX0 2 A.f__law_parts A.d__law_parts ["cell", "most"] (sp__law_parts K A) := by
  have G__law_draws := ok__law_draws (P := P) (w := w) (base := base) T
  refine T.F__law_parts.ok sc__law_parts len__law_parts (fun cdv Ar outer s H vs Q E hr h => ?_)
  have hu := hu_of hr
  obtain ⟨cell, most, rfl, hm1, hm6, q⟩ := h
  refine ⟨_, (pss_cons (ps_set (i := 2) sc__law_parts.nd rfl (Or.inr rfl) (pe_call G__law_draws hr (by rfl) T.G__law_draws T.F__law_draws.kp T.B__law_draws .nil pass0 (pa_cons (pv 0) (pa_cons pe_int pa_nil))))
      (pss_cons (ps_set (i := 3) sc__law_parts.nd rfl (Or.inr rfl) (pe_op op_add pe_int (pe_op op_mod (pe_ix ix_list (pv 2) pe_int (fun _ _ => rfl)) (pv 1))))
      (pss_cons (ps_set (i := 4) sc__law_parts.nd rfl (Or.inr rfl) (pe_lc (own := [("k", 16)]) (g := (gName 16)) (tt := tYes) rfl sc__law_parts.nd (pi_range1 rfl T.N_range (pa_cons (pv 3) pa_nil)) (blkOk_by (N := ["cell", "most", "draws", "count", "names", "outputs", "inputs", "leaders", "rules", "share", "first", "second", "draw", "third", "fourth", "turn", "k"]) (sc := defScope s__law_parts) (by decide +kernel)) (fun _ _ _ _ _ => (pg_name (i := 16) sc__law_parts.nd rfl (Or.inl rfl))) (fun _ _ _ _ _ => pts_nil) (fun _ _ _ _ _ => (pe_op op_add_str (pe_ix (Vf.ix_listK (K := K) rfl) (pe_lst (pa_cons pe_str (pa_cons pe_str (pa_cons pe_str (pa_cons pe_str (pa_cons pe_str (pa_cons pe_str pa_nil))))))) (pv 16) (fun _ _ => rfl)) (pe_ix (Vf.ix_listK (K := K) rfl) (pe_lst (pa_cons pe_str (pa_cons pe_str (pa_cons pe_str pa_nil)))) (pe_op op_mod (pe_ix (Vf.ix_listK (K := K) rfl) (pv 2) (pe_op op_add pe_int (pv 16)) (fun _ _ => rfl)) pe_int) (fun _ _ => rfl))))))
      (pss_cons (ps_setLc (i := 5) (own := [("k", 16)]) (g := (gName 16)) (tt := tYes) rfl sc__law_parts.nd rfl rfl (sw_true rfl rfl rfl (by decide +kernel)) (pi_range1 rfl T.N_range (pa_cons (pv 3) pa_nil)) (blkOk_by (N := ["cell", "most", "draws", "count", "names", "outputs", "inputs", "leaders", "rules", "share", "first", "second", "draw", "third", "fourth", "turn", "k"]) (sc := defScope s__law_parts) (by decide +kernel)) (fun _ _ _ _ _ => (pg_name (i := 16) sc__law_parts.nd rfl (Or.inl rfl))) (fun _ _ _ _ _ => pts_nil) (fun _ _ _ _ _ => (pe_op op_mod (pe_ix (Vf.ix_listK (K := K) rfl) (pv 2) (pe_op op_add pe_int (pv 16)) (fun _ _ => rfl)) (pe_ix (Vf.ix_listK (K := K) rfl) (pe_lst (pa_cons pe_int (pa_cons pe_int (pa_cons pe_int pa_nil)))) (pe_op op_mod (pe_ix (Vf.ix_listK (K := K) rfl) (pv 2) pe_int (fun _ _ => rfl)) pe_int) (fun _ _ => rfl)))))
      (pss_cons (ps_setLc (i := 6) (own := [("k", 16)]) (g := (gName 16)) (tt := tYes) rfl sc__law_parts.nd rfl rfl (sw_true rfl rfl rfl (by decide +kernel)) (pi_range1 rfl T.N_range (pa_cons (pe_op op_mod (pe_ix ix_list (pv 2) pe_int (fun _ _ => rfl)) pe_int) pa_nil)) (blkOk_by (N := ["cell", "most", "draws", "count", "names", "outputs", "inputs", "leaders", "rules", "share", "first", "second", "draw", "third", "fourth", "turn", "k"]) (sc := defScope s__law_parts) (by decide +kernel)) (fun _ _ _ _ _ => (pg_name (i := 16) sc__law_parts.nd rfl (Or.inl rfl))) (fun _ _ _ _ _ => pts_nil) (fun _ _ _ _ _ => (pe_tup (pa_cons (pe_ix (Vf.ix_listK (K := K) rfl) (pe_lst (pa_cons pe_str (pa_cons pe_str (pa_cons pe_str pa_nil)))) (pv 16) (fun _ _ => rfl)) (pa_cons (pe_ix (Vf.ix_listK (K := K) rfl) (pv 4) (pe_op op_mod (pe_ix (Vf.ix_listK (K := K) rfl) (pv 2) (pe_op op_add pe_int (pv 16)) (fun _ _ => rfl)) (pv 3)) (fun _ _ => rfl)) pa_nil)))))
      (pss_cons (ps_setLc (i := 7) (own := [("k", 16)]) (g := (gName 16)) (tt := tYes) rfl sc__law_parts.nd rfl rfl (sw_true rfl rfl rfl (by decide +kernel)) (pi_range1 rfl T.N_range (pa_cons (pe_ix ix_list (pe_lst (pa_cons pe_int (pa_cons pe_int (pa_cons pe_int (pa_cons pe_int pa_nil))))) (pe_op op_mod (pe_ix ix_list (pv 2) pe_int (fun _ _ => rfl)) pe_int) (fun _ _ => rfl)) pa_nil)) (blkOk_by (N := ["cell", "most", "draws", "count", "names", "outputs", "inputs", "leaders", "rules", "share", "first", "second", "draw", "third", "fourth", "turn", "k"]) (sc := defScope s__law_parts) (by decide +kernel)) (fun _ _ _ _ _ => (pg_name (i := 16) sc__law_parts.nd rfl (Or.inl rfl))) (fun _ _ _ _ _ => pts_nil) (fun _ _ _ _ _ => (pe_ix (Vf.ix_listK (K := K) rfl) (pv 4) (pe_op op_mod (pe_ix (Vf.ix_listK (K := K) rfl) (pv 2) (pe_op op_add pe_int (pv 16)) (fun _ _ => rfl)) (pv 3)) (fun _ _ => rfl))))
      (pss_cons (ps_set (i := 8) sc__law_parts.nd rfl (Or.inl rfl) (pe_lst pa_nil))
      (pss_cons (ps_set (i := 9) sc__law_parts.nd rfl (Or.inl rfl) (pe_op op_add pe_int (pe_op op_mod (pe_ix ix_list (pv 2) pe_int (fun _ _ => rfl)) pe_int)))
      (pss_cons (ps_for PassesOwn.never rfl (pi_range1 rfl T.N_range (pa_cons (pv 3) pa_nil)) (pg_name (i := 10) sc__law_parts.nd rfl (Or.inl rfl))
        (pss_one (ps_for PassesOwn.never rfl (pi_range1 rfl T.N_range (pa_cons (pv 3) pa_nil)) (pg_name (i := 11) sc__law_parts.nd rfl (Or.inl rfl))
        (pss_cons (ps_set (i := 12) sc__law_parts.nd rfl (Or.inl rfl) (pe_ix ix_list (pv 2) (pe_op op_add pe_int (pe_op op_mod (pe_callTy call_int1 (by rfl) T.N_int (by decide +kernel) (pa_cons (pe_op op_add (pe_op op_mul (pv 10) (pv 3)) (pv 11)) pa_nil)) pe_int)) (fun _ _ => rfl)))
      (pss_one (ps_if (pt_cmpR op_eq (pe_op op_mod (pv 12) (pv 9)) pe_int (nomark _)) (pss_cons (ps_set (i := 13) sc__law_parts.nd rfl (Or.inl rfl) (pe_op op_mod (pe_op op_fdiv (pv 12) pe_int) (pv 3)))
      (pss_cons (ps_set (i := 14) sc__law_parts.nd rfl (Or.inl rfl) (pe_op op_mod (pe_op op_fdiv (pv 12) pe_int) (pv 3)))
      (pss_one (ps_expr (pe_bm PySem.F.plainAttrs_list PySem.F.slot_list_append PySem.F.type_list_append mt_append (pv 8) (pa_cons (pe_tup (pa_cons (pe_ix ix_list (pv 4) (pv 10) (fun _ _ => rfl)) (pa_cons (pe_ix ix_list (pv 4) (pv 11) (fun _ _ => rfl)) (pa_cons (pe_ix ix_list (pv 4) (pv 13) (fun _ _ => rfl)) (pa_cons (pe_ix ix_list (pv 4) (pv 14) (fun _ _ => rfl)) pa_nil))))) pa_nil)))))) pss_nil))))))
      (pss_cons (ps_set (i := 15) sc__law_parts.nd rfl (Or.inl rfl) (pe_op op_mod (pe_ix ix_list (pv 2) pe_int (fun _ _ => rfl)) (pe_op op_add (pe_callB call_len_seq (by rfl) T.N_len PySem.boot_len (pa_cons (pv 8) pa_nil)) pe_int)))
      (pss_one (ps_ret (pe_tup (pa_cons (pv 4) (pa_cons (pv 6) (pa_cons (pv 7) (pa_cons (pe_op op_cat (pe_slice sl_list (pv 8) (po_some (pv 15)) po_none) (pe_slice sl_list (pv 8) po_none (po_some (pv 15)))) (pa_cons (pv 5) pa_nil)))))))))))))))))), ?_⟩
  refine ⟨_, rfl, cell, 80, rfl, by decide, by decide, fun dr H1 ds _ s1 hdr ⟨hl, hrg⟩ => ?_⟩
  have hl : ds.length = 80 := by omega
  have dat : ∀ {i : Int}, 0 ≤ i → i < 80 → atI (ds.map V.int) i = some (V.int (ds.getD i.toNat 0)) := fun h0 h1 => Vf.int_at h0 (by omega)
  have drg : ∀ i : Nat, i < 80 → 0 ≤ ds.getD i 0 ∧ ds.getD i 0 < 4096 := fun i hi => hrg _ (Vf.getD_mem (by omega))
  -- count
  refine ⟨_, rfl, dr, _, 0, _, rfl, rfl, SqL.of hdr, dat (by decide) (by decide), _, rfl, _, _, rfl, rfl, (by show 0 < most; omega), _, _, rfl, rfl, ?_⟩
  obtain ⟨n, hn, hn1, hn6⟩ : ∃ n : Nat, 1 + ds.getD (Int.toNat 0) 0 % most = (n : Int) ∧ 1 ≤ n ∧ n ≤ 6 := by
    have a := Int.emod_nonneg (ds.getD (Int.toNat 0) 0) (show most ≠ 0 by omega)
    have b := Int.emod_lt_of_pos (ds.getD (Int.toNat 0) 0) (show 0 < most by omega)
    exact ⟨(1 + ds.getD (Int.toNat 0) 0 % most).toNat, by omega, by omega, by omega⟩
  show gName 3 (V.int (1 + ds.getD (Int.toNat 0) 0 % most)) _ _ _
  rw [hn]
  have mod_of : ∀ (x : Int), 0 ≤ x % (n : Int) ∧ x % (n : Int) < (n : Int) := fun x => ⟨Int.emod_nonneg _ (by omega), Int.emod_lt_of_pos _ (by omega)⟩
  -- names
  refine ⟨_, rfl, n, rfl, by omega, by omega, fun ls hls => ?_⟩
  refine Vf.lc_enc (walk_range (lo := 0) (n := ((n : Int)).toNat)) V.str Vf.goodName hls (by omega) (fun _ _ => trivial) ?_ ?_
  · rintro i x Ha Hb hi s ⟨rfl, rfl⟩ Q' q'
    have hi : i < n := by omega
    have a := Int.emod_nonneg (ds.getD (1 + i) 0) (show (3 : Int) ≠ 0 by decide)
    have b := Int.emod_lt_of_pos (ds.getD (1 + i) 0) (show (0 : Int) < 3 by decide)
    have ei : ((1 : Int) + (0 + (i : Int))).toNat = 1 + i := by omega
    refine ⟨rfl, (by show 6 ≤ sizeLine; decide), fun u1 hu1 => ?_⟩
    refine ⟨_, rfl, u1, _, _, .str (Vf.nmB.getD i Str.empty), rfl, rfl, SqL.of upd_same, (by rw [show ((0 : Int) + (i : Int)) = ((i : Nat) : Int) by omega]; exact Vf.map_at (f := V.str) (l := Vf.nmB) (i := ((i : Nat) : Int)) (d := Str.empty) (by omega) (by show (i : Int) < 6; omega)), ?_⟩
    refine ⟨(by show 3 ≤ sizeLine; decide), fun u2 hu2 => ?_⟩
    have sb := Vf.Same.new (o := .lst [.str "", .str "x", .str "q7"]) (Vf.Same.new (o := .lst [.str "a", .str "b", .str "c", .str "d1", .str "e", .str "f"]) (Same.refl Hb) hu1) hu2
    refine ⟨_, rfl, _, rfl, _, _, rfl, rfl, dr, _, _, _, rfl, rfl, SqL.of (sb _ _ (s _ _ hdr)), dat (by omega) (by omega), _, _, rfl, rfl, (by show (0 : Int) < 3; decide), u2, _, _, .str (Vf.nmS.getD (ds.getD (1 + i) 0 % 3).toNat Str.empty), rfl, rfl, SqL.of upd_same, (by rw [ei]; exact Vf.map_at (f := V.str) (l := Vf.nmS) (d := Str.empty) a b), _, _, rfl, rfl, ?_, ?_⟩
    · have h1 : (Vf.nmB.getD i Str.empty).length ≤ 2 ∧ (Vf.nmS.getD (ds.getD (1 + i) 0 % 3).toNat Str.empty).length ≤ 2 := by
        have c1 : ∀ j, j < 6 → (Vf.nmB.getD j Str.empty).length ≤ 2 := by decide +kernel
        have c2 : ∀ j, j < 3 → (Vf.nmS.getD j Str.empty).length ≤ 2 := by decide +kernel
        exact ⟨c1 i (by omega), c2 _ (by omega)⟩
      exact Nat.le_trans (Nat.add_le_add h1.1 h1.2) (by decide)
    · exact q' _ _ sb ⟨_, by omega, rfl⟩
  intro ns H2 hnl s2 hns good
  have hnl : ns.length = n := by omega
  have nat_ : ∀ {i : Int}, 0 ≤ i → i < (n : Int) → atI (ns.map V.str) i = some (V.str (ns.getD i.toNat Str.empty)) := fun h0 h1 => Vf.map_at h0 (by omega)
  have nmem : ∀ i : Nat, i < n → ns.getD i Str.empty ∈ ns := fun i hi => Vf.getD_mem (by omega)
  -- outputs
  refine ⟨_, rfl, n, rfl, by omega, by omega, fun lo hlo => ?_⟩
  refine Vf.lc_enc (walk_range (lo := 0) (n := ((n : Int)).toNat)) V.int (fun _ o => 0 ≤ o ∧ o ≤ 9) hlo (by omega) (fun _ _ => trivial) ?_ ?_
  · rintro i x Ha Hb hi s ⟨rfl, rfl⟩ Q' q'
    have hi : i < n := by omega
    have a := Int.emod_nonneg (ds.getD 7 0) (show (3 : Int) ≠ 0 by decide)
    have b := Int.emod_lt_of_pos (ds.getD 7 0) (show (0 : Int) < 3 by decide)
    have sd := s _ _ (s2 _ _ hdr)
    refine ⟨rfl, _, rfl, _, rfl, _, _, rfl, rfl, dr, _, _, _, rfl, rfl, SqL.of sd, dat (by omega) (by omega), (by show 3 ≤ sizeLine; decide), fun u1 hu1 => ?_⟩
    have sb := Vf.Same.new (o := .lst [.int 2, .int 2, .int 10]) (Same.refl Hb) hu1
    have c1 : ∀ j, j < 3 → 0 < ([2, 2, 10] : List Int).getD j 0 ∧ ([2, 2, 10] : List Int).getD j 0 ≤ 10 := by decide
    obtain ⟨c2, c3⟩ := c1 (ds.getD 7 0 % 3).toNat (by omega)
    refine ⟨_, rfl, dr, _, 7, _, rfl, rfl, SqL.of (sb _ _ sd), dat (by decide) (by decide), _, _, rfl, rfl, (by show (0 : Int) < 3; decide), u1, _, _, .int (([2, 2, 10] : List Int).getD (ds.getD 7 0 % 3).toNat 0), rfl, rfl, SqL.of upd_same, Vf.map_at (f := V.int) (l := [2, 2, 10]) (d := 0) a b, _, _, rfl, rfl, c2, ?_⟩
    have d1 := Int.emod_nonneg (ds.getD ((8 : Int) + (0 + (i : Int))).toNat 0) (show ([2, 2, 10] : List Int).getD (ds.getD 7 0 % 3).toNat 0 ≠ 0 by omega)
    have d2 := Int.emod_lt_of_pos (ds.getD ((8 : Int) + (0 + (i : Int))).toNat 0) c2
    exact q' _ _ sb ⟨d1, by omega⟩
  intro os H3 hol s3 hos goodo
  have hol : os.length = n := by omega
  have s13 := s2.trans s3
  -- inputs
  have hd3 := s13 _ _ hdr
  have hn3 := s3 _ _ hns
  have a14 := Int.emod_nonneg (ds.getD 14 0) (show (4 : Int) ≠ 0 by decide)
  have b14 := Int.emod_lt_of_pos (ds.getD 14 0) (show (0 : Int) < 4 by decide)
  refine ⟨_, rfl, dr, _, 14, _, rfl, rfl, SqL.of hd3, dat (by decide) (by decide), _, _, rfl, rfl, (by show (0 : Int) < 4; decide), _, rfl, (by show -(2 ^ 62 : Int) ≤ ds.getD 14 0 % 4; omega), (by show ds.getD 14 0 % 4 < (2 ^ 62 : Int); omega), fun li hli => ?_⟩
  refine Vf.lc_tups (walk_range (lo := 0) (n := (ds.getD 14 0 % 4).toNat)) Vf.enc2 (fun i p => p.1 = Vf.inB.getD i Str.empty ∧ p.2 ∈ ns) hli (by omega) (fun _ _ => trivial) ?_ ?_
  · rintro i x Ha Hb hi s ⟨rfl, rfl⟩ Q' q'
    have hi3 : i < 3 := by omega
    have m := mod_of (ds.getD (15 + i) 0)
    have ei : ((15 : Int) + (0 + (i : Int))).toNat = 15 + i := by omega
    refine ⟨rfl, (by show 3 ≤ sizeLine; decide), fun u1 hu1 => ?_⟩
    have sb := Vf.Same.new (o := .lst [.str "u", .str "v", .str "w"]) (Same.refl Hb) hu1
    have sc := s.trans sb
    refine ⟨_, rfl, u1, _, _, .str (Vf.inB.getD i Str.empty), rfl, rfl, SqL.of upd_same, (by rw [show ((0 : Int) + (i : Int)) = ((i : Nat) : Int) by omega]; exact Vf.map_at (f := V.str) (l := Vf.inB) (i := ((i : Nat) : Int)) (d := Str.empty) (by omega) (by show (i : Int) < 3; omega)), ?_⟩
    refine ⟨_, rfl, _, rfl, _, rfl, _, _, rfl, rfl, dr, _, _, _, rfl, rfl, SqL.of (sc _ _ hd3), dat (by omega) (by omega), _, rfl, _, _, rfl, rfl, (by show (0 : Int) < (n : Int); omega), ls, _, _, .str (ns.getD (ds.getD (15 + i) 0 % (n : Int)).toNat Str.empty), rfl, rfl, SqL.of (sc _ _ hn3), (by rw [ei]; exact nat_ m.1 m.2), (by show 2 ≤ sizeLine; decide), fun t ht => ?_⟩
    exact q' (Vf.inB.getD i Str.empty, ns.getD (ds.getD (15 + i) 0 % (n : Int)).toNat Str.empty) t _ (Vf.Same.new sb ht) upd_same ⟨rfl, nmem _ (by omega)⟩
  intro ins xi H4 hil s4 hins tins goodi
  have hil : ins.length ≤ 3 := by omega
  -- leaders
  have hd4 := s4 _ _ hd3
  have hn4 := s4 _ _ hn3
  have a19 := Int.emod_nonneg (ds.getD 19 0) (show (4 : Int) ≠ 0 by decide)
  have b19 := Int.emod_lt_of_pos (ds.getD 19 0) (show (0 : Int) < 4 by decide)
  refine ⟨(by show 4 ≤ sizeLine; decide), fun u1 hu1 => ?_⟩
  have s5 := Vf.Same.new (o := .lst [.int 0, .int 0, .int 1, .int 2]) (Same.refl H4) hu1
  have cl : ∀ j, j < 4 → 0 ≤ ([0, 0, 1, 2] : List Int).getD j 0 ∧ ([0, 0, 1, 2] : List Int).getD j 0 ≤ 2 := by decide
  obtain ⟨cl1, cl2⟩ := cl (ds.getD 19 0 % 4).toNat (by omega)
  refine ⟨_, rfl, dr, _, 19, _, rfl, rfl, SqL.of (s5 _ _ hd4), dat (by decide) (by decide), _, _, rfl, rfl, (by show (0 : Int) < 4; decide), u1, _, _, .int (([0, 0, 1, 2] : List Int).getD (ds.getD 19 0 % 4).toNat 0), rfl, rfl, SqL.of upd_same, Vf.map_at (f := V.int) (l := [0, 0, 1, 2]) (d := 0) a19 b19, _, rfl, (by omega), (by omega), fun ll hll => ?_⟩
  refine Vf.lc_enc (walk_range (lo := 0) (n := (([0, 0, 1, 2] : List Int).getD (ds.getD 19 0 % 4).toNat 0).toNat)) V.str (fun _ x => x ∈ ns) hll (by omega) (fun _ _ => trivial) ?_ ?_
  · rintro i x Ha Hb hi s ⟨rfl, rfl⟩ Q' q'
    have hi2 : i < 2 := by omega
    have sc := s5.trans s
    have m := mod_of (ds.getD (20 + i) 0)
    have ei : ((20 : Int) + (0 + (i : Int))).toNat = 20 + i := by omega
    refine ⟨rfl, _, rfl, _, rfl, _, rfl, _, _, rfl, rfl, dr, _, _, _, rfl, rfl, SqL.of (sc _ _ hd4), dat (by omega) (by omega), _, rfl, _, _, rfl, rfl, (by show (0 : Int) < (n : Int); omega), ls, _, _, .str (ns.getD (ds.getD (20 + i) 0 % (n : Int)).toNat Str.empty), rfl, rfl, SqL.of (sc _ _ hn4), (by rw [ei]; exact nat_ m.1 m.2), ?_⟩
    exact q' _ _ (Same.refl _) (nmem _ (by omega))
  intro lds H5 hll2 s6 hlds goodl
  have hll2 : lds.length ≤ 2 := by omega
  have s45 := s5.trans s6
  have hd5 := s45 _ _ hd4
  have hn5 := s45 _ _ hn4
  -- rules, share
  refine ⟨(by show 0 ≤ sizeLine; decide), fun R hR => ?_⟩
  have s56 : Same H5 (upd H5 R (.lst [])) := Vf.Same.new (Same.refl H5) hR
  have a23 := Int.emod_nonneg (ds.getD 23 0) (show (4 : Int) ≠ 0 by decide)
  refine ⟨_, rfl, dr, _, 23, _, rfl, rfl, SqL.of (s56 _ _ hd5), dat (by decide) (by decide), _, _, rfl, rfl, (by show (0 : Int) < 4; decide), _, _, rfl, rfl, ?_⟩
  show gName 9 (V.int (1 + ds.getD 23 0 % 4)) _ _ _
  obtain ⟨sh, hsh, hsh1⟩ : ∃ sh : Int, 1 + ds.getD 23 0 % 4 = sh ∧ 0 < sh := ⟨_, rfl, by omega⟩
  rw [hsh]
  have W0 : RulesAt H5 ns n R (upd H5 R (.lst [])) 0 := ⟨Vf.Same.new (Same.refl H5) hR, [], [], [], upd_same, Vf.Tups.nil, (fun r hr => absurd hr List.not_mem_nil), rfl, List.nodup_nil, (fun p hp => absurd hp List.not_mem_nil), Nat.zero_le _⟩
  refine ⟨_, rfl, n, rfl, by omega, by omega, for_range (lo := 0) (n := ((n : Int)).toNat) (fun i σ H' => (∃ v10 v11 v12 v13 v14 : Option V, σ = [some (.int cell), some (.int most), some (.ref dr), some (.int (n : Int)), some (.ref ls), some (.ref lo), some (.ref li), some (.ref ll), some (.ref R), some (.int sh), v10, v11, v12, v13, v14, none, none]) ∧ RulesAt H5 ns n R H' (i * n)) ?_ ?_ ?_⟩
  · exact ⟨⟨none, none, none, none, none, rfl⟩, by rw [Nat.zero_mul]; exact W0⟩
  · rintro i σ H' hi ⟨⟨v10, v11, v12, v13, v14, rfl⟩, W⟩
    have hi : i < n := by omega
    refine ⟨_, rfl, n, rfl, by omega, by omega, for_range (lo := 0) (n := ((n : Int)).toNat) (fun j σ H' => (∃ v11 v12 v13 v14 : Option V, σ = [some (.int cell), some (.int most), some (.ref dr), some (.int (n : Int)), some (.ref ls), some (.ref lo), some (.ref li), some (.ref ll), some (.ref R), some (.int sh), some (.int (0 + (i : Int))), v11, v12, v13, v14, none, none]) ∧ RulesAt H5 ns n R H' (i * n + j)) ?_ ?_ ?_⟩
    · exact ⟨⟨_, _, _, _, rfl⟩, W⟩
    · rintro j σ H' hj ⟨⟨v11, v12, v13, v14, rfl⟩, W⟩
      have hj : j < n := by omega
      obtain ⟨sW, ru, xr, fs, hR', tr, rm, rf, fnd, fb, rl⟩ := id W
      have hd' := sW _ _ hd5
      have hn' := sW _ _ hn5
      have hbig : (0 : Int) + (i : Int) < 2 ^ 64 := by omega
      have m50 := Int.emod_nonneg (((0 : Int) + (i : Int)) * (n : Int) + (0 + (j : Int))) (show (50 : Int) ≠ 0 by decide)
      have l50 := Int.emod_lt_of_pos (((0 : Int) + (i : Int)) * (n : Int) + (0 + (j : Int))) (show (0 : Int) < 50 by decide)
      refine ⟨_, rfl, _, rfl, _, rfl, _, _, rfl, rfl, .inl ⟨by omega, hbig⟩, _, rfl, _, _, rfl, rfl, .inl ⟨_, rfl, _, _, rfl, rfl, (by show (0 : Int) < 50; decide), _, _, rfl, rfl, dr, _, _, _, rfl, rfl, SqL.of hd', dat (by omega) (by omega), ?_⟩⟩
      show gName 12 (V.int (ds.getD (24 + (((0 : Int) + (i : Int)) * (n : Int) + (0 + (j : Int))) % 50).toNat 0)) _ _ _
      generalize ds.getD (24 + (((0 : Int) + (i : Int)) * (n : Int) + (0 + (j : Int))) % 50).toNat 0 = dw
      refine Vf.gN ?_
      dsimp only
      refine Vf.st_if (b := decide (V.int (dw % sh) = V.int 0)) (fun Q0 r => ⟨_, rfl, _, rfl, _, _, rfl, rfl, hsh1, rfl, _, rfl, r⟩) (fun _ => ?_) (fun _ => ?_)
      · have m5 := mod_of (dw / 5)
        have m35 := mod_of (dw / 35)
        have pn : (0 : Int) < (n : Int) := by omega
        refine ⟨_, rfl, _, _, rfl, rfl, ⟨by decide, by decide⟩, _, rfl, _, _, rfl, rfl, pn, _, rfl, _, _, rfl, rfl, ⟨by decide, by decide⟩, _, rfl, _, _, rfl, rfl, pn, ?_⟩
        refine ⟨_, rfl, Vf.tyL hR', ?_⟩
        refine ⟨_, rfl, _, rfl, ls, _, _, _, rfl, rfl, SqL.of hn', nat_ (by omega) (by omega), _, rfl, _, rfl, ls, _, _, _, rfl, rfl, SqL.of hn', nat_ (by omega) (by omega), _, rfl, _, rfl, ls, _, _, _, rfl, rfl, SqL.of hn', nat_ m5.1 m5.2, _, rfl, _, rfl, ls, _, _, _, rfl, rfl, SqL.of hn', nat_ m35.1 m35.2, (by show 4 ≤ sizeLine; decide), fun t ht => ?_⟩
        have nRt : R ≠ t := ne_of_none hR' ht
        refine ⟨R, xr, _, rfl, rfl, (by rw [upd_ne nRt]; exact hR'), (by rw [tr.1]; exact Nat.lt_of_le_of_lt (show ru.length ≤ 1000 by have : i * n + j ≤ 6 * 6 + 6 := Nat.add_le_add (Nat.mul_le_mul (by omega) hn6) (by omega); omega) (by decide)), ?_⟩
        refine ⟨⟨_, _, _, _, rfl⟩, ?_⟩
        exact W.more hR nRt ht (r := (ns.getD (0 + (i : Int)).toNat Str.empty, ns.getD (0 + (j : Int)).toNat Str.empty, ns.getD (dw / 5 % (n : Int)).toNat Str.empty, ns.getD (dw / 35 % (n : Int)).toNat Str.empty)) hR' tr rm rf fnd fb rl hi hj (by rw [show (0 + (i : Int)).toNat = i by omega]) (by show ns.getD (0 + (j : Int)).toNat Str.empty = _; rw [show (0 + (j : Int)).toNat = j by omega]) (nmem _ (by omega)) (nmem _ (by omega)) (nmem _ (by omega)) (nmem _ (by omega))
      · exact ⟨⟨_, _, _, _, rfl⟩, sW, ru, xr, fs, hR', tr, rm, rf, fnd, fun p hp => by
          obtain ⟨b1, b2, b3⟩ := fb p hp
          exact ⟨b1, b2, by omega⟩, by omega⟩
    · rintro σ H' ⟨⟨v11, v12, v13, v14, rfl⟩, W⟩
      refine ⟨⟨_, _, _, _, _, rfl⟩, ?_⟩
      have e : i * n + ((n : Int)).toNat = (i + 1) * n := by
        rw [Nat.succ_mul]
        omega
      rw [e] at W
      exact W
  rintro σ H6 ⟨⟨v10, v11, v12, v13, v14, rfl⟩, W⟩
  obtain ⟨sW, ru, xr, fs, hR6, tr, rm, rf, fnd, fb, rl⟩ := W
  have rl36 : ru.length ≤ 36 := by
    have : ((n : Int)).toNat * n ≤ 6 * 6 := Nat.mul_le_mul (by omega) hn6
    omega
  -- turn
  have hl1 : (0 : Int) < (ru.length : Int) + 1 := by omega
  have t0 := Int.emod_nonneg (ds.getD 79 0) (show (ru.length : Int) + 1 ≠ 0 by omega)
  have t1 := Int.emod_lt_of_pos (ds.getD 79 0) hl1
  obtain ⟨tn, htn⟩ : ∃ tn : Nat, ds.getD 79 0 % ((ru.length : Int) + 1) = (tn : Int) := ⟨(ds.getD 79 0 % ((ru.length : Int) + 1)).toNat, by omega⟩
  have htl : tn ≤ ru.length := by omega
  refine ⟨_, rfl, dr, _, 79, _, rfl, rfl, SqL.of (sW _ _ hd5), dat (by decide) (by decide), _, rfl, R, _, rfl, .inl (SqL.of hR6), _, _, rfl, rfl, _, _, rfl, rfl, (by rw [tr.1]; exact hl1), ?_⟩
  show gName 15 (V.int (ds.getD 79 0 % ((xr.length : Int) + 1))) _ _ _
  rw [tr.1, htn]
  -- the five
  have tx : tn ≤ xr.length := by rw [tr.1]; exact htl
  refine ⟨_, rfl, _, rfl, _, rfl, _, rfl, _, rfl, _, rfl, R, xr, rfl, SqL.of hR6, fun u1 hu1 => ?_⟩
  have sa := Vf.Same.new (o := .lst (cutV xr (some (tn : Int)) none)) (Same.refl H6) hu1
  refine ⟨_, rfl, _, rfl, _, rfl, R, xr, rfl, SqL.of (sa _ _ hR6), fun u2 hu2 => ?_⟩
  have sb := Vf.Same.new (o := .lst (cutV xr none (some (tn : Int)))) sa hu2
  have nu : u1 ≠ u2 := ne_of_none upd_same hu2
  refine ⟨u1, u2, _, _, rfl, rfl, (by rw [upd_ne nu]; exact upd_same), upd_same, Nat.le_trans (Nat.add_le_add (cutV_length _ _ _) (cutV_length _ _ _)) (by rw [tr.1]; exact Vf.line (by omega)), fun u3 hu3 => ?_⟩
  have sc := Vf.Same.new (o := .lst (cutV xr (some (tn : Int)) none ++ cutV xr none (some (tn : Int)))) sb hu3
  refine ⟨_, rfl, (by show 5 ≤ sizeLine; decide), fun p hp => ?_⟩
  have sd := Vf.Same.new (o := .tup [.ref ls, .ref li, .ref ll, .ref u3, .ref lo]) sc hp
  have nu3 : u3 ≠ p := ne_of_none upd_same hp
  have s6d := sW.trans sd
  have hxe : cutV xr (some (tn : Int)) none ++ cutV xr none (some (tn : Int)) = xr.drop tn ++ xr.take tn := by rw [Vf.cut_from _ _ tx, Vf.cut_to _ _ tx]
  have pru : (ru.drop tn ++ ru.take tn).Perm ru := by
    have h := List.perm_append_comm (l₁ := ru.drop tn) (l₂ := ru.take tn)
    rw [List.take_append_drop] at h
    exact h
  have hall : Same H _ := (((s1.trans s13).trans s4).trans s45).trans s6d
  refine q p _ ⟨ns, ins, lds, ru.drop tn ++ ru.take tn, os⟩ ⟨ls, li, ll, u3, lo, xi, xr.drop tn ++ xr.take tn, upd_same, (s6d _ _ hn5), s6d _ _ (s45 _ _ hins), ?_, s6d _ _ hlds, (by rw [upd_ne nu3, ← hxe]; exact upd_same), ?_, s6d _ _ (s45 _ _ (s4 _ _ hos))⟩ ?_ ⟨by show 1 ≤ ns.length; omega, by show ns.length ≤ 6; omega, hil, hll2, (by show (ru.drop tn ++ ru.take tn).length ≤ 36; rw [pru.length_eq]; exact rl36), good⟩ hall (((((s1.trans s13).trans s4).trans s45).trans (sW.trans sc)).free hp)
  · exact (tins.same s45).same s6d
  · exact ((tr.drop tn).append (tr.take tn)).same sd
  · have nnd : ns.Nodup := Vf.goodNames_nodup (by omega) good
    have insn : ∀ p ∈ ins, Vf.isName p.1 = true ∧ p.2 ∈ ns := fun p hp => by
      obtain ⟨i, hi⟩ := List.mem_iff_getElem?.mp hp
      obtain ⟨g1, g2⟩ := goodi i p hi
      have il := (List.getElem?_eq_some_iff.mp hi).1
      rw [g1]
      exact ⟨(Vf.inB_of (by omega)).1, g2⟩
    refine ⟨by show os.length = ns.length; omega, by show ns.length ≤ 400; omega, fun x hx => ?_, nnd, fun o ho => ?_, by show ins.length ≤ 8; omega, insn, ?_, by show lds.length ≤ 10; omega, fun x hx => ?_, fun r hr => rm r (pru.mem_iff.mp hr), ?_⟩
    · obtain ⟨i, hi⟩ := List.mem_iff_getElem?.mp hx
      have il := (List.getElem?_eq_some_iff.mp hi).1
      have il' : i < ns.length := il
      exact (Vf.goodName_of (by omega) (good i x hi)).1
    · obtain ⟨i, hi⟩ := List.mem_iff_getElem?.mp ho
      exact goodo i o hi
    · refine Vf.nodup_by (fun s : Str => s.cps.toList.head?) (fun i => some (117 + i)) (fun i a e => ?_) fun i j _ _ e => by
        have := Option.some.inj e
        omega
      obtain ⟨p, hp, rfl⟩ := Vf.map_get e
      have il := (List.getElem?_eq_some_iff.mp hp).1
      have il' : i < ins.length := il
      rw [(goodi i p hp).1]
      exact (Vf.inB_of (by omega)).2
    · obtain ⟨i, hi⟩ := List.mem_iff_getElem?.mp hx
      exact goodl i x hi
    · have pm := (pru.map fun x : Vf.S4 => (x.1, x.2.1)).nodup_iff
      refine pm.mpr ?_
      rw [rf]
      rw [List.Nodup, List.pairwise_map]
      refine List.Pairwise.imp_of_mem (fun {x y} hx hy ne e => ne ?_) fnd
      obtain ⟨x1, x2, _⟩ := fb x hx
      obtain ⟨y1, y2, _⟩ := fb y hy
      have inj : ∀ a b : Nat, a < n → b < n → ns.getD a Str.empty = ns.getD b Str.empty → a = b := fun a b ha hb e => by
        have ea : ns[a]? = some (ns.getD a Str.empty) := by
          rw [List.getD_eq_getElem?_getD, List.getElem?_eq_getElem (show a < ns.length by omega)]
          rfl
        have eb : ns[b]? = some (ns.getD b Str.empty) := by
          rw [List.getD_eq_getElem?_getD, List.getElem?_eq_getElem (show b < ns.length by omega)]
          rfl
        rw [← e] at eb
        exact Vf.nodup_ix nnd ea eb
      have e' := Prod.mk.inj e
      exact Prod.ext (inj _ _ x1 y1 e'.1) (inj _ _ x2 y2 e'.2)
end

def sp__law_table (K : PySem.W.Frag) (A : Ad) : Sp := fun vs H Q _ => ∃ (t : Addr) (D : Vf.DD), vs = [.ref t] ∧ Vf.PartsAt H t D ∧ Vf.ValidN D ∧ D.ru.length ≤ 1000000 ∧ ∀ (d : Addr) (kvs : List (List Key × V)) (H' : Hp), H d = none → Same H H' → H' d = some (.dT kvs) → Vf.PP H' kvs (Vf.rks D) (Vf.rvs D) → Q (.ref d) H'
theorem len__law_table {K : PySem.W.Frag} {A : Ad} (vs : List V) (H : Hp) (Q : VK) (E : XK) (h : sp__law_table K A vs H Q E) : vs.length = ["parts"].length := by
  obtain ⟨a, b, rfl, _⟩ := h
  rfl

section
variable {P : Program} {w : World} {K : PySem.W.Frag} {mg : Str → Option Value} {base : Heap}
set_option maxHeartbeats 4000000 in
theorem ok__law_table {A : Ad} (T : Txt K mg A) : FnOk P w K mg base CX0 1 A.f__law_table A.d__law_table ["parts"] (sp__law_table K A) := by
  refine T.F__law_table.ok sc__law_table len__law_table (fun cdv Ar outer s H vs Q E hr h => ?_)
  have hu := hu_of hr
  obtain ⟨t, D, rfl, P5, vN, hru, q⟩ := h
  obtain ⟨ls, li, ll, lr, lo, xi, xr, h0, hls, hli, ti, hll, hlr, tr, hlo⟩ := P5
  refine ⟨_, (pss_cons (ps_set (i := 1) sc__law_table.nd rfl (Or.inl rfl) pe_dnewT)
      (pss_cons (ps_for PassesOwn.never rfl (pi_list (pe_ix ix_tup (pv 0) pe_int (fun _ _ => rfl))) (pg_tup (by rfl) (pgs_cons (pg_name (i := 2) sc__law_table.nd rfl (Or.inl rfl)) (pgs_cons (pg_name (i := 3) sc__law_table.nd rfl (Or.inl rfl)) (pgs_cons (pg_name (i := 4) sc__law_table.nd rfl (Or.inl rfl)) (pgs_cons (pg_name (i := 5) sc__law_table.nd rfl (Or.inl rfl)) pgs_nil)))))
        (pss_cons (ps_set (i := 6) sc__law_table.nd rfl (Or.inl rfl) (pe_tup (pa_cons (pe_bm PySem.F.plainAttrs_list PySem.F.slot_list_index PySem.F.type_list_index mt_index (pe_ix ix_tup (pv 0) pe_int (fun _ _ => rfl)) (pa_cons (pv 2) pa_nil)) (pa_cons (pe_bm PySem.F.plainAttrs_list PySem.F.slot_list_index PySem.F.type_list_index mt_index (pe_ix ix_tup (pv 0) pe_int (fun _ _ => rfl)) (pa_cons (pv 3) pa_nil)) pa_nil))))
      (pss_one (ps_dput hu (pv 1) (pv 6) (pe_tup (pa_cons (pe_bm PySem.F.plainAttrs_list PySem.F.slot_list_index PySem.F.type_list_index mt_index (pe_ix ix_tup (pv 0) pe_int (fun _ _ => rfl)) (pa_cons (pv 4) pa_nil)) (pa_cons (pe_bm PySem.F.plainAttrs_list PySem.F.slot_list_index PySem.F.type_list_index mt_index (pe_ix ix_tup (pv 0) pe_int (fun _ _ => rfl)) (pa_cons (pv 5) pa_nil)) pa_nil))) rfl))))
      (pss_one (ps_ret (pv 1))))), ?_⟩
  intro d nd
  have e0 := Vf.Same.new (o := .dT []) (Same.refl H) nd
  refine ⟨_, rfl, t, _, 3, .ref lr, rfl, rfl, SqT.of (e0 _ _ h0), atI_nat (j := 3) rfl, lr, rfl, ⟨_, SqL.of (e0 _ _ hlr)⟩, ?_⟩
  refine for_list (K := K) (a := lr) (xs := xr) (fun i σ H' => (∃ v2 v3 v4 v5 v6 : Option V, σ = [some (.ref t), some (.ref d), v2, v3, v4, v5, v6]) ∧ Same H H' ∧ ∃ kvs, H' d = some (.dT kvs) ∧ Vf.PP H' kvs ((Vf.rks D).take i) ((Vf.rvs D).take i)) ⟨⟨none, none, none, none, none, rfl⟩, e0, [], upd_same, rfl, Vf.Tups.nil, List.nodup_nil⟩ (fun i σ H' _ ⟨_, s, _⟩ => SqL.of (s _ _ hlr)) ?_ ?_
  · rintro i x σ H' hx ⟨⟨v2, v3, v4, v5, v6, rfl⟩, s, kvs, hk, pp⟩
    obtain ⟨r, tp, hr, rfl, htp⟩ := tr.get hx
    obtain ⟨m1, m2, m3, m4⟩ := vN.rum r (List.mem_of_getElem? hr)
    refine ⟨tp, _, rfl, SqT.of (s _ _ htp), rfl, _, _, rfl, _, _, rfl, _, _, rfl, _, _, rfl, rfl, ?_⟩
    have PL : ∀ {H2 : Hp}, Same H' H2 → H2 t = some (.tup [.ref ls, .ref li, .ref ll, .ref lr, .ref lo]) ∧ H2 ls = some (.lst (D.st.map V.str)) := fun e => ⟨e _ _ (s _ _ h0), e _ _ (s _ _ hls)⟩
    obtain ⟨f1, f2, f3⟩ := Vf.rks_take hr
    refine ⟨_, rfl, t, _, 0, .ref ls, rfl, rfl, SqT.of (PL (Same.refl H')).1, atI_nat (j := 0) rfl, Vf.tyL (PL (Same.refl H')).2, _, rfl, ls, _, .str r.1, D.st.idxOf r.1, .str r.1, rfl, rfl, SqL.of (PL (Same.refl H')).2, rfl, Vf.flat_str _, (Vf.idx_get m1).1, beq_self_eq_true _, (Vf.idx_get m1).2, ?_⟩
    refine ⟨_, rfl, t, _, 0, .ref ls, rfl, rfl, SqT.of (PL (Same.refl H')).1, atI_nat (j := 0) rfl, Vf.tyL (PL (Same.refl H')).2, _, rfl, ls, _, .str r.2.1, D.st.idxOf r.2.1, .str r.2.1, rfl, rfl, SqL.of (PL (Same.refl H')).2, rfl, Vf.flat_str _, (Vf.idx_get m2).1, beq_self_eq_true _, (Vf.idx_get m2).2, ?_⟩
    refine ⟨(by show 2 ≤ sizeLine; decide), fun u nu => ?_⟩
    have eu := Vf.Same.new (o := .tup [.int (Vf.ix D.st r.1), .int (Vf.ix D.st r.2.1)]) (Same.refl H') nu
    refine ⟨_, rfl, t, _, 0, .ref ls, rfl, rfl, SqT.of (PL eu).1, atI_nat (j := 0) rfl, Vf.tyL (PL eu).2, _, rfl, ls, _, .str r.2.2.1, D.st.idxOf r.2.2.1, .str r.2.2.1, rfl, rfl, SqL.of (PL eu).2, rfl, Vf.flat_str _, (Vf.idx_get m3).1, beq_self_eq_true _, (Vf.idx_get m3).2, ?_⟩
    refine ⟨_, rfl, t, _, 0, .ref ls, rfl, rfl, SqT.of (PL eu).1, atI_nat (j := 0) rfl, Vf.tyL (PL eu).2, _, rfl, ls, _, .str r.2.2.2, D.st.idxOf r.2.2.2, .str r.2.2.2, rfl, rfl, SqL.of (PL eu).2, rfl, Vf.flat_str _, (Vf.idx_get m4).1, beq_self_eq_true _, (Vf.idx_get m4).2, ?_⟩
    refine ⟨(by show 2 ≤ sizeLine; decide), fun x nx => ?_⟩
    have ex := Vf.Same.new (o := .tup [.int (Vf.ix D.st r.2.2.1), .int (Vf.ix D.st r.2.2.2)]) eu nx
    have hu : (upd (upd H' u (.tup [.int (Vf.ix D.st r.1), .int (Vf.ix D.st r.2.1)])) x (.tup [.int (Vf.ix D.st r.2.2.1), .int (Vf.ix D.st r.2.2.2)])) u = some (.tup [.int (Vf.ix D.st r.1), .int (Vf.ix D.st r.2.1)]) := by
      rw [upd_ne (Vf.neq_none upd_same nx), upd_same]
    have kl : kvs.length ≤ 1000000 := by
      have l1 := pp.len.1
      rw [List.length_take] at l1
      have l2 : (Vf.rks D).length = D.ru.length := by simp [Vf.rks]
      omega
    refine ⟨_, rfl, _, rfl, d, _, rfl, DPut.t (kvs := kvs) (k := Vf.keyP (Vf.ix D.st r.1, Vf.ix D.st r.2.1)) (b := u) (ex _ _ hk) hu (Nat.lt_of_le_of_lt kl (by decide)), ?_⟩
    have nk : (Vf.ix D.st r.1, Vf.ix D.st r.2.1) ∉ (Vf.rks D).take i := Vf.nodup_take vN.valid.nd f3
    have vn : valV kvs (Vf.keyP (Vf.ix D.st r.1, Vf.ix D.st r.2.1)) = none := by
      refine Vf.valV_none fun m => nk ?_
      have e : kvs.map Prod.fst = ((Vf.rks D).take i).map Vf.keyP := pp.keys
      rw [e] at m
      obtain ⟨k', q1, q2⟩ := List.mem_map.mp m
      exact Vf.keyP_inj q2 ▸ q1
    refine ⟨⟨_, _, _, _, _, rfl⟩, Vf.Same.chg (s.trans ex) nd, _, upd_same, ?_⟩
    rw [putK_new _ vn, f1, f2]
    have hx' : (upd (upd H' u (.tup [.int (Vf.ix D.st r.1), .int (Vf.ix D.st r.2.1)])) x (.tup [.int (Vf.ix D.st r.2.2.1), .int (Vf.ix D.st r.2.2.2)])) x = some (.tup (Vf.encP (Vf.ix D.st r.2.2.1, Vf.ix D.st r.2.2.2))) := upd_same
    have keep : ∀ (kv' : HO) (b : Addr) ys, (upd (upd H' u (.tup [.int (Vf.ix D.st r.1), .int (Vf.ix D.st r.2.1)])) x (.tup [.int (Vf.ix D.st r.2.2.1), .int (Vf.ix D.st r.2.2.2)])) b = some (.tup ys) → (upd (upd (upd H' u (.tup [.int (Vf.ix D.st r.1), .int (Vf.ix D.st r.2.1)])) x (.tup [.int (Vf.ix D.st r.2.2.1), .int (Vf.ix D.st r.2.2.2)])) d kv') b = some (.tup ys) := fun kv' b ys hb => by
      have nb : b ≠ d := fun e => by
        rw [e, ex _ _ hk] at hb
        cases hb
      rw [upd_ne nb]
      exact hb
    exact (pp.same ex).snoc nk (keep _) (keep _ _ _ hx')
  rintro σ H2 ⟨⟨v2, v3, v4, v5, v6, rfl⟩, s, kvs, hk, pp⟩
  rw [tr.1, Vf.rks_all.1, Vf.rks_all.2] at pp
  exact ⟨_, rfl, q d kvs H2 nd s hk pp⟩
end

def sp__law_followed (K : PySem.W.Frag) (A : Ad) : Sp := fun vs H Q _ => ∃ (d c s : Addr) (kvs : List (List Key × V)) (D : Vf.DD) (cs : List Int) (xs : List V) (ms : List (Int × Int)), vs = [.ref d, .ref c, .ref s] ∧ H d = some (.dT kvs) ∧ Vf.PP H kvs (Vf.rks D) (Vf.rvs D) ∧ Vf.ValidN D ∧ SqL K H c (cs.map V.int) ∧ Vf.InC D.st.length cs ∧ SqL K H s xs ∧ Vf.Tups Vf.encP H xs ms ∧ (∀ m ∈ ms, Vf.agOk cs.length m = true) ∧
  ∀ (t : Addr) (pl : List Int) (H' : Hp), Vf.goC (Vf.fD D) 0 ms cs = .inr pl → Vf.InC D.st.length pl → pl.length = cs.length → H t = none → Same H H' → H' t = some (.lst (pl.map V.int)) → Q (.ref t) H'
theorem len__law_followed {K : PySem.W.Frag} {A : Ad} (vs : List V) (H : Hp) (Q : VK) (E : XK) (h : sp__law_followed K A vs H Q E) : vs.length = ["table", "crowd", "schedule"].length := by
  obtain ⟨a, b, c, d, e, f, g, i, rfl, _⟩ := h
  rfl

section
variable {P : Program} {w : World} {K : PySem.W.Frag} {mg : Str → Option Value} {base : Heap}
set_option maxHeartbeats 4000000 in
theorem ok__law_followed {A : Ad} (T : Txt K mg A) : FnOk P w K mg base CX0 1 A.f__law_followed A.d__law_followed ["table", "crowd", "schedule"] (sp__law_followed K A) := by
  refine T.F__law_followed.ok sc__law_followed len__law_followed (fun cdv Ar outer s H vs Q E hr h => ?_)
  have hu := hu_of hr
  obtain ⟨d, c, s, kvs, D, cs, xs, ms, rfl, hd, pp, vN, hc, inC, hs, ht, ok, q⟩ := h
  refine ⟨_, (pss_cons (ps_set (i := 3) sc__law_followed.nd rfl (Or.inl rfl) (pe_callTy call_list_of (by rfl) T.N_list (by decide +kernel) (pa_cons (pv 1) pa_nil)))
      (pss_cons (ps_for PassesOwn.never rfl (pi_list (pv 2)) (pg_tup (by rfl) (pgs_cons (pg_name (i := 4) sc__law_followed.nd rfl (Or.inl rfl)) (pgs_cons (pg_name (i := 5) sc__law_followed.nd rfl (Or.inl rfl)) pgs_nil)))
        (pss_cons (ps_set (i := 6) sc__law_followed.nd rfl (Or.inl rfl) (pe_tup (pa_cons (pe_ix ix_list (pv 3) (pv 4) (fun _ _ => rfl)) (pa_cons (pe_ix ix_list (pv 3) (pv 5) (fun _ _ => rfl)) pa_nil))))
      (pss_cons (ps_set (i := 6) sc__law_followed.nd rfl (Or.inl rfl) (pe_dget2 (by exact hu) (pv 0) (pv 6) (pv 6) ⟨by rfl, by rfl, by rfl, by rfl⟩))
      (pss_cons (ps_asg (pe_ix ix_tup (pv 6) pe_int (fun _ _ => rfl)) (pg_sub (pv 3) (pv 4) set_list))
      (pss_one (ps_asg (pe_ix ix_tup (pv 6) pe_int (fun _ _ => rfl)) (pg_sub (pv 3) (pv 5) set_list)))))))
      (pss_one (ps_ret (pv 3))))), ?_⟩
  refine ⟨_, rfl, c, _, rfl, .inl hc, fun h nh => ?_⟩
  have s0 := Vf.Same.new (o := .lst (cs.map V.int)) (Same.refl H) nh
  have hlen := ht.1
  refine ⟨_, rfl, s, rfl, ⟨_, s0.seq hs⟩, for_list (K := K) (a := s) (xs := xs) (fun i σ H' => ∃ (cur : List Int), (∃ v4 v5 v6 : Option V, σ = [some (.ref d), some (.ref c), some (.ref s), some (.ref h), v4, v5, v6]) ∧ Same H H' ∧ H' h = some (.lst (cur.map V.int)) ∧ Vf.InC D.st.length cur ∧ cur.length = cs.length ∧ Vf.goC (Vf.fD D) 0 ms cs = Vf.goC (Vf.fD D) i (ms.drop i) cur) ⟨cs, ⟨none, none, none, rfl⟩, s0, upd_same, inC, rfl, rfl⟩ (fun i σ H' _ ⟨_, _, s, _⟩ => s.seq hs) ?_ ?_⟩
  · rintro i x σ H1 hx ⟨cur, ⟨v4, v5, v6, rfl⟩, sa, hh, ic, cl2, eg⟩
    obtain ⟨m, t, em, rfl, htm⟩ := ht.get hx
    have okm := ok m (List.mem_of_getElem? em)
    rw [← cl2] at okm
    rw [Vf.goC_step em, if_pos okm] at eg
    obtain ⟨m0, ⟨a0, b0⟩, a1, b1⟩ := Vf.agOk_iff.mp okm
    have st := Vf.stepC_in vN ic okm
    have sl := Vf.stepC_len (Vf.fD D) cur m
    refine ⟨t, _, rfl, SqT.of (sa _ _ htm), rfl, _, _, rfl, _, _, rfl, rfl, ?_⟩
    refine ⟨_, rfl, _, rfl, h, _, m.1, _, rfl, rfl, SqL.of hh, Vf.int_at a0 a1, _, rfl, _, rfl, h, _, m.2, _, rfl, rfl, SqL.of hh, Vf.int_at b0 b1, (by show 2 ≤ sizeLine; decide), fun u nu => ?_⟩
    have s2 := Vf.Same.new (o := .tup (Vf.encP (cur.getD m.1.toNat 0, cur.getD m.2.toNat 0))) (Same.refl H1) nu
    have hu := upd_same (H := H1) (a := u) (o := .tup (Vf.encP (cur.getD m.1.toNat 0, cur.getD m.2.toNat 0)))
    have hh2 := s2 _ _ hh
    have sb := sa.trans s2
    refine ⟨_, rfl, d, rfl, .inr ⟨kvs, .inl (sb _ _ hd)⟩, _, rfl, _, rfl, ?_⟩
    refine ⟨_, DGet.t (k := Vf.keyP (cur.getD m.1.toNat 0, cur.getD m.2.toNat 0)) (sb _ _ hd) hu, ?_⟩
    obtain ⟨t2, et, ht2⟩ := (pp.same sb).got hu
    rw [et]
    refine ⟨_, rfl, t2, _, 0, _, rfl, rfl, SqT.of ht2, atI_nat (j := 0) rfl, _, rfl, _, rfl, h, _, m.1, m.1.toNat, rfl, rfl, hh2, Vf.ixI a0 a1, ?_⟩
    have ne : t2 ≠ h := fun e => by rw [e, hh2] at ht2; cases ht2
    refine ⟨_, rfl, t2, _, 1, _, rfl, rfl, SqT.of (by rw [upd_ne ne]; exact ht2), atI_nat (j := 1) rfl, _, rfl, _, rfl, h, _, m.2, m.2.toNat, rfl, rfl, upd_same, (by rw [List.length_set]; exact Vf.ixI b0 b1), ?_⟩
    refine ⟨_, ⟨_, _, _, rfl⟩, Vf.Same.chg (Vf.Same.chg sb nh) nh, ?_, st, by rw [sl]; exact cl2, eg⟩
    rw [upd_same]
    unfold Vf.stepC
    rw [List.map_set, List.map_set]
  rintro σ H2 ⟨cur, ⟨v4, v5, v6, rfl⟩, sa, hh, ic, cl2, eg⟩
  rw [Vf.goC_end (by omega)] at eg
  exact ⟨_, rfl, q h cur H2 eg ic cl2 nh sa hh⟩
end

def sp_law (K : PySem.W.Frag) (_ : Ad) : Sp := Vf.spLaw K
theorem len_law {K : PySem.W.Frag} {A : Ad} (vs : List V) (H : Hp) (Q : VK) (E : XK) (h : sp_law K A vs H Q E) : vs.length = ["script"].length := by
  obtain ⟨a, ns, rfl, _⟩ := h
  rfl

section
variable {P : Program} {w : World} {K : PySem.W.Frag} {mg : Str → Option Value} {base : Heap}
set_option maxHeartbeats 4000000 in
theorem ok_law {A : Ad} (T : Txt K mg A) : FnOk P w K mg base CX0 3 A.f_law A.d_law ["script"] (sp_law K A) := by
  have G__law_cell := ok__law_cell (P := P) (w := w) (base := base) T
  have G__law_schedule := ok__law_schedule (P := P) (w := w) (base := base) T
  have G__law_draws := ok__law_draws (P := P) (w := w) (base := base) T
  have G_are_equivalent := ok_are_equivalent (P := P) (w := w) (base := base) T
  have G_flattened := ok_flattened (P := P) (w := w) (base := base) T
  have G_layers := ok_layers (P := P) (w := w) (base := base) T
  have G__law_parts := ok__law_parts (P := P) (w := w) (base := base) T
  have G__law_table := ok__law_table (P := P) (w := w) (base := base) T
  have G__law_followed := ok__law_followed (P := P) (w := w) (base := base) T
  refine T.F_law.ok sc_law len_law (fun cdv Ar outer s H vs Q E hr h => ?_)
  have hu := hu_of hr
  obtain ⟨a, ns, rfl, hS, hn63, q⟩ := h
  refine ⟨_, (pss_cons (ps_set (i := 1) sc_law.nd rfl (Or.inl rfl) (pe_op op_add pe_int (pe_op op_mod (pe_callTy call_int1 (by rfl) T.N_int (by decide +kernel) (pa_cons (pe_call G__law_cell (hr.mono (by decide)) (by rfl) T.G__law_cell T.F__law_cell.kp T.B__law_cell .nil pass0 (pa_cons (pv 0) (pa_cons pe_int pa_nil))) pa_nil)) pe_int)))
      (pss_cons (ps_set (i := 2) sc_law.nd rfl (Or.inl rfl) (pe_call G__law_schedule hr (by rfl) T.G__law_schedule T.F__law_schedule.kp T.B__law_schedule .nil pass0 (pa_cons (pe_call G__law_cell (hr.mono (by decide)) (by rfl) T.G__law_cell T.F__law_cell.kp T.B__law_cell .nil pass0 (pa_cons (pv 0) (pa_cons pe_int pa_nil))) (pa_cons (pv 1) (pa_cons pe_int pa_nil)))))
      (pss_cons (ps_set (i := 3) sc_law.nd rfl (Or.inr rfl) (pe_call G__law_draws (hr.mono (by decide)) (by rfl) T.G__law_draws T.F__law_draws.kp T.B__law_draws .nil pass0 (pa_cons (pe_call G__law_cell (hr.mono (by decide)) (by rfl) T.G__law_cell T.F__law_cell.kp T.B__law_cell .nil pass0 (pa_cons (pv 0) (pa_cons pe_int pa_nil))) (pa_cons pe_int pa_nil))))
      (pss_cons (ps_set (i := 4) sc_law.nd rfl (Or.inl rfl) (pe_callTy call_list_of (by rfl) T.N_list (by decide +kernel) (pa_cons (pv 2) pa_nil)))
      (pss_cons (ps_for PassesOwn.never rfl (pi_range1 rfl T.N_range (pa_cons pe_int pa_nil)) (pg_name (i := 5) sc_law.nd rfl (Or.inl rfl))
        (pss_one (ps_if (pt_cmpR op_gt (pe_callB call_len_seq (by rfl) T.N_len PySem.boot_len (pa_cons (pv 4) pa_nil)) pe_int (nomark _)) (pss_cons (ps_set (i := 6) sc_law.nd rfl (Or.inl rfl) (pe_op op_mod (pe_ix ix_list (pv 3) (pv 5) (fun _ _ => rfl)) (pe_op op_sub (pe_callB call_len_seq (by rfl) T.N_len PySem.boot_len (pa_cons (pv 4) pa_nil)) pe_int)))
      (pss_cons (ps_set (i := 7) sc_law.nd rfl (Or.inl rfl) (pe_ix ix_list (pv 4) (pv 6) (fun _ _ => rfl)))
      (pss_cons (ps_set (i := 8) sc_law.nd rfl (Or.inl rfl) (pe_ix ix_list (pv 4) (pe_op op_add (pv 6) pe_int) (fun _ _ => rfl)))
      (pss_one (ps_if (PW.pt (pw_and (pt_cmpR op_notIn_seq (pe_ix ix_tup (pv 7) pe_int (fun _ _ => rfl)) (pv 8) (by rfl)) (pw_and1 (pt_cmpR op_notIn_seq (pe_ix ix_tup (pv 7) pe_int (fun _ _ => rfl)) (pv 8) (by rfl))))) (pss_cons (ps_asg (pv 8) (pg_sub (pv 4) (pv 6) set_list))
      (pss_one (ps_asg (pv 7) (pg_sub (pv 4) (pe_op op_add (pv 6) pe_int) set_list)))) pss_nil))))) pss_nil)))
      (pss_cons (ps_if (pt_cmpR op_notBl (pe_call G_are_equivalent hr (by rfl) T.G_are_equivalent T.F_are_equivalent.kp T.B_are_equivalent .nil pass0 (pa_cons (pe_callTy call_list_of (by rfl) T.N_list (by decide +kernel) (pa_cons (pv 2) pa_nil)) (pa_cons (pe_callTy call_list_of (by rfl) T.N_list (by decide +kernel) (pa_cons (pv 4) pa_nil)) pa_nil))) pe_bl (nomark _)) (pss_one (ps_ret pe_bl)) pss_nil)
      (pss_cons (ps_if (pt_cmpR op_notBl (pe_call G_are_equivalent hr (by rfl) T.G_are_equivalent T.F_are_equivalent.kp T.B_are_equivalent .nil pass0 (pa_cons (pv 2) (pa_cons (pe_call G_flattened (hr.mono (by decide)) (by rfl) T.G_flattened T.F_flattened.kp T.B_flattened .nil pass0 (pa_cons (pe_call G_layers (hr.mono (by decide)) (by rfl) T.G_layers T.F_layers.kp T.B_layers .nil pass0 (pa_cons (pe_callTy call_list_of (by rfl) T.N_list (by decide +kernel) (pa_cons (pv 4) pa_nil)) pa_nil)) pa_nil)) pa_nil))) pe_bl (nomark _)) (pss_one (ps_ret pe_bl)) pss_nil)
      (pss_cons (ps_set (i := 9) sc_law.nd rfl (Or.inr rfl) (pe_call G__law_parts hr (by rfl) T.G__law_parts T.F__law_parts.kp T.B__law_parts .nil pass0 (pa_cons (pe_call G__law_cell (hr.mono (by decide)) (by rfl) T.G__law_cell T.F__law_cell.kp T.B__law_cell .nil pass0 (pa_cons (pv 0) (pa_cons pe_int pa_nil))) (pa_cons pe_int pa_nil))))
      (pss_cons (ps_set (i := 10) sc_law.nd rfl (Or.inl rfl) (pe_call G__law_table (hr.mono (by decide)) (by rfl) T.G__law_table T.F__law_table.kp T.B__law_table .nil pass0 (pa_cons (pv 9) pa_nil)))
      (pss_cons (ps_setLc (i := 11) (own := [("k", 5)]) (g := (gName 5)) (tt := tYes) rfl sc_law.nd rfl rfl (sw_true rfl rfl rfl (by decide +kernel)) (pi_range1 rfl T.N_range (pa_cons (pv 1) pa_nil)) (blkOk_by (N := ["script", "agents", "schedule", "draws", "other", "k", "at", "one", "two", "parts", "table", "crowd"]) (sc := defScope s_law) (by decide +kernel)) (fun _ _ _ _ _ => (pg_name (i := 5) sc_law.nd rfl (Or.inl rfl))) (fun _ _ _ _ _ => pts_nil) (fun _ _ _ _ _ => (pe_op op_mod (pe_ix (Vf.ix_listK (K := K) rfl) (pv 3) (pe_op op_add pe_int (pv 5)) (fun _ _ => rfl)) (pe_callB (Vf.call_len_seqK (K := K) rfl) (by rfl) T.N_len PySem.boot_len (pa_cons (pe_ix (Vf.ix_tupK (K := K) rfl) (pv 9) pe_int (fun _ _ => rfl)) pa_nil)))))
      (pss_cons (ps_if (pt_cmpR (Vf.op_neIs hr.units) (pe_call G__law_followed (hr.mono (by decide)) (by rfl) T.G__law_followed T.F__law_followed.kp T.B__law_followed .nil pass0 (pa_cons (pv 10) (pa_cons (pv 11) (pa_cons (pv 2) pa_nil)))) (pe_call G__law_followed (hr.mono (by decide)) (by rfl) T.G__law_followed T.F__law_followed.kp T.B__law_followed .nil pass0 (pa_cons (pv 10) (pa_cons (pv 11) (pa_cons (pv 4) pa_nil)))) (nomark _)) (pss_one (ps_ret pe_bl)) pss_nil)
      (pss_cons (ps_if (pt_cmpR op_eq (pe_callB call_len_seq (by rfl) T.N_len PySem.boot_len (pa_cons (pv 2) pa_nil)) pe_int (nomark _)) (pss_one (ps_ret pe_bl)) pss_nil)
      (pss_cons (ps_set (i := 6) sc_law.nd rfl (Or.inl rfl) (pe_op op_mod (pe_ix ix_list (pv 3) pe_int (fun _ _ => rfl)) (pe_callB call_len_seq (by rfl) T.N_len PySem.boot_len (pa_cons (pv 2) pa_nil))))
      (pss_cons (ps_if (pt_cmpR op_notBl (pe_call G_are_equivalent hr (by rfl) T.G_are_equivalent T.F_are_equivalent.kp T.B_are_equivalent .nil pass0 (pa_cons (pv 2) (pa_cons (pe_op op_cat (pe_slice sl_list (pv 2) po_none (po_some (pv 6))) (pe_slice sl_list (pv 2) (po_some (pe_op op_add (pv 6) pe_int)) po_none)) pa_nil))) pe_bl (nomark _)) (pss_one (ps_ret pe_bl)) pss_nil)
      (pss_cons (ps_if (pt_cmpR op_lt (pe_op op_add (pv 6) pe_int) (pe_callB call_len_seq (by rfl) T.N_len PySem.boot_len (pa_cons (pv 2) pa_nil)) (nomark _)) (pss_cons (ps_set (i := 7) sc_law.nd rfl (Or.inl rfl) (pe_ix ix_list (pv 2) (pv 6) (fun _ _ => rfl)))
      (pss_cons (ps_set (i := 8) sc_law.nd rfl (Or.inl rfl) (pe_ix ix_list (pv 2) (pe_op op_add (pv 6) pe_int) (fun _ _ => rfl)))
      (pss_one (ps_if (PW.pt (pw_and (pt_cmpR (Vf.op_neIs hr.units) (pv 7) (pv 8) (nomark _)) (pw_and1 (PW.pt (pw_or (pt_cmpR op_in_seq (pe_ix ix_tup (pv 7) pe_int (fun _ _ => rfl)) (pv 8) (by rfl)) (pw_or1 (pt_cmpR op_in_seq (pe_ix ix_tup (pv 7) pe_int (fun _ _ => rfl)) (pv 8) (by rfl)))))))) (pss_one (ps_ret (pe_cmpR op_isBl (pe_call G_are_equivalent hr (by rfl) T.G_are_equivalent T.F_are_equivalent.kp T.B_are_equivalent .nil pass0 (pa_cons (pv 2) (pa_cons (pe_op op_cat (pe_op op_cat (pe_slice sl_list (pv 2) po_none (po_some (pv 6))) (pe_lst (pa_cons (pv 8) (pa_cons (pv 7) pa_nil)))) (pe_slice sl_list (pv 2) (po_some (pe_op op_add (pv 6) pe_int)) po_none)) pa_nil))) pe_bl (nomark _)))) pss_nil)))) pss_nil)
      (pss_one (ps_ret pe_bl))))))))))))))))), ?_⟩
  have m0 : 0 ≤ ns.getD (1 : Int).toNat 0 % 7 := Int.emod_nonneg _ (by decide)
  have m1 : ns.getD (1 : Int).toNat 0 % 7 < 7 := Int.emod_lt_of_pos _ (by decide)
  obtain ⟨n, hn⟩ : ∃ n : Nat, 2 + ns.getD (1 : Int).toNat 0 % 7 = (n : Int) := ⟨(2 + ns.getD (1 : Int).toNat 0 % 7).toNat, by omega⟩
  have n8 : n ≤ 8 := by omega
  refine ⟨_, rfl, a, ns, _, rfl, hS, by omega, .inl ⟨_, rfl, _, _, rfl, rfl, (by show (0 : Int) < 7; decide), _, _, rfl, rfl, ?_⟩⟩
  dsimp only [gName]
  rw [hn]
  refine ⟨_, rfl, a, ns, _, rfl, hS, by omega, _, rfl, ?_⟩
  refine ⟨ns.getD (0 : Int).toNat 0, 20, n, rfl, by omega, by decide, by decide, fun S xs ms H1 nS s1 hS1 tS okS lenS => ?_⟩
  have xl := tS.1
  have m20 : ms.length ≤ 20 := by omega
  refine ⟨_, rfl, a, ns, _, rfl, s1.seq hS, by omega, _, 40, rfl, by decide, by decide, fun dr H2 ds _ s2 hdr ⟨dl, dr4⟩ => ?_⟩
  have dat : ∀ k : Nat, k < 40 → 0 ≤ ds.getD k 0 ∧ ds.getD k 0 < 4096 := fun k hk => dr4 _ (by rw [List.getD_eq_getElem?_getD, List.getElem?_eq_getElem (by omega)]; exact List.getElem_mem _)
  have hS2 := s2 _ _ hS1
  refine ⟨_, rfl, S, _, rfl, .inl (SqL.of hS2), fun O nO => ?_⟩
  have sO := Vf.Same.new (o := .lst xs) (Same.refl H2) nO
  have E0 : Vf.Eqv n ms ms := ⟨rfl, okS, rfl, fun _ _ _ => rfl⟩
  dsimp only [gName]
  refine Vf.seq_join (R := fun σ' H' => (∃ v5 v6 v7 v8 : Option V, σ' = [some (.ref a), some (.int (n : Int)), some (.ref S), some (.ref dr), some (.ref O), v5, v6, v7, v8, none, none, none]) ∧ Same H2 H' ∧ ∃ ys k2, H' O = some (.lst ys) ∧ Vf.Tups Vf.encP H' ys k2 ∧ Vf.Eqv n ms k2) (fun nx hnx => ?_) ?_
  · refine ⟨30, rfl, by decide, by decide, for_range (lo := 0) (n := (30 : Int).toNat) (fun k σ H' => (∃ v5 v6 v7 v8 : Option V, σ = [some (.ref a), some (.int (n : Int)), some (.ref S), some (.ref dr), some (.ref O), v5, v6, v7, v8, none, none, none]) ∧ Same H2 H' ∧ ∃ ys k2, H' O = some (.lst ys) ∧ Vf.Tups Vf.encP H' ys k2 ∧ Vf.Eqv n ms k2) ⟨⟨_, _, _, _, rfl⟩, sO, xs, ms, upd_same, (tS.same (s2.trans sO)), E0⟩ ?_ ?_⟩
    · rintro k σ H3 hk ⟨⟨v5, v6, v7, v8, rfl⟩, s3, ys, k2, hO, tO, eO⟩
      have k30 : k < 30 := hk
      have yl := tO.1
      have el := eO.len
      refine ⟨_, rfl, O, _, rfl, .inl (SqL.of hO), _, _, rfl, rfl, _, rfl, Vf.ite_d (fun c => ?_) (fun c => ?_)⟩
      · refine ⟨_, rfl, _, rfl, dr, _, _, _, rfl, rfl, SqL.of (s3 _ _ hdr), Vf.int_at (by omega) (by omega), _, rfl, O, _, rfl, .inl (SqL.of hO), _, _, rfl, rfl, _, _, rfl, rfl, (by show (0 : Int) < _ - 1; omega), ?_⟩
        have t0 : 0 ≤ ds.getD ((0 : Int) + (k : Nat)).toNat 0 % (((ys.length : Nat) : Int) - 1) := Int.emod_nonneg _ (by omega)
        have t1 : ds.getD ((0 : Int) + (k : Nat)).toNat 0 % (((ys.length : Nat) : Int) - 1) < ((ys.length : Nat) : Int) - 1 := Int.emod_lt_of_pos _ (by omega)
        obtain ⟨i, hi⟩ : ∃ i : Nat, ds.getD ((0 : Int) + (k : Nat)).toNat 0 % (((ys.length : Nat) : Int) - 1) = (i : Int) := ⟨(ds.getD ((0 : Int) + (k : Nat)).toNat 0 % (((ys.length : Nat) : Int) - 1)).toNat, by omega⟩
        dsimp only [gName]
        rw [hi] at t0 t1 ⊢
        obtain ⟨m1', em1⟩ : ∃ m, k2[i]? = some m := ⟨_, List.getElem?_eq_getElem (by omega)⟩
        obtain ⟨m2', em2⟩ : ∃ m, k2[i + 1]? = some m := ⟨_, List.getElem?_eq_getElem (by omega)⟩
        obtain ⟨u1, e1, h1⟩ := tO.2 _ _ em1
        obtain ⟨u2, e2, h2⟩ := tO.2 _ _ em2
        refine ⟨_, rfl, _, rfl, O, _, _, _, rfl, rfl, SqL.of hO, atI_nat e1, ?_⟩
        refine ⟨_, rfl, _, rfl, _, _, rfl, rfl, O, _, _, _, rfl, rfl, SqL.of hO, atI_nat (j := i + 1) e2, ?_⟩
        have i1 : inV (.int m1'.1) (Vf.encP m2') = Vf.inP m2' m1'.1 := by
          show inV _ ([m2'.1, m2'.2].map V.int) = _
          rw [Vf.inV_int]
          unfold Vf.inP
          simp
        have i2 : inV (.int m1'.2) (Vf.encP m2') = Vf.inP m2' m1'.2 := by
          show inV _ ([m2'.1, m2'.2].map V.int) = _
          rw [Vf.inV_int]
          unfold Vf.inP
          simp
        dsimp only [gName]
        refine Vf.st_if (b := (!inV (.int m1'.1) (Vf.encP m2')) && (!inV (.int m1'.2) (Vf.encP m2'))) (ans_and2 (fun R r => ⟨_, rfl, u1, _, 0, _, rfl, rfl, SqT.of h1, atI_nat (j := 0) rfl, _, rfl, u2, _, rfl, .inr (SqT.of h2), rfl, rfl, _, rfl, r⟩) (fun R r => ⟨_, rfl, u1, _, 1, _, rfl, rfl, SqT.of h1, atI_nat (j := 1) rfl, _, rfl, u2, _, rfl, .inr (SqT.of h2), rfl, rfl, _, rfl, r⟩)) (fun c2 => ?_) (fun c2 => ?_)
        · rw [i1, i2] at c2
          have nO2 := nO
          refine ⟨_, rfl, _, rfl, _, rfl, O, _, _, i, rfl, rfl, hO, ?_, ?_⟩
          · unfold ixN
            rw [if_pos (Int.natCast_nonneg _), if_pos (by omega)]
            rfl
          refine ⟨_, rfl, _, rfl, _, rfl, _, _, rfl, rfl, O, _, _, i + 1, rfl, rfl, upd_same, ?_, ?_⟩
          · rw [List.length_set]
            unfold ixN
            rw [if_pos (by omega), if_pos (by omega)]
            congr 1
          have hO1 : ∀ u zs, H3 u = some (.tup zs) → u ≠ O := fun u zs h e => by rw [e, hO] at h; cases h
          have t2 := (tO.set i h2).set (i + 1) h1
          refine ⟨⟨_, _, _, _, rfl⟩, Vf.Same.chg (Vf.Same.chg s3 nO) nO, _, _, upd_same, t2.mono fun u zs h => ?_, ?_⟩
          · rw [upd_ne (hO1 _ _ h), upd_ne (hO1 _ _ h)]
            exact h
          · rw [Vf.set2 em1 em2]
            rw [Vf.split2 em1 em2] at eO
            exact eO.swap n8 (Vf.apart_symm c2)
        · exact ⟨⟨_, _, _, _, rfl⟩, s3, ys, k2, hO, tO, eO⟩
      · exact ⟨⟨_, _, _, _, rfl⟩, s3, ys, k2, hO, tO, eO⟩
    · exact hnx
  rintro σ' H3 ⟨⟨v5, v6, v7, v8, rfl⟩, s3, ys, k2, hO, tO, eO⟩
  have bM := Vf.ok_B64 n8 okS
  have bK := Vf.ok_B64 n8 eO.ok
  have kl := eO.len
  have s23 := s2.trans s3
  have hS3 := s23 _ _ hS1
  have tS3 := tS.same s23
  refine ⟨_, rfl, S, _, rfl, .inl (SqL.of hS3), fun c1 nc1 => ?_⟩
  have sc1 := Vf.Same.new (o := .lst xs) (Same.refl H3) nc1
  refine ⟨_, rfl, O, _, rfl, .inl (SqL.of (sc1 _ _ hO)), fun c2 nc2 => ?_⟩
  have sc2 := Vf.Same.new (o := .lst ys) sc1 nc2
  refine ⟨c1, c2, xs, ys, ms, k2, rfl, (Vf.Same.new (Same.refl _) nc2) _ _ upd_same, tS3.same sc2, by omega, bM, upd_same, tO.same sc2, by omega, bK, fun H4 s4 => ?_⟩
  rw [decide_eq_true eO.same.symm]
  refine ⟨_, _, rfl, rfl, _, rfl, Vf.ite_b (fun c => absurd c (by decide)) fun _ => ?_⟩
  have s34 := sc2.trans s4
  have hO4 := s34 _ _ hO
  have tO4 := tO.same s34
  refine ⟨_, rfl, _, rfl, O, _, rfl, .inl (SqL.of hO4), fun c3 nc3 => ?_⟩
  have sc3 := Vf.Same.new (o := .lst ys) (Same.refl H4) nc3
  refine ⟨c3, ys, k2, rfl, upd_same, tO4.same sc3, by omega, bK, fun p1 z1 H5 np1 s5 hp1 r1 => ?_⟩
  have ft := Vf.lays_total k2
  refine ⟨p1, z1, Vf.lays k2, rfl, hp1, r1, by omega, fun p2 z2 H6 np2 s6 hp2 t2 => ?_⟩
  have s46 := (sc3.trans s5).trans s6
  have s36 := s34.trans s46
  have s16 := s23.trans s36
  refine ⟨S, p2, xs, z2, ms, (Vf.lays k2).flatten, rfl, s16 _ _ hS1, tS.same s16, by omega, bM, hp2, t2, by omega, Vf.lays_B64 bK, fun H7 s7 => ?_⟩
  rw [Vf.lays_flat bK, decide_eq_true eO.same.symm]
  refine ⟨_, _, rfl, rfl, _, rfl, Vf.ite_b (fun c => absurd c (by decide)) fun _ => ?_⟩
  have s17 := s16.trans s7
  have s37 := s36.trans s7
  have s07 := s1.trans s17
  refine ⟨_, rfl, a, ns, _, rfl, s07.seq hS, by omega, _, 5, rfl, by decide, by decide, fun p H8 D P2 vN sm s8 _ => ?_⟩
  have hru : D.ru.length ≤ 200000 := by have := sm.ru36; omega
  have st6 := sm.st6
  have st0 := sm.st0
  refine ⟨_, rfl, p, D, rfl, P2, vN, by omega, fun td kvs H9 _ s9 htd pp => ?_⟩
  have P3 := P2.same s9
  obtain ⟨ls, li, ll, lr, lo, xi, xr, g0, gls, _⟩ := id P3
  have s79 := s8.trans s9
  have s39 := s37.trans s79
  have s19 := s17.trans s79
  have hdr9 := (s3.trans s39) _ _ hdr
  refine ⟨_, rfl, (n : Int), rfl, by omega, by omega, fun C hC => ?_⟩
  refine Vf.lc_val (walk_range (lo := 0) (n := ((n : Nat) : Int).toNat)) (fun i => .int (ds.getD (30 + i) 0 % (D.st.length : Int))) hC (by omega) (fun _ _ => trivial) ?_ ?_
  · rintro i x Ha Hb hi sa ⟨rfl, rfl⟩ Q' q'
    refine ⟨rfl, _, rfl, _, rfl, _, _, rfl, rfl, dr, _, _, _, rfl, rfl, SqL.of (sa _ _ hdr9), Vf.int_at (by omega) (by omega), _, rfl, p, _, 0, .ref ls, rfl, rfl, SqT.of (sa _ _ g0), atI_nat (j := 0) rfl, ls, _, rfl, .inl (SqL.of (sa _ _ gls)), _, _, rfl, rfl, (by rw [List.length_map]; show (0 : Int) < _; omega), ?_⟩
    have e : ((30 : Int) + (0 + ((i : Nat) : Int))).toNat = 30 + i := by omega
    rw [e, List.length_map]
    exact q' _ (Same.refl _)
  intro Ha sa hc
  have ec : (List.range ((n : Nat) : Int).toNat).map (fun i => V.int (ds.getD (30 + i) 0 % (D.st.length : Int))) = ((List.range n).map fun i => ds.getD (30 + i) 0 % (D.st.length : Int)).map V.int := by rw [List.map_map]; rfl
  rw [ec] at hc
  have inC : Vf.InC D.st.length ((List.range n).map fun i => ds.getD (30 + i) 0 % (D.st.length : Int)) := fun c hc => by
    obtain ⟨i, _, rfl⟩ := List.mem_map.mp hc
    exact ⟨Int.emod_nonneg _ (by omega), Int.emod_lt_of_pos _ (by omega)⟩
  have lc : ((List.range n).map fun i => ds.getD (30 + i) 0 % (D.st.length : Int)).length = n := by rw [List.length_map, List.length_range]
  generalize ((List.range n).map fun i => ds.getD (30 + i) 0 % (D.st.length : Int)) = cs at hc inC lc
  have s3a := s39.trans sa
  have s1a := s19.trans sa
  refine ⟨_, rfl, _, rfl, _, rfl, td, C, S, kvs, D, cs, xs, ms, rfl, sa _ _ htd, pp.same sa, vN, SqL.of hc, inC, SqL.of (s1a _ _ hS1), tS.same s1a, (by rw [lc]; exact okS), fun W1 pl1 Hb e1 in1 len1 nW1 sb hW1 => ?_⟩
  obtain rfl : Vf.runC (Vf.fD D) ms cs = pl1 := by
    have e4 := Vf.goC_run (f := Vf.fD D) (k := 0) (show ∀ m ∈ ms, Vf.agOk cs.length m = true by rw [lc]; exact okS)
    rw [e1] at e4
    injection e4 with e4
    exact e4.symm
  have s3b := s3a.trans sb
  have sab := sa.trans sb
  refine ⟨_, rfl, _, rfl, _, rfl, td, C, O, kvs, D, cs, ys, k2, rfl, sab _ _ htd, pp.same sab, vN, SqL.of (sb _ _ hc), inC, SqL.of (s3b _ _ hO), tO.same s3b, (by rw [lc]; exact eO.ok), fun W2 pl2 Hc e2 in2 len2 nW2 sc hW2 => ?_⟩
  obtain rfl : Vf.runC (Vf.fD D) k2 cs = pl2 := by
    have e4 := Vf.goC_run (f := Vf.fD D) (k := 0) (show ∀ m ∈ k2, Vf.agOk cs.length m = true by rw [lc]; exact eO.ok)
    rw [e2] at e4
    injection e4 with e4
    exact e4.symm
  refine ⟨_, _, ⟨W1, W2, rfl, rfl, .inl ⟨SqL.of (sc _ _ hW1), SqL.of hW2⟩⟩, ?_⟩
  rw [eO.run _ _ lc, decide_eq_true rfl]
  refine ⟨_, rfl, Vf.ite_b (fun c => absurd c (by decide)) fun _ => ?_⟩
  have s1c := (s1a.trans sb).trans sc
  have s3c := s3b.trans sc
  have hSc := s1c _ _ hS1
  have tSc := tS.same s1c
  have hdrc := (s3.trans s3c) _ _ hdr
  refine ⟨_, rfl, S, _, rfl, .inl (SqL.of hSc), rfl, _, rfl, Vf.ite_d (fun c => q _) (fun c => ?_)⟩
  have pos : 0 < ms.length := by
    rw [← xl]
    rcases Nat.eq_zero_or_pos xs.length with z | z
    · exact absurd (by rw [z]; rfl) c
    · exact z
  have t0 : 0 ≤ ds.getD (38 : Int).toNat 0 % ((xs.length : Nat) : Int) := Int.emod_nonneg _ (by omega)
  have t1 : ds.getD (38 : Int).toNat 0 % ((xs.length : Nat) : Int) < ((xs.length : Nat) : Int) := Int.emod_lt_of_pos _ (by omega)
  obtain ⟨i, hi⟩ : ∃ i : Nat, ds.getD (38 : Int).toNat 0 % ((xs.length : Nat) : Int) = (i : Int) := ⟨(ds.getD (38 : Int).toNat 0 % ((xs.length : Nat) : Int)).toNat, by omega⟩
  refine ⟨_, rfl, dr, _, 38, _, rfl, rfl, SqL.of hdrc, Vf.int_at (by omega) (by omega), _, rfl, S, _, rfl, .inl (SqL.of hSc), _, _, rfl, rfl, (by show (0 : Int) < _; omega), ?_⟩
  dsimp only [gName]
  rw [hi] at t0 t1 ⊢
  have il : i < ms.length := by omega
  obtain ⟨m, em⟩ : ∃ m, ms[i]? = some m := ⟨_, List.getElem?_eq_getElem il⟩
  have sp1 : ms = ms.take i ++ m :: ms.drop (i + 1) := by
    conv => lhs; rw [← List.take_append_drop i ms]
    rw [List.drop_eq_getElem_cons il, (List.getElem?_eq_some_iff.mp em).2]
  refine ⟨_, rfl, _, rfl, _, rfl, _, rfl, S, xs, rfl, SqL.of hSc, fun g1 ng1 => ?_⟩
  rw [Vf.cut_hi]
  have sg1 := Vf.Same.new (o := .lst (xs.take i)) (Same.refl Hc) ng1
  refine ⟨_, rfl, _, rfl, _, _, rfl, rfl, _, rfl, S, xs, rfl, SqL.of (sg1 _ _ hSc), fun g2 ng2 => ?_⟩
  rw [show ((i : Nat) : Int) + 1 = ((i + 1 : Nat) : Int) from rfl, Vf.cut_lo]
  have sg2' := Vf.Same.new (o := .lst (xs.drop (i + 1))) (Same.refl (upd Hc g1 (.lst (xs.take i)))) ng2
  have sg2 := sg1.trans sg2'
  have bxs : (xs.take i).length + (xs.drop (i + 1)).length ≤ 100 := by
    rw [List.length_take, List.length_drop]
    omega
  refine ⟨g1, g2, _, _, rfl, rfl, sg2' _ _ upd_same, upd_same, Nat.le_trans bxs (by decide), fun g3 ng3 => ?_⟩
  have sg3 := Vf.Same.new (o := .lst (xs.take i ++ xs.drop (i + 1))) sg2 ng3
  have s1d := s1c.trans sg3
  have bd : ∀ z ∈ ms.take i ++ ms.drop (i + 1), z ∈ ms := fun z hz => by
    rcases List.mem_append.mp hz with hz | hz
    · exact List.mem_of_mem_take hz
    · exact List.mem_of_mem_drop hz
  refine ⟨S, g3, xs, _, ms, ms.take i ++ ms.drop (i + 1), rfl, sg3 _ _ hSc, tSc.same sg3, by omega, bM, upd_same, ((tSc.take i).append (tSc.drop (i + 1))).same sg3, by rw [List.length_append, List.length_take, List.length_drop]; omega, fun z hz => bM z (bd z hz), fun Hd sd => ?_⟩
  have less : ¬ Vf.lays ms = Vf.lays (ms.take i ++ ms.drop (i + 1)) := fun e => by
    rw [sp1] at e
    rw [← sp1] at e
    exact Vf.lays_less (p := ms.take i) (m := m) (r := ms.drop (i + 1)) (by rw [← sp1]; exact e)
  rw [decide_eq_false less]
  refine ⟨_, _, rfl, rfl, _, rfl, Vf.ite_b (fun c => absurd c (by decide)) fun _ => ?_⟩
  have scd := sg3.trans sd
  have hSd := scd _ _ hSc
  have tSd := tSc.same scd
  refine ⟨_, rfl, _, _, rfl, rfl, _, rfl, S, _, rfl, .inl (SqL.of hSd), _, _, rfl, rfl, _, rfl, Vf.ite_d (fun c2 => ?_) (fun _ => q _)⟩
  have il2 : i + 1 < ms.length := by omega
  obtain ⟨m', em'⟩ : ∃ m, ms[i + 1]? = some m := ⟨_, List.getElem?_eq_getElem il2⟩
  obtain ⟨u1, e1, h1⟩ := tSd.2 _ _ em
  obtain ⟨u2, e2, h2⟩ := tSd.2 _ _ em'
  refine ⟨_, rfl, _, rfl, S, _, _, _, rfl, rfl, SqL.of hSd, atI_nat e1, ?_⟩
  refine ⟨_, rfl, _, rfl, _, _, rfl, rfl, S, _, _, _, rfl, rfl, SqL.of hSd, atI_nat (j := i + 1) e2, ?_⟩
  have i1 : inV (.int m.1) (Vf.encP m') = Vf.inP m' m.1 := by
    show inV _ ([m'.1, m'.2].map V.int) = _
    rw [Vf.inV_int]
    unfold Vf.inP
    simp
  have i2 : inV (.int m.2) (Vf.encP m') = Vf.inP m' m.2 := by
    show inV _ ([m'.1, m'.2].map V.int) = _
    rw [Vf.inV_int]
    unfold Vf.inP
    simp
  dsimp only [gName]
  refine Vf.st_if (b := (!decide ([m.1, m.2] = [m'.1, m'.2])) && (inV (.int m.1) (Vf.encP m') || inV (.int m.2) (Vf.encP m'))) (ans_and2 (fun R r => ⟨_, rfl, _, rfl, [m.1, m.2], [m'.1, m'.2], ⟨u1, u2, rfl, rfl, .inr ⟨SqT.of h1, SqT.of h2⟩⟩, _, rfl, r⟩) (Vf.ans_or2 (fun R r => ⟨_, rfl, u1, _, 0, _, rfl, rfl, SqT.of h1, atI_nat (j := 0) rfl, _, rfl, u2, _, rfl, .inr (SqT.of h2), rfl, rfl, _, rfl, r⟩) (fun R r => ⟨_, rfl, u1, _, 1, _, rfl, rfl, SqT.of h1, atI_nat (j := 1) rfl, _, rfl, u2, _, rfl, .inr (SqT.of h2), rfl, rfl, _, rfl, r⟩))) (fun c3 => ?_) (fun c3 => q _)
  rw [i1, i2, Bool.and_eq_true] at c3
  have sp2 := Vf.split2 em em'
  refine ⟨_, rfl, _, rfl, _, rfl, _, rfl, S, xs, rfl, SqL.of hSd, fun g4 ng4 => ?_⟩
  rw [Vf.cut_hi]
  have sg4 := Vf.Same.new (o := .lst (xs.take i)) (Same.refl Hd) ng4
  refine ⟨_, rfl, _, rfl, (by show 2 ≤ sizeLine; decide), fun g5 ng5 => ?_⟩
  have sg5' := Vf.Same.new (o := .lst [.ref u2, .ref u1]) (Same.refl (upd Hd g4 (.lst (xs.take i)))) ng5
  have sg5 := sg4.trans sg5'
  refine ⟨g4, g5, _, _, rfl, rfl, sg5' _ _ upd_same, upd_same, Nat.le_trans (show (xs.take i).length + 2 ≤ 100 by rw [List.length_take]; omega) (by decide), fun g6 ng6 => ?_⟩
  have sg6 := Vf.Same.new (o := .lst (xs.take i ++ [.ref u2, .ref u1])) sg5 ng6
  refine ⟨_, rfl, _, rfl, _, _, rfl, rfl, _, rfl, S, xs, rfl, SqL.of (sg6 _ _ hSd), fun g7 ng7 => ?_⟩
  rw [show ((i : Nat) : Int) + 2 = ((i + 2 : Nat) : Int) from rfl, Vf.cut_lo]
  have sg7' := Vf.Same.new (o := .lst (xs.drop (i + 2))) (Same.refl _) ng7
  have sg7 := sg6.trans sg7'
  refine ⟨g6, g7, _, _, rfl, rfl, sg7' _ _ upd_same, upd_same, Nat.le_trans (show (xs.take i ++ [V.ref u2, V.ref u1]).length + (xs.drop (i + 2)).length ≤ 100 by rw [List.length_append, List.length_take, List.length_drop]; show _ + 2 + _ ≤ _; omega) (by decide), fun g8 ng8 => ?_⟩
  have sg8 := Vf.Same.new (o := .lst ((xs.take i ++ [.ref u2, .ref u1]) ++ xs.drop (i + 2))) sg7 ng8
  have bd2 : ∀ z ∈ (ms.take i ++ [m', m]) ++ ms.drop (i + 2), z ∈ ms := fun z hz => by
    rcases List.mem_append.mp hz with hz | hz
    · rcases List.mem_append.mp hz with hz | hz
      · exact List.mem_of_mem_take hz
      · rcases List.mem_cons.mp hz with hz | hz
        · rw [hz]; exact List.mem_of_getElem? em'
        · rw [List.mem_singleton.mp hz]; exact List.mem_of_getElem? em
    · exact List.mem_of_mem_drop hz
  have two : Vf.Tups Vf.encP Hd [.ref u2, .ref u1] [m', m] := ((Vf.Tups.nil (enc := Vf.encP)).snoc h2).snoc h1
  refine ⟨S, g8, xs, _, ms, (ms.take i ++ [m', m]) ++ ms.drop (i + 2), rfl, sg8 _ _ hSd, tSd.same sg8, by omega, bM, upd_same, (((tSd.take i).append two).append (tSd.drop (i + 2))).same sg8, by rw [List.length_append, List.length_append, List.length_take, List.length_drop]; show _ + 2 + _ < _; omega, fun z hz => bM z (bd2 z hz), fun He se => ?_⟩
  have nn : m ≠ m' := fun e => by
    rw [e] at c3
    simp at c3
  have turned : ¬ Vf.lays ms = Vf.lays ((ms.take i ++ [m', m]) ++ ms.drop (i + 2)) := fun e => by
    rw [List.append_assoc] at e
    have e' : Vf.lays (ms.take i ++ m :: m' :: ms.drop (i + 2)) = Vf.lays (ms.take i ++ m' :: m :: ms.drop (i + 2)) := by rw [← sp2]; exact e
    have c4 := c3.2
    rw [Bool.or_eq_true] at c4
    rcases c4 with c4 | c4
    · exact Vf.lays_turned nn (Vf.inP_self1 m) c4 e'
    · exact Vf.lays_turned nn (Vf.inP_self2 m) c4 e'
  rw [decide_eq_false turned]
  exact ⟨_, _, rfl, rfl, q _⟩
end

theorem all_mk {P : Program} {w : World} {K : PySem.W.Frag} {h : Heap} {mg : Str → Option Value} {fa : Addr} (X : K.In h) (G : h.Ns mainGlobals mg) (hfa : mg "law" = some (.ref fa))
    {f__law_cell f__law_draws f__law_schedule f_layers f_are_equivalent f_flattened f__law_parts f__law_table f__law_followed f_law : Addr}
    (a__law_cell : PySem.W.nsIn K mainGlobals "_law_cell" = some (some (.ref f__law_cell)))
    (l__law_cell : Vf.FunAt K "_law_cell" "_law_cell" s__law_cell f__law_cell)
    (a__law_draws : PySem.W.nsIn K mainGlobals "_law_draws" = some (some (.ref f__law_draws)))
    (l__law_draws : Vf.FunAt K "_law_draws" "_law_draws" s__law_draws f__law_draws)
    (a__law_schedule : PySem.W.nsIn K mainGlobals "_law_schedule" = some (some (.ref f__law_schedule)))
    (l__law_schedule : Vf.FunAt K "_law_schedule" "_law_schedule" s__law_schedule f__law_schedule)
    (a_layers : PySem.W.nsIn K mainGlobals "layers" = some (some (.ref f_layers)))
    (l_layers : Vf.FunAt K "layers" "layers" s_layers f_layers)
    (a_are_equivalent : PySem.W.nsIn K mainGlobals "are_equivalent" = some (some (.ref f_are_equivalent)))
    (l_are_equivalent : Vf.FunAt K "are_equivalent" "are_equivalent" s_are_equivalent f_are_equivalent)
    (a_flattened : PySem.W.nsIn K mainGlobals "flattened" = some (some (.ref f_flattened)))
    (l_flattened : Vf.FunAt K "flattened" "flattened" s_flattened f_flattened)
    (a__law_parts : PySem.W.nsIn K mainGlobals "_law_parts" = some (some (.ref f__law_parts)))
    (l__law_parts : Vf.FunAt K "_law_parts" "_law_parts" s__law_parts f__law_parts)
    (a__law_table : PySem.W.nsIn K mainGlobals "_law_table" = some (some (.ref f__law_table)))
    (l__law_table : Vf.FunAt K "_law_table" "_law_table" s__law_table f__law_table)
    (a__law_followed : PySem.W.nsIn K mainGlobals "_law_followed" = some (some (.ref f__law_followed)))
    (l__law_followed : Vf.FunAt K "_law_followed" "_law_followed" s__law_followed f__law_followed)
    (a_law : PySem.W.nsIn K mainGlobals "law" = some (some (.ref f_law)))
    (l_law : Vf.FunAt K "law" "law" s_law f_law)
    (z_int : PySem.W.nsIn K mainGlobals "int" = some none)
    (z_isinstance : PySem.W.nsIn K mainGlobals "isinstance" = some none)
    (z_len : PySem.W.nsIn K mainGlobals "len" = some none)
    (z_list : PySem.W.nsIn K mainGlobals "list" = some none)
    (z_max : PySem.W.nsIn K mainGlobals "max" = some none)
    (z_range : PySem.W.nsIn K mainGlobals "range" = some none)
    (z_sorted : PySem.W.nsIn K mainGlobals "sorted" = some none)
    (z_str : PySem.W.nsIn K mainGlobals "str" = some none) :
    ∃ fd : FuncData, (∀ (s : Shared) (u : Value), BindsTo s fd ⟨[u], []⟩ [("script", u)]) ∧ ∀ base : Heap, K.In base → base.Ns mainGlobals mg → FnOk P w K mg base CX0 3 fa fd ["script"] (Vf.spLaw K) := by
  have e := hfa.symm.trans (PySem.W.mg_of X G a_law)
  cases e
  obtain ⟨d__law_cell, F__law_cell⟩ := l__law_cell.get
  have B__law_cell := F__law_cell.binds (ps := ["script", "k"]) fun _ _ _ _ _ _ us hl => match us, hl with | [_, _], _ => rfl
  obtain ⟨d__law_draws, F__law_draws⟩ := l__law_draws.get
  have B__law_draws := F__law_draws.binds (ps := ["cell", "count"]) fun _ _ _ _ _ _ us hl => match us, hl with | [_, _], _ => rfl
  obtain ⟨d__law_schedule, F__law_schedule⟩ := l__law_schedule.get
  have B__law_schedule := F__law_schedule.binds (ps := ["cell", "agents", "most"]) fun _ _ _ _ _ _ us hl => match us, hl with | [_, _, _], _ => rfl
  obtain ⟨d_layers, F_layers⟩ := l_layers.get
  have B_layers := F_layers.binds (ps := ["schedule"]) fun _ _ _ _ _ _ us hl => match us, hl with | [_], _ => rfl
  obtain ⟨d_are_equivalent, F_are_equivalent⟩ := l_are_equivalent.get
  have B_are_equivalent := F_are_equivalent.binds (ps := ["first", "second"]) fun _ _ _ _ _ _ us hl => match us, hl with | [_, _], _ => rfl
  obtain ⟨d_flattened, F_flattened⟩ := l_flattened.get
  have B_flattened := F_flattened.binds (ps := ["rows"]) fun _ _ _ _ _ _ us hl => match us, hl with | [_], _ => rfl
  obtain ⟨d__law_parts, F__law_parts⟩ := l__law_parts.get
  have B__law_parts := F__law_parts.binds (ps := ["cell", "most"]) fun _ _ _ _ _ _ us hl => match us, hl with | [_, _], _ => rfl
  obtain ⟨d__law_table, F__law_table⟩ := l__law_table.get
  have B__law_table := F__law_table.binds (ps := ["parts"]) fun _ _ _ _ _ _ us hl => match us, hl with | [_], _ => rfl
  obtain ⟨d__law_followed, F__law_followed⟩ := l__law_followed.get
  have B__law_followed := F__law_followed.binds (ps := ["table", "crowd", "schedule"]) fun _ _ _ _ _ _ us hl => match us, hl with | [_, _, _], _ => rfl
  obtain ⟨oc, od, kV, doc, pm, an, cdv, ct, osl, q1, q2, q3⟩ := l_law
  have F_law := fun_mk (st := s_law) q1 q2 q3
  have T : Txt K mg ⟨f__law_cell, d__law_cell, f__law_draws, d__law_draws, f__law_schedule, d__law_schedule, f_layers, d_layers, f_are_equivalent, d_are_equivalent, f_flattened, d_flattened, f__law_parts, d__law_parts, f__law_table, d__law_table, f__law_followed, d__law_followed, _, _⟩ := {
    F__law_cell := F__law_cell,
    B__law_cell := B__law_cell,
    G__law_cell := PySem.W.mg_of X G a__law_cell,
    F__law_draws := F__law_draws,
    B__law_draws := B__law_draws,
    G__law_draws := PySem.W.mg_of X G a__law_draws,
    F__law_schedule := F__law_schedule,
    B__law_schedule := B__law_schedule,
    G__law_schedule := PySem.W.mg_of X G a__law_schedule,
    F_layers := F_layers,
    B_layers := B_layers,
    G_layers := PySem.W.mg_of X G a_layers,
    F_are_equivalent := F_are_equivalent,
    B_are_equivalent := B_are_equivalent,
    G_are_equivalent := PySem.W.mg_of X G a_are_equivalent,
    F_flattened := F_flattened,
    B_flattened := B_flattened,
    G_flattened := PySem.W.mg_of X G a_flattened,
    F__law_parts := F__law_parts,
    B__law_parts := B__law_parts,
    G__law_parts := PySem.W.mg_of X G a__law_parts,
    F__law_table := F__law_table,
    B__law_table := B__law_table,
    G__law_table := PySem.W.mg_of X G a__law_table,
    F__law_followed := F__law_followed,
    B__law_followed := B__law_followed,
    G__law_followed := PySem.W.mg_of X G a__law_followed,
    F_law := F_law,
    G_law := PySem.W.mg_of X G a_law,
    N_int := PySem.W.mg_none_of X G z_int,
    N_isinstance := PySem.W.mg_none_of X G z_isinstance,
    N_len := PySem.W.mg_none_of X G z_len,
    N_list := PySem.W.mg_none_of X G z_list,
    N_max := PySem.W.mg_none_of X G z_max,
    N_range := PySem.W.mg_none_of X G z_range,
    N_sorted := PySem.W.mg_none_of X G z_sorted,
    N_str := PySem.W.mg_none_of X G z_str }
  exact ⟨_, fun s u => .of_eq rfl, fun base _ _ => ok_law T⟩
theorem walk {l : PySem.W.OpenLaw} {q : Program} {loose : List Str} {XP : (Str → Option Value) → Heap → Prop} {YP : World → Heap → Prop} {d : DefRec} {K : Params → PySem.W.Frag} (hn : l.most = some 63) (hdf : d.params.defaults = [])
    (hY : ∀ (w : World) (h : Heap), YP w h → (K w.params).In h)
    (F : ∀ (w : World) (mg : Str → Option Value) (fa : Addr) (h : Heap), (K w.params).In h → h.Ns mainGlobals mg → mg d.name = some (.ref fa) →
      ∃ fd : FuncData, (∀ (s : Shared) (u : Value), BindsTo s fd ⟨[u], []⟩ [("script", u)]) ∧ ∀ base : Heap, (K w.params).In base → base.Ns mainGlobals mg → FnOk l.prog w (K w.params) mg base CX0 3 fa fd ["script"] (Vf.spLaw (K w.params))) :
    PySem.W.WalkO q loose XP YP l.row.toRowW d [] (fun f vs => PySem.call f vs) :=
  L2.walk_of (n := 63) (k := 3) (x := "script") (CX := fun _ => CX0) (sp := fun w => Vf.spLaw (K w.params)) hn (by decide) hdf ⟨rfl, by decide, by decide⟩ hY F (fun _ _ a ns hl _ hS => ⟨a, ns, rfl, hS, hl, fun _ => rfl⟩) fun _ _ _ _ _ z => z
end Pf
open PySem PySem.W PyProof.Rows
set_option maxRecDepth 100000 in
set_option maxHeartbeats 0 in
theorem PySem.Challenge.cw_mingle_k86_whole_equivalent_schedules_holds : PySem.Challenge.rw_mingle_k86_whole_equivalent_schedules.Holds := by
  w_on; o_law; k_head; (case hw => w_witness2)
  k_fill
  refine Pf.walk (l := PySem.Challenge.rw_mingle_k86_whole_equivalent_schedules) rfl rfl (fun w h Y => PySem.W.kIn_of Y) ?F
  case F =>
    intro w mg fa h KX G hmg
    refine' Pf.all_mk KX G hmg ?a__law_cell ?l__law_cell ?a__law_draws ?l__law_draws ?a__law_schedule ?l__law_schedule ?a_layers ?l_layers ?a_are_equivalent ?l_are_equivalent ?a_flattened ?l_flattened ?a__law_parts ?l__law_parts ?a__law_table ?l__law_table ?a__law_followed ?l__law_followed ?a_law ?l_law ?z_int ?z_isinstance ?z_len ?z_list ?z_max ?z_range ?z_sorted ?z_str
    (case a__law_cell => k_is)
    (case l__law_cell => exact ⟨_, _, _, _, _, _, _, _, _, by k_is, by k_is, by k_is⟩)
    (case a__law_draws => k_is)
    (case l__law_draws => exact ⟨_, _, _, _, _, _, _, _, _, by k_is, by k_is, by k_is⟩)
    (case a__law_schedule => k_is)
    (case l__law_schedule => exact ⟨_, _, _, _, _, _, _, _, _, by k_is, by k_is, by k_is⟩)
    (case a_layers => k_is)
    (case l_layers => exact ⟨_, _, _, _, _, _, _, _, _, by k_is, by k_is, by k_is⟩)
    (case a_are_equivalent => k_is)
    (case l_are_equivalent => exact ⟨_, _, _, _, _, _, _, _, _, by k_is, by k_is, by k_is⟩)
    (case a_flattened => k_is)
    (case l_flattened => exact ⟨_, _, _, _, _, _, _, _, _, by k_is, by k_is, by k_is⟩)
    (case a__law_parts => k_is)
    (case l__law_parts => exact ⟨_, _, _, _, _, _, _, _, _, by k_is, by k_is, by k_is⟩)
    (case a__law_table => k_is)
    (case l__law_table => exact ⟨_, _, _, _, _, _, _, _, _, by k_is, by k_is, by k_is⟩)
    (case a__law_followed => k_is)
    (case l__law_followed => exact ⟨_, _, _, _, _, _, _, _, _, by k_is, by k_is, by k_is⟩)
    (case a_law => k_is)
    (case l_law => exact ⟨_, _, _, _, _, _, _, _, _, by k_is, by k_is, by k_is⟩)
    (case z_int => k_is)
    (case z_isinstance => k_is)
    (case z_len => k_is)
    (case z_list => k_is)
    (case z_max => k_is)
    (case z_range => k_is)
    (case z_sorted => k_is)
    (case z_str => k_is)
