import PyProof.Rows.All
import Wide.All
import OpenK.AllK
import Wide.FinOn
import HandS.ForMost
import HandS.ForExc
import HandS.Wide
import HandS.DictTup
import HandS.Conv
import HandS.SortRule
import HandS.TupLe
import HandS.FStr
import HandS.RaiseMore
import HandS.IsInst
import HandS.NoneIn
import HandS.Style
import HandS.Zip
import HandS.Steps
import HandS.Evl
import HandS.TupLen
import HandS.Walk
import HandS.SortKw
import HandS.TryOnly
import HandS.WordsExc
import KE.DatumOrd
import KE.GoesZip
import KE.GoesMore
import KE.KTupSum
import OpenK.KOps
import HandS.TryMany
import HandS.Deep
import HandS.SortInts
import HandS.Codes
import HandS.SetBool
import HandS.Strs
import KE.DatumMore
import KE.DataEq
import KE.GoesEnumKw
import PyProof.Rows.CallKwBuiltin
import PyProof.StrLawsTight
import HandS.TupAny
import HandS.DictComp
import HandS.Defaults
import HandS.Star
import KE.KDictPairs
import PyProof.TupleOfSeq
import HandS.Dict
import HandS.Zip
import KE.KExcSuper
import HandS.ExcInit
import HandS.Nested
import HandS.ExcField
import HandS.HotCalls
import HandS.TupSets
import PySem.Challenge.RW_mingle_k72_fixed_and_other_inputs
set_option Elab.async false
set_option linter.all false
set_option maxRecDepth 100000
set_option maxHeartbeats 2000000
namespace Vf
open PySem L2
/-- a def of the text as it stands behind the top -/
def FunAt (K : PySem.W.Frag) (x qual : Str) (st : Stmt) (f : Addr) : Prop :=
  ∃ (oc : Value) (od : Option Addr) (kV doc pm : Value) (an : Option Addr) (cdv ct : Value) (osl : Array (Option Value)),
    K.lookup f = some ⟨oc, od, .func (PySem.W.fnOf x qual (defArgs st) (defBody st) (defScope st) .none kV doc pm an cdv ct), osl⟩ ∧ PySem.W.codeIn K cdv qual = true ∧ PySem.W.keepIn K (.ref f) = true
theorem FunAt.get {K : PySem.W.Frag} {x qual : Str} {st : Stmt} {f : Addr} (h : FunAt K x qual st f) : ∃ fd, Fun K x qual st f fd := by
  obtain ⟨oc, od, kV, doc, pm, an, cdv, ct, osl, q1, q2, q3⟩ := h
  exact ⟨_, fun_mk q1 q2 q3⟩
/-- what a law promises -/
def spLaw (K : PySem.W.Frag) : Sp := fun vs H Q _ => ∃ (a : Addr) (ns : List Int), vs = [.ref a] ∧ SqL K H a (ns.map V.int) ∧ ns.length ≤ 63 ∧ ∀ H', Q (.bl true) H'
end Vf
namespace Vf
open PySem L2
/-- an own exception class is met by its own clause -/
theorem exm_self {K : PySem.W.Frag} {c : Addr} (b : PySem.W.subIn K (.ref c) (.type "BaseException") = some true) (i : PySem.W.isClsIn K c = true) (t : PySem.W.typeIn K (.ref c) = some (.type "type")) (s : PySem.W.subIn K (.ref c) (.ref c) = some true) :
    PySem.W.exmOne K (.ref c) (.ref c) = some true := by
  unfold PySem.W.isClsIn at i
  simp [PySem.W.exmOne, PySem.W.kitCls, b, i, t, s]
end Vf
namespace Vf
open PySem L2
theorem ite_b {b : Bool} {A B : Prop} (h1 : b = true → A) (h2 : b = false → B) : if b = true then A else B := by
  cases b with
  | true => rw [if_pos rfl]; exact h1 rfl
  | false => rw [if_neg Bool.false_ne_true]; exact h2 rfl
/-- one way after a comparison's answer -/
theorem ite_d {c A B : Prop} [Decidable c] (h1 : c → A) (h2 : ¬ c → B) : if decide c = true then A else B :=
  ite_b (fun h => h1 (of_decide_eq_true h)) (fun h => h2 (of_decide_eq_false h))
theorem Same.new {H H' : Hp} {p : Addr} {o : HO} (e : Same H H') (h : H' p = none) : Same H (upd H' p o) := fun a u q => by
  have q' := e a u q
  rw [upd_ne (ne_of_none q' h)]
  exact q'
theorem Same.chg {H H' : Hp} {p : Addr} {o : HO} (e : Same H H') (h : H p = none) : Same H (upd H' p o) := fun a u q => by
  rw [upd_ne (ne_of_none q h)]
  exact e a u q
theorem Same.seqT {K : PySem.W.Frag} {H H' : Hp} {a : Addr} {xs : List V} (e : Same H H') (h : SqT K H a xs) : SqT K H' a xs := by
  rcases h with (h | ⟨o, h⟩) | h
  · exact .inl (.inl (e _ _ h))
  · exact .inl (.inr ⟨o, e _ _ h⟩)
  · exact .inr h
/-- the i-th of a list of ints -/
theorem int_at {ns : List Int} {i : Int} (h0 : 0 ≤ i) (h1 : i < ns.length) : atI (ns.map V.int) i = some (V.int (ns.getD i.toNat 0)) := by
  obtain ⟨j, rfl⟩ : ∃ j : Nat, i = (j : Int) := ⟨i.toNat, by omega⟩
  have hj : j < ns.length := by omega
  refine atI_nat ?_
  rw [List.getElem?_map, List.getElem?_eq_getElem hj]
  simp [List.getD, List.getElem?_eq_getElem hj]
theorem getD_mem {α : Type} {xs : List α} {j : Nat} {d : α} (h : j < xs.length) : xs.getD j d ∈ xs := by
  rw [List.getD_eq_getElem?_getD, List.getElem?_eq_getElem h]
  exact List.getElem_mem h
/-- a new list of ints -/
def NewInts (H : Hp) (Q : VK) (ok : List Int → Prop) : Prop := ∀ (p : Addr) (H' : Hp) (ds : List Int), H p = none → Same H H' → H' p = some (.lst (ds.map V.int)) → ok ds → Q (.ref p) H'
end Vf
namespace Vf
open PySem L2
section
variable {c : TT} {t1 t2 : TS} {D : Ends} {σ : L2.St} {H : Hp}
theorem st_if {b : Bool} (h : Ans c σ H b) (h1 : b = true → t1 D σ H) (h2 : b = false → t2 D σ H) : tIfS c t1 t2 D σ H := h _ (ite_b h1 h2)
end
end Vf
namespace Vf
theorem mod_w {x m : Int} (h : 0 < m) (h2 : m ≤ 2 ^ 64) : -(2 ^ 64) < x % m ∧ x % m < 2 ^ 64 := by
  have a := Int.emod_nonneg x (show m ≠ 0 by omega)
  have b := Int.emod_lt_of_pos x h
  exact ⟨by omega, by omega⟩
end Vf
namespace Vf
open PySem L2
section
variable {J : It} {n : Nat} {G : Hp → Prop} {Y : Nat → Hp → V → Hp → Prop} {g : TG} {te : TE} {vs : List Nat} {σ : L2.St} {H1 : Hp} {D : Addr} {Qd : Hp → Prop}
/-- a comprehension without tests: P of each made item, not of the list itself -/
theorem lc_rel (w : Walk J n G Y) (P : Nat → V → Hp → Prop) (hD : H1 D = none) (hP : ∀ i y H H' acc, H D = some (.lst acc) → (∀ a o, a ≠ D → H a = some o → H' a = some o) → P i y H → P i y H') (hn : n ≤ 1000000)
    (hG : ∀ H, Same H1 H → G H)
    (hs : ∀ i x H H' acc, i < n → Same H1 H → H D = some (.lst acc) → Y i H x H' → ∀ Q' : VK, (∀ y H4, Same H H4 → P i y H4 → Q' y H4) → g x (wipe σ vs) H' fun σ2 H2 => wipe σ2 vs = wipe σ vs ∧ te σ2 H2 Q')
    (hd : ∀ xs H, xs.length = n → Same H1 H → H D = some (.lst xs) → (∀ i y, xs[i]? = some y → P i y H) → Qd H) :
    ∃ W : Nat → Nat → Hp → Prop, (∃ m, W 0 m (upd H1 D (.lst []))) ∧ ∀ i m H, W i m H →
      (J.stop i H ∧ Qd H) ∨ (J.go i H ∧ ∃ Nx : Hp → Prop, (∀ H', Nx H' → ∃ m', m' < m ∧ W (i + 1) m' H') ∧ ∀ x H', J.yld i H x H' → g x (wipe σ vs) H' fun σ2 H2 => wipe σ2 vs = wipe σ vs ∧ tYes σ2 H2 fun b H3 =>
        if b = true then te σ2 H3 fun y H4 => ∃ acc, H4 D = some (.lst acc) ∧ acc.length < sizeLine ∧ Nx (upd H4 D (.lst (acc ++ [y]))) else Nx H3) := by
  refine lc_it w (fun i H => ∃ acc, H D = some (.lst acc) ∧ acc.length = i ∧ Same H1 H ∧ ∀ j y, acc[j]? = some y → P j y H) ⟨[], upd_same, rfl, Vf.Same.new (Same.refl H1) hD, fun j y h => by simp at h⟩ (fun i H _ ⟨_, _, _, s, _⟩ => hG H s) ?_ ?_
  · rintro i x H H' hi ⟨acc, hl, rfl, s, hp⟩ hy
    have key := hs acc.length x H H' acc hi s hl hy (fun y H4 => ∃ acc', H4 D = some (.lst acc') ∧ acc'.length < sizeLine ∧ ∃ a', (upd H4 D (.lst (acc' ++ [y]))) D = some (.lst a') ∧ a'.length = acc.length + 1 ∧ Same H1 (upd H4 D (.lst (acc' ++ [y]))) ∧ ∀ j z, a'[j]? = some z → P j z (upd H4 D (.lst (acc' ++ [y])))) fun y H4 s4 py => ?_
    · exact key
    · have h4 := s4 _ _ hl
      refine ⟨acc, h4, Nat.lt_of_le_of_lt (show acc.length ≤ 1000000 by omega) (by decide), acc ++ [y], upd_same, by simp, Vf.Same.chg (s.trans s4) hD, fun j z hz => ?_⟩
      have up : ∀ a o, a ≠ D → H4 a = some o → (upd H4 D (.lst (acc ++ [y]))) a = some o := fun a o ne e => by rw [upd_ne ne]; exact e
      by_cases hj : j < acc.length
      · rw [List.getElem?_append_left hj] at hz
        exact hP j z _ _ _ h4 up (hP j z _ _ _ hl (fun a o _ e => s4 a o e) (hp j z hz))
      · rw [List.getElem?_append_right (by omega)] at hz
        have e0 : j - acc.length = 0 := by
          cases q : j - acc.length with
          | zero => rfl
          | succ m => rw [q] at hz; simp at hz
        rw [e0] at hz
        have ez : y = z := Option.some.inj hz
        subst ez
        have ej : j = acc.length := by omega
        subst ej
        exact hP _ _ _ _ _ h4 up py
  · rintro H ⟨acc, hl, hn', s, hp⟩
    exact hd acc H hn' s hl hp
/-- .. the items plain values -/
theorem lc_val (w : Walk J n G Y) (f : Nat → V) (hD : H1 D = none) (hn : n ≤ 1000000) (hG : ∀ H, Same H1 H → G H)
    (hs : ∀ i x H H', i < n → Same H1 H → Y i H x H' → ∀ Q' : VK, (∀ H4, Same H H4 → Q' (f i) H4) → g x (wipe σ vs) H' fun σ2 H2 => wipe σ2 vs = wipe σ vs ∧ te σ2 H2 Q')
    (hd : ∀ H, Same H1 H → H D = some (.lst ((List.range n).map f)) → Qd H) :
    ∃ W : Nat → Nat → Hp → Prop, (∃ m, W 0 m (upd H1 D (.lst []))) ∧ ∀ i m H, W i m H →
      (J.stop i H ∧ Qd H) ∨ (J.go i H ∧ ∃ Nx : Hp → Prop, (∀ H', Nx H' → ∃ m', m' < m ∧ W (i + 1) m' H') ∧ ∀ x H', J.yld i H x H' → g x (wipe σ vs) H' fun σ2 H2 => wipe σ2 vs = wipe σ vs ∧ tYes σ2 H2 fun b H3 =>
        if b = true then te σ2 H3 fun y H4 => ∃ acc, H4 D = some (.lst acc) ∧ acc.length < sizeLine ∧ Nx (upd H4 D (.lst (acc ++ [y]))) else Nx H3) := by
  refine lc_rel w (fun i y _ => y = f i) hD (fun i y H H' acc _ _ h => h) hn hG (fun i x H H' acc hi s _ hy Q' q => hs i x H H' hi s hy Q' fun H4 s4 => q _ H4 s4 rfl) fun xs H hl s hx hp => hd H s ?_
  rw [hx]
  congr 2
  apply List.ext_getElem?
  intro i
  cases e : xs[i]? with
  | none =>
    have := List.getElem?_eq_none_iff.mp e
    rw [List.getElem?_eq_none (by simp; omega)]
  | some y =>
    have hi := (List.getElem?_eq_some_iff.mp e).1
    rw [List.getElem?_map, List.getElem?_range (by omega)]
    rw [hp i y e]
    rfl
end
end Vf
namespace Vf
open PySem L2
theorem upd_none {H : Hp} {a b : Addr} {o : HO} (h : upd H a o b = none) : b ≠ a ∧ H b = none := by
  by_cases e : b = a
  · subst e
    rw [upd_same] at h
    cases h
  · rw [upd_ne e] at h
    exact ⟨e, h⟩
end Vf
namespace Vf
open PySem L2
theorem chain_le {tc : TE} {σ : L2.St} {H : Hp} {Q : VK} {lo x hi : Int} (hc : ∀ R : VK, R (.int hi) H → tc σ H R) (h : Q (.bl (decide (lo ≤ x ∧ x ≤ hi))) H) :
    (rI0 fun i j => .bl (decide (i ≤ j))) (.int lo) (.int x) H (fun z H3 => ∃ k, z = .bl k ∧ (if k = true then tc σ H3 fun w' H4 => (rI0 fun i j => .bl (decide (i ≤ j))) (.int x) w' H4 Q else Q (.bl false) H3)) := by
  refine ⟨_, _, rfl, rfl, _, rfl, ?_⟩
  by_cases h1 : lo ≤ x
  · rw [decide_eq_true h1]
    refine iteT (hc _ ⟨_, _, rfl, rfl, ?_⟩)
    have e : decide (lo ≤ x ∧ x ≤ hi) = decide (x ≤ hi) := by simp [h1]
    rw [e] at h
    exact h
  · rw [decide_eq_false h1]
    have e : decide (lo ≤ x ∧ x ≤ hi) = false := by simp [h1]
    rw [e] at h
    exact iteF h
end Vf
namespace Vf
open PySem L2
theorem tyL {K : PySem.W.Frag} {H : Hp} {a : Addr} {xs : List V} (h : H a = some (.lst xs)) : tyV K "list" (.ref a) H := .inl ⟨rfl, _, SqL.of h⟩
end Vf
namespace Vf
open PySem L2
/-! rules whose readings name the written part by a letter (within a comprehension) -/
section
variable {X : Cx} {K : PySem.W.Frag}
theorem ix_listK (h : X.K = K) : IxR X (rIxL K) := by
  subst h
  exact ix_list
theorem ix_tupK (h : X.K = K) : IxR X (rIxT K) := by
  subst h
  exact ix_tup
theorem pe_fldK {e : Expr} {ta : TE} {f : Str} {pos : Pos} (h : X.K = K) (he : PE X e ta) (hb : attributeBase e f X.env (eval e X.env) = eval e X.env) : PE X (.Attribute e f pos) (tFld K ta f) := by
  subst h
  exact pe_fld he hb
theorem call_len_seqK (h : X.K = K) : CallR X (.builtin "len") (fun xs H Q => ∃ p ys, xs = [.ref p] ∧ (SqL K H p ys ∨ SqT K H p ys) ∧ Q (.int ys.length) H) := by
  subst h
  exact call_len_seq
theorem call_tuple_ofK (h : X.K = K) : CallR X (.type "tuple") (fun xs H Q => ∃ p ys, xs = [.ref p] ∧ ((SqL K H p ys ∧ ∀ l, H l = none → Q (.ref l) (upd H l (.tup ys))) ∨ (SqT K H p ys ∧ Q (.ref p) H))) := by
  subst h
  exact call_tuple_of
end
end Vf
namespace Vf
open PySem L2
/-- an f-string's reading, by a name -/
def tJoin (ts : List TE) : TE := fun σ H Q => tJs ts Str.empty σ H fun out H1 => Q (.str out) H1
theorem pe_join {X : Cx} {v1 v2 : Expr} {rest : List Expr} {ts : List TE} {pos : Pos} (h : PJ X (v1 :: v2 :: rest) ts) : PE X (.JoinedStr (v1 :: v2 :: rest) pos) (tJoin ts) := pe_joined h
end Vf

namespace Vf
open PySem L2
/-! ### texts -/
theorem num_len {i : Int} (h : i.natAbs.log2 < 1920) : (Str.ofString (toString i)).length ≤ 2000 := by
  have e := int_text_length_le (k := 1920) (by decide) h
  rw [ofString_length]
  omega
theorem len2 {a b : Str} {m n k : Nat} (ha : a.length ≤ m) (hb : b.length ≤ n) (h : m + n ≤ k) : (a ++ b).length ≤ k := by
  rw [Str.length_append]
  omega
theorem len0 : Str.empty.length ≤ 0 := Nat.le_refl _
theorem line {n : Nat} (h : n ≤ 10000000) : n ≤ sizeLine := Nat.le_trans h (by decide)
theorem fits {s : Str} {n : Nat} (h : s.length ≤ n) (hn : n ≤ 10000000) : s.length ≤ sizeLine := Nat.le_trans h (line hn)
/-- point 3 -/
def lowC (c : Nat) : Bool := decide (97 ≤ c ∧ c ≤ 122)
def digC (c : Nat) : Bool := decide (48 ≤ c ∧ c ≤ 57)
def isNameL (l : List Nat) : Bool := decide (1 ≤ l.length) && decide (l.length ≤ 12) && l.head?.any lowC && l.all fun c => lowC c || digC c
def isName (s : Str) : Bool := isNameL s.cps.toList
theorem isNameL_bad {l : List Nat} (h : (!(decide ((1 : Int) ≤ (l.length : Int)) && decide ((l.length : Int) ≤ 12))) = true) : isNameL l = false := by
  unfold isNameL
  by_cases h1 : 1 ≤ l.length
  · by_cases h2 : l.length ≤ 12
    · exfalso
      rw [decide_eq_true (show (1 : Int) ≤ (l.length : Int) by omega), decide_eq_true (show (l.length : Int) ≤ 12 by omega)] at h
      cases h
    · rw [decide_eq_false h2]
      simp
  · rw [decide_eq_false h1]
    simp
theorem isNameL_ok {l : List Nat} (h : (!(decide ((1 : Int) ≤ (l.length : Int)) && decide ((l.length : Int) ≤ 12))) = false) : ∃ c r, l = c :: r ∧ isNameL l = (lowC c && l.all fun c => lowC c || digC c) := by
  rw [Bool.not_eq_false', Bool.and_eq_true, decide_eq_true_eq, decide_eq_true_eq] at h
  cases l with
  | nil => simp at h
  | cons c r =>
    refine ⟨c, r, rfl, ?_⟩
    unfold isNameL
    rw [decide_eq_true (show 1 ≤ (c :: r).length by simp), decide_eq_true (show (c :: r).length ≤ 12 by omega)]
    simp
theorem name_any (l : List Nat) (n : Nat) (h : n = l.length) : ((List.range n).map fun i => lowC (l.getD i 0) || digC (l.getD i 0)).all id = l.all fun c => lowC c || digC c := by
  subst h
  have e3 : (List.range l.length).map (fun i => l.getD i 0) = l := by
    apply List.ext_getElem?
    intro i
    rw [List.getElem?_map]
    by_cases hi : i < l.length
    · rw [List.getElem?_range hi, List.getElem?_eq_getElem hi]
      simp [List.getD, hi]
    · rw [List.getElem?_eq_none (by simp; omega), List.getElem?_eq_none (by omega)]
      rfl
  rw [show (fun i => lowC (l.getD i 0) || digC (l.getD i 0)) = (fun c => lowC c || digC c) ∘ fun i => l.getD i 0 from rfl, ← List.map_map, e3, List.all_map]
  rfl
def LETTERS : Str := "abcdefghijklmnopqrstuvwxyz"
def DIGITS : Str := "0123456789"
theorem letters_eq : LETTERS.cps.toList = (List.range 26).map (· + 97) := by decide +kernel
theorem digits_eq : DIGITS.cps.toList = (List.range 10).map (· + 48) := by decide +kernel
theorem in_letters (c : Nat) : decide (c ∈ LETTERS.cps.toList) = lowC c := by
  rw [letters_eq, lowC, Bool.eq_iff_iff, decide_eq_true_iff, decide_eq_true_iff, List.mem_map]
  constructor
  · rintro ⟨a, h, rfl⟩
    rw [List.mem_range] at h
    omega
  · intro h
    exact ⟨c - 97, List.mem_range.mpr (by omega), by omega⟩
theorem in_digits (c : Nat) : decide (c ∈ DIGITS.cps.toList) = digC c := by
  rw [digits_eq, digC, Bool.eq_iff_iff, decide_eq_true_iff, decide_eq_true_iff, List.mem_map]
  constructor
  · rintro ⟨a, h, rfl⟩
    rw [List.mem_range] at h
    omega
  · intro h
    exact ⟨c - 48, List.mem_range.mpr (by omega), by omega⟩
theorem name_len {s : Str} (h : isName s = true) : s.length ≤ 12 := by
  unfold isName isNameL at h
  simp only [Bool.and_eq_true, decide_eq_true_eq] at h
  show s.cps.size ≤ 12
  have := h.1.1.2
  simpa using this

/-! ### lists of tuples -/
/-- a list of new tuples of the parts -/
def Tups {α : Type} (enc : α → List V) (H : Hp) (xs : List V) (l : List α) : Prop := xs.length = l.length ∧ ∀ (i : Nat) (a : α), l[i]? = some a → ∃ t, xs[i]? = some (.ref t) ∧ H t = some (.tup (enc a))
section
variable {α : Type} {enc : α → List V} {H H' : Hp} {xs : List V} {l : List α}
theorem Tups.nil : Tups enc H [] [] := ⟨rfl, fun i a h => by simp at h⟩
theorem Tups.mono (h : Tups enc H xs l) (k : ∀ t ys, H t = some (.tup ys) → H' t = some (.tup ys)) : Tups enc H' xs l := ⟨h.1, fun i a e => by
  obtain ⟨t, h1, h2⟩ := h.2 i a e
  exact ⟨t, h1, k _ _ h2⟩⟩
theorem Tups.same (h : Tups enc H xs l) (e : Same H H') : Tups enc H' xs l := h.mono fun t ys => e t _
theorem Tups.snoc (h : Tups enc H xs l) {t : Addr} {a : α} (ht : H t = some (.tup (enc a))) : Tups enc H (xs ++ [.ref t]) (l ++ [a]) := by
  refine ⟨by simp [h.1], fun i b e => ?_⟩
  by_cases hi : i < l.length
  · rw [List.getElem?_append_left hi] at e
    obtain ⟨u, h1, h2⟩ := h.2 i b e
    exact ⟨u, by rw [List.getElem?_append_left (by rw [h.1]; exact hi)]; exact h1, h2⟩
  · rw [List.getElem?_append_right (by omega)] at e
    have z : i - l.length = 0 := by
      cases q : i - l.length with
      | zero => rfl
      | succ n => rw [q] at e; simp at e
    rw [z] at e
    have ea : a = b := Option.some.inj e
    subst ea
    exact ⟨t, by rw [List.getElem?_append_right (by rw [h.1]; omega), h.1, z]; rfl, ht⟩
theorem Tups.get (h : Tups enc H xs l) {i : Nat} {x : V} (e : xs[i]? = some x) : ∃ a t, l[i]? = some a ∧ x = .ref t ∧ H t = some (.tup (enc a)) := by
  have hi := (List.getElem?_eq_some_iff.mp e).1
  have hl : i < l.length := by rw [← h.1]; exact hi
  obtain ⟨t, h1, h2⟩ := h.2 i l[i] (List.getElem?_eq_getElem hl)
  rw [e] at h1
  exact ⟨l[i], t, List.getElem?_eq_getElem hl, Option.some.inj h1, h2⟩
end
abbrev S4 := Str × Str × Str × Str
def enc2 (p : Str × Str) : List V := [.str p.1, .str p.2]
def enc4 (r : S4) : List V := [.str r.1, .str r.2.1, .str r.2.2.1, .str r.2.2.2]

/-! ### names numbered -/
/-- the pairs of the dict of numbers -/
def numK (st : List Str) : List (Key × V) := st.zipIdx.map fun p => (Sum.inr p.1, V.int (p.2 : Int))
theorem numK_snoc (st : List Str) (s : Str) : numK (st ++ [s]) = numK st ++ [(Sum.inr s, V.int (st.length : Int))] := by
  unfold numK
  rw [List.zipIdx_append, List.map_append]
  simp
theorem numK_len (st : List Str) : (numK st).length = st.length := by
  unfold numK
  simp
theorem valV_app {κ : Type} [DecidableEq κ] (k : κ) (b : List (κ × V)) : ∀ a : List (κ × V), valV (a ++ b) k = (valV a k).or (valV b k)
  | [] => by simp [valV]
  | p :: r => by
    by_cases e : p.1 = k
    · rw [List.cons_append, valV_pos e, valV_pos e]
      rfl
    · rw [List.cons_append, valV_neg e, valV_neg e, valV_app k b r]
theorem num_val_from : ∀ (st : List Str) (n : Nat) (s : Str), valV ((st.zipIdx n).map fun p => ((Sum.inr p.1 : Key), V.int (p.2 : Int))) (Sum.inr s) = if s ∈ st then some (V.int ((n + st.idxOf s : Nat) : Int)) else none
  | [], n, s => rfl
  | t :: st, n, s => by
    rw [List.zipIdx_cons, List.map_cons]
    by_cases e : t = s
    · subst e
      rw [valV_pos rfl, if_pos List.mem_cons_self, List.idxOf_cons_self]
      rfl
    · rw [valV_neg (by intro z; exact e (Sum.inr.inj z)), num_val_from st (n + 1) s]
      have e' : (t == s) = false := by simpa using e
      by_cases hm : s ∈ st
      · rw [if_pos hm, if_pos (List.mem_cons_of_mem _ hm), List.idxOf_cons, e']
        simp only [cond_false]
        congr 3
        omega
      · rw [if_neg hm, if_neg (by simp [hm, Ne.symm e])]
theorem num_val (st : List Str) (s : Str) : valV (numK st) (Sum.inr s) = if s ∈ st then some (V.int (st.idxOf s : Int)) else none := by
  have h := num_val_from st 0 s
  simpa [numK] using h
end Vf
namespace Vf
open PySem L2
/-! ### a draft of a protocol -/
structure DA where
  ls : Addr
  li : Addr
  ll : Addr
  lr : Addr
  lo : Addr
  dn : Addr
  dr : Addr
structure DD where
  st : List Str
  ins : List (Str × Str)
  ld : List Str
  ru : List S4
  ou : List Int
def DD.nil : DD := ⟨[], [], [], [], []⟩
def DA.foot (a : DA) : List Addr := [a.ls, a.li, a.ll, a.lr, a.lo, a.dn, a.dr]
def dFs (a : DA) : List (Str × V) := [("states", .ref a.ls), ("inputs", .ref a.li), ("leaders", .ref a.ll), ("rules", .ref a.lr), ("outputs", .ref a.lo), ("numbers", .ref a.dn), ("results", .ref a.dr)]
theorem dFs_new (a : DA) : putF "results" (.ref a.dr) (putF "numbers" (.ref a.dn) (putF "outputs" (.ref a.lo) (putF "rules" (.ref a.lr) (putF "leaders" (.ref a.ll) (putF "inputs" (.ref a.li) (putF "states" (.ref a.ls) [])))))) = dFs a := by rfl
def ix (st : List Str) (s : Str) : Int := (st.idxOf s : Int)
def ruKey (st : List Str) (r : S4) : List Key := [Sum.inl (ix st r.1), Sum.inl (ix st r.2.1)]
def encR (st : List Str) (r : S4) : List V := [.int (ix st r.2.2.1), .int (ix st r.2.2.2)]
/-- the dict of the results of rules -/
structure Res (H : Hp) (st : List Str) (ru : List S4) (kvs : List (List Key × V)) : Prop where
  keys : kvs.map (·.1) = ru.map (ruKey st)
  vals : Tups (encR st) H (kvs.map (·.2)) ru
structure DraftAt (C : Addr) (H : Hp) (p : Addr) (a : DA) (D : DD) : Prop where
  ob : ∃ dx, H p = some (.ins C dx (dFs a))
  ls : H a.ls = some (.lst (D.st.map V.str))
  li : ∃ xs, H a.li = some (.lst xs) ∧ Tups enc2 H xs D.ins
  ll : H a.ll = some (.lst (D.ld.map V.str))
  lr : ∃ xs, H a.lr = some (.lst xs) ∧ Tups enc4 H xs D.ru
  lo : H a.lo = some (.lst (D.ou.map V.int))
  dn : H a.dn = some (.dK (numK D.st))
  dr : ∃ kvs, H a.dr = some (.dT kvs) ∧ Res H D.st D.ru kvs
  nd : [a.ls, a.li, a.ll, a.lr, a.lo].Nodup
/-- all but these objects are as they were -/
def Keep (S : List Addr) (H H' : Hp) : Prop := ∀ b o, b ∉ S → H b = some o → H' b = some o
theorem Keep.refl {S : List Addr} (H : Hp) : Keep S H H := fun _ _ _ h => h
theorem Keep.trans {S : List Addr} {H H1 H2 : Hp} (a : Keep S H H1) (b : Keep S H1 H2) : Keep S H H2 := fun c o n h => b c o n (a c o n h)
theorem Keep.of {S : List Addr} {H H' : Hp} (e : Same H H') : Keep S H H' := fun b o _ h => e b o h
theorem Keep.put {S : List Addr} {H H' : Hp} {p : Addr} {o : HO} (e : Keep S H H') (h : p ∈ S) : Keep S H (upd H' p o) := fun b u n q => by
  have ne : b ≠ p := fun z => n (by rw [z]; exact h)
  rw [upd_ne ne]
  exact e b u n q
theorem Tups.keep {α : Type} {enc : α → List V} {S : List Addr} {H H' : Hp} {xs : List V} {l : List α} (h : Tups enc H xs l) (k : Keep S H H') (n : ∀ t ys, H t = some (.tup ys) → t ∉ S) : Tups enc H' xs l := h.mono fun t ys e => k t _ (n t ys e) e
section
variable {C : Addr} {H H' : Hp} {p : Addr} {a : DA} {D : DD}
theorem DraftAt.notup (S : DraftAt C H p a D) (t : Addr) (ys : List V) (h : H t = some (.tup ys)) : t ∉ a.foot := by
  obtain ⟨_, h1, _⟩ := S.li
  obtain ⟨_, h2, _⟩ := S.lr
  obtain ⟨_, h3, _⟩ := S.dr
  intro m
  simp only [DA.foot, List.mem_cons, List.not_mem_nil, or_false] at m
  rcases m with rfl | rfl | rfl | rfl | rfl | rfl | rfl
  · rw [S.ls] at h; cases h
  · rw [h1] at h; cases h
  · rw [S.ll] at h; cases h
  · rw [h2] at h; cases h
  · rw [S.lo] at h; cases h
  · rw [S.dn] at h; cases h
  · rw [h3] at h; cases h
theorem Res.same {st : List Str} {ru : List S4} {kvs : List (List Key × V)} (h : Res H st ru kvs) (k : ∀ t ys, H t = some (.tup ys) → H' t = some (.tup ys)) : Res H' st ru kvs := ⟨h.keys, h.vals.mono k⟩
theorem DraftAt.same (S : DraftAt C H p a D) (e : Same H H') : DraftAt C H' p a D := by
  obtain ⟨dx, h0⟩ := S.ob
  obtain ⟨_, h1, t1⟩ := S.li
  obtain ⟨_, h2, t2⟩ := S.lr
  obtain ⟨_, h3, t3⟩ := S.dr
  exact ⟨⟨dx, e _ _ h0⟩, e _ _ S.ls, ⟨_, e _ _ h1, t1.same e⟩, e _ _ S.ll, ⟨_, e _ _ h2, t2.same e⟩, e _ _ S.lo, e _ _ S.dn, ⟨_, e _ _ h3, t3.same fun t ys => e t _⟩, S.nd⟩
end
end Vf
namespace Vf
open PySem L2
section
variable {C : Addr} {H H' : Hp} {p : Addr} {a : DA} {D D' : DD}
/-- all of its objects are different ones -/
structure Dist (p : Addr) (a : DA) : Prop where
  pa : p ≠ a.ls
  pb : p ≠ a.li
  pc : p ≠ a.ll
  pd : p ≠ a.lr
  pe : p ≠ a.lo
  pf : p ≠ a.dn
  pg : p ≠ a.dr
  ab : a.ls ≠ a.li
  ac : a.ls ≠ a.ll
  ad : a.ls ≠ a.lr
  ae : a.ls ≠ a.lo
  af : a.ls ≠ a.dn
  ag : a.ls ≠ a.dr
  bc : a.li ≠ a.ll
  bd : a.li ≠ a.lr
  be : a.li ≠ a.lo
  bf : a.li ≠ a.dn
  bg : a.li ≠ a.dr
  cd : a.ll ≠ a.lr
  ce : a.ll ≠ a.lo
  cf : a.ll ≠ a.dn
  cg : a.ll ≠ a.dr
  de : a.lr ≠ a.lo
  df : a.lr ≠ a.dn
  dg : a.lr ≠ a.dr
  ef : a.lo ≠ a.dn
  eg : a.lo ≠ a.dr
  fg : a.dn ≠ a.dr
theorem DraftAt.dist (S : DraftAt C H p a D) : Dist p a := by
  obtain ⟨_, h0⟩ := S.ob
  obtain ⟨_, h1, _⟩ := S.li
  obtain ⟨_, h2, _⟩ := S.lr
  obtain ⟨_, h3, _⟩ := S.dr
  have n := S.nd
  simp only [List.nodup_cons, List.mem_cons, List.not_mem_nil, or_false, not_or, not_false_eq_true, List.nodup_nil, and_true] at n
  obtain ⟨⟨n1, n2, n3, n4⟩, ⟨n5, n6, n7⟩, ⟨n8, n9⟩, n10⟩ := n
  refine ⟨ne_of h0 S.ls ?_, ne_of h0 h1 ?_, ne_of h0 S.ll ?_, ne_of h0 h2 ?_, ne_of h0 S.lo ?_, ne_of h0 S.dn ?_, ne_of h0 h3 ?_, n1, n2, n3, n4, ne_of S.ls S.dn ?_, ne_of S.ls h3 ?_, n5, n6, n7, ne_of h1 S.dn ?_, ne_of h1 h3 ?_, n8, n9, ne_of S.ll S.dn ?_, ne_of S.ll h3 ?_, n10, ne_of h2 S.dn ?_, ne_of h2 h3 ?_, ne_of S.lo S.dn ?_, ne_of S.lo h3 ?_, ne_of S.dn h3 ?_⟩ <;> (intro z; cases z)
theorem Dist.pn (d : Dist p a) : p ∉ a.foot := by
  intro m
  simp only [DA.foot, List.mem_cons, List.not_mem_nil, or_false] at m
  rcases m with m | m | m | m | m | m | m
  · exact d.pa m
  · exact d.pb m
  · exact d.pc m
  · exact d.pd m
  · exact d.pe m
  · exact d.pf m
  · exact d.pg m
theorem DraftAt.next (S : DraftAt C H p a D) (k : Keep a.foot H H') (ls : H' a.ls = some (.lst (D'.st.map V.str))) (li : ∃ xs, H' a.li = some (.lst xs) ∧ Tups enc2 H' xs D'.ins) (ll : H' a.ll = some (.lst (D'.ld.map V.str)))
    (lr : ∃ xs, H' a.lr = some (.lst xs) ∧ Tups enc4 H' xs D'.ru) (lo : H' a.lo = some (.lst (D'.ou.map V.int))) (dn : H' a.dn = some (.dK (numK D'.st))) (dr : ∃ kvs, H' a.dr = some (.dT kvs) ∧ Res H' D'.st D'.ru kvs) : DraftAt C H' p a D' := by
  obtain ⟨dx, h0⟩ := S.ob
  exact ⟨⟨dx, k p _ S.dist.pn h0⟩, ls, li, ll, lr, lo, dn, dr, S.nd⟩
theorem DraftAt.li' (S : DraftAt C H p a D) (k : Keep a.foot H H') (e : H' a.li = H a.li) : ∃ xs, H' a.li = some (.lst xs) ∧ Tups enc2 H' xs D.ins := by
  obtain ⟨xs, h, t⟩ := S.li
  exact ⟨xs, e.trans h, t.keep k S.notup⟩
theorem DraftAt.lr' (S : DraftAt C H p a D) (k : Keep a.foot H H') (e : H' a.lr = H a.lr) : ∃ xs, H' a.lr = some (.lst xs) ∧ Tups enc4 H' xs D.ru := by
  obtain ⟨xs, h, t⟩ := S.lr
  exact ⟨xs, e.trans h, t.keep k S.notup⟩
theorem DraftAt.dr' (S : DraftAt C H p a D) (k : Keep a.foot H H') (e : H' a.dr = H a.dr) : ∃ kvs, H' a.dr = some (.dT kvs) ∧ Res H' D.st D.ru kvs := by
  obtain ⟨xs, h, t⟩ := S.dr
  exact ⟨xs, e.trans h, t.same fun u ys z => k u _ (S.notup u ys z) z⟩
end
theorem cat {a b : Str} {m n : Nat} (ha : a.length ≤ m) (hb : b.length ≤ n) : (a ++ b).length ≤ m + n := len2 ha hb (Nat.le_refl _)
theorem lit {a : Str} (h : decide (a.length ≤ 200) = true) : a.length ≤ 200 := of_decide_eq_true h
/-! ### what may be added (point 4) -/
def DD.okState (D : DD) (name : Str) (output : Int) : Bool := decide (D.st.length < 400) && isName name && decide (name ∉ D.st) && decide (0 ≤ output ∧ output ≤ 9)
def DD.addState (D : DD) (name : Str) (output : Int) : DD := { D with st := D.st ++ [name], ou := D.ou ++ [output] }
def DD.okInput (D : DD) (p : Str × Str) : Bool := decide (D.ins.length < 8) && isName p.1 && decide (p.1 ∉ D.ins.map (·.1)) && decide (p.2 ∈ D.st)
def DD.addInput (D : DD) (p : Str × Str) : DD := { D with ins := D.ins ++ [p] }
def DD.okLeader (D : DD) (s : Str) : Bool := decide (D.ld.length < 10) && decide (s ∈ D.st)
def DD.addLeader (D : DD) (s : Str) : DD := { D with ld := D.ld ++ [s] }
def DD.okRule (D : DD) (r : S4) : Bool := decide (r.1 ∈ D.st) && decide (r.2.1 ∈ D.st) && decide (r.2.2.1 ∈ D.st) && decide (r.2.2.2 ∈ D.st) && decide ((r.1, r.2.1) ∉ D.ru.map fun x => (x.1, x.2.1))
def DD.addRule (D : DD) (r : S4) : DD := { D with ru := D.ru ++ [r] }
end Vf
namespace Vf
open PySem L2
abbrev Sm (s : Str) : Prop := s.length ≤ 1000000
theorem sm_lit {a : Str} (h : decide (a.length ≤ 200) = true) : Sm a := Nat.le_trans (of_decide_eq_true h) (by decide)
theorem sm_num {i : Int} (h : i.natAbs.log2 < 1920) : Sm (Str.ofString (toString i)) := Nat.le_trans (num_len h) (by decide)
theorem fit0 {k : Nat} {s : Str} (h : s.length ≤ k * 1000000) (hk : k ≤ 16) : s.length ≤ sizeLine := Nat.le_trans h (by rw [sizeLine_eq]; omega)
theorem fit1 {a : Str} (ha : Sm a) : (Str.empty ++ a).length ≤ sizeLine := by
  refine fit0 (k := 1) ?_ (by decide)
  simp only [Str.length_append, Sm] at *
  have h0 : Str.empty.length = 0 := rfl
  omega
theorem fit2 {a b : Str} (ha : Sm a) (hb : Sm b) : ((Str.empty ++ a) ++ b).length ≤ sizeLine := by
  refine fit0 (k := 2) ?_ (by decide)
  simp only [Str.length_append, Sm] at *
  have h0 : Str.empty.length = 0 := rfl
  omega
theorem fit3 {a b c : Str} (ha : Sm a) (hb : Sm b) (hc : Sm c) : (((Str.empty ++ a) ++ b) ++ c).length ≤ sizeLine := by
  refine fit0 (k := 3) ?_ (by decide)
  simp only [Str.length_append, Sm] at *
  have h0 : Str.empty.length = 0 := rfl
  omega
theorem fit4 {a b c d : Str} (ha : Sm a) (hb : Sm b) (hc : Sm c) (hd : Sm d) : ((((Str.empty ++ a) ++ b) ++ c) ++ d).length ≤ sizeLine := by
  refine fit0 (k := 4) ?_ (by decide)
  simp only [Str.length_append, Sm] at *
  have h0 : Str.empty.length = 0 := rfl
  omega
theorem fit5 {a b c d e : Str} (ha : Sm a) (hb : Sm b) (hc : Sm c) (hd : Sm d) (he : Sm e) : (((((Str.empty ++ a) ++ b) ++ c) ++ d) ++ e).length ≤ sizeLine := by
  refine fit0 (k := 5) ?_ (by decide)
  simp only [Str.length_append, Sm] at *
  have h0 : Str.empty.length = 0 := rfl
  omega
theorem fit6 {a b c d e f : Str} (ha : Sm a) (hb : Sm b) (hc : Sm c) (hd : Sm d) (he : Sm e) (hf : Sm f) : ((((((Str.empty ++ a) ++ b) ++ c) ++ d) ++ e) ++ f).length ≤ sizeLine := by
  refine fit0 (k := 6) ?_ (by decide)
  simp only [Str.length_append, Sm] at *
  have h0 : Str.empty.length = 0 := rfl
  omega
theorem fit7 {a b c d e f g : Str} (ha : Sm a) (hb : Sm b) (hc : Sm c) (hd : Sm d) (he : Sm e) (hf : Sm f) (hg : Sm g) : (((((((Str.empty ++ a) ++ b) ++ c) ++ d) ++ e) ++ f) ++ g).length ≤ sizeLine := by
  refine fit0 (k := 7) ?_ (by decide)
  simp only [Str.length_append, Sm] at *
  have h0 : Str.empty.length = 0 := rfl
  omega
theorem fit8 {a b c d e f g h : Str} (ha : Sm a) (hb : Sm b) (hc : Sm c) (hd : Sm d) (he : Sm e) (hf : Sm f) (hg : Sm g) (hh : Sm h) : ((((((((Str.empty ++ a) ++ b) ++ c) ++ d) ++ e) ++ f) ++ g) ++ h).length ≤ sizeLine := by
  refine fit0 (k := 8) ?_ (by decide)
  simp only [Str.length_append, Sm] at *
  have h0 : Str.empty.length = 0 := rfl
  omega
theorem fit9 {a b c d e f g h i : Str} (ha : Sm a) (hb : Sm b) (hc : Sm c) (hd : Sm d) (he : Sm e) (hf : Sm f) (hg : Sm g) (hh : Sm h) (hi : Sm i) : (((((((((Str.empty ++ a) ++ b) ++ c) ++ d) ++ e) ++ f) ++ g) ++ h) ++ i).length ≤ sizeLine := by
  refine fit0 (k := 9) ?_ (by decide)
  simp only [Str.length_append, Sm] at *
  have h0 : Str.empty.length = 0 := rfl
  omega
theorem fit10 {a b c d e f g h i j : Str} (ha : Sm a) (hb : Sm b) (hc : Sm c) (hd : Sm d) (he : Sm e) (hf : Sm f) (hg : Sm g) (hh : Sm h) (hi : Sm i) (hj : Sm j) : ((((((((((Str.empty ++ a) ++ b) ++ c) ++ d) ++ e) ++ f) ++ g) ++ h) ++ i) ++ j).length ≤ sizeLine := by
  refine fit0 (k := 10) ?_ (by decide)
  simp only [Str.length_append, Sm] at *
  have h0 : Str.empty.length = 0 := rfl
  omega
end Vf
namespace Vf
open PySem L2
theorem inV_str (s : Str) (l : List Str) : inV (.str s) (l.map V.str) = decide (s ∈ l) := by
  unfold inV
  rw [Bool.eq_iff_iff, List.any_eq_true, decide_eq_true_iff]
  constructor
  · rintro ⟨y, hy, h⟩
    obtain ⟨t, ht, rfl⟩ := List.mem_map.mp hy
    have e : (t == s) = true := h
    rw [beq_iff_eq] at e
    rw [← e]
    exact ht
  · intro h
    exact ⟨.str s, List.mem_map.mpr ⟨s, h, rfl⟩, (beq_self_eq_true s : (s == s) = true)⟩
theorem flat_str (l : List Str) : (l.map V.str).all flatV = true := by
  rw [List.all_eq_true]
  intro x hx
  obtain ⟨t, _, rfl⟩ := List.mem_map.mp hx
  rfl
theorem range_map {α : Type} (l : List α) (f : α → V) (d : α) (n : Nat) (h : n = l.length) : ((List.range n).map fun i => f (l.getD i d)) = l.map f := by
  subst h
  apply List.ext_getElem?
  intro i
  rw [List.getElem?_map, List.getElem?_map]
  by_cases hi : i < l.length
  · rw [List.getElem?_range hi, List.getElem?_eq_getElem hi]
    simp [List.getD, hi]
  · rw [List.getElem?_eq_none (by simp; omega), List.getElem?_eq_none (by omega)]
    rfl
theorem ix_inj {st : List Str} {s t : Str} (hs : s ∈ st) (ht : t ∈ st) (h : ix st s = ix st t) : s = t := by
  have e : st.idxOf s = st.idxOf t := by
    unfold ix at h
    omega
  have a := List.getElem_idxOf (List.idxOf_lt_length_of_mem hs)
  have b := List.getElem_idxOf (List.idxOf_lt_length_of_mem ht)
  rw [← a, ← b]
  congr 1
/-- the four names of a rule -/
def r4 (r : S4) : List Str := [r.1, r.2.1, r.2.2.1, r.2.2.2]
theorem enc4_eq (r : S4) : enc4 r = (r4 r).map V.str := rfl
theorem num_in {st : List Str} {s : Str} (h : s ∈ st) : valV (numK st) (Sum.inr s) = some (V.int (ix st s)) := by
  rw [num_val, if_pos h]
  rfl
theorem key_none {H : Hp} {D : DD} {kvs : List (List Key × V)} (R : Res H D.st D.ru kvs) {r : S4} (h1 : r.1 ∈ D.st) (h2 : r.2.1 ∈ D.st) (hw : ∀ x ∈ D.ru, x.1 ∈ D.st ∧ x.2.1 ∈ D.st) :
    (!(valV kvs (ruKey D.st r)).isSome) = decide ((r.1, r.2.1) ∉ D.ru.map fun x => (x.1, x.2.1)) := by
  have e : (valV kvs (ruKey D.st r)).isSome = true ↔ ruKey D.st r ∈ D.ru.map (ruKey D.st) := by
    rw [← R.keys, ← valV_any, List.any_eq_true, List.mem_map]
    constructor
    · rintro ⟨x, hx, h⟩
      exact ⟨x, hx, of_decide_eq_true h⟩
    · rintro ⟨x, hx, h⟩
      exact ⟨x, hx, decide_eq_true h⟩
  by_cases hm : (r.1, r.2.1) ∈ D.ru.map fun x => (x.1, x.2.1)
  · have hm2 : ruKey D.st r ∈ D.ru.map (ruKey D.st) := by
      obtain ⟨x, hx, ex⟩ := List.mem_map.mp hm
      have e1 : x.1 = r.1 := (Prod.mk.inj ex).1
      have e2 : x.2.1 = r.2.1 := (Prod.mk.inj ex).2
      refine List.mem_map.mpr ⟨x, hx, ?_⟩
      unfold ruKey
      rw [e1, e2]
    rw [e.mpr hm2, decide_eq_false (fun z => z hm)]
    rfl
  · have hm2 : ruKey D.st r ∉ D.ru.map (ruKey D.st) := by
      intro h
      obtain ⟨x, hx, ex⟩ := List.mem_map.mp h
      unfold ruKey at ex
      simp only [List.cons.injEq, Sum.inl.injEq, and_true] at ex
      obtain ⟨w1, w2⟩ := hw x hx
      exact hm (List.mem_map.mpr ⟨x, hx, by rw [ix_inj w1 h1 ex.1, ix_inj w2 h2 ex.2]⟩)
    have e3 : (valV kvs (ruKey D.st r)).isSome = false := by
      cases q : (valV kvs (ruKey D.st r)).isSome with
      | false => rfl
      | true => exact absurd (e.mp q) hm2
    rw [e3, decide_eq_true hm]
    rfl
theorem key_new {H : Hp} {D : DD} {kvs : List (List Key × V)} (R : Res H D.st D.ru kvs) {r : S4} (h1 : r.1 ∈ D.st) (h2 : r.2.1 ∈ D.st) (hw : ∀ x ∈ D.ru, x.1 ∈ D.st ∧ x.2.1 ∈ D.st) (hn : (r.1, r.2.1) ∉ D.ru.map fun x => (x.1, x.2.1)) : valV kvs (ruKey D.st r) = none := by
  have h := key_none R h1 h2 hw
  rw [decide_eq_true hn] at h
  cases e : valV kvs (ruKey D.st r) with
  | none => rfl
  | some v => rw [e] at h; cases h
theorem Res.snoc {H H' : Hp} {st : List Str} {ru : List S4} {kvs : List (List Key × V)} (R : Res H st ru kvs) (k : ∀ t ys, H t = some (.tup ys) → H' t = some (.tup ys)) {r : S4} {t : Addr} (ht : H' t = some (.tup (encR st r))) : Res H' st (ru ++ [r]) (kvs ++ [(ruKey st r, .ref t)]) := by
  have R' := R.same k
  refine ⟨by rw [List.map_append, List.map_append, R'.keys]; rfl, ?_⟩
  rw [List.map_append]
  exact R'.vals.snoc ht
theorem Res.len {H : Hp} {st : List Str} {ru : List S4} {kvs : List (List Key × V)} (R : Res H st ru kvs) : kvs.length = ru.length := by
  have := congrArg List.length R.keys
  simpa using this
end Vf
namespace Vf
open PySem L2
/-- point 4 -/
structure Valid (D : DD) : Prop where
  len : D.ou.length = D.st.length
  st : ∀ i s o, D.st[i]? = some s → D.ou[i]? = some o → DD.okState ⟨D.st.take i, [], [], [], D.ou.take i⟩ s o = true
  ins : ∀ i x, D.ins[i]? = some x → DD.okInput ⟨D.st, D.ins.take i, [], [], D.ou⟩ x = true
  ld : ∀ i x, D.ld[i]? = some x → DD.okLeader ⟨D.st, D.ins, D.ld.take i, [], D.ou⟩ x = true
  ru : ∀ i x, D.ru[i]? = some x → DD.okRule ⟨D.st, D.ins, D.ld, D.ru.take i, D.ou⟩ x = true
/-- texts of a draft are not too long for messages -/
structure Short (D : DD) : Prop where
  st : ∀ s ∈ D.st, s.length ≤ 1000000
  ou : ∀ o ∈ D.ou, o.natAbs.log2 < 1920
  ins : ∀ p ∈ D.ins, p.1.length ≤ 1000000 ∧ p.2.length ≤ 1000000
  ld : ∀ s ∈ D.ld, s.length ≤ 1000000
  ru : ∀ r ∈ D.ru, ∀ x ∈ r4 r, x.length ≤ 1000000
  nru : D.ru.length ≤ 1000000
theorem Same.but {S : List Addr} {H H1 H2 : Hp} (e : Same H H1) (k : Keep S H1 H2) (f : ∀ b ∈ S, H b = none) : Same H H2 := fun b o h => k b o (fun m => by rw [f b m] at h; cases h) (e b o h)
theorem take_snoc {α : Type} : ∀ {l : List α} {i : Nat} {x : α}, l[i]? = some x → l.take (i + 1) = l.take i ++ [x]
  | [], i, x, h => by simp at h
  | a :: l, 0, x, h => by
    have e : a = x := Option.some.inj h
    subst e
    rfl
  | a :: l, i + 1, x, h => by
    have e : l[i]? = some x := h
    rw [List.take_succ_cons, take_snoc e]
    rfl
theorem okRule_in {D : DD} {r : S4} (h : D.okRule r = true) : r.1 ∈ D.st ∧ r.2.1 ∈ D.st := by
  unfold DD.okRule at h
  simp only [Bool.and_eq_true, decide_eq_true_eq] at h
  exact ⟨h.1.1.1.1, h.1.1.1.2⟩
end Vf
namespace Vf
theorem map_get {α β : Type} {f : α → β} {l : List α} {i : Nat} {x : β} (h : (l.map f)[i]? = some x) : ∃ a, l[i]? = some a ∧ x = f a := by
  rw [List.getElem?_map] at h
  cases e : l[i]? with
  | none => rw [e] at h; cases h
  | some a => rw [e] at h; exact ⟨a, rfl, (Option.some.inj h).symm⟩
end Vf
namespace Vf
theorem nodup_ix {α : Type} : ∀ {l : List α} {i j : Nat} {a : α}, l.Nodup → l[i]? = some a → l[j]? = some a → i = j
  | [], i, j, a, _, h, _ => by simp at h
  | x :: l, 0, 0, a, _, _, _ => rfl
  | x :: l, 0, j + 1, a, n, h, h' => by
    have e : x = a := Option.some.inj h
    subst e
    have h2 : l[j]? = some x := h'
    exact absurd (List.mem_of_getElem? h2) (List.nodup_cons.mp n).1
  | x :: l, i + 1, 0, a, n, h, h' => by
    have e : x = a := Option.some.inj h'
    subst e
    have h2 : l[i]? = some x := h
    exact absurd (List.mem_of_getElem? h2) (List.nodup_cons.mp n).1
  | x :: l, i + 1, j + 1, a, n, h, h' => by
    have h1 : l[i]? = some a := h
    have h2 : l[j]? = some a := h'
    rw [nodup_ix (List.nodup_cons.mp n).2 h1 h2]
end Vf
namespace Vf
open PySem L2
theorem tyes {σ : L2.St} {H : Hp} {A B : Hp → Prop} (h : A H) : tYes σ H (fun b H3 => if b = true then A H3 else B H3) := by
  show (if true = true then A H else B H)
  rw [if_pos rfl]
  exact h
end Vf
namespace Vf
theorem Keep.self {S : List PySem.Addr} {H H' : L2.Hp} (_ : Keep S H H') : Keep S H' H' := Keep.refl H'
end Vf
namespace Vf
open PySem L2
theorem list_choose {α β : Type} : ∀ {xs : List α} {R : Nat → α → β → Prop}, (∀ i y, xs[i]? = some y → ∃ a, R i y a) → ∃ l : List β, l.length = xs.length ∧ ∀ i y a, xs[i]? = some y → l[i]? = some a → R i y a
  | [], R, _ => ⟨[], rfl, fun i y a h => by simp at h⟩
  | x :: xs, R, h => by
    obtain ⟨a, ha⟩ := h 0 x rfl
    obtain ⟨l, hl, hr⟩ := list_choose (xs := xs) (R := fun i => R (i + 1)) fun i y e => h (i + 1) y e
    refine ⟨a :: l, by simp [hl], fun i y b e1 e2 => ?_⟩
    cases i with
    | zero =>
      have z1 : x = y := Option.some.inj e1
      have z2 : a = b := Option.some.inj e2
      subst z1
      subst z2
      exact ha
    | succ i => exact hr i y b e1 e2
section
variable {J : It} {n : Nat} {G : Hp → Prop} {Y : Nat → Hp → V → Hp → Prop} {g : TG} {te : TE} {vs : List Nat} {σ : L2.St} {H1 : Hp} {D : Addr} {Qd : Hp → Prop} {α : Type}
/-- a comprehension whose items are values of a kind, each with a property -/
theorem lc_enc (w : Walk J n G Y) (e : α → V) (good : Nat → α → Prop) (hD : H1 D = none) (hn : n ≤ 1000000) (hG : ∀ H, Same H1 H → G H)
    (hs : ∀ i x H H', i < n → Same H1 H → Y i H x H' → ∀ Q' : VK, (∀ a H4, Same H H4 → good i a → Q' (e a) H4) → g x (wipe σ vs) H' fun σ2 H2 => wipe σ2 vs = wipe σ vs ∧ te σ2 H2 Q')
    (hd : ∀ (l : List α) H, l.length = n → Same H1 H → H D = some (.lst (l.map e)) → (∀ i a, l[i]? = some a → good i a) → Qd H) :
    ∃ W : Nat → Nat → Hp → Prop, (∃ m, W 0 m (upd H1 D (.lst []))) ∧ ∀ i m H, W i m H →
      (J.stop i H ∧ Qd H) ∨ (J.go i H ∧ ∃ Nx : Hp → Prop, (∀ H', Nx H' → ∃ m', m' < m ∧ W (i + 1) m' H') ∧ ∀ x H', J.yld i H x H' → g x (wipe σ vs) H' fun σ2 H2 => wipe σ2 vs = wipe σ vs ∧ tYes σ2 H2 fun b H3 =>
        if b = true then te σ2 H3 fun y H4 => ∃ acc, H4 D = some (.lst acc) ∧ acc.length < sizeLine ∧ Nx (upd H4 D (.lst (acc ++ [y]))) else Nx H3) := by
  refine lc_rel w (fun i y _ => ∃ a, y = e a ∧ good i a) hD (fun i y H H' acc _ _ h => h) hn hG (fun i x H H' acc hi s _ hy Q' q => hs i x H H' hi s hy Q' fun a H4 s4 ga => q _ H4 s4 ⟨a, rfl, ga⟩) fun xs H hl s hx hp => ?_
  obtain ⟨l, h1, h2⟩ := list_choose (R := fun i y a => y = e a ∧ good i a) hp
  have ex : xs = l.map e := by
    apply List.ext_getElem?
    intro i
    rw [List.getElem?_map]
    cases h : xs[i]? with
    | none =>
      have := List.getElem?_eq_none_iff.mp h
      rw [List.getElem?_eq_none (by omega)]
      rfl
    | some y =>
      have hi := (List.getElem?_eq_some_iff.mp h).1
      have e1 : l[i]? = some l[i] := List.getElem?_eq_getElem (by omega)
      rw [e1]
      exact congrArg some (h2 i y _ h e1).1
  subst ex
  refine hd l H (by rw [h1]; exact hl) s hx fun i a ha => ?_
  have e2 : (l.map e)[i]? = some (e a) := by rw [List.getElem?_map, ha]; rfl
  exact (h2 i _ a e2 ha).2
/-- .. whose items are new tuples -/
theorem lc_tups (w : Walk J n G Y) (enc : α → List V) (good : Nat → α → Prop) (hD : H1 D = none) (hn : n ≤ 1000000) (hG : ∀ H, Same H1 H → G H)
    (hs : ∀ i x H H', i < n → Same H1 H → Y i H x H' → ∀ Q' : VK, (∀ a t H4, Same H H4 → H4 t = some (.tup (enc a)) → good i a → Q' (.ref t) H4) → g x (wipe σ vs) H' fun σ2 H2 => wipe σ2 vs = wipe σ vs ∧ te σ2 H2 Q')
    (hd : ∀ (l : List α) xs H, l.length = n → Same H1 H → H D = some (.lst xs) → Tups enc H xs l → (∀ i a, l[i]? = some a → good i a) → Qd H) :
    ∃ W : Nat → Nat → Hp → Prop, (∃ m, W 0 m (upd H1 D (.lst []))) ∧ ∀ i m H, W i m H →
      (J.stop i H ∧ Qd H) ∨ (J.go i H ∧ ∃ Nx : Hp → Prop, (∀ H', Nx H' → ∃ m', m' < m ∧ W (i + 1) m' H') ∧ ∀ x H', J.yld i H x H' → g x (wipe σ vs) H' fun σ2 H2 => wipe σ2 vs = wipe σ vs ∧ tYes σ2 H2 fun b H3 =>
        if b = true then te σ2 H3 fun y H4 => ∃ acc, H4 D = some (.lst acc) ∧ acc.length < sizeLine ∧ Nx (upd H4 D (.lst (acc ++ [y]))) else Nx H3) := by
  refine lc_rel w (fun i y H => ∃ a t, y = .ref t ∧ H t = some (.tup (enc a)) ∧ good i a) hD (fun i y H H' acc hacc k ⟨a, t, e1, e2, e3⟩ => ⟨a, t, e1, k t _ (fun z => by rw [z, hacc] at e2; cases e2) e2, e3⟩) hn hG
    (fun i x H H' acc hi s _ hy Q' q => hs i x H H' hi s hy Q' fun a t H4 s4 ht ga => q _ H4 s4 ⟨a, t, rfl, ht, ga⟩) fun xs H hl s hx hp => ?_
  obtain ⟨l, h1, h2⟩ := list_choose (R := fun i y a => ∃ t, y = V.ref t ∧ H t = some (.tup (enc a)) ∧ good i a) hp
  refine hd l xs H (by rw [h1]; exact hl) s hx ⟨h1.symm, fun i a ha => ?_⟩ fun i a ha => ?_
  · have hi := (List.getElem?_eq_some_iff.mp ha).1
    have e1 : xs[i]? = some xs[i] := List.getElem?_eq_getElem (by omega)
    obtain ⟨t, e2, e3, _⟩ := h2 i _ a e1 ha
    exact ⟨t, by rw [e1, e2], e3⟩
  · have hi := (List.getElem?_eq_some_iff.mp ha).1
    have e1 : xs[i]? = some xs[i] := List.getElem?_eq_getElem (by omega)
    obtain ⟨t, _, _, e4⟩ := h2 i _ a e1 ha
    exact e4
end
theorem map_at {α : Type} {f : α → V} {l : List α} {i : Int} {d : α} (h0 : 0 ≤ i) (h1 : i < l.length) : atI (l.map f) i = some (f (l.getD i.toNat d)) := by
  obtain ⟨j, rfl⟩ : ∃ j : Nat, i = (j : Int) := ⟨i.toNat, by omega⟩
  have hj : j < l.length := by omega
  refine atI_nat ?_
  rw [List.getElem?_map, List.getElem?_eq_getElem hj]
  simp [List.getD, List.getElem?_eq_getElem hj]
/-! ### point 4 without an order -/
structure ValidN (D : DD) : Prop where
  len : D.ou.length = D.st.length
  n400 : D.st.length ≤ 400
  nm : ∀ s ∈ D.st, isName s = true
  nd : D.st.Nodup
  ou : ∀ o ∈ D.ou, 0 ≤ o ∧ o ≤ 9
  n8 : D.ins.length ≤ 8
  inm : ∀ p ∈ D.ins, isName p.1 = true ∧ p.2 ∈ D.st
  ind : (D.ins.map (·.1)).Nodup
  n10 : D.ld.length ≤ 10
  ldm : ∀ s ∈ D.ld, s ∈ D.st
  rum : ∀ r ∈ D.ru, r.1 ∈ D.st ∧ r.2.1 ∈ D.st ∧ r.2.2.1 ∈ D.st ∧ r.2.2.2 ∈ D.st
  rnd : (D.ru.map fun x => (x.1, x.2.1)).Nodup
theorem nodup_take {α : Type} {l : List α} (h : l.Nodup) {i : Nat} {x : α} (e : l[i]? = some x) : x ∉ l.take i := by
  intro m
  obtain ⟨j, hj⟩ := List.mem_iff_getElem?.mp m
  have jl : j < i := by
    have := (List.getElem?_eq_some_iff.mp hj).1
    rw [List.length_take] at this
    omega
  rw [List.getElem?_take_of_lt jl] at hj
  have := nodup_ix h hj e
  omega
theorem take_len {α : Type} {l : List α} {i : Nat} {x : α} (e : l[i]? = some x) : (l.take i).length = i := by
  have := (List.getElem?_eq_some_iff.mp e).1
  rw [List.length_take]
  omega
theorem ValidN.valid {D : DD} (v : ValidN D) : Valid D := by
  refine ⟨v.len, fun i s o hs ho => ?_, fun i x hx => ?_, fun i x hx => ?_, fun i x hx => ?_⟩
  · have hi := (List.getElem?_eq_some_iff.mp hs).1
    have n4 := v.n400
    have om := v.ou o (List.mem_of_getElem? ho)
    unfold DD.okState
    simp only [take_len hs, v.nm s (List.mem_of_getElem? hs), Bool.and_true, Bool.and_eq_true, decide_eq_true_eq]
    exact ⟨⟨by omega, nodup_take v.nd hs⟩, om⟩
  · have hi := (List.getElem?_eq_some_iff.mp hx).1
    have n8 := v.n8
    obtain ⟨m1, m2⟩ := v.inm x (List.mem_of_getElem? hx)
    unfold DD.okInput
    simp only [take_len hx, m1, Bool.and_true, Bool.and_eq_true, decide_eq_true_eq]
    refine ⟨⟨by omega, ?_⟩, m2⟩
    rw [List.map_take]
    exact nodup_take v.ind (by rw [List.getElem?_map, hx]; rfl)
  · have hi := (List.getElem?_eq_some_iff.mp hx).1
    have n10 := v.n10
    unfold DD.okLeader
    simp only [take_len hx, Bool.and_eq_true, decide_eq_true_eq]
    exact ⟨by omega, v.ldm x (List.mem_of_getElem? hx)⟩
  · obtain ⟨m1, m2, m3, m4⟩ := v.rum x (List.mem_of_getElem? hx)
    unfold DD.okRule
    simp only [Bool.and_eq_true, decide_eq_true_eq]
    refine ⟨⟨⟨⟨m1, m2⟩, m3⟩, m4⟩, ?_⟩
    rw [List.map_take]
    exact nodup_take v.rnd (by rw [List.getElem?_map, hx]; rfl)
end Vf
namespace Vf
open PySem L2
section
variable {α : Type} {enc : α → List V} {H : Hp} {xs ys : List V} {l m : List α}
theorem Tups.append (h : Tups enc H xs l) (k : Tups enc H ys m) : Tups enc H (xs ++ ys) (l ++ m) := by
  refine ⟨by simp [h.1, k.1], fun i a e => ?_⟩
  by_cases hi : i < l.length
  · rw [List.getElem?_append_left hi] at e
    rw [List.getElem?_append_left (by rw [h.1]; exact hi)]
    exact h.2 i a e
  · rw [List.getElem?_append_right (by omega)] at e
    rw [List.getElem?_append_right (by rw [h.1]; omega), h.1]
    exact k.2 _ a e
theorem Tups.drop (h : Tups enc H xs l) (n : Nat) : Tups enc H (xs.drop n) (l.drop n) := by
  refine ⟨by simp [h.1], fun i a e => ?_⟩
  rw [List.getElem?_drop] at e ⊢
  exact h.2 _ a e
theorem Tups.take (h : Tups enc H xs l) (n : Nat) : Tups enc H (xs.take n) (l.take n) := by
  refine ⟨by simp [h.1], fun i a e => ?_⟩
  by_cases hi : i < n
  · rw [List.getElem?_take_of_lt hi] at e ⊢
    exact h.2 _ a e
  · have := (List.getElem?_eq_some_iff.mp e).1
    rw [List.length_take] at this
    omega
theorem Tups.reverse (h : Tups enc H xs l) : Tups enc H xs.reverse l.reverse := by
  refine ⟨by simp [h.1], fun i a e => ?_⟩
  have hi := (List.getElem?_eq_some_iff.mp e).1
  rw [List.length_reverse] at hi
  rw [List.getElem?_reverse (by omega)] at e
  rw [List.getElem?_reverse (by rw [h.1]; exact hi), h.1]
  exact h.2 _ a e
end
theorem cut_from (xs : List V) (t : Nat) (h : t ≤ xs.length) : cutV xs (some (t : Int)) none = xs.drop t := by
  have e1 : HT.sIx xs.length 0 (some (t : Int)) = t := by rw [HT.sIx_nat, Nat.min_eq_left h]
  have e2 : HT.sIx xs.length xs.length none = xs.length := rfl
  unfold cutV
  rw [e1, e2, List.take_of_length_le (by rw [List.length_drop]; exact Nat.le_refl _)]
theorem cut_to (xs : List V) (t : Nat) (h : t ≤ xs.length) : cutV xs none (some (t : Int)) = xs.take t := by
  have e1 : HT.sIx xs.length xs.length (some (t : Int)) = t := by rw [HT.sIx_nat, Nat.min_eq_left h]
  have e2 : HT.sIx xs.length 0 none = 0 := rfl
  unfold cutV
  rw [e1, e2]
  rfl
end Vf
namespace Vf
open PySem L2
/-! ### drawn parts -/
/-- the tuple of five lists -/
def PartsAt (H : Hp) (p : Addr) (D : DD) : Prop := ∃ (ls li ll lr lo : Addr) (xi xr : List V), H p = some (.tup [.ref ls, .ref li, .ref ll, .ref lr, .ref lo]) ∧ H ls = some (.lst (D.st.map V.str)) ∧ H li = some (.lst xi) ∧ Tups enc2 H xi D.ins ∧
  H ll = some (.lst (D.ld.map V.str)) ∧ H lr = some (.lst xr) ∧ Tups enc4 H xr D.ru ∧ H lo = some (.lst (D.ou.map V.int))
theorem PartsAt.same {H H' : Hp} {p : Addr} {D : DD} (h : PartsAt H p D) (e : Same H H') : PartsAt H' p D := by
  obtain ⟨ls, li, ll, lr, lo, xi, xr, h0, h1, h2, t2, h3, h4, t4, h5⟩ := h
  exact ⟨ls, li, ll, lr, lo, xi, xr, e _ _ h0, e _ _ h1, e _ _ h2, t2.same e, e _ _ h3, e _ _ h4, t4.same e, e _ _ h5⟩
def nmB : List Str := ["a", "b", "c", "d1", "e", "f"]
def nmS : List Str := ["", "x", "q7"]
def goodName (i : Nat) (s : Str) : Prop := ∃ j, j < 3 ∧ s = nmB.getD i Str.empty ++ nmS.getD j Str.empty
structure Small (D : DD) : Prop where
  st0 : 1 ≤ D.st.length
  st6 : D.st.length ≤ 6
  in3 : D.ins.length ≤ 3
  ld2 : D.ld.length ≤ 2
  ru36 : D.ru.length ≤ 36
  gn : ∀ (i : Nat) (s : Str), D.st[i]? = some s → goodName i s
theorem ValidN.short {D : DD} (v : ValidN D) (h : D.ru.length ≤ 1000000) : Short D := by
  have nl : ∀ s, isName s = true → s.length ≤ 1000000 := fun s hs => Nat.le_trans (name_len hs) (by decide)
  refine ⟨fun s hs => nl s (v.nm s hs), fun o ho => ?_, fun p hp => ?_, fun s hs => nl s (v.nm s (v.ldm s hs)), fun r hr x hx => ?_, h⟩
  · obtain ⟨h0, h9⟩ := v.ou o ho
    have hb : o.natAbs < 2 ^ 1920 := Nat.lt_of_le_of_lt (show o.natAbs ≤ 9 by omega) (by decide)
    by_cases hz : o.natAbs = 0
    · rw [hz]
      decide
    · exact (Nat.log2_lt hz).mpr hb
  · obtain ⟨m1, m2⟩ := v.inm p hp
    exact ⟨nl _ m1, nl _ (v.nm _ m2)⟩
  · obtain ⟨m1, m2, m3, m4⟩ := v.rum r hr
    simp only [r4, List.mem_cons, List.not_mem_nil, or_false] at hx
    rcases hx with rfl | rfl | rfl | rfl
    · exact nl _ (v.nm _ m1)
    · exact nl _ (v.nm _ m2)
    · exact nl _ (v.nm _ m3)
    · exact nl _ (v.nm _ m4)
theorem names_all : ((List.range 6).all fun i => (List.range 3).all fun j => isName (nmB.getD i Str.empty ++ nmS.getD j Str.empty) && ((nmB.getD i Str.empty ++ nmS.getD j Str.empty).cps.toList.head? == some (97 + i))) = true := by decide +kernel
theorem goodName_of {i : Nat} {s : Str} (hi : i < 6) (h : goodName i s) : isName s = true ∧ s.cps.toList.head? = some (97 + i) := by
  obtain ⟨j, hj, rfl⟩ := h
  have a := List.all_eq_true.mp names_all i (List.mem_range.mpr hi)
  have b := List.all_eq_true.mp a j (List.mem_range.mpr hj)
  rw [Bool.and_eq_true, beq_iff_eq] at b
  exact b
theorem nodup_by {α β : Type} {l : List α} (f : α → β) (g : Nat → β) (h : ∀ i a, l[i]? = some a → f a = g i) (inj : ∀ i j, i < l.length → j < l.length → g i = g j → i = j) : l.Nodup := by
  rw [List.Nodup, List.pairwise_iff_getElem]
  intro i j hi hj hij e
  have e1 := h i _ (List.getElem?_eq_getElem hi)
  have e2 := h j _ (List.getElem?_eq_getElem hj)
  rw [e, e2] at e1
  have := inj j i hj hi e1
  omega
theorem goodNames_nodup {l : List Str} (h6 : l.length ≤ 6) (h : ∀ i a, l[i]? = some a → goodName i a) : l.Nodup :=
  nodup_by (fun s : Str => s.cps.toList.head?) (fun i => some (97 + i)) (fun i a e => (goodName_of (by have := (List.getElem?_eq_some_iff.mp e).1; omega) (h i a e)).2) fun i j _ _ e => by
    have := Option.some.inj e
    omega
def inB : List Str := ["u", "v", "w"]
theorem inB_all : ((List.range 3).all fun i => isName (inB.getD i Str.empty) && ((inB.getD i Str.empty).cps.toList.head? == some (117 + i))) = true := by decide +kernel
theorem inB_of {i : Nat} (hi : i < 3) : isName (inB.getD i Str.empty) = true ∧ (inB.getD i Str.empty).cps.toList.head? = some (117 + i) := by
  have a := List.all_eq_true.mp inB_all i (List.mem_range.mpr hi)
  rw [Bool.and_eq_true, beq_iff_eq] at a
  exact a
end Vf
namespace Vf
open PySem L2
theorem gN {i : Nat} {v : V} {σ : L2.St} {H : Hp} {nx : L2.St → Hp → Prop} (h : nx (σ.set i (some v)) H) : gName i v σ H nx := h
end Vf
namespace Vf
open PySem L2
theorem names_end : ((List.range 6).all fun i => (List.range 3).all fun j => (nmB.getD i Str.empty ++ nmS.getD j Str.empty).cps.toList.getLast? != some 122) = true := by decide +kernel
/-- no drawn name ends so -/
theorem Small.noName {D : DD} (sm : Small D) {s : Str} (h : s.cps.toList.getLast? = some 122) : s ∉ D.st := fun m => by
  obtain ⟨i, hi⟩ := List.mem_iff_getElem?.mp m
  have il := (List.getElem?_eq_some_iff.mp hi).1
  have := sm.st6
  obtain ⟨j, hj, rfl⟩ := sm.gn i s hi
  have a := List.all_eq_true.mp names_end i (List.mem_range.mpr (by omega))
  have b := List.all_eq_true.mp a j (List.mem_range.mpr hj)
  rw [h] at b
  cases b
theorem end_zz (w : Str) : (w ++ ("9zz" : Str)).cps.toList.getLast? = some 122 := by
  have e : (w ++ ("9zz" : Str)).cps.toList = w.cps.toList ++ [57, 122, 122] := by
    show (w.cps ++ ("9zz" : Str).cps).toList = _
    rw [Array.toList_append]
    rfl
  rw [e, List.getLast?_append]
  rfl
end Vf

namespace Vf
open PySem PySem.Spec PyProof.Rows L2
/-- the pair of ints at an address -/
def prAt (H : Hp) (a : Addr) : Int × Int := match H a with
  | some (.tup [.int i, .int j]) => (i, j)
  | _ => (0, 0)
def prV (H : Hp) : Value → Int × Int
  | .ref a => prAt H a
  | _ => (0, 0)
theorem prAt_of {H : Hp} {a : Addr} {i j : Int} (h : H a = some (.tup [.int i, .int j])) : prAt H a = (i, j) := by
  unfold prAt
  rw [h]
def keyP (k : Int × Int) : List Key := [Sum.inl k.1, Sum.inl k.2]
/-- sorted(d), d a dict whose keys are pairs of ints -/
def rSortedDT : List V → Hp → VK → Prop := fun xs H Q => ∃ (d : Addr) (kvs : List (List Key × V)) (ks : List (Int × Int)), xs = [.ref d] ∧ Rd H d (.dT kvs) ∧ kvs.map (·.1) = ks.map keyP ∧
  ∀ (p : Addr) (bs : List Addr), H p = none → (bs.map (prAt H)).Perm ks → bs.Pairwise (fun x y => SrtO.lexB (prAt H y) (prAt H x) = false) → (∀ b ∈ bs, ∃ i j, H b = some (.tup [.int i, .int j])) → Q (.ref p) (upd H p (.lst (bs.map V.ref)))
theorem refs_out : ∀ (l : List Value), (∀ u ∈ l, ∃ a, u = Value.ref a) → ∃ bs : List Addr, l = bs.map Value.ref
  | [], _ => ⟨[], rfl⟩
  | u :: l, h => by
    obtain ⟨a, rfl⟩ := h u List.mem_cons_self
    obtain ⟨bs, e⟩ := refs_out l fun v hv => h v (List.mem_cons_of_mem _ hv)
    exact ⟨a :: bs, by rw [e]; rfl⟩
theorem pair_get {α β : Type} {R : α → β → Prop} : ∀ {l₁ : List α} {l₂ : List β}, Paired R l₁ l₂ → ∀ {n : Nat} {b : β}, l₂[n]? = some b → ∃ a, l₁[n]? = some a ∧ R a b
  | _, _, .nil, n, b, h => by simp at h
  | _, _, .cons h t, 0, b, e => by
    have e' := Option.some.inj e
    subst e'
    exact ⟨_, rfl, h⟩
  | _, _, .cons h t, n + 1, b, e => pair_get t (n := n) (b := b) e
theorem cr_sortedDT {X : Cx} (hcalm : X.calm = true) : CallR X (.builtin "sorted") rSortedDT := by
  intro pins s σ H xs us Q I r h
  obtain ⟨d, kvs, ks, rfl, hd, hks, q⟩ := h
  obtain ⟨u, rfl, rx⟩ := vals1 r
  cases rx
  obtain ⟨z, hs, xs, pr, o, es, ep, ho, hx, hdt, he, hn⟩ := (show ObjOk X.prog X.w H s.heap d (.dT kvs) from hd.ok I.hok)
  have l1 : es.size = xs.length := size_of_entries he
  have l2 : kvs.length = xs.length := Paired.length pr
  have h16 : es.size ≤ sizeLine := by omega
  refine Calls.call_function_entry PyProof.Rows.kind_sorted PyProof.Rows.plain_sorted PyProof.Rows.entry_sorted (PyProof.Rows.args_sorted1 _) ?_
  unfold Builtin.«sorted»
  refine wpAny_bind (m := checkCount "sorted" 1 1 _) (wpAny_pure ?_)
  refine wpAny_bind (PySem.W.kdu_collect (A := X.A.in1) (kdl_raw hs hx hdt) (I.ok.hd hcalm) ho h16 fun h' tk acc hk hacc => ?_)
  -- what was collected: the tuples of the keys
  have ea : acc.toList = (xs.map fun x => x.2.1).map Value.ref := by
    have hl : acc.toList.length = xs.length := by rw [Array.length_toList, hacc.1, l1]
    apply List.ext_getElem?
    intro j
    rw [List.map_map, List.getElem?_map]
    cases hj : acc.toList[j]? with
    | none =>
      have h1 := List.getElem?_eq_none_iff.mp hj
      rw [List.getElem?_eq_none (by omega)]
      rfl
    | some v =>
      obtain ⟨en, hen, hv⟩ := hacc.2 j v (by rw [← Array.getElem?_toList]; exact hj)
      have qe := entry_at he j
      rw [hen] at qe
      cases hb : xs[j]? with
      | none =>
        rw [hb] at qe
        exact nomatch (show some en = none from qe)
      | some b =>
        rw [hb] at qe
        have e2 : en = entryOfKey (tupleKind (mixKind X.prog X.w)) b := Option.some.inj qe
        rw [hv, e2]
        rfl
  have I1 : Inv X pins σ H { s with heap := h', toks := tk } := I.kept hk
  -- each of them is a pair
  have hat : ∀ a ∈ xs.map (fun x => x.2.1), ∃ i j, H a = some (.tup [.int i, .int j]) := by
    intro a ha
    obtain ⟨x, hxm, rfl⟩ := List.mem_map.mp ha
    obtain ⟨n, hn'⟩ := List.mem_iff_getElem?.mp hxm
    have hnl : n < kvs.length := by rw [l2]; exact (List.getElem?_eq_some_iff.mp hn').1
    obtain ⟨y, hy, p1, p2, _⟩ := pair_get pr hn'
    have hk1 : (kvs.map (·.1))[n]? = some y.1 := by rw [List.getElem?_map, hy]; rfl
    rw [hks] at hk1
    obtain ⟨k, _, ek⟩ : ∃ k, ks[n]? = some k ∧ y.1 = keyP k := by
      rw [List.getElem?_map] at hk1
      cases e : ks[n]? with
      | none => rw [e] at hk1; cases hk1
      | some k => rw [e] at hk1; exact ⟨k, rfl, (Option.some.inj hk1).symm⟩
    rw [ek] at p2
    exact ⟨k.1, k.2, p2⟩
  have hpr : (xs.map fun x => x.2.1).map (prAt H) = ks := by
    apply List.ext_getElem?
    intro n
    rw [List.getElem?_map, List.getElem?_map]
    cases hn' : xs[n]? with
    | none =>
      have h1 := List.getElem?_eq_none_iff.mp hn'
      have h2 := congrArg List.length hks
      rw [List.length_map, List.length_map] at h2
      rw [List.getElem?_eq_none (show ks.length ≤ n by omega)]
      rfl
    | some x =>
      obtain ⟨y, hy, p1, p2, _⟩ := pair_get pr hn'
      have hk1 : (kvs.map (·.1))[n]? = some y.1 := by rw [List.getElem?_map, hy]; rfl
      rw [hks] at hk1
      rw [List.getElem?_map] at hk1
      cases e : ks[n]? with
      | none => rw [e] at hk1; cases hk1
      | some k =>
        rw [e] at hk1
        have ek : y.1 = keyP k := (Option.some.inj hk1).symm
        rw [ek] at p2
        show some (prAt H x.2.1) = some k
        rw [prAt_of p2]
  have hal : acc.toList.length ≤ sizeLine := by
    rw [ea, List.length_map, List.length_map]
    omega
  refine wpAny_bind (wpAny_newList ?_ hal)
  have hoL : (h'.push (seqObj "list" acc.toList.toArray 0)).get? h'.objs.size = some (seqObj "list" acc.toList.toArray 0) := Heap.get?_push_size _ rfl
  show wpAny _ _ _ _ _ { s with heap := h'.push (seqObj "list" acc.toList.toArray 0), toks := tk }
  have hip : ∀ v ∈ acc.toList, Srt.IsPair h' v (prV H v).1 (prV H v).2 := by
    intro v hv
    rw [ea] at hv
    obtain ⟨a, ha, rfl⟩ := List.mem_map.mp hv
    obtain ⟨i, j, hij⟩ := hat a ha
    obtain ⟨_, its2, r2, ob, hob, hc, n, hd2⟩ := I1.hok _ _ hij
    obtain ⟨u1, u2, rfl, ri, rj⟩ := vals2 r2
    obtain ⟨t1, rfl⟩ := ri
    obtain ⟨t2, rfl⟩ := rj
    have e : prV H (.ref a) = (i, j) := prAt_of hij
    rw [e]
    exact ⟨a, ob, t1, t2, n, rfl, hob, hc, hd2⟩
  refine wpAny_bind (wpAny_holding (wpAny_call_entry PyProof.Rows.slot_list_sort ⟨_, hoL, rfl⟩ PyProof.Rows.entry_list_sort
    (SrtO.list_sort_ord (s := { s with heap := h'.push (seqObj "list" acc.toList.toArray 0), toks := tk }) (SrtO.swo_lex (prV H)) hoL hal (fun h2 => SrtO.pairs_sortableO (by omega) (fun v hv => (hip v hv).keeps fun b o e _ => Heap.get?_push_of_some _ e) fun o e c => ?_) fun out hs' hb' => ⟨_, rfl, ?_⟩) (PyProof.Rows.args_list_sort _)))
  · have e' : some o = some (seqObj "list" acc.toList.toArray 0) := e.symm.trans hoL
    cases e'
    exact absurd (Value.type.inj c) (by decide)
  · obtain ⟨e', he'⟩ := PyProof.Rows.sortedHeap_at (vs := acc.toList) (out := out.toArray) hoL
    have hperm : out.Perm acc.toList := hb'.perm
    obtain ⟨bs, rfl⟩ := refs_out out fun u hu => by
      have hm := hperm.mem_iff.mp hu
      rw [ea] at hm
      obtain ⟨a, _, rfl⟩ := List.mem_map.mp hm
      exact ⟨a, rfl⟩
    rw [ea] at hperm
    have hbp : bs.Perm (xs.map fun x => x.2.1) := by
      have hh := hperm.map (fun v : Value => match v with | .ref a => a | _ => 0)
      rw [List.map_map, List.map_map] at hh
      have e1 : bs.map ((fun v : Value => match v with | .ref a => a | _ => 0) ∘ Value.ref) = bs := List.map_id' bs
      have e2 : (xs.map fun x => x.2.1).map ((fun v : Value => match v with | .ref a => a | _ => 0) ∘ Value.ref) = (xs.map fun x => x.2.1) := List.map_id' _
      rw [e1, e2] at hh
      exact hh
    have hlen : (bs.map V.ref).length ≤ sizeLine := by
      rw [List.length_map, hbp.length_eq, List.length_map]
      omega
    refine wpAny_pure ⟨_, rfl, .ref h'.objs.size, upd H h'.objs.size (.lst (bs.map V.ref)), I1.laid (t' := tk) (fun b u e => ?_) (Nat.le_refl _)
      (show ObjOk X.prog X.w _ _ _ (.lst (bs.map V.ref)) from ⟨hlen, bs.map Value.ref, e', vals_refs bs, by rw [he']⟩), rfl, q _ bs (I1.hok.fresh (Nat.le_refl _)) ?_ ?_ ?_⟩
    · have hb : b < h'.objs.size := Heap.lt_size e
      rw [PyProof.Rows.sortedHeap_old (Nat.ne_of_lt hb) (by rw [size_push']; exact Nat.lt_succ_of_lt hb)]
      exact Heap.get?_push_of_some _ e
    · rw [← hpr]
      exact hbp.map _
    · have h1 : List.Pairwise (fun x y => SrtO.lexB (prV H y) (prV H x) = false) (bs.map Value.ref) := hs'
      rw [List.pairwise_map] at h1
      exact h1
    · intro b hb
      exact hat b (hbp.mem_iff.mp hb)
end Vf
namespace Vf
open PySem L2
/-! ### rows of pairs -/
def rowOf (l : List (Int × Int)) (c : Int × Int → Bool) (i : Int) : List Int := (l.filter fun k => decide (k.1 = i) && c k).map Prod.snd
theorem rowOf_snoc (l : List (Int × Int)) (c : Int × Int → Bool) (i : Int) (k : Int × Int) : rowOf (l ++ [k]) c i = rowOf l c i ++ if (decide (k.1 = i) && c k) = true then [k.2] else [] := by
  unfold rowOf
  rw [List.filter_append, List.map_append]
  congr 1
  by_cases h : (decide (k.1 = i) && c k) = true
  · rw [if_pos h, List.filter_cons, if_pos h]
    rfl
  · rw [if_neg h, List.filter_cons, if_neg h]
    rfl
theorem rowOf_mem {l : List (Int × Int)} {c : Int × Int → Bool} {i j : Int} : j ∈ rowOf l c i ↔ (i, j) ∈ l ∧ c (i, j) = true := by
  unfold rowOf
  rw [List.mem_map]
  constructor
  · rintro ⟨⟨a, b⟩, h, rfl⟩
    rw [List.mem_filter, Bool.and_eq_true, decide_eq_true_eq] at h
    obtain ⟨h1, h2, h3⟩ := h
    have e : a = i := h2
    subst e
    exact ⟨h1, h3⟩
  · rintro ⟨h1, h2⟩
    exact ⟨(i, j), List.mem_filter.mpr ⟨h1, by simp [h2]⟩, rfl⟩
theorem rowOf_asc {l : List (Int × Int)} {c : Int × Int → Bool} {i : Int} (h : l.Pairwise fun x y => SrtO.lexB y x = false) (n : l.Nodup) : (rowOf l c i).Pairwise (· < ·) := by
  have hb : l.Pairwise fun x y => SrtO.lexB y x = false ∧ x ≠ y := h.and n
  unfold rowOf
  rw [List.pairwise_map]
  refine List.Pairwise.imp_of_mem (fun {x y} hx hy hh => ?_) (hb.filter _)
  rw [List.mem_filter, Bool.and_eq_true, decide_eq_true_eq] at hx hy
  obtain ⟨h1, h2⟩ := hh
  have h3 := SrtO.lexB_no.mp h1
  obtain ⟨a, b⟩ := x
  obtain ⟨a', b'⟩ := y
  have e1 : a = i := hx.2.1
  have e2 : a' = i := hy.2.1
  subst e1
  subst e2
  have h4 : b ≠ b' := fun z => h2 (by rw [z])
  have h5 : ¬ b' < b := fun z => h3 (Or.inr ⟨rfl, z⟩)
  show b < b'
  omega
theorem valV_at {κ : Type} [DecidableEq κ] : ∀ {kvs : List (κ × V)} {n : Nat} {k : κ} {v : V}, (kvs.map Prod.fst).Nodup → kvs[n]? = some (k, v) → valV kvs k = some v
  | [], n, k, v, _, h => by simp at h
  | p :: r, 0, k, v, _, h => by
    have e : p = (k, v) := Option.some.inj h
    subst e
    exact valV_pos rfl
  | p :: r, n + 1, k, v, hn, h => by
    rw [List.map_cons, List.nodup_cons] at hn
    have h' : r[n]? = some (k, v) := h
    have ne : ¬ p.1 = k := fun z => hn.1 (List.mem_map.mpr ⟨(k, v), List.mem_of_getElem? h', z.symm⟩)
    rw [valV_neg ne]
    exact valV_at hn.2 h'
def encP (v : Int × Int) : List V := [.int v.1, .int v.2]
theorem keyP_inj {a b : Int × Int} (h : keyP a = keyP b) : a = b := by
  unfold keyP at h
  simp only [List.cons.injEq, Sum.inl.injEq, and_true] at h
  exact Prod.ext h.1 h.2
/-- a dict of pairs of ints by pairs of ints -/
structure PP (H : Hp) (kvs : List (List Key × V)) (ks vl : List (Int × Int)) : Prop where
  keys : kvs.map (·.1) = ks.map keyP
  vals : Tups encP H (kvs.map (·.2)) vl
  nd : ks.Nodup
section
variable {H : Hp} {kvs : List (List Key × V)} {ks vl : List (Int × Int)}
theorem PP.len (p : PP H kvs ks vl) : kvs.length = ks.length ∧ vl.length = ks.length := by
  have h1 := congrArg List.length p.keys
  have h2 := p.vals.1
  rw [List.length_map, List.length_map] at h1
  rw [List.length_map] at h2
  omega
theorem PP.at_ (p : PP H kvs ks vl) {n : Nat} {k : Int × Int} (h : ks[n]? = some k) : ∃ v t, vl[n]? = some v ∧ valV kvs (keyP k) = some (.ref t) ∧ H t = some (.tup (encP v)) := by
  obtain ⟨l1, l2⟩ := p.len
  have hn := (List.getElem?_eq_some_iff.mp h).1
  obtain ⟨v, hv⟩ : ∃ v, vl[n]? = some v := ⟨vl[n], List.getElem?_eq_getElem (by omega)⟩
  obtain ⟨t, ht, hT⟩ := p.vals.2 n v hv
  rw [List.getElem?_map] at ht
  obtain ⟨kv, hkv⟩ : ∃ kv, kvs[n]? = some kv := ⟨kvs[n], List.getElem?_eq_getElem (by omega)⟩
  rw [hkv] at ht
  have e2 : kv.2 = .ref t := Option.some.inj ht
  have h1 : (kvs.map (·.1))[n]? = some kv.1 := by rw [List.getElem?_map, hkv]; rfl
  rw [p.keys, List.getElem?_map, h] at h1
  have e1 : keyP k = kv.1 := Option.some.inj h1
  refine ⟨v, t, hv, ?_, hT⟩
  have hnd : (kvs.map Prod.fst).Nodup := by
    have e : kvs.map Prod.fst = ks.map keyP := p.keys
    rw [e]
    exact List.pairwise_map.mpr (p.nd.imp fun h z => h (keyP_inj z))
  refine valV_at (n := n) hnd ?_
  rw [hkv, ← e2, e1]
end
/-- the value of a key, or the key -/
def toP (kvs : List (List Key × V)) (H : Hp) (k : Int × Int) : Int × Int := match valV kvs (keyP k) with
  | some (.ref t) => prAt H t
  | _ => k
theorem toP_at {H : Hp} {kvs : List (List Key × V)} {ks vl : List (Int × Int)} (p : PP H kvs ks vl) {n : Nat} {k v : Int × Int} (h : ks[n]? = some k) (hv : vl[n]? = some v) : toP kvs H k = v := by
  obtain ⟨v', t, h1, h2, h3⟩ := p.at_ h
  rw [hv] at h1
  cases h1
  unfold toP
  rw [h2]
  exact prAt_of h3
end Vf
namespace Vf
theorem rowOf_len (l : List (Int × Int)) (c : Int × Int → Bool) (i : Int) : (rowOf l c i).length ≤ l.length := by
  unfold rowOf
  rw [List.length_map]
  exact List.length_filter_le _ _
end Vf
namespace Vf
open PySem L2
/-! ### a protocol -/
structure RA where
  t1 : Addr
  t2 : Addr
  t3 : Addr
  t4 : Addr
  t5 : Addr
  dn : Addr
  dr : Addr
  rw : Addr
def bFs (a : RA) : List (Str × V) := [("states", .ref a.t1), ("inputs", .ref a.t2), ("leaders", .ref a.t3), ("rules", .ref a.t4), ("outputs", .ref a.t5), ("_numbers", .ref a.dn), ("_results", .ref a.dr), ("_rows", .ref a.rw)]
theorem bFs_new (a : RA) : putF "_rows" (.ref a.rw) (putF "_results" (.ref a.dr) (putF "_numbers" (.ref a.dn) (putF "outputs" (.ref a.t5) (putF "rules" (.ref a.t4) (putF "leaders" (.ref a.t3) (putF "inputs" (.ref a.t2) (putF "states" (.ref a.t1) []))))))) = bFs a := by rfl
/-- the results of rules, as pairs of numbers -/
def rks (D : DD) : List (Int × Int) := D.ru.map fun r => (ix D.st r.1, ix D.st r.2.1)
def rvs (D : DD) : List (Int × Int) := D.ru.map fun r => (ix D.st r.2.2.1, ix D.st r.2.2.2)
structure BookAt (C : Addr) (H : Hp) (p : Addr) (a : RA) (D : DD) : Prop where
  ob : ∃ dx, H p = some (.ins C dx (bFs a))
  st : H a.t1 = some (.tup (D.st.map V.str))
  ins : ∃ xs, H a.t2 = some (.tup xs) ∧ Tups enc2 H xs D.ins
  ld : H a.t3 = some (.tup (D.ld.map V.str))
  ru : ∃ xs, H a.t4 = some (.tup xs) ∧ Tups enc4 H xs D.ru
  ou : H a.t5 = some (.tup (D.ou.map V.int))
  dn : H a.dn = some (.dK (numK D.st))
  dr : ∃ kvs, H a.dr = some (.dT kvs) ∧ Res H D.st D.ru kvs
  rw : ∃ (xs : List V) (rows : Nat → List Int), H a.rw = some (.tup xs) ∧ xs.length = D.st.length ∧ (∀ i x, xs[i]? = some x → ∃ t, x = .ref t ∧ H t = some (.tup ((rows i).map V.int))) ∧ (∀ i, (rows i).Pairwise (· < ·)) ∧
    ∀ (i : Nat) (j : Int), j ∈ rows i ↔ ∃ (n : Nat) (v : Int × Int), (rks D)[n]? = some ((i : Int), j) ∧ (rvs D)[n]? = some v ∧ v ≠ ((i : Int), j)
theorem BookAt.same {C : Addr} {H H' : Hp} {p : Addr} {a : RA} {D : DD} (S : BookAt C H p a D) (e : Same H H') : BookAt C H' p a D := by
  obtain ⟨dx, h0⟩ := S.ob
  obtain ⟨x2, h2, T2⟩ := S.ins
  obtain ⟨x4, h4, T4⟩ := S.ru
  obtain ⟨kvs, hk, R⟩ := S.dr
  obtain ⟨xs, rows, h8, l8, r8, a8, m8⟩ := S.rw
  exact ⟨⟨dx, e _ _ h0⟩, e _ _ S.st, ⟨x2, e _ _ h2, T2.same e⟩, e _ _ S.ld, ⟨x4, e _ _ h4, T4.same e⟩, e _ _ S.ou, e _ _ S.dn, ⟨kvs, e _ _ hk, R.same fun t ys => e t _⟩,
    ⟨xs, rows, e _ _ h8, l8, fun i x hx => by
      obtain ⟨t, e1, e2⟩ := r8 i x hx
      exact ⟨t, e1, e _ _ e2⟩, a8, m8⟩⟩
theorem Keep.new {S : List Addr} {H H' : Hp} {p : Addr} {o : HO} (e : Keep S H H') (h : H' p = none) : Keep S H (upd H' p o) := fun b u n q => by
  have q' := e b u n q
  rw [upd_ne (ne_of_none q' h)]
  exact q'
theorem Keep.same {S : List Addr} {H H1 H2 : Hp} (e : Keep S H H1) (s : Same H1 H2) : Keep S H H2 := fun b u n q => s b u (e b u n q)
theorem Res.pp {H : Hp} {D : DD} {kvs : List (List Key × V)} (R : Res H D.st D.ru kvs) (nd : (rks D).Nodup) : PP H kvs (rks D) (rvs D) := by
  refine ⟨?_, ?_, nd⟩
  · rw [R.keys]
    unfold rks
    rw [List.map_map]
    rfl
  · refine ⟨by rw [R.vals.1]; simp [rvs], fun i v hv => ?_⟩
    unfold rvs at hv
    obtain ⟨r, hr, rfl⟩ := map_get hv
    exact R.vals.2 i r hr
theorem take_all {α : Type} {l : List α} {P : List α → α → Prop} (h : ∀ i x, l[i]? = some x → P (l.take i) x) (x : α) (hx : x ∈ l) : ∃ i, P (l.take i) x := by
  obtain ⟨i, hi⟩ := List.mem_iff_getElem?.mp hx
  exact ⟨i, h i x hi⟩
theorem Valid.rule {D : DD} (v : Valid D) {r : S4} (hr : r ∈ D.ru) : r.1 ∈ D.st ∧ r.2.1 ∈ D.st ∧ r.2.2.1 ∈ D.st ∧ r.2.2.2 ∈ D.st := by
  obtain ⟨i, hi⟩ := List.mem_iff_getElem?.mp hr
  have h := v.ru i r hi
  unfold DD.okRule at h
  simp only [Bool.and_eq_true, decide_eq_true_eq] at h
  exact ⟨h.1.1.1.1, h.1.1.1.2, h.1.1.2, h.1.2⟩
theorem ix_bd {st : List Str} {s : Str} (h : s ∈ st) : 0 ≤ ix st s ∧ ix st s < (st.length : Int) := by
  have := List.idxOf_lt_length_of_mem h
  unfold ix
  omega
theorem Valid.nd {D : DD} (v : Valid D) : (rks D).Nodup := by
  unfold rks List.Nodup
  rw [List.pairwise_map, List.pairwise_iff_getElem]
  intro i j hi hj hij e
  have e1 : D.ru[i]? = some D.ru[i] := List.getElem?_eq_getElem hi
  have e2 : D.ru[j]? = some D.ru[j] := List.getElem?_eq_getElem hj
  have m1 := v.rule (List.getElem_mem hi)
  have m2 := v.rule (List.getElem_mem hj)
  have x := Prod.mk.inj e
  have y1 := ix_inj m1.1 m2.1 x.1
  have y2 := ix_inj m1.2.1 m2.2.1 x.2
  have h := v.ru j _ e2
  unfold DD.okRule at h
  simp only [Bool.and_eq_true, decide_eq_true_eq] at h
  refine h.2 (List.mem_map.mpr ⟨D.ru[i], ?_, by rw [y1, y2]⟩)
  refine List.mem_iff_getElem?.mpr ⟨i, ?_⟩
  rw [List.getElem?_take_of_lt hij]
  exact e1
end Vf
namespace Vf
open PySem L2
theorem walk_zipT {K : PySem.W.Frag} {a b : Addr} {xs ys : List V} {n : Nat} (hx : xs.length = n) (hy : ys.length = n) : Walk (RZ.ItzT K a b) n (fun H => SqT K H a xs ∧ SqT K H b ys) (YPair (fun i => xs[i]?) (fun i => ys[i]?)) where
  goes := fun i H hi q => ⟨xs, ys, xs[i], ys[i], q.1, q.2, List.getElem?_eq_getElem (by omega), List.getElem?_eq_getElem (by omega)⟩
  stops := fun H q => ⟨xs, ys, q.1, q.2, Or.inl (by omega)⟩
  yields := fun i H v H' _ q y => by
    obtain ⟨u, x, z, h1, h2, h3, h4, h5⟩ := y
    exact ⟨u, x, z, h1, h2, h3, h4 xs q.1, h5 ys q.2⟩
/-! ### written protocols -/
def lnSt (p : Str × Int) : Str := Str.ofString "state " ++ p.1 ++ Str.ofString " " ++ Str.ofString (toString p.2)
def lnIn (p : Str × Str) : Str := Str.ofString "input " ++ p.1 ++ Str.ofString " " ++ p.2
def lnLd (s : Str) : Str := Str.ofString "leader " ++ s
def lnRu (r : S4) : Str := Str.ofString "rule " ++ r.1 ++ Str.ofString " " ++ r.2.1 ++ Str.ofString " to " ++ r.2.2.1 ++ Str.ofString " " ++ r.2.2.2
def linesOf (D : DD) : List Str := (D.st.zip D.ou).map lnSt ++ D.ins.map lnIn ++ D.ld.map lnLd ++ D.ru.map lnRu
def textOf (D : DD) : Str := Txt.join (Str.ofString "\n") (linesOf D)
theorem zip_get {α β : Type} {l : List α} {m : List β} {i : Nat} {a : α} {b : β} (h1 : l[i]? = some a) (h2 : m[i]? = some b) : (l.zip m)[i]? = some (a, b) := by
  rw [List.getElem?_zip_eq_some]
  exact ⟨h1, h2⟩
theorem log_of {o : Int} (h : 0 ≤ o ∧ o ≤ 9) : o.natAbs.log2 < 1920 := by
  by_cases hz : o.natAbs = 0
  · rw [hz]
    decide
  · exact (Nat.log2_lt hz).mpr (Nat.lt_of_le_of_lt (show o.natAbs ≤ 9 by omega) (Nat.lt_of_lt_of_le (show 9 < 2 ^ 4 by decide) (Nat.pow_le_pow_right (by decide) (by decide))))
theorem num_len1 {o : Int} (h : 0 ≤ o ∧ o ≤ 9) : (Str.ofString (toString o)).length ≤ 2 := by
  have e := int_text_length_le10 (a := o) (k := 1) (by decide) (by omega)
  rw [ofString_length]
  omega
theorem lits : (Str.ofString "state ").length = 6 ∧ (Str.ofString " ").length = 1 ∧ (Str.ofString "input ").length = 6 ∧ (Str.ofString "leader ").length = 7 ∧ (Str.ofString "rule ").length = 5 ∧ (Str.ofString " to ").length = 4 ∧ (Str.ofString "\n").length = 1 := by decide +kernel
section
variable {D : DD}
theorem ValidN.nl (v : ValidN D) {s : Str} (h : s ∈ D.st) : s.length ≤ 12 := name_len (v.nm s h)
theorem lnSt_len (v : ValidN D) {p : Str × Int} (h1 : p.1 ∈ D.st) (h2 : p.2 ∈ D.ou) : (lnSt p).length ≤ 64 := by
  have a := v.nl h1
  have b := num_len1 (v.ou _ h2)
  obtain ⟨l1, l2, _⟩ := lits
  unfold lnSt
  simp only [Str.length_append]
  omega
theorem lnIn_len (v : ValidN D) {p : Str × Str} (h : p ∈ D.ins) : (lnIn p).length ≤ 64 := by
  obtain ⟨a, b⟩ := v.inm p h
  have a' := name_len a
  have b' := v.nl b
  obtain ⟨_, l2, l3, _⟩ := lits
  unfold lnIn
  simp only [Str.length_append]
  omega
theorem lnLd_len (v : ValidN D) {s : Str} (h : s ∈ D.ld) : (lnLd s).length ≤ 64 := by
  have b' := v.nl (v.ldm s h)
  obtain ⟨_, _, _, l4, _⟩ := lits
  unfold lnLd
  simp only [Str.length_append]
  omega
theorem lnRu_len (v : ValidN D) {r : S4} (h : r ∈ D.ru) : (lnRu r).length ≤ 64 := by
  obtain ⟨m1, m2, m3, m4⟩ := v.rum r h
  have a1 := v.nl m1
  have a2 := v.nl m2
  have a3 := v.nl m3
  have a4 := v.nl m4
  obtain ⟨_, l2, _, _, l5, l6, _⟩ := lits
  unfold lnRu
  simp only [Str.length_append]
  omega
theorem zip_mem {α β : Type} {l : List α} {m : List β} {p : α × β} (h : p ∈ l.zip m) : p.1 ∈ l ∧ p.2 ∈ m := ⟨(List.of_mem_zip (a := p.1) (b := p.2) h).1, (List.of_mem_zip (a := p.1) (b := p.2) h).2⟩
theorem lines_len (v : ValidN D) {y : Str} (h : y ∈ linesOf D) : y.length ≤ 64 := by
  unfold linesOf at h
  simp only [List.mem_append, List.mem_map] at h
  rcases h with ((⟨p, hp, rfl⟩ | ⟨p, hp, rfl⟩) | ⟨s, hs, rfl⟩) | ⟨r, hr, rfl⟩
  · exact lnSt_len v (zip_mem hp).1 (zip_mem hp).2
  · exact lnIn_len v hp
  · exact lnLd_len v hs
  · exact lnRu_len v hr
theorem lines_n (v : ValidN D) : (linesOf D).length ≤ 418 + D.ru.length := by
  unfold linesOf
  simp only [List.length_append, List.length_map, List.length_zip]
  have a := v.n400
  have b := v.n8
  have c := v.n10
  omega
theorem sum_le (l : List Str) (k : Nat) (h : ∀ y ∈ l, y.length ≤ k) : (l.map (·.length)).sum ≤ k * l.length := by
  induction l with
  | nil => simp
  | cons y l ih =>
    have h1 := h y List.mem_cons_self
    have h2 := ih fun z hz => h z (List.mem_cons_of_mem _ hz)
    rw [List.map_cons, List.sum_cons, List.length_cons, Nat.mul_succ]
    omega
theorem join_fits (v : ValidN D) (hr : D.ru.length ≤ 200000) : ((linesOf D).map (·.length)).sum + (linesOf D).length * (Str.ofString "\n").length ≤ 16777216 := by
  have a := sum_le (linesOf D) 64 fun y hy => lines_len v hy
  have b := lines_n v
  obtain ⟨_, _, _, _, _, _, l7⟩ := lits
  rw [l7]
  omega
end
end Vf
namespace Vf
open PySem L2
def DD.rev (D : DD) : DD := ⟨D.st, D.ins.reverse, D.ld.reverse, D.ru.reverse, D.ou⟩
theorem ValidN.rev {D : DD} (v : ValidN D) : ValidN D.rev where
  len := v.len
  n400 := v.n400
  nm := v.nm
  nd := v.nd
  ou := v.ou
  n8 := by
    show D.ins.reverse.length ≤ 8
    rw [List.length_reverse]
    exact v.n8
  inm := fun p hp => v.inm p (List.mem_reverse.mp hp)
  ind := by
    have pm := ((List.reverse_perm D.ins).map (·.1)).nodup_iff
    exact pm.mpr v.ind
  n10 := by
    show D.ld.reverse.length ≤ 10
    rw [List.length_reverse]
    exact v.n10
  ldm := fun s hs => v.ldm s (List.mem_reverse.mp hs)
  rum := fun r hr => v.rum r (List.mem_reverse.mp hr)
  rnd := by
    have pm := ((List.reverse_perm D.ru).map fun x : S4 => (x.1, x.2.1)).nodup_iff
    exact pm.mpr v.rnd
theorem ValidN.nil : ValidN DD.nil where
  len := rfl
  n400 := Nat.zero_le _
  nm := fun s hs => absurd hs List.not_mem_nil
  nd := List.nodup_nil
  ou := fun s hs => absurd hs List.not_mem_nil
  n8 := Nat.zero_le _
  inm := fun s hs => absurd hs List.not_mem_nil
  ind := List.nodup_nil
  n10 := Nat.zero_le _
  ldm := fun s hs => absurd hs List.not_mem_nil
  rum := fun s hs => absurd hs List.not_mem_nil
  rnd := List.nodup_nil
theorem text_nil : textOf DD.nil = Str.ofString "" := by decide +kernel
end Vf
namespace Vf
open PySem L2
theorem none_put {H : Hp} {a x : Addr} {o : HO} (h : H x = none) (ne : x ≠ a) : upd H a o x = none := by
  rw [upd_ne ne]
  exact h
end Vf

namespace Vf
open PySem PySem.W PySem.Spec PyProof.Rows L2
/-! ### min(xs, default=d) of whole numbers -/
theorem least_ok : ∀ (zs : List Int) (z : Int), PySem.W.minOf z zs ∈ z :: zs ∧ ∀ q ∈ z :: zs, PySem.W.minOf z zs ≤ q
  | [], z => ⟨List.mem_singleton.mpr rfl, fun q hq => by
      have e : q = z := by simpa using hq
      rw [e]
      exact Int.le_refl _⟩
  | y :: r, z => by
    have step : PySem.W.minOf z (y :: r) = PySem.W.minOf (if y < z then y else z) r := by
      unfold PySem.W.minOf
      rw [List.foldl_cons]
      congr 1
      by_cases c : y < z
      · simp [DatumOrd.lt, c]
      · simp [DatumOrd.lt, c]
    obtain ⟨m1, m2⟩ := least_ok r (if y < z then y else z)
    rw [step]
    have low := m2 _ (List.mem_cons_self ..)
    refine ⟨?_, fun q hq => ?_⟩
    · rcases List.mem_cons.mp m1 with e | e
      · rw [e]
        by_cases c : y < z
        · rw [if_pos c]; simp
        · rw [if_neg c]; simp
      · exact List.mem_cons_of_mem _ (List.mem_cons_of_mem _ e)
    · rcases List.mem_cons.mp hq with e | e
      · rw [e]
        by_cases c : y < z
        · rw [if_pos c] at low ⊢; omega
        · rw [if_neg c] at low ⊢; omega
      · rcases List.mem_cons.mp e with e | e
        · rw [e]
          by_cases c : y < z
          · rw [if_pos c] at low ⊢; omega
          · rw [if_neg c] at low ⊢; omega
        · exact m2 q (List.mem_cons_of_mem _ e)
def rLeastD (K : PySem.W.Frag) : List V → List V → Hp → VK → Prop := fun vs zs H Q => ∃ (a : Addr) (ns : List Int) (d : Int), vs = [V.ref a] ∧ zs = [V.int d] ∧ (SqL K H a (ns.map V.int) ∨ SqT K H a (ns.map V.int)) ∧
  ∀ m : Int, (ns = [] ∧ m = d ∨ m ∈ ns ∧ ∀ y ∈ ns, m ≤ y) → Q (.int m) H
theorem ints_at : ∀ {its : List Value} {ns : List Int} {i : Nat} {v : Value}, IntsAre its ns → its[i]? = some v → ∃ (n : Int) (t : Tok), v = .int n t
  | _, _, i, v, .nil, e => by simp at e
  | _, _, 0, v, .cons n t _, e => by
    have e' : Value.int n t = v := by simpa using e
    exact ⟨n, t, e'.symm⟩
  | _, _, i + 1, v, .cons n t r, e => ints_at (i := i) r (by simpa using e)
theorem holds_only {h : Heap} {n m : Int} {t : Tok} (q : PySem.W.Holds h (Value.int n t) m) : n = m := by
  obtain ⟨as, r⟩ := q
  cases r
  rfl
theorem cr_leastD {X : Cx} (hu : X.A.units + 64 < cLine) (hc : X.calm = true := by rfl) : CallRK X (.builtin "min") [Str.ofString "default"] (rLeastD X.K) := by
  intro pins s σ H vs zs us ws Q I r rz h
  obtain ⟨a, ns, d, rfl, rfl, both, q⟩ := h
  obtain rfl := Vals.ref1 r
  obtain ⟨w1, rfl, e1⟩ := vals1 rz
  obtain ⟨tk0, rfl⟩ : ∃ tk, w1 = Value.int d tk := e1
  have room : X.A.units + 1 + Datum.depth Int < cLine := by
    show X.A.units + 1 + 0 < cLine
    omega
  have non : ∀ h' tk, ns = [] → (∀ b o, s.heap.get? b = some o → h'.get? b = some o) → EP X pins σ Q (Value.int d tk0) { s with heap := h', toks := tk } := fun h' tk e k =>
    ⟨.int d, H, I.kept (t' := tk) k, ⟨tk0, rfl⟩, q d (.inl ⟨e, rfl⟩)⟩
  have one : ∀ (its : List Value) (y : Int) (ys : List Int) (i : Nat) v h' tk, IntsAre its ns → ns = y :: ys → its.toArray[i]? = some v → PySem.W.Holds h' v (PySem.W.minOf y ys) → (∀ b o, s.heap.get? b = some o → h'.get? b = some o) →
      EP X pins σ Q v { s with heap := h', toks := tk } := fun its y ys i v h' tk ia e hv hh k => by
    obtain ⟨n, t, rfl⟩ := ints_at (i := i) ia (by simpa using hv)
    have en := holds_only hh
    obtain ⟨f1, f2⟩ := least_ok ys y
    refine ⟨.int n, H, I.kept (t' := tk) k, ⟨t, rfl⟩, q n (.inr ?_)⟩
    rw [en, e]
    exact ⟨f1, f2⟩
  rcases both with hs | hs
  · obtain ⟨its, rv, hl, _⟩ := I.list hs
    exact PySem.W.min_list_datum_default (I.ok.hd hc) hl.isList (.of_ints rv.ints) room (fun e h' tk k => non h' tk e k) fun y ys i v h' tk e hv hh k => one its y ys i v h' tk rv.ints e hv hh k
  · obtain ⟨its, rv, hl, _⟩ := I.tuple hs
    exact PySem.W.min_tuple_datum_default (I.ok.hd hc) hl (.of_ints rv.ints) room (fun e h' tk k => non h' tk e k) fun y ys i v h' tk e hv hh k => one its y ys i v h' tk rv.ints e hv hh k
/-! ### the item of a list, for xs[i] += e -/
def rItemL (K : PySem.W.Frag) : V → V → Hp → VK → Prop := fun x y H Q => ∃ (p : Addr) (xs : List V) (i : Int) (z : V), x = V.ref p ∧ y = V.int i ∧ SqL K H p xs ∧ 0 ≤ i ∧ xs[i.toNat]? = some z ∧ Q z H
theorem get_listM {X : Cx} : PGet X (rItemL X.K) := by
  intro pins s σ H o i ov iv Q I ro ri h
  obtain ⟨p, xs, k, z, rfl, rfl, hs, h0, hz, q⟩ := h
  cases ro
  obtain ⟨t, rfl⟩ := ri
  obtain ⟨its, rv, hl, hb⟩ := I.list hs
  obtain ⟨u, hu, ru⟩ := rv.get hz
  have hlt := (List.getElem?_eq_some_iff.mp hz).1
  have big := line63
  exact wpAny_getItem_list hl.isList h0 (by omega) (by simpa using hu) ⟨z, H, I, ru, q⟩
end Vf

/-! ### zip of a tuple and a list -/
namespace Vf
open PySem PySem.Spec PyProof.Rows L2
def ItzM (K : PySem.W.Frag) (a b : Addr) : It where
  go := fun i H => ∃ (xs ys : List V) (x y : V), (SqT K H a xs ∧ SqL K H b ys) ∧ xs[i]? = some x ∧ ys[i]? = some y
  yld := fun i H v H' => ∃ (T : Addr) (x y : V), (v = .ref T ∧ H T = none ∧ H' = upd H T (.tup [x, y])) ∧ (∀ l, SqT K H a l → l[i]? = some x) ∧ (∀ l, SqL K H b l → l[i]? = some y)
  stop := fun i H => ∃ xs ys : List V, (SqT K H a xs ∧ SqL K H b ys) ∧ i ≤ xs.length ∧ i ≤ ys.length ∧ (i = xs.length ∨ i = ys.length)
/-- the iterator's own state -/
def StM (z TI TO i1 i2 a b : Addr) (i : Nat) (h : Heap) : Prop := IsZip h z TI TO .none ∧ IsPair h TI (.ref i1) (.ref i2) ∧ (∃ u v, IsPair h TO u v) ∧ h.IsTupleIter i1 a i ∧ h.IsListIter i2 b i
theorem five {c z TI TO i1 i2 : Addr} (h : c ∈ [z, TI, TO, i1, i2]) : c = z ∨ c = TI ∨ c = TO ∨ c = i1 ∨ c = i2 := by simpa using h
theorem StM.lt {z TI TO i1 i2 a b c : Addr} {i : Nat} {h : Heap} (S : StM z TI TO i1 i2 a b i h) (hc : c ∈ [z, TI, TO, i1, i2]) : c < h.objs.size := by
  obtain ⟨s1, s2, ⟨u, v, s3⟩, ⟨o1, s4, _⟩, ⟨o2, s5, _⟩⟩ := S
  rcases five hc with e | e | e | e | e <;> subst e
  · exact Heap.lt_size s1
  · exact Heap.lt_size s2
  · exact Heap.lt_size s3
  · exact Heap.lt_size s4
  · exact Heap.lt_size s5
section
variable {P : Program} {w : World} {K : PySem.W.Frag} {a b z TI TO i1 i2 : Addr}
theorem sepM (D : ZipApart z TI TO i1 i2 a b) : ZipSep2 z TI TO i1 i2 [i1, a] [i2, b] where
  TIz := D.TIz
  TOz := D.TOz
  TITO := D.TITO
  TIi1 := D.TIi1
  TIi2 := D.TIi2
  mem1 := List.mem_cons_self ..
  mem2 := List.mem_cons_self ..
  zf1 := by simp [Ne.symm D.i1z, Ne.symm D.l1z]
  zf2 := by simp [Ne.symm D.i2z, Ne.symm D.l2z]
  Tf1 := by simp [D.TOi1, Ne.symm D.l1TO]
  Tf2 := by simp [D.TOi2, Ne.symm D.l2TO]
  sep1_2 := by simp [D.i12, Ne.symm D.l2i1]
  sep2_1 := by simp [Ne.symm D.i12, Ne.symm D.l1i2]
theorem turn_zipM {elts : List Expr} {kk : Nat} {tpos : Pos} (D : ZipApart z TI TO i1 i2 a b) : Turn P w K (.Tuple elts kk tpos) (ItzM K a b) [z, TI, TO, i1, i2] z (StM z TI TO i1 i2 a b) where
  mem := List.mem_cons_self ..
  self := fun A i s Q E S q => wpAny_pyIter_zip S.1 q
  keep := by
    rintro i h h' ⟨s1, s2, ⟨u, v, s3⟩, s4, s5⟩ k
    exact ⟨k _ (by simp) _ s1, k _ (by simp) _ s2, ⟨u, v, k _ (by simp) _ s3⟩, s4.at fun o => k _ (by simp) o, s5.at fun o => k _ (by simp) o⟩
  obj := by
    rintro i h ⟨s1, s2, ⟨u, v, s3⟩, ⟨o1, s4, _, t4⟩, ⟨o2, s5, _, t5⟩⟩ c hc
    rcases five hc with e | e | e | e | e <;> subst e
    · exact ⟨_, s1, nofun⟩
    · exact ⟨_, s2, nofun⟩
    · exact ⟨_, s3, nofun⟩
    · refine ⟨o1, s4, fun v' e => ?_⟩
      rw [t4] at e
      cases e
    · refine ⟨o2, s5, fun v' e => ?_⟩
      rw [t5] at e
      cases e
  item := by
    rintro X rfl rfl rfl hc i pins s σ H E I hf S ⟨xs, ys, x, y, ⟨hqx, hqy⟩, hx, hy⟩
    have hlt := fun c hc => StM.lt (c := c) S hc
    obtain ⟨s1, s2, ⟨u0, v0, s3⟩, s4, s5⟩ := S
    obtain ⟨us, rx, px, _⟩ := I.tuple hqx
    obtain ⟨vs, ry, py, _⟩ := I.list hqy
    obtain ⟨u, hu, ru⟩ := rx.get hx
    obtain ⟨v, hv, rv⟩ := ry.get hy
    have nh : X.A.in1.handled = none := I.ok.hd hc
    have lx := (List.getElem?_eq_some_iff.mp hu).1
    have ly := (List.getElem?_eq_some_iff.mp hv).1
    refine wpAny_pyNext_zipD2_item (sepM D) (Draws.tuple nh i1 a D.l1i1 us.toArray) (Draws.list nh i2 b D.l2i2 vs.toArray) s1 s2 s3 ⟨s4, px⟩ ⟨s5, py.isList⟩ (by simpa using lx) (by simpa using ly)
      fun x1 x2 g tk e1 e2 g1 g2 g3 g4 g5 _ gk => ?_
    obtain rfl : u = x1 := by
      have e := e1
      simp only [List.getElem?_toArray] at e
      rw [hu] at e
      exact Option.some.inj e
    obtain rfl : v = x2 := by
      have e := e2
      simp only [List.getElem?_toArray] at e
      rw [hv] at e
      exact Option.some.inj e
    refine ⟨_, rfl, ?_⟩
    refine wpAny_letOwnedTupleGo_zip (s := { s with heap := g, toks := tk }) g1 fun g' z' sb => ?_
    have zlt := hlt z (by simp)
    have got : g'.get? s.heap.objs.size = some { cls := .type "tuple", data := .seq #[u, v] } := (sb.2 _ (Nat.ne_of_gt zlt)).trans g5
    have fresh : H s.heap.objs.size = none := I.hok.fresh (Nat.le_refl _)
    have made : ObjOk X.prog X.w (upd H s.heap.objs.size (.tup [x, y])) g' s.heap.objs.size (.tup [x, y]) := by
      refine ⟨?_, [u, v], .cons ru (.cons rv .nil), ⟨_, got, rfl, _, rfl⟩⟩
      show 2 ≤ sizeLine
      decide
    have stay : ∀ c o, c ∉ [z, TI, TO, i1, i2] → s.heap.get? c = some o → g'.get? c = some o := fun c o n q => by
      have n1 : c ≠ z := fun e => n (by simp [e])
      have n2 : c ≠ TO := fun e => n (by simp [e])
      have n3 : c ≠ i1 := fun e => n (by simp [e])
      have n4 : c ≠ i2 := fun e => n (by simp [e])
      exact (sb.2 c n1).trans (gk c o n1 n2 n3 n4 q)
    refine ⟨.ref s.heap.objs.size, upd H s.heap.objs.size (.tup [x, y]), I.turnedNew (t' := tk) (ch := [z, TI, TO, i1, i2]) stay hf (Nat.le_refl _) made, rfl, ?_, ?_, ?_⟩
    · refine ⟨_, x, y, ⟨rfl, fresh, rfl⟩, fun l hl => ?_, fun l hl => ?_⟩
      · rw [I.tuple_inj hl hqx]; exact hx
      · rw [I.list_inj hl hqy]; exact hy
    · refine ⟨z', ?_, ⟨u, v, (sb.2 _ D.TOz).trans g2⟩, g3.1.at fun o q => (sb.2 _ D.i1z).trans q, g4.1.at fun o q => (sb.2 _ D.i2z).trans q⟩
      exact (sb.2 _ D.TIz).trans (gk _ _ D.TIz D.TITO D.TIi1 D.TIi2 s2)
    · intro c hcm
      rw [upd_ne (Nat.ne_of_lt (hlt c hcm))]
      exact (hf c hcm).1
  done := by
    rintro X rfl rfl rfl hc i pins s σ H E I hf ⟨s1, s2, ⟨u0, v0, s3⟩, s4, s5⟩ ⟨xs, ys, ⟨hqx, hqy⟩, l1, l2, l3⟩
    obtain ⟨us, rx, px, _⟩ := I.tuple hqx
    obtain ⟨vs, ry, py, _⟩ := I.list hqy
    have nh : X.A.in1.handled = none := I.ok.hd hc
    rw [rx.length] at l1 l3
    rw [ry.length] at l2 l3
    refine wpAny_pyNext_zipD2_end (sepM D) (Draws.tuple nh i1 a D.l1i1 us.toArray) (Draws.list nh i2 b D.l2i2 vs.toArray) s1 s2 s3 ⟨s4, px⟩ ⟨s5, py.isList⟩ (by simpa using l1) (by simpa using l2) (by simpa using l3) fun g tk gk => ⟨rfl, ?_⟩
    refine I.turnedL (t' := tk) (ch := [z, TI, TO, i1, i2]) (fun c o n q => ?_) hf
    exact gk c o (fun e => n (by simp [e])) (fun e => n (by simp [e])) (fun e => n (by simp [e])) (fun e => n (by simp [e])) q
end
/-! the making of it -/
def zm1 (h : Heap) (a : Addr) : Heap := h.push { cls := .type "tuple_iterator", data := .fields #[.ref a, .int 0 0] }
def zm2 (h : Heap) (a b : Addr) : Heap := (zm1 h a).push { cls := .type "list_iterator", data := .fields #[.ref b, .int 0 0] }
def zm3 (h : Heap) (a b : Addr) : Heap := (zm2 h a b).push { cls := .type "tuple", data := .seq #[.ref h.objs.size, .ref (zm1 h a).objs.size] }
def zm4 (h : Heap) (a b : Addr) : Heap := (zm3 h a b).push { cls := .type "tuple", data := .seq #[.none, .none] }
def zm5 (h : Heap) (a b : Addr) : Heap := (zm4 h a b).push { cls := .type "zip", data := .fields #[.none, .bool false, .bool false, .ref (zm2 h a b).objs.size, .ref (zm3 h a b).objs.size] }
theorem meets_zipM (a b : Addr) (xs ys : Array Value) : Meets (Builtin.«zip.__new__» ⟨[.type "zip", .ref a, .ref b], []⟩)
    fun _ R s => s.heap.IsTuple a xs ∧ s.heap.IsList b ys ∧ R (.ok (.ret (.ref (zm4 s.heap a b).objs.size))) { s with heap := zm5 s.heap a b } := by
  refine .of_wp fun prog w A R s h => ?_
  obtain ⟨hp, gs, dr, tk, os⟩ := s
  obtain ⟨ha, hb, h⟩ := h
  have sub := sub_zip
  have ita : Heap.IsTuple (Shared.heap ⟨hp, gs, dr, tk, os⟩) a xs := ha
  have itb : Heap.IsList (Shared.heap ⟨hp.push { cls := .type "tuple_iterator", data := .fields #[.ref a, .int 0 0] }, gs, dr, tk, os⟩) b ys := Heap.IsList.push hb _
  wp_walk using wpAny_pyIter_tuple ita, wpAny_pyIter_list itb
  exact ⟨_, rfl, h⟩
theorem call_zipM {prog : Program} {w : World} {A : Around} {E : Value → Shared → Prop} {s : Shared} {a b : Addr} {xs ys : Array Value} {Q : Value → Shared → Prop} (ha : s.heap.IsTuple a xs) (hb : s.heap.IsList b ys)
    (q : ∀ g, StM (s.heap.objs.size + 4) (s.heap.objs.size + 2) (s.heap.objs.size + 3) s.heap.objs.size (s.heap.objs.size + 1) a b 0 g → (∀ c o, s.heap.get? c = some o → g.get? c = some o) → Q (.ref (s.heap.objs.size + 4)) { s with heap := g }) :
    wpAny (model prog w) A (call (.type "zip") [.ref a, .ref b]) Q E s := by
  have n1 : (zm1 s.heap a).objs.size = s.heap.objs.size + 1 := Heap.size_push ..
  have n2 : (zm2 s.heap a b).objs.size = s.heap.objs.size + 2 := (Heap.size_push ..).trans (by rw [n1])
  have n3 : (zm3 s.heap a b).objs.size = s.heap.objs.size + 3 := (Heap.size_push ..).trans (by rw [n2])
  have n4 : (zm4 s.heap a b).objs.size = s.heap.objs.size + 4 := (Heap.size_push ..).trans (by rw [n3])
  have u1 : ∀ {c o}, s.heap.get? c = some o → (zm1 s.heap a).get? c = some o := fun e => Heap.get?_push_of_some _ e
  have u2 : ∀ {c o}, (zm1 s.heap a).get? c = some o → (zm2 s.heap a b).get? c = some o := fun e => Heap.get?_push_of_some _ e
  have u3 : ∀ {c o}, (zm2 s.heap a b).get? c = some o → (zm3 s.heap a b).get? c = some o := fun e => Heap.get?_push_of_some _ e
  have u4 : ∀ {c o}, (zm3 s.heap a b).get? c = some o → (zm4 s.heap a b).get? c = some o := fun e => Heap.get?_push_of_some _ e
  have u5 : ∀ {c o}, (zm4 s.heap a b).get? c = some o → (zm5 s.heap a b).get? c = some o := fun e => Heap.get?_push_of_some _ e
  have k1 : (zm1 s.heap a).get? s.heap.objs.size = some { cls := .type "tuple_iterator", data := .fields #[.ref a, .int 0 0] } := Heap.get?_push_size _ rfl
  have k2 : (zm2 s.heap a b).get? (s.heap.objs.size + 1) = some { cls := .type "list_iterator", data := .fields #[.ref b, .int 0 0] } := by
    rw [← n1]; exact Heap.get?_push_size _ rfl
  have k3 : (zm3 s.heap a b).get? (s.heap.objs.size + 2) = some { cls := .type "tuple", data := .seq #[.ref s.heap.objs.size, .ref (zm1 s.heap a).objs.size] } := by
    rw [← n2]; exact Heap.get?_push_size _ rfl
  have k4 : (zm4 s.heap a b).get? (s.heap.objs.size + 3) = some { cls := .type "tuple", data := .seq #[.none, .none] } := by
    rw [← n3]; exact Heap.get?_push_size _ rfl
  have k5 : (zm5 s.heap a b).get? (s.heap.objs.size + 4) = some { cls := .type "zip", data := .fields #[.none, .bool false, .bool false, .ref (zm2 s.heap a b).objs.size, .ref (zm3 s.heap a b).objs.size] } := by
    rw [← n4]; exact Heap.get?_push_size _ rfl
  rw [n1] at k3
  rw [n2, n3] at k5
  refine callType_new F.called_zip (by decide) (F.typeCall_zip_2 _ _) (F.newCall_zip_2 _ _) (fun obj => F.args_object_init_3 obj _ _) F.entry_zip_new (meets_zipM a b xs ys) ⟨ha, hb, ?_⟩
  show _ ∧ _
  rw [n4]
  exact ⟨⟨_, k5, rfl⟩, q _ ⟨k5, u5 (u4 k3), ⟨_, _, u5 k4⟩, ⟨_, u5 (u4 (u3 (u2 k1))), rfl, rfl⟩, ⟨_, u5 (u4 (u3 k2)), rfl, rfl⟩⟩ fun c o e => u5 (u4 (u3 (u2 (u1 e))))⟩
def iZipM (K : PySem.W.Frag) (ta : TA) : TI := fun σ H R => ta σ H fun vs H1 => ∃ (a b : Addr) (xs ys : List V), vs = [.ref a, .ref b] ∧ (SqT K H1 a xs ∧ SqL K H1 b ys) ∧ R (ItzM K a b) H1
theorem pi_zipM {X : Cx} {e e2 : Expr} {ta : TA} {p pos tpos : Pos} {elts : List Expr} {kk : Nat} (hg : Gl X "zip") (hm : X.mg "zip" = none) (ha : PA X [e, e2] ta)
    (hs : starEach [e, e2] X.env = (false, eval e X.env) :: starEach [e2] X.env := by rfl) (hpl : (backTo pos (starEach [e2] X.env)).any (·.1) = false := by rfl) :
    PI X (.Tuple elts kk tpos) (.Call (.Name "zip" p) [e, e2] [] pos) (iZipM X.K ta) := by
  constructor
  intro pins s σ H R I h
  refine Call_ (ld_blt I hg hm PyProof.Rows.boot_zip (PyProof.Rows.callWith_type1 (thn (ha.run pos pins s σ H _ I h) fun us s1 got => ?_) hs hpl))
  obtain ⟨vs, H1, I1, r1, a, b, xs, ys, rfl, ⟨hqx, hqy⟩, q⟩ := got
  obtain ⟨u1, r2, rfl, e1, r3⟩ : ∃ u r2, us = u :: r2 ∧ RelV (.ref a) u ∧ Vals [.ref b] r2 := by
    cases r1 with
    | cons x y => exact ⟨_, _, rfl, x, y⟩
  obtain rfl := Vals.ref1 r3
  obtain rfl : u1 = Value.ref a := e1
  obtain ⟨its, _, px, _⟩ := I1.tuple hqx
  obtain ⟨its2, _, py, _⟩ := I1.list hqy
  obtain ⟨o1, w1, _⟩ := id px
  refine call_zipM (xs := its.toArray) (ys := its2.toArray) px py.isList fun g S gk => wpAny_pyIter_zip S.1 ?_
  refine ⟨_, [s1.heap.objs.size + 4, s1.heap.objs.size + 2, s1.heap.objs.size + 3, s1.heap.objs.size, s1.heap.objs.size + 1], StM _ _ _ _ _ a b, ItzM X.K a b, H1, rfl, I1.kept (t' := s1.toks) gk,
    turn_zipM (PySem.W.ktu_apart s1.heap.objs.size a b (Heap.lt_size w1) py.lt), S, fun c hc => ?_, q⟩
  have le : s1.heap.objs.size ≤ c := by
    rcases five hc with e | e | e | e | e <;> rw [e]
    · exact Nat.le_add_right _ 4
    · exact Nat.le_add_right _ 2
    · exact Nat.le_add_right _ 3
    · exact Nat.le_refl _
    · exact Nat.le_add_right _ 1
  exact I1.fpOk le (I1.hok.fresh le)
theorem for_zipM {K : PySem.W.Frag} {a b : Addr} {xs ys : List V} {g : TG} {tb : TS} {D : Ends} {σ : L2.St} {H : Hp} (hl : xs.length = ys.length) (Pv : Nat → L2.St → Hp → Prop) (h0 : Pv 0 σ H) (hq : ∀ i σ H, Pv i σ H → SqT K H a xs ∧ SqL K H b ys)
    (hs : ∀ (i : Nat) (x y : V) (T : Addr) (σ : L2.St) (H : Hp), xs[i]? = some x → ys[i]? = some y → Pv i σ H → H T = none → g (.ref T) σ (upd H T (.tup [x, y])) fun σ2 H2 => tb { D with nx := Pv (i + 1), ct := Pv (i + 1), bk := D.nx } σ2 H2)
    (hd : ∀ σ H, Pv xs.length σ H → D.nx σ H) :
    ∃ W : Nat → Nat → L2.St → Hp → Prop, (∃ m, W 0 m σ H) ∧ ∀ i m σ H, W i m σ H →
      ((ItzM K a b).stop i H ∧ D.nx σ H) ∨ ((ItzM K a b).go i H ∧ ∃ N : L2.St → Hp → Prop, (∀ σ' H', N σ' H' → ∃ m', m' < m ∧ W (i + 1) m' σ' H') ∧ ∀ v H', (ItzM K a b).yld i H v H' → g v σ H' fun σ2 H2 => tb { D with nx := N, ct := N, bk := D.nx } σ2 H2) := by
  refine ⟨fun i m σ H => i + m = xs.length ∧ Pv i σ H, ⟨_, Nat.zero_add _, h0⟩, ?_⟩
  rintro i m σ H ⟨e, p⟩
  have both := hq i σ H p
  cases m with
  | zero =>
    have e' : i = xs.length := e
    subst e'
    exact .inl ⟨⟨xs, ys, both, Nat.le_refl _, Nat.le_of_eq hl, .inl rfl⟩, hd σ H p⟩
  | succ m =>
    have l1 : i < xs.length := by omega
    have l2 : i < ys.length := by omega
    refine .inr ⟨⟨xs, ys, _, _, both, List.getElem?_eq_getElem l1, List.getElem?_eq_getElem l2⟩, Pv (i + 1), fun σ' H' p' => ⟨m, Nat.lt_succ_self m, by omega, p'⟩, ?_⟩
    rintro v H' ⟨T, x, y, ⟨rfl, hT, rfl⟩, f1, f2⟩
    exact hs i x y T σ H (f1 xs both.1) (f2 ys both.2) p hT
end Vf

namespace Vf
open PySem PySem.W PySem.Spec PyProof.Rows L2
/-! ### == of lists of ints, and of tuples of ints -/
theorem dpAll_ints {K : PySem.W.Frag} {H : Hp} : ∀ ns : List Int, DpAll K H (ns.map V.int) (ns.map PyData.int)
  | [] => .nil
  | n :: r => .cons (.int n) (dpAll_ints r)
theorem shapedT_ints (ns : List Int) : SeqAt.shaped (.tuple (ns.map PyData.int)) = true := by
  have e : SeqAt.shaped (.tuple (ns.map PyData.int)) = SeqAt.shaped (.list (ns.map PyData.int)) := by
    unfold SeqAt.shaped
    simp only [PyData.canLay0, PyData.depth]
    rfl
  rw [e]
  exact PySem.W.shaped_ints ns
/-- two lists of ints, or two tuples of ints -/
def TwoInts (K : PySem.W.Frag) (H : Hp) (x y : V) (ns ms : List Int) : Prop := ∃ a b : Addr, x = .ref a ∧ y = .ref b ∧ ((SqL K H a (ns.map V.int) ∧ SqL K H b (ms.map V.int)) ∨ (SqT K H a (ns.map V.int) ∧ SqT K H b (ms.map V.int)))
theorem TwoInts.dp {K : PySem.W.Frag} {H : Hp} {x y : V} {ns ms : List Int} (t : TwoInts K H x y ns ms) : ∃ d e, Dp K H x d ∧ Dp K H y e ∧ SeqAt.shaped d = true ∧ SeqAt.shaped e = true ∧ PyData.eqv d e = decide (ns = ms) := by
  obtain ⟨a, b, rfl, rfl, ⟨h1, h2⟩ | ⟨h1, h2⟩⟩ := t
  · exact ⟨_, _, .lst h1 (dpAll_ints ns), .lst h2 (dpAll_ints ms), PySem.W.shaped_ints ns, PySem.W.shaped_ints ms, PySem.W.Datum.eqv (α := List Int) ns ms⟩
  · refine ⟨_, _, .tup h1 (dpAll_ints ns), .tup h2 (dpAll_ints ms), shapedT_ints ns, shapedT_ints ms, ?_⟩
    refine (PySem.W.Datum.eqv (α := PySem.W.Tup Int) ⟨ns⟩ ⟨ms⟩).trans (decide_eq_decide.mpr ⟨fun e => congrArg PySem.W.Tup.items e, fun e => by rw [e]⟩)
def rEqIs (K : PySem.W.Frag) : R2 := fun x y H Q => ∃ ns ms : List Int, TwoInts K H x y ns ms ∧ Q (.bl (decide (ns = ms))) H
def rNeIs (K : PySem.W.Frag) : R2 := fun x y H Q => ∃ ns ms : List Int, TwoInts K H x y ns ms ∧ Q (.bl (!decide (ns = ms))) H
theorem op_eqIs {X : Cx} (hu : X.A.units + 64 < cLine) : OpR X (compareOp .Eq) (rEqIs X.K) := by
  rintro pins s σ H x y v u Q I rx ry ⟨ns, ms, t, q⟩
  obtain ⟨d, e, h1, h2, h3, h4, h5⟩ := t.dp
  exact op_eqD hu pins s σ H x y v u Q I rx ry ⟨d, e, h1, h2, h3, h4, by rw [h5]; exact q⟩
theorem op_neIs {X : Cx} (hu : X.A.units + 64 < cLine) : OpR X (compareOp .NotEq) (rNeIs X.K) := by
  rintro pins s σ H x y v u Q I rx ry ⟨ns, ms, t, q⟩
  obtain ⟨d, e, h1, h2, h3, h4, h5⟩ := t.dp
  exact op_neD hu pins s σ H x y v u Q I rx ry ⟨d, e, h1, h2, h3, h4, by rw [h5]; exact q⟩
/-! ### an item of a list or of a tuple -/
def rIxS (K : PySem.W.Frag) : R2 := fun x y H Q => ∃ (p : Addr) (xs : List V) (i : Int) (z : V), x = .ref p ∧ y = .int i ∧ (SqL K H p xs ∨ SqT K H p xs) ∧ atI xs i = some z ∧ Q z H
theorem ix_seq {X : Cx} : IxR X (rIxS X.K) := by
  rintro value slice pins s σ H x y v u Q I rx ry ⟨p, xs, i, z, e1, e2, hl | ht, hz, q⟩ hs
  · exact ix_list value slice pins s σ H x y v u Q I rx ry ⟨p, xs, i, z, e1, e2, hl, hz, q⟩ hs
  · exact ix_tup value slice pins s σ H x y v u Q I rx ry ⟨p, xs, i, z, e1, e2, ht, hz, q⟩ hs
/-! ### catching -/
theorem takesN {X : Cx} : Takes X (fun _ _ _ _ => False) := takes0
theorem neq_none {H : Hp} {a b : Addr} {o : HO} (h : H a = some o) (n : H b = none) : a ≠ b := fun e => by
  rw [e, n] at h
  cases h
/-! ### a heap without one object -/
def Er (p : Addr) (H : Hp) : Hp := fun a => if a = p then none else H a
theorem er_self {p : Addr} {H : Hp} : Er p H p = none := if_pos rfl
theorem er_ne {p a : Addr} {H : Hp} {o o' : HO} (h : H a = some o) (hp : H p = some o') (n : o ≠ o') : Er p H a = some o := by
  unfold Er
  rw [if_neg fun e => ?_]
  · exact h
  · subst e
    rw [h] at hp
    exact n (Option.some.inj hp)
theorem er_some {p a : Addr} {H : Hp} {o : HO} (h : Er p H a = some o) : a ≠ p ∧ H a = some o := by
  unfold Er at h
  by_cases e : a = p
  · rw [if_pos e] at h; cases h
  · rw [if_neg e] at h; exact ⟨e, h⟩
theorem er_keep {p : Addr} {H H' : Hp} (k : Keep [p] H H') : Same (Er p H) H' := fun a o h => by
  obtain ⟨n, e⟩ := er_some h
  exact k a o (by simpa using n) e
theorem same_keep {p : Addr} {G H H' : Hp} (s : Same G H) (n : G p = none) (k : Keep [p] H H') : Same G H' := fun a o h => k a o (fun m => by
  rw [List.mem_singleton] at m
  rw [m, n] at h
  cases h) (s a o h)
/-! ### the pool of draws: a list of a list of ints and a place in it -/
def PoolX (H : Hp) (p d : Addr) (ds : List Int) (n : Int) : Prop := H p = some (.lst [.ref d, .int n]) ∧ H d = some (.lst (ds.map V.int)) ∧ d ≠ p ∧ ds.length = 160 ∧ ∀ x ∈ ds, 0 ≤ x ∧ x < 4096
def PoolAt (H : Hp) (p : Addr) (n : Int) : Prop := ∃ (d : Addr) (ds : List Int), PoolX H p d ds n
theorem PoolX.same {H H' : Hp} {p d : Addr} {ds : List Int} {n : Int} (P : PoolX H p d ds n) (e : Same H H') : PoolX H' p d ds n := ⟨e _ _ P.1, e _ _ P.2.1, P.2.2⟩
/-- the pool over what stays -/
theorem PoolX.over {G H H' : Hp} {p d : Addr} {ds : List Int} {n m : Int} (P : PoolX H p d ds n) (e : Same (Er p H) H') (h : H' p = some (.lst [.ref d, .int m])) : PoolX H' p d ds m :=
  ⟨h, e _ _ (show Er p H d = _ from (if_neg P.2.2.1).trans P.2.1), P.2.2⟩
section
variable {H : Hp} {p : Addr} {n : Int}
theorem PoolAt.tups {α : Type} {enc : α → List V} {xs : List V} {l : List α} (P : PoolAt H p n) (t : Tups enc H xs l) : Tups enc (Er p H) xs l := by
  obtain ⟨d, ds, h1, _⟩ := P
  exact t.mono fun a ys e => er_ne e h1 (by intro q; cases q)
theorem PoolAt.parts {q : Addr} {D : DD} (P : PoolAt H p n) (S : PartsAt H q D) : PartsAt (Er p H) q D := by
  obtain ⟨ls, li, ll, lr, lo, xi, xr, s0, s1, s2, t2, s3, s4, t4, s5⟩ := S
  have P' := P
  obtain ⟨d, ds, h1, _⟩ := P
  have nS : ∀ l : List Str, HO.lst (l.map V.str) ≠ .lst [.ref d, .int n] := fun l e => by
    cases l with
    | nil => cases e
    | cons a b => injection e with e; injection e with e _; cases e
  have nI : ∀ l : List Int, HO.lst (l.map V.int) ≠ .lst [.ref d, .int n] := fun l e => by
    cases l with
    | nil => cases e
    | cons a b => injection e with e; injection e with e _; cases e
  have nT : ∀ {α : Type} {enc : α → List V} {xs : List V} {l : List α}, Tups enc H xs l → HO.lst xs ≠ .lst [.ref d, .int n] := fun t e => by
    injection e with e
    subst e
    obtain ⟨_, t', _, q, _⟩ := t.get (i := 1) (x := .int n) rfl
    cases q
  exact ⟨ls, li, ll, lr, lo, xi, xr, er_ne s0 h1 (by intro q; cases q), er_ne s1 h1 (nS _), er_ne s2 h1 (nT t2), P'.tups t2, er_ne s3 h1 (nS _), er_ne s4 h1 (nT t4), P'.tups t4, er_ne s5 h1 (nI _)⟩
theorem PoolAt.book {C q : Addr} {a : RA} {D : DD} (P : PoolAt H p n) (S : BookAt C H q a D) : BookAt C (Er p H) q a D := by
  have P' := P
  obtain ⟨d, ds, h1, _⟩ := P
  have tup : ∀ t ys, H t = some (.tup ys) → Er p H t = some (.tup ys) := fun t ys e => er_ne e h1 (by intro q; cases q)
  obtain ⟨dx, h0⟩ := S.ob
  obtain ⟨x2, h2, T2⟩ := S.ins
  obtain ⟨x4, h4, T4⟩ := S.ru
  obtain ⟨kv, hd, R⟩ := S.dr
  obtain ⟨xs, rows, r1, r2, r3, r4, r5⟩ := S.rw
  refine ⟨⟨dx, er_ne h0 h1 (by intro q; cases q)⟩, tup _ _ S.st, ⟨x2, tup _ _ h2, P'.tups T2⟩, tup _ _ S.ld, ⟨x4, tup _ _ h4, P'.tups T4⟩, tup _ _ S.ou, er_ne S.dn h1 (by intro q; cases q), ⟨kv, er_ne hd h1 (by intro q; cases q), R.same tup⟩, ⟨xs, rows, tup _ _ r1, r2, fun i x e => ?_, r4, r5⟩⟩
  obtain ⟨t, e1, e2⟩ := r3 i x e
  exact ⟨t, e1, tup _ _ e2⟩
end
end Vf
namespace Vf
open PySem L2
/-! ### first places -/
def putAt (pl : List Int) (i : Nat) (c : Int) : List Int := pl.set i (pl.getD i 0 + c)
def inPl (D : DD) (n : Nat) (ps : List (Str × Str)) (cs : List Int) : List Int := (ps.zip cs).foldl (fun pl pc => putAt pl (D.st.idxOf pc.1.2) pc.2) (List.replicate n 0)
def ldPl (D : DD) (ls : List Str) (pl : List Int) : List Int := ls.foldl (fun pl s => putAt pl (D.st.idxOf s) 1) pl
def firstPl (D : DD) (cs : List Int) : List Int := ldPl D D.ld (inPl D D.st.length D.ins cs)
theorem putAt_len (pl : List Int) (i : Nat) (c : Int) : (putAt pl i c).length = pl.length := List.length_set ..
theorem fold_len {α : Type} (f : List Int → α → List Int) (h : ∀ pl a, (f pl a).length = pl.length) : ∀ (l : List α) (pl : List Int), (l.foldl f pl).length = pl.length
  | [], _ => rfl
  | a :: r, pl => (fold_len f h r (f pl a)).trans (h pl a)
theorem inPl_len (D : DD) (n : Nat) (ps : List (Str × Str)) (cs : List Int) : (inPl D n ps cs).length = n := (fold_len _ (fun pl a => putAt_len ..) _ _).trans (List.length_replicate ..)
theorem ldPl_len (D : DD) (ls : List Str) (pl : List Int) : (ldPl D ls pl).length = pl.length := fold_len _ (fun pl a => putAt_len ..) _ _
theorem inPl_snoc (D : DD) (n i : Nat) {ps : List (Str × Str)} {cs : List Int} {p : Str × Str} {c : Int} (h1 : ps[i]? = some p) (h2 : cs[i]? = some c) :
    inPl D n (ps.take (i + 1)) (cs.take (i + 1)) = putAt (inPl D n (ps.take i) (cs.take i)) (D.st.idxOf p.2) c := by
  unfold inPl
  rw [take_snoc h1, take_snoc h2, List.zip_append (by rw [take_len h1, take_len h2]), List.foldl_append]
  rfl
theorem ldPl_snoc (D : DD) (i : Nat) {ls : List Str} {s : Str} {pl : List Int} (h : ls[i]? = some s) : ldPl D (ls.take (i + 1)) pl = putAt (ldPl D (ls.take i) pl) (D.st.idxOf s) 1 := by
  unfold ldPl
  rw [take_snoc h, List.foldl_append]
  rfl
theorem zeros (k : Nat) : (List.replicate k [V.int 0]).flatten = (List.replicate k (0 : Int)).map V.int := by
  induction k with
  | zero => rfl
  | succ k ih =>
    rw [List.replicate_succ, List.flatten_cons, ih]
    rfl
theorem putAt_map (pl : List Int) (i : Nat) (c : Int) : (pl.map V.int).set i (V.int (pl.getD i 0 + c)) = (putAt pl i c).map V.int := by
  unfold putAt
  rw [List.map_set]
theorem idx_lt {st : List Str} {s : Str} (h : s ∈ st) : st.idxOf s < st.length := List.idxOf_lt_length_of_mem h
end Vf
namespace Vf
open PySem L2
section
variable {pl : List Int} {st : List Str} {s : Str}
theorem getPl (h : s ∈ st) (hl : pl.length = st.length) : (pl.map V.int)[(ix st s).toNat]? = some (V.int (pl.getD (st.idxOf s) 0)) := by
  have lt : st.idxOf s < pl.length := by rw [hl]; exact idx_lt h
  unfold ix
  rw [Int.toNat_natCast, List.getElem?_map, List.getElem?_eq_getElem lt, List.getD_eq_getElem?_getD, List.getElem?_eq_getElem lt]
  rfl
theorem ixPl (h : s ∈ st) (hl : pl.length = st.length) : ixN (pl.map V.int).length (ix st s) = some (st.idxOf s) := by
  have lt : st.idxOf s < pl.length := by rw [hl]; exact idx_lt h
  unfold ixN ix
  rw [List.length_map, if_pos (Int.natCast_nonneg _), if_pos (by omega), Int.toNat_natCast]
theorem atPl (h : s ∈ st) (hl : pl.length = st.length) : atI (pl.map V.int) (ix st s) = some (V.int (pl.getD (st.idxOf s) 0)) := by
  unfold atI
  rw [ixPl h hl]
  have g := getPl h hl
  unfold ix at g
  rw [Int.toNat_natCast] at g
  exact g
theorem ix_nn : 0 ≤ ix st s := Int.natCast_nonneg _
end
end Vf
namespace Vf
open PySem L2
theorem at0 {xs : List V} {i : Nat} {x : V} (h : xs[i]? = some x) : atI xs (0 + (i : Int)) = some x := by
  rw [Int.zero_add]
  exact atI_nat h
theorem idx_get : ∀ {st : List Str} {s : Str}, s ∈ st → (st.map V.str)[st.idxOf s]? = some (V.str s) ∧ ∀ (m : Nat) (z : V), m < st.idxOf s → (st.map V.str)[m]? = some z → eqV z (.str s) = false
  | [], s, h => nomatch h
  | a :: r, s, h => by
    by_cases e : a = s
    · subst e
      rw [List.idxOf_cons_self]
      exact ⟨rfl, fun m z hm => absurd hm (Nat.not_lt_zero m)⟩
    · have hr : s ∈ r := by
        rcases List.mem_cons.mp h with h | h
        · exact absurd h.symm e
        · exact h
      obtain ⟨g1, g2⟩ := idx_get hr
      have ei : (a :: r).idxOf s = r.idxOf s + 1 := by
        rw [List.idxOf_cons, beq_false_of_ne e]
        rfl
      rw [ei]
      refine ⟨g1, fun m z hm hz => ?_⟩
      cases m with
      | zero =>
        have hz' : V.str a = z := Option.some.inj hz
        subst hz'
        exact beq_false_of_ne e
      | succ m => exact g2 m z (Nat.lt_of_succ_lt_succ hm) hz
end Vf

/-! ### min, max, sum of tuples of whole numbers; len of an own instance -/
namespace Vf
open PySem PySem.W PySem.Spec PyProof.Rows L2
theorem most_ok : ∀ (zs : List Int) (z : Int), PySem.W.maxOf z zs ∈ z :: zs ∧ ∀ q ∈ z :: zs, q ≤ PySem.W.maxOf z zs
  | [], z => ⟨List.mem_singleton.mpr rfl, fun q hq => by
      have e : q = z := by simpa using hq
      rw [e]
      exact Int.le_refl _⟩
  | y :: r, z => by
    have step : PySem.W.maxOf z (y :: r) = PySem.W.maxOf (if z < y then y else z) r := by
      unfold PySem.W.maxOf
      rw [List.foldl_cons]
      congr 1
      by_cases c : z < y
      · simp [DatumOrd.lt, c]
      · simp [DatumOrd.lt, c]
    obtain ⟨m1, m2⟩ := most_ok r (if z < y then y else z)
    rw [step]
    have low := m2 _ (List.mem_cons_self ..)
    refine ⟨?_, fun q hq => ?_⟩
    · rcases List.mem_cons.mp m1 with e | e
      · rw [e]
        by_cases c : z < y
        · rw [if_pos c]; simp
        · rw [if_neg c]; simp
      · exact List.mem_cons_of_mem _ (List.mem_cons_of_mem _ e)
    · rcases List.mem_cons.mp hq with e | e
      · rw [e]
        by_cases c : z < y
        · rw [if_pos c] at low ⊢; omega
        · rw [if_neg c] at low ⊢; omega
      · rcases List.mem_cons.mp e with e | e
        · rw [e]
          by_cases c : z < y
          · rw [if_pos c] at low ⊢; omega
          · rw [if_neg c] at low ⊢; omega
        · exact m2 q (List.mem_cons_of_mem _ e)
def rMinT (K : PySem.W.Frag) : List V → Hp → VK → Prop := fun vs H Q => ∃ (a : Addr) (ns : List Int), vs = [V.ref a] ∧ SqT K H a (ns.map V.int) ∧ 0 < ns.length ∧ ∀ m : Int, m ∈ ns → (∀ y ∈ ns, m ≤ y) → Q (.int m) H
def rMaxT (K : PySem.W.Frag) : List V → Hp → VK → Prop := fun vs H Q => ∃ (a : Addr) (ns : List Int), vs = [V.ref a] ∧ SqT K H a (ns.map V.int) ∧ 0 < ns.length ∧ ∀ m : Int, m ∈ ns → (∀ y ∈ ns, y ≤ m) → Q (.int m) H
def rSumT (K : PySem.W.Frag) : List V → Hp → VK → Prop := fun vs H Q => ∃ (a : Addr) (ns : List Int), vs = [V.ref a] ∧ SqT K H a (ns.map V.int) ∧ Q (.int ns.sum) H
theorem cr_minT {X : Cx} (hu : X.A.units + 64 < cLine) (hc : X.calm = true := by rfl) : CallR X (.builtin "min") (rMinT X.K) := by
  intro pins s σ H vs us Q I r h
  obtain ⟨a, ns, rfl, hs, hne, q⟩ := h
  obtain rfl := Vals.ref1 r
  obtain ⟨its, rv, hl, _⟩ := I.tuple hs
  have room : X.A.units + 1 + Datum.depth Int < cLine := by
    show X.A.units + 1 + 0 < cLine
    omega
  have ia := rv.ints
  cases ns with
  | nil => simp at hne
  | cons y ys =>
    refine PySem.W.min_tuple_datum (I.ok.hd hc) hl (.of_ints ia) room fun i v h' tk hv hh k => ?_
    obtain ⟨n, t, rfl⟩ := ints_at (i := i) ia (by simpa using hv)
    have en := holds_only hh
    obtain ⟨f1, f2⟩ := least_ok ys y
    rw [← en] at f1 f2
    exact ⟨.int n, H, I.kept (t' := tk) k, ⟨t, rfl⟩, q n f1 f2⟩
theorem cr_maxT {X : Cx} (hu : X.A.units + 64 < cLine) (hc : X.calm = true := by rfl) : CallR X (.builtin "max") (rMaxT X.K) := by
  intro pins s σ H vs us Q I r h
  obtain ⟨a, ns, rfl, hs, hne, q⟩ := h
  obtain rfl := Vals.ref1 r
  obtain ⟨its, rv, hl, _⟩ := I.tuple hs
  have room : X.A.units + 1 + Datum.depth Int < cLine := by
    show X.A.units + 1 + 0 < cLine
    omega
  have ia := rv.ints
  cases ns with
  | nil => simp at hne
  | cons y ys =>
    refine PySem.W.max_tuple_datum (I.ok.hd hc) hl (.of_ints ia) room fun i v h' tk hv hh k => ?_
    obtain ⟨n, t, rfl⟩ := ints_at (i := i) ia (by simpa using hv)
    have en := holds_only hh
    obtain ⟨f1, f2⟩ := most_ok ys y
    rw [← en] at f1 f2
    exact ⟨.int n, H, I.kept (t' := tk) k, ⟨t, rfl⟩, q n f1 f2⟩
theorem sumT_raw {prog : Program} {w : World} {A : Around} {E : Value → Shared → Prop} {s : Shared} {l : Addr} {its : List Value} {ns : List Int} {Q : Value → Shared → Prop} (hh : A.handled = none) (hl : s.heap.IsTuple l its.toArray) (hi : IntsAre its ns)
    (h : ∀ h' tk t', (∀ b o, s.heap.get? b = some o → h'.get? b = some o) → Q (.int ns.sum t') { s with heap := h', toks := tk }) : wpAny (model prog w) A (call (.builtin "sum") [.ref l]) Q E s := by
  obtain ⟨xs, e⟩ := hi.allInts.items
  have hn : numsOf (intItems xs).toList = ns := by rw [← e]; exact hi.numsOf
  rw [nums_intItems] at hn
  rw [e] at hl
  refine PySem.W.ktm_sumG hh hl fun h' tk t' hk => ?_
  have := h h' tk t' hk
  rw [preSum_eq, List.take_of_length_le (by simp), hn]; exact this
theorem cr_sumT {X : Cx} (_ : X.A.units + 64 < cLine) (hc : X.calm = true := by rfl) : CallR X (.builtin "sum") (rSumT X.K) := by
  intro pins s σ H vs us Q I r h
  obtain ⟨a, ns, rfl, hs, q⟩ := h
  obtain ⟨its, rv, hl, _⟩ := I.tuple hs
  rw [Vals.ref1 r]
  exact sumT_raw (I.ok.hd hc) hl rv.ints fun h' tk t' hk => ⟨.int _, H, I.kept hk, ⟨_, rfl⟩, q⟩
/-- len(o) of an instance of an own class with an own __len__ -/
def rLenOwn (C : Addr) (sp : Sp) (E : XK) : List V → Hp → VK → Prop := fun xs H Q => ∃ (a dx : Addr) (fs : List (Str × V)), xs = [.ref a] ∧ H a = some (.ins C dx fs) ∧ sp [.ref a] H (fun v H' => ∃ n : Int, v = .int n ∧ 0 ≤ n ∧ n < 2 ^ 63 ∧ Q (.int n) H') E
theorem call_lenOwn {X : Cx} {CX : CXT} {k : Nat} {C f : Addr} {fd : FuncData} {ps : List Str} {sp : Sp} {E : XK} (F : FnOk X.prog X.w X.K X.mg X.base CX k f fd ps sp) (hr : Room (k + 1) X.A)
    (hs : PySem.W.findIn X.K (.ref C) "__len__" = some (some (.ref f))) (hf : PySem.W.isFn X.K (.ref f) = true) (hb : Binds X.K fd ps []) (hx : Passes CX X E) : CallR X (.builtin "len") (rLenOwn C sp E) := by
  intro pins s σ H xs us Q I r h
  obtain ⟨a, dx, fs, rfl, ha, q⟩ := h
  obtain rfl := Vals.ref1 r
  obtain ⟨mA, J, _⟩ := ins_get I.hok ha
  obtain ⟨od, J, _⟩ := J.look
  obtain ⟨m, hF⟩ := I.fr
  refine PySem.W.len_K hF I.ok.mod.kin J hs hf ?_
  have hl := F.len _ _ _ _ q
  have r2 : Vals [V.ref a] [Value.ref a] := .cons rfl .nil
  refine wpAny_call (codeAny_mono (F.run X.A.in1 X.stack s H ⟨[.ref a], []⟩ [.ref a] [.ref a] _ E hr.in1 I.env0.in1 (by
    have := hb s [.ref a] I.kIn (by simpa using hl)
    simpa using this) r2 q) fun r s' hq => ?_)
  cases r with
  | error e => exact hx pins σ H s e s' I hq
  | ok fl =>
    cases fl with
    | ret w =>
      obtain ⟨z, H', I', rz, n, rfl, n0, n1, q'⟩ := I.after hq
      obtain ⟨t, rfl⟩ := rz
      exact ⟨⟨n0, n1⟩, .int n, H', I'.tok _, ⟨_, rfl⟩, q'⟩
    | next => exact False.elim hq
    | brk => exact False.elim hq
    | cont => exact False.elim hq
end Vf

namespace Vf
open PySem PySem.W PySem.Spec PyProof.Rows L2 PySem.Calls
/-! ### super().__init__(..) in an own error's __init__, over ValueError, classes between allowed -/
/-- what the frame of such an __init__ knows -/
structure SupAt (X : Cx) (C : Addr) (nm : Str) : Prop where
  kind : X.env.scope.kind = .function
  ks : X.env.kindOf "super" = some .globalImplicit
  kc : X.env.kindOf "__class__" = some .free
  ka : X.env.kindOf nm = some .local
  fn : ∃ (f : Addr) (oc : Value) (od : Option Addr) (fd : FuncData) (sl : Array (Option Value)) (ar : Arg), X.env.func = some f ∧ X.K.lookup f = some ⟨oc, od, .func fd, sl⟩ ∧ (fd.params.posonlyargs ++ fd.params.args).head? = some ar ∧ ar.arg = nm
  code : ∃ (cda : Addr) (oc : Value) (od : Option Addr) (vs : Array Value) (sl : Array (Option Value)) (file : Str) (tf : Tok), X.env.code = .ref cda ∧ X.K.lookup cda = some ⟨oc, od, .fields vs, sl⟩ ∧ vs[2]? = some (.str file tf) ∧ ((X.prog.main.file : Str) == file) = true
  top : (X.prog.main.scope.names.lookup ("super" : Str)).isSome = false
  cell : ∃ (cc : Addr) (oc : Value) (od : Option Addr) (sl : Array (Option Value)), X.env.cells.lookup ("__class__" : Str) = some cc ∧ X.K.lookup cc = some ⟨oc, od, .cell (some (.ref C)), sl⟩
  mg : X.mg "super" = none
/-- what the written part says of the class -/
structure SupCls (K : PySem.W.Frag) (C : Addr) : Prop where
  sub : mroIn K C (.ref C) = some true
  al : ks_superIn K C C "__init__" = some (some (.builtin "ValueError.__init__"))
  ve : subIn K (.ref C) (.type "ValueError") = some true
  op : nsIn K cStatics "thirdparty.any" = some none
theorem at_sub {α : Type} {M : Model} {A : Around} {c : Code} {t : Sem α} {Q Q' : α → Shared → Prop} {E : Value → Shared → Prop} {s : Shared} (h : PySem.wpAt M A c t Q E s) (f : ∀ v s', Q v s' → Q' v s') : PySem.wpAt M A c t Q' E s :=
  PySem.wpAt_mono h f fun _ _ x => x
section
variable {X : Cx} {pins : List (Addr × Obj)} {σ : L2.St} {H : Hp} {s : Shared} {a C : Addr}
/-- the bound __init__ is called -/
theorem call_bound {u : Addr} {us : List Value} {Q : Value → Shared → Prop} (T : OexC X.K C) (I : Inv X pins σ H s) (e : H a = some (exo a C none)) (hu : s.heap.get? u = some (kxs_mw "ValueError.__init__" a)) (hl : us.length ≤ sizeLine)
    (h : ∀ s', Inv X pins σ H s' → Q .none s') : wpAny (model X.prog X.w) X.A (call (.ref u) us) Q X.xe s := by
  obtain ⟨nm, q, N, bs, bm, sn, sub, ab, col, dd, k0, k1, k2, k3, k5, hC, hbm⟩ := T.cls
  obtain ⟨t1, ho⟩ := exo_at I.hok e
  obtain ⟨hp, g, d, t, os⟩ := s
  refine wpAny_call (codeAny_of_tree ?_)
  show wpAny _ _ (callAny (.ref u) ⟨us, []⟩) _ _ _
  unfold callAny
  refine wpAny_bind (wpAny_load hu ?_)
  have w1 : (Value.type "method-wrapper" == Value.type "method" || Value.type "method-wrapper" == Value.type "builtin_function_or_method" ||
      Value.type "method-wrapper" == Value.type "method-wrapper") = true := by decide +kernel
  have w2 : (Value.type "method-wrapper" != Value.type "method") = true := by decide +kernel
  refine KFB.if_so w1 (KFB.if_so w2 ?_)
  have FB := PySem.F.excBase_ValueError
  refine wpAny_bind (check_bound_init FB.toExcCallFacts (I.kIn _ _ hC) ho rfl (wpAny_pure ⟨plainId_quiet FB.init.plain _, codeAny_builtin FB.initEntry ?_⟩))
  refine exc_init_tree (cls := .ref C) (t0 := t1) (dv := none) (c2 := .none) (c3 := .none) (b4 := .bool false) ho hl fun h' k e' _ => ?_
  have J := I.write (t' := t) (x := a) (e := a) (o := exo a C none) (by rw [e]; exact True.intro) (.inl rfl) k ⟨_, e'⟩ (exo_ok e')
  have same : upd H a (exo a C none) = H := by
    funext b
    by_cases hb : b = a
    · subst hb
      rw [upd_same, e]
    · rw [upd_ne hb]
  rw [same] at J
  exact h _ J
/-- the whole call -/
theorem super_init {body : List Stmt} {nm : Str} {e : Expr} {es : List Expr} {p0 p1 apos pos : Pos} {ta : TA} {i : Nat} {Q : VK} (T : OexC X.K C) (F : SupAt X C nm) (G : SupCls X.K C) (I : Inv X pins σ H s) (hi : X.N[i]? = some nm) (hσ : σ[i]? = some (some (.ref a)))
    (ha : H a = some (exo a C none)) (hargs : PA X (e :: es) ta) (hq : ta σ H fun vs H1 => vs.length ≤ 1000 ∧ H1 a = some (exo a C none) ∧ Q .non H1) {pl : Sem Bool}
    (hev : eval (.Call (.Attribute (.Call (.Name "super" p0) [] [] p1) "__init__" apos) (e :: es) [] pos) X.env = (do
      let ov ← attributeBase (.Call (.Name "super" p0) [] [] p1) "__init__" X.env (eval (.Call (.Name "super" p0) [] [] p1) X.env)
      standAt apos.atName
      let (f, first) ← holding [ov] (getMethod ov "__init__" pl)
      callWith pos f first (backTo pos (starEach (e :: es) X.env)) []) := by rfl)
    (hst : starEach (e :: es) X.env = (false, eval e X.env) :: starEach es X.env := by rfl) (hpl : (backTo pos (starEach es X.env)).any (·.1) = false := by rfl) :
    PySem.wpAt (model X.prog X.w) X.A (.func body X.env) (eval (.Call (.Attribute (.Call (.Name "super" p0) [] [] p1) "__init__" apos) (e :: es) [] pos) X.env) (EP X pins σ Q) X.xe s := by
  obtain ⟨f, oc1, od1, fd, sl1, ar, f1, f2, f3, f4⟩ := F.fn
  obtain ⟨cda, oc2, od2, vs2, sl2, file, tf, c1, c2, c3, c4⟩ := F.code
  obtain ⟨cc, oc3, od3, sl3, d1, d2⟩ := F.cell
  have kin := I.kIn
  subst f4
  refine ks_wpAt_MethodCall ?_ hev
  refine ks_wpAt_super_base F.ks F.kc (by decide +kernel) f1 (kin _ _ f2) rfl f3 c1 (kin _ _ c2) rfl c3 c4 F.top ?_
  obtain ⟨mb, h1, h2⟩ := I.mod.blt
  refine ks_loadName_global F.kind F.ks (loadGlobal_builtin (by rw [I.ok.glob]; exact I.mod.glob.keeps I.bk) F.mg (by rw [I.ok.blt]; exact h1.keeps I.bk) ((h2 _ (by decide)).trans (show bootBuiltins "super" = some (.type "super") by decide +kernel)) ⟨rfl, ?_⟩)
  refine wpAny_loadName_free F.kind F.kc d1 ⟨_, kin _ _ d2, rfl⟩ ?_
  obtain ⟨m, hns, hloc⟩ := I.loc
  obtain ⟨u, ru, hl⟩ := hloc i ar.arg _ hi hσ (.inl F.ka)
  cases ru
  have hm : m ar.arg = some (.ref a) := by
    rcases hl with ⟨_, hm⟩ | ⟨hk, _⟩
    · exact hm
    · rw [F.ka] at hk
      rcases hk with hk | hk <;> cases hk
  refine wpAny_loadName_local F.kind F.ka hns hm ?_
  obtain ⟨nmC, qC, NC, bs, bm, sn, sub, ab, col, dd, k0, k1, k2, k3, k5, hC, hbm⟩ := T.cls
  have hcl : clsIn X.K C = some { name := nmC, bases := bs, mro := .ref C :: bm, ns := NC, qualname := qC, hasDict := true, slotNames := sn, subclasses := sub, abstract := ab, collection := col, hasDel := false } := by
    unfold clsIn
    rw [hC] <;> rfl
  refine ks_wpAny_isType_cls (kin _ _ hC) rfl ⟨rfl, ?_⟩
  obtain ⟨t1, ho⟩ := exo_at I.hok ha
  obtain ⟨hp, g, d, t, os⟩ := s
  refine ks_wpAny_call_super (kin _ _ hC) rfl ho rfl (fun c => nofun) (looks_mroIn kin G.sub) fun h2 hso k2' => ?_
  have I2 : L2.Inv X pins σ H ⟨h2, g, d, t, os⟩ := I.kept (t' := t) k2'
  have ho2 := k2' _ _ ho
  have at2 : InstAt h2 a { cls := .ref C, dict := none, data := .fields #[.ref t1, .none, .none, .none, .bool false, .none] } C none := ⟨ho2, rfl, rfl, trivial⟩
  have al := G.al
  unfold ks_superIn at al
  rw [hcl] at al
  refine kxs_getMethod kxs_ValueError hso (looks_opaque I2.kIn G.op) (l₀ := .ref C :: bm) (fun A Q E s k q => wpAny_bind ((looks_clsIn I2.kIn hcl) A _ E s k (wpAny_pure q))) rfl I2.kIn al (at2.type.andThen (looks_subIn I2.kIn G.ve)) (ks_ne I2.kIn at2 hcl) (by decide +kernel) ?_
  have sz : h2.objs.size ≤ h2.objs.size := Nat.le_refl _
  have gu : (h2.push (kxs_mw "ValueError.__init__" a)).get? h2.objs.size = some (kxs_mw "ValueError.__init__" a) := Heap.get?_push_at rfl rfl
  have I3 : L2.Inv X pins σ H ⟨h2.push (kxs_mw "ValueError.__init__" a), g, d, t + 1, os⟩ := I2.kept (t' := t + 1) fun b o z => Heap.get?_push_of_some _ z
  have hun : H h2.objs.size = none := I2.hok.fresh sz
  have I4 : L2.Inv X ((h2.objs.size, kxs_mw "ValueError.__init__" a) :: pins) σ H ⟨h2.push (kxs_mw "ValueError.__init__" a), g, d, t + 1, os⟩ := I3.pins_of fun p hp => by
    rcases List.mem_cons.mp hp with e1 | hp
    · subst e1
      exact ⟨gu, hun, fun z => Nat.lt_irrefl _ (by have := I2.lt; rw [← z] at this; exact this), I2.nofs sz, nofun⟩
    · exact I3.pin p (List.mem_append_right _ hp)
  rw [hst]
  refine kxs_callWith (i := "ValueError.__init__") (x := a) (hpl : _) ?_
  have run := hargs.run pos _ _ σ H _ I4 hq
  rw [hst] at run
  refine evalArgs_plain (thn run fun us s4 got => ?_)
  obtain ⟨vs, H1, I5, r1, hlen, ha1, q⟩ := got
  have pin := (I5.pin (h2.objs.size, kxs_mw "ValueError.__init__" a) (List.mem_append_right _ (List.mem_cons_self ..))).1
  refine ⟨pin, ?_⟩
  refine call_bound T I5 ha1 pin (by show us.length ≤ sizeLine; rw [← Paired.length r1, sizeLine_eq]; omega) fun s' J => ⟨.non, H1, ?_, rfl, q⟩
  exact J.pins_of fun p hp => J.pin p (List.mem_append_right _ (List.mem_cons_of_mem _ hp))
end
/-! ### such an __init__ as a def -/
/-- how the call reads, and that nothing is swapped -/
def SupEv (env : Env) (e : Expr) (es : List Expr) (p0 p1 apos pos p2 : Pos) : Prop :=
  (∃ pl : Sem Bool, eval (.Call (.Attribute (.Call (.Name "super" p0) [] [] p1) "__init__" apos) (e :: es) [] pos) env = (do
    let ov ← attributeBase (.Call (.Name "super" p0) [] [] p1) "__init__" env (eval (.Call (.Name "super" p0) [] [] p1) env)
    standAt apos.atName
    let (f, first) ← holding [ov] (getMethod ov "__init__" pl)
    callWith pos f first (backTo pos (starEach (e :: es) env)) [])) ∧ starEach (e :: es) env = (false, eval e env) :: starEach es env ∧ (backTo pos (starEach es env)).any (·.1) = false ∧
    swapsWith (.Call (.Attribute (.Call (.Name "super" p0) [] [] p1) "__init__" apos) (e :: es) [] pos) none p2.line env = pure false ∧ interactive env = false
open NdefX in
/-- the object of an __init__ that says super, its cell, its code object -/
def InitAt (P : Program) (K : PySem.W.Frag) (qual : Str) (st : Stmt) (C f : Addr) (cc cda : Addr) (fd : FuncData) : Prop :=
  ∃ (oc oc2 oc3 : Value) (od od2 od3 : Option Addr) (kV doc pm ct : Value) (an : Option Addr) (osl sl2 sl3 : Array (Option Value)) (vs : Array Value) (file : Str) (tf : Tok),
    fd = fnX "__init__" qual (defArgs st) (defBody st) (defScope st) [("__class__", cc)] .none kV doc pm an (.ref cda) ct ∧ K.lookup f = some ⟨oc, od, .func fd, osl⟩ ∧ codeIn K (.ref cda) qual = true ∧
    K.lookup cc = some ⟨oc3, od3, .cell (some (.ref C)), sl3⟩ ∧ K.lookup cda = some ⟨oc2, od2, .fields vs, sl2⟩ ∧ vs[2]? = some (.str file tf) ∧ ((P.main.file : Str) == file) = true ∧ (P.main.scope.names.lookup ("super" : Str)).isSome = false
def initF (qual : Str) (st : Stmt) (cc cda : Addr) : NdefX.NF := ⟨"__init__", qual, defArgs st, defBody st, defScope st, [("__class__", cc)], cda⟩
section
variable {CX : CXT} {P : Program} {w : World} {K : PySem.W.Frag} {mg : Str → Option Value} {base : Heap} {k : Nat} {f C cc cda : Addr} {fd : FuncData} {qual : Str} {st : Stmt} {N ps : List Str} {sp : Sp}
theorem init_of {e : Expr} {es : List Expr} {p0 p1 apos pos p2 : Pos} {rest : List Stmt} {ar : Arg} (D : InitAt P K qual st C f cc cda fd) (S : NdefX.NScope N ps ["__class__"] (defScope st)) (hbd : defBody st = .Expr (.Call (.Attribute (.Call (.Name "super" p0) [] [] p1) "__init__" apos) (e :: es) [] pos) p2 :: rest)
    (hps : ps.head? = some (Str.ofString "self")) (har : ((defArgs st).posonlyargs ++ (defArgs st).args).head? = some ar) (hargn : ar.arg = Str.ofString "self") (hks : (defScope st).names.lookup ("super" : Str) = some .globalImplicit) (hmg : mg "super" = none) (T : OexC K C) (G : SupCls K C)
    (len : ∀ vs H Q E, sp vs H Q E → vs.length = ps.length)
    (hbody : ∀ (A : Around) (outer : List Env) (s : Shared) (H : Hp) (vs : List V) (Q : VK) (E : XK), Room k (A.deeper (NdefX.envF (initF qual st cc cda) f s.heap.objs.size)) → sp vs H Q E →
      ∃ (a : Addr) (ta : TA) (t : TS), SupEv (NdefX.envF (initF qual st cc cda) f s.heap.objs.size) e es p0 p1 apos pos p2 ∧ vs[0]? = some (.ref a) ∧ H a = some (exo a C none) ∧ PA (NdefX.ncx CX P w K mg base N (initF qual st cc cda) f A outer s H E) (e :: es) ta ∧ PSs (NdefX.ncx CX P w K mg base N (initF qual st cc cda) f A outer s H E) rest t ∧
        ta (NdefX.startF N vs [none]) H fun ws H1 => ws.length ≤ 1000 ∧ H1 a = some (exo a C none) ∧ t { nx := fun _ H' => Q .non H', rt := Q } (NdefX.startF N vs [none]) H1) :
    FnOk P w K mg base CX (k + 1) f fd ps sp := by
  obtain ⟨oc, oc2, oc3, od, od2, od3, kV, doc, pm, ct, an, osl, sl2, sl3, vsc, file, tf, rfl, lk, hcd, lc, lcode, hv2, hfile, htop⟩ := D
  refine ⟨len, fun A outer s H args us vs Q E hr e0 hb r hsp => ?_⟩
  have hl := len _ _ _ _ hsp
  have KX : K.In s.heap := e0.mod.kin.keeps fun b o e => (e0.bs b o e).1
  have lim : s.heap.NoLimit := e0.mod.nolimit.keeps fun b o e => (e0.bs b o e).1
  have cells : NdefX.CellsAt [("__class__", cc)] ["__class__"] [none] s.heap H := by
    refine ⟨rfl, fun y c e => ?_, fun x y c e1 e2 => ?_, fun i y e => ?_⟩
    · have ec : c = cc := by
        have := PySem.mem_of_lookup e
        simp at this
        exact this.2
      subst ec
      exact ⟨(e0.bs _ _ (e0.mod.kin _ _ lc)).2, _, ⟨_, KX _ _ lc, rfl⟩⟩
    · have h1 := PySem.mem_of_lookup e1
      have h2 := PySem.mem_of_lookup e2
      simp at h1 h2
      rw [h1.1, h2.1]
    · cases i with
      | zero =>
        have e' : ("__class__" : Str) = y := by simpa using e
        subst e'
        exact ⟨cc, rfl, fun v hv => by simp at hv⟩
      | succ i => simp at e
  refine ks_codeAny_call_defAt hr.depth (KX _ _ lk) rfl lim (codeRec_of KX hcd) rfl hb S.nocell (fun ⟨n, _⟩ hy => S.par n (List.of_mem_zip hy).1) (fun h1 hns kp => ?_) S.co S.gen S.kind
  obtain ⟨a, ta, t, ⟨⟨pl, g1⟩, g2, g3, g4, g5⟩, hv0, ha, PAx, PSx, hq⟩ := hbody A outer s H vs Q E (hr.deeper _) hsp
  have I := NdefX.inv_startN (F := initF qual st cc cda) (f := f) (CX := CX) (E := E) (tk := s.toks + (ps.zip us).length) S hr.hd e0 hl r cells hns kp
  have n0 : N[0]? = some (Str.ofString "self") := by
    have q := congrArg (fun l : List Str => l[0]?) S.pre
    have q2 : (N.take (ps.length + 1))[0]? = (ps ++ [Str.ofString "__class__"])[0]? := q
    rw [List.getElem?_take_of_lt (Nat.succ_pos _)] at q2
    rw [q2]
    cases ps with
    | nil => cases hps
    | cons x y => exact hps
  have s0 : (NdefX.startF N vs [none])[0]? = some (some (.ref a)) := by
    unfold NdefX.startF
    cases vs with
    | nil => cases hv0
    | cons x y =>
      have e' : x = .ref a := Option.some.inj hv0
      subst e'
      rfl
  have self : Str.ofString "self" ∈ ps := by
    cases ps with
    | nil => cases hps
    | cons x y =>
      have e' : x = Str.ofString "self" := Option.some.inj hps
      subst e'
      exact List.mem_cons_self ..
  have sup : SupAt (NdefX.ncx CX P w K mg base N (initF qual st cc cda) f A outer s H E) C "self" := {
    kind := S.kind
    ks := hks
    kc := S.frk _ (List.mem_cons_self ..)
    ka := S.par _ self
    fn := ⟨f, _, _, _, _, ar, rfl, lk, har, hargn⟩
    code := ⟨cda, _, _, _, _, file, tf, rfl, lcode, hv2, hfile⟩
    top := htop
    cell := ⟨cc, _, _, _, rfl, lc⟩
    mg := hmg }
  show PySem.wpAt (model P w) (NdefX.ncx CX P w K mg base N (initF qual st cc cda) f A outer s H E).A (.func (defBody st) (NdefX.ncx CX P w K mg base N (initF qual st cc cda) f A outer s H E).env) (execs (defBody st) (NdefX.ncx CX P w K mg base N (initF qual st cc cda) f A outer s H E).env) _ _ _
  rw [hbd]
  refine ks_wpAt_execs_cons (ks_wpAt_Expr_any (at_sub (super_init (X := NdefX.ncx CX P w K mg base N (initF qual st cc cda) f A outer s H E) (Q := fun _ H1 => t { nx := fun _ H' => Q .non H', rt := Q } (NdefX.startF N vs [none]) H1) T sup G I n0 s0 ha PAx hq (pl := pl) g1 g2 g3) ?_) g5 g4)
  rintro v s' ⟨x, H1, I1, _, q⟩
  show PySem.wpAt _ _ _ (execs rest _) _ _ s'
  refine PySem.wpAt_of_wpAny (wpAny_mono (PSx.run [] s' (NdefX.startF N vs [none]) H1 _ I1 q) (fun fl s2 hs => ?_) fun e s2 hs => hs)
  have fin : ∀ {σ' : L2.St} {H' : Hp} {v : V} {u : Value}, L2.Inv (NdefX.ncx CX P w K mg base N (initF qual st cc cda) f A outer s H E) [] σ' H' s2 → L2.RelV v u → Q v H' → CE outer P w H s Q u s2 :=
    fun {σ' H' v u} J rv q => ⟨v, H', J.os, J.bare, J.base, J.hok, rv, q⟩
  cases fl with
  | brk =>
    obtain ⟨_, _, _, z⟩ := hs
    cases z
  | cont =>
    obtain ⟨_, _, _, z⟩ := hs
    cases z
  | next =>
    obtain ⟨σ', H', J, z⟩ := hs
    exact fin (v := V.non) (u := Value.none) J rfl z
  | ret u =>
    obtain ⟨v, σ', H', J, rv, z⟩ := hs
    exact fin J rv z
end
theorem InitAt.binds {P : Program} {K : PySem.W.Frag} {qual : Str} {st : Stmt} {C f cc cda : Addr} {fd : FuncData} {ps : List Str} (D : InitAt P K qual st C f cc cda fd)
    (h : ∀ (kV doc pm : Value) (an : Option Addr) (ct : Value) (us : List Value), us.length = ps.length → bindArgs (fnX "__init__" qual (defArgs st) (defBody st) (defScope st) [("__class__", cc)] .none kV doc pm an (.ref cda) ct) ⟨us, []⟩ = pure (ps.zip us)) : Binds K fd ps [] := by
  obtain ⟨_, _, _, _, _, _, kV, doc, pm, ct, an, _, _, _, _, _, _, rfl, _⟩ := D
  exact .all (h kV doc pm an ct)
/-! ### a method called in a try, what its errors meet by the slots -/
def tMethW (C : Addr) (m : Str) (sp : Sp) (E : L2.St → XK) (ta : TE) (t : TA) : TE := fun σ H Q => ta σ H fun x H1 => ∃ (a dx : Addr) (fs : List (Str × V)), x = .ref a ∧ H1 a = some (.ins C dx fs) ∧ fs.lookup m = none ∧
  t σ H1 fun vs H2 => sp (x :: vs) H2 Q (E σ)
section
variable {X : Cx} {CX : CXT} {k : Nat} {f C : Addr} {fd : FuncData} {ps : List Str} {sp : Sp} {E : L2.St → XK} {m : Str} {apos pos : Pos} {e o : Expr} {es : List Expr} {ta : TE} {t : TA}
theorem pe_methW {pl : Sem Bool} (he : PE X o ta) (c : Cls X.K C) (hm : Meth X.K C m f) (F : FnOk X.prog X.w X.K X.mg X.base CX k f fd ps sp) (hr : Room k X.A) (hb : Binds X.K fd ps []) (hx : ∀ σ, PassesAt CX X σ (E σ)) (ha : PA X (e :: es) t)
    (hst : starEach (e :: es) X.env = (false, eval e X.env) :: starEach es X.env := by rfl) (hpl : (backTo pos (starEach es X.env)).any (·.1) = false := by rfl)
    (ht : eval (.Call (.Attribute o m apos) (e :: es) [] pos) X.env = (do
      let ov ← eval o X.env
      standAt apos.atName
      let (f, first) ← holding [ov] (getMethod ov m pl)
      callWith pos f first (backTo pos (starEach (e :: es) X.env)) (backToKw pos (keywordEach [] X.env))) := by rfl) :
    PE X (.Call (.Attribute o m apos) (e :: es) [] pos) (tMethW C m sp E ta t) := by
  constructor
  intro pins s σ H Q I h
  refine PySem.W.methodCall_KW (pl := pl) (thn (he.run pins s σ H _ I h) fun u s1 got => ?_) ht
  obtain ⟨x, H1, I1, rx, a, dx, fs, rfl, ea, l, q⟩ := got
  cases rx
  refine getmeth_ok I1 ea c hm l (PySem.W.callWith_K (first := [.ref a]) (h₀ := X.base) I.ok.mod.kin hm.kp (thn (ha.run pos pins s1 σ H1 _ I1 q) fun us s2 got2 => ?_) hst hpl)
  obtain ⟨vs, H2, I2, r, q2⟩ := got2
  exact ⟨I2.kIn, run_fnS (us := .ref a :: us) (vs := .ref a :: vs) F hr hb (hx σ) I2 (.cons rfl r) q2⟩
end
/-! ### a look into a dict of pairs -/
def meetOf (ks vl : List (Int × Int)) (k : Int × Int) : Int × Int := if k ∈ ks then vl.getD (ks.idxOf k) k else k
theorem valV_none {κ : Type} [DecidableEq κ] {k : κ} : ∀ {kvs : List (κ × V)}, k ∉ kvs.map Prod.fst → valV kvs k = none
  | [], _ => rfl
  | p :: r, h => by
    rw [List.map_cons, List.mem_cons, not_or] at h
    rw [valV_neg (fun e => h.1 e.symm)]
    exact valV_none h.2
theorem PP.get {H : Hp} {kvs : List (List Key × V)} {ks vl : List (Int × Int)} (p : PP H kvs ks vl) (k : Int × Int) : (valV kvs (keyP k) = none ∧ meetOf ks vl k = k) ∨ ∃ t, valV kvs (keyP k) = some (.ref t) ∧ H t = some (.tup (encP (meetOf ks vl k))) := by
  unfold meetOf
  by_cases h : k ∈ ks
  · rw [if_pos h]
    have lt := List.idxOf_lt_length_of_mem h
    have hk : ks[ks.idxOf k]? = some k := by
      rw [List.getElem?_eq_getElem lt, List.getElem_idxOf lt]
    obtain ⟨v, t, h1, h2, h3⟩ := p.at_ hk
    refine .inr ⟨t, h2, ?_⟩
    rw [List.getD_eq_getElem?_getD, h1]
    exact h3
  · rw [if_neg h]
    refine .inl ⟨valV_none fun m => ?_, rfl⟩
    have e : kvs.map Prod.fst = ks.map keyP := p.keys
    rw [e] at m
    obtain ⟨k', m1, m2⟩ := List.mem_map.mp m
    exact h (keyP_inj m2 ▸ m1)
theorem PP.snoc {H H' : Hp} {kvs : List (List Key × V)} {ks vl : List (Int × Int)} {k v : Int × Int} {t : Addr} (p : PP H kvs ks vl) (n : k ∉ ks) (e : ∀ t ys, H t = some (.tup ys) → H' t = some (.tup ys)) (h : H' t = some (.tup (encP v))) :
    PP H' (kvs ++ [(keyP k, .ref t)]) (ks ++ [k]) (vl ++ [v]) := by
  refine ⟨by rw [List.map_append, List.map_append, p.keys]; rfl, ?_, ?_⟩
  · rw [List.map_append]
    exact (p.vals.mono e).snoc h
  · refine List.nodup_append.mpr ⟨p.nd, by simp, fun a ha b hb e => ?_⟩
    rw [List.mem_singleton] at hb
    subst hb
    subst e
    exact n ha
theorem PP.same {H H' : Hp} {kvs : List (List Key × V)} {ks vl : List (Int × Int)} (p : PP H kvs ks vl) (e : Same H H') : PP H' kvs ks vl := ⟨p.keys, p.vals.same e, p.nd⟩
end Vf
namespace Vf
open PySem L2
theorem idx_do {K : PySem.W.Frag} {H : Hp} {ls : Addr} {st : List Str} {nm : Str} {Q : VK} (h : H ls = some (.lst (st.map V.str))) (m : nm ∈ st) (q : Q (.int (ix st nm)) H) : rIndex K (.ref ls) [.str nm] H Q := by
  obtain ⟨g1, g2⟩ := idx_get m
  exact ⟨ls, _, .str nm, st.idxOf nm, .str nm, rfl, rfl, SqL.of h, rfl, flat_str _, g1, beq_self_eq_true _, g2, q⟩
theorem rks_take {D : DD} {i : Nat} {r : S4} (h : D.ru[i]? = some r) : (rks D).take (i + 1) = (rks D).take i ++ [(ix D.st r.1, ix D.st r.2.1)] ∧ (rvs D).take (i + 1) = (rvs D).take i ++ [(ix D.st r.2.2.1, ix D.st r.2.2.2)] ∧ (rks D)[i]? = some (ix D.st r.1, ix D.st r.2.1) := by
  have h1 : (rks D)[i]? = some (ix D.st r.1, ix D.st r.2.1) := by
    unfold rks
    rw [List.getElem?_map, h]
    rfl
  have h2 : (rvs D)[i]? = some (ix D.st r.2.2.1, ix D.st r.2.2.2) := by
    unfold rvs
    rw [List.getElem?_map, h]
    rfl
  exact ⟨take_snoc h1, take_snoc h2, h1⟩
theorem rks_all {D : DD} : (rks D).take D.ru.length = rks D ∧ (rvs D).take D.ru.length = rvs D := by
  constructor
  · rw [show D.ru.length = (rks D).length by simp [rks]]
    exact List.take_length
  · rw [show D.ru.length = (rvs D).length by simp [rvs]]
    exact List.take_length
end Vf
namespace Vf
open PySem L2
theorem atI_in {α : Type} {xs : List α} {i : Int} (h0 : 0 ≤ i) (h1 : i < xs.length) : ∃ c, atI xs i = some c := by
  obtain ⟨j, rfl⟩ : ∃ j : Nat, i = (j : Int) := ⟨i.toNat, by omega⟩
  have hj : j < xs.length := by omega
  exact ⟨xs[j], atI_nat (List.getElem?_eq_getElem hj)⟩
theorem one_len (w : Str) (c : Nat) : (w ++ (⟨#[c]⟩ : Str)).length = w.length + 1 := by
  show (w.cps ++ #[c]).size = w.cps.size + 1
  rw [Array.size_append]
  rfl
end Vf
namespace Vf
open PySem PySem.Spec PyProof.Rows L2
/-! ### a def that may run while an error is handled: it neither raises nor loops -/
structure FnW (P : Program) (w : World) (K : PySem.W.Frag) (mg : Str → Option Value) (base : Heap) (k : Nat) (f : Addr) (fd : FuncData) (ps : List Str) (sp : Sp) : Prop where
  len : ∀ vs H Q E, sp vs H Q E → vs.length = ps.length
  run : ∀ (A : Around) (outer : List Env) (s : Shared) (H : Hp) (args : Args) (us : List Value) (vs : List V) (Q : VK) (E : XK), L2H.RoomH k A → Env0 P w K mg base A outer s H → BindsTo s fd args (ps.zip us) → Vals vs us → sp vs H Q E →
    codeAny (model P w) A (.call (.ref f) args) (CR CX0 outer P w H s Q E) s
def cxW (P : Program) (w : World) (K : PySem.W.Frag) (mg : Str → Option Value) (base : Heap) (N : List Str) (qual : Str) (scope : Scope) (f : Addr) (cd : Value) (A : Around) (outer : List Env) (s : Shared) (H : Hp) (E : XK) : Cx :=
  { cxOf CX0 P w K mg base N qual scope f cd A outer s H E with calm := false }
theorem fn_ofW {P : Program} {w : World} {K : PySem.W.Frag} {mg : Str → Option Value} {base : Heap} {x qual : Str} {st : Stmt} {f : Addr} {fd : FuncData} {N ps : List Str} {k : Nat} {sp : Sp} (F : Fun K x qual st f fd) (S : FnScope N ps (defScope st)) (len : ∀ vs H Q E, sp vs H Q E → vs.length = ps.length)
    (hbody : ∀ (cdv : Value) (A : Around) (outer : List Env) (s : Shared) (H : Hp) (vs : List V) (Q : VK) (E : XK), L2H.RoomH k (A.deeper (envOfC qual (defScope st) s.heap.objs.size f cdv)) → sp vs H Q E →
      ∃ t, PSs (cxW P w K mg base N qual (defScope st) f cdv A outer s H E) (defBody st) t ∧ t { nx := fun _ H' => Q .non H', rt := Q } (L2.start N vs) H) : FnW P w K mg base (k + 1) f fd ps sp := by
  obtain ⟨oc, od, kV, doc, pm, an, cdv, ct, osl, rfl, lk, hcd⟩ := F.ex
  constructor
  · exact len
  intro A outer s H args us vs Q E hr e0 hb r hsp
  have lv := len _ _ _ _ hsp
  have kin : K.In s.heap := e0.mod.kin.keeps fun b o e => (e0.bs b o e).1
  have lim : s.heap.NoLimit := e0.mod.nolimit.keeps fun b o e => (e0.bs b o e).1
  refine codeAny_call_function hr.depth (kin _ _ lk) rfl S.co S.gen rfl (PySem.W.codeRec_of kin hcd) (hb _ _ _ _ (wpAny_newFunctionEnv_cells S.kind (fun y hy => ?_) fun env he s1 x => ?_))
  · rcases S.par y.1 (List.of_mem_zip hy).1 with q | q
    · exact .inl q
    · exact .inr ⟨q, PySem.W.cellsFrom_some _ _ _ (.inl q)⟩
  subst he
  refine ⟨lim.keeps x.toInCall.keep, codeAny_func ?_⟩
  obtain ⟨t, ht, hq⟩ := hbody cdv A outer s H vs Q E (hr.deeper _) hsp
  have I0 := inv_start (A := { A with handled := none }) (CX := CX0) (E := E) S rfl ⟨e0.frames, e0.mod, e0.bs, e0.bsz, e0.funs, e0.frf, e0.hok, e0.bare⟩ lv r x
  have ok := I0.ok
  have I : L2.Inv (cxW P w K mg base N qual (defScope st) f cdv A outer s H E) [] (L2.start N vs) H s1 :=
    ⟨⟨ok.mod, ok.kind, ok.glob, ok.blt, ok.above, ok.inj, ok.has, ok.cab, fun z => Bool.noConfusion (show false = true from z), Around.frames_deeper e0.frames, ok.stk, ok.exf, ok.bs, ok.bsz, ok.noex, ok.exfs, ok.funs, ok.frf⟩,
      I0.os, I0.bare, I0.base, I0.loc, I0.cell, I0.free, I0.freeC, I0.pin, I0.hok, I0.len⟩
  refine wpAny_mono (ht.run [] s1 (L2.start N vs) H _ I hq) (fun fl s2 hs => ?_) fun e s2 hs => hs
  cases fl with
  | brk =>
    obtain ⟨_, _, _, z⟩ := hs
    cases z
  | cont =>
    obtain ⟨_, _, _, z⟩ := hs
    cases z
  | next =>
    obtain ⟨σ', H', J, z⟩ := hs
    exact ⟨V.non, H', J.os, J.bare, J.base, J.hok, rfl, z⟩
  | ret u =>
    obtain ⟨v, σ', H', J, rv, z⟩ := hs
    exact ⟨v, H', J.os, J.bare, J.base, J.hok, rv, z⟩
theorem pe_callW {X : Cx} {k : Nat} {f : Addr} {fd : FuncData} {ps : List Str} {sp : Sp} {x : Str} {q pos : Pos} {e : Expr} {es : List Expr} {t : TA} (F : FnW X.prog X.w X.K X.mg X.base k f fd ps sp) (hr : L2H.RoomH k X.A) (hg : Gl X x) (hm : X.mg x = some (.ref f)) (hk : PySem.W.keepIn X.K (.ref f) = true) (hb : Binds X.K fd ps [])
    (ha : PA X (e :: es) t) (hdb : (x == ("__debug__" : Str)) = false := by decide) (he : starEach (e :: es) X.env = (false, eval e X.env) :: starEach es X.env := by rfl) (hpl : (backTo pos (starEach es X.env)).any (·.1) = false := by rfl) :
    PE X (.Call (.Name x q) (e :: es) [] pos) (tCall sp [] (fun _ _ _ => False) t) := by
  constructor
  intro pins s σ H Q I h
  refine wpAny_Call_Name_kw (ld_glob I hg hm ?_ hdb)
  refine PySem.W.callWith_K (h₀ := X.base) I.ok.mod.kin hk (thn (ha.run pos pins s σ H _ I h) fun us s1 got => ?_) he hpl
  obtain ⟨vs, H1, I1, r, q1⟩ := got
  rw [List.append_nil] at q1
  refine ⟨I1.kIn, ?_⟩
  have lu : us.length = ps.length := by rw [← r.length]; exact F.len _ _ _ _ q1
  have b := hb s1 us I1.kIn (by rw [List.append_nil]; exact lu)
  rw [List.append_nil] at b
  show wpAny _ _ (call (.ref f) us) _ _ _
  refine wpAny_call (codeAny_mono (F.run X.A X.stack s1 H1 ⟨us, []⟩ us vs Q (fun _ _ _ => False) hr I1.env0 b r q1) fun r s' hq => ?_)
  cases r with
  | error e => exact False.elim hq
  | ok fl =>
    cases fl with
    | ret u => exact I1.after hq
    | next => exact False.elim hq
    | brk => exact False.elim hq
    | cont => exact False.elim hq
end Vf
namespace Vf
open PySem L2
theorem ix_nth {st : List Str} {k : Nat} {s : Str} (nd : st.Nodup) (h : st[k]? = some s) : ix st s = (k : Int) := by
  have m := List.mem_of_getElem? h
  have lt := List.idxOf_lt_length_of_mem m
  have e : st[st.idxOf s]? = some s := by rw [List.getElem?_eq_getElem lt, List.getElem_idxOf lt]
  unfold ix
  rw [nodup_ix nd e h]
theorem unknown_in {D : DD} (vN : ValidN D) (sm : Small D) {w s : Str} (h : s ∈ [("zz9" : Str), ("" : Str), ("A" : Str), w ++ ("9zz" : Str)]) : s ∉ D.st := by
  simp only [List.mem_cons, List.not_mem_nil, or_false] at h
  rcases h with rfl | rfl | rfl | rfl
  · intro m
    obtain ⟨i, hi⟩ := List.mem_iff_getElem?.mp m
    have il := (List.getElem?_eq_some_iff.mp hi).1
    have l6 := sm.st6
    have hd := (goodName_of (by omega) (sm.gn i _ hi)).2
    have e : (Str.ofString "zz9").cps.toList.head? = some 122 := by decide +kernel
    rw [e] at hd
    have := Option.some.inj hd
    omega
  · intro m
    have q := vN.nm _ m
    have e : isName (Str.ofString "") = false := by decide +kernel
    rw [e] at q
    cases q
  · intro m
    have q := vN.nm _ m
    have e : isName (Str.ofString "A") = false := by decide +kernel
    rw [e] at q
    cases q
  · exact sm.noName (end_zz w)
end Vf

/-! ### places and meetings -/
namespace Vf
open PySem L2
def canMeet (ns : List Int) (m : Int × Int) : Bool :=
  if m.1 < 0 ∨ m.2 < 0 ∨ (ns.length : Int) ≤ m.1 ∨ (ns.length : Int) ≤ m.2 then false
  else if m.1 = m.2 then decide (2 ≤ ns.getD m.1.toNat 0) else decide (1 ≤ ns.getD m.1.toNat 0) && decide (1 ≤ ns.getD m.2.toNat 0)
def movePl (ns : List Int) (m r : Int × Int) : List Int := putAt (putAt (putAt (putAt ns m.1.toNat (-1)) m.2.toNat (-1)) r.1.toNat 1) r.2.toNat 1
def Fits (n : Nat) (ns : List Int) : Prop := ns.length = n ∧ ∀ y ∈ ns, 0 ≤ y
def InR (n : Nat) (m : Int × Int) : Prop := 0 ≤ m.1 ∧ m.1 < n ∧ 0 ≤ m.2 ∧ m.2 < n
theorem canMeet_in {ns : List Int} {m : Int × Int} (h : canMeet ns m = true) : InR ns.length m := by
  unfold canMeet at h
  by_cases c : m.1 < 0 ∨ m.2 < 0 ∨ (ns.length : Int) ≤ m.1 ∨ (ns.length : Int) ≤ m.2
  · rw [if_pos c] at h
    cases h
  · simp only [not_or, Int.not_lt, Int.not_le] at c
    exact ⟨c.1, c.2.2.1, c.2.1, c.2.2.2⟩
theorem putAt_get (pl : List Int) (i j : Nat) (c : Int) : (putAt pl i c).getD j 0 = if i = j ∧ j < pl.length then pl.getD j 0 + c else pl.getD j 0 := by
  unfold putAt
  rw [List.getD_eq_getElem?_getD, List.getElem?_set]
  by_cases e : i = j
  · subst e
    by_cases l : i < pl.length
    · simp [l]
    · simp [l]
  · simp [e]
theorem nonneg_of {ns : List Int} (h : ∀ j, j < ns.length → 0 ≤ ns.getD j 0) : ∀ y ∈ ns, 0 ≤ y := fun y hy => by
  obtain ⟨j, hj, rfl⟩ := List.mem_iff_getElem.mp hy
  have := h j hj
  rw [List.getD_eq_getElem?_getD, List.getElem?_eq_getElem hj] at this
  exact this
theorem nonneg_at {ns : List Int} (h : ∀ y ∈ ns, 0 ≤ y) (j : Nat) : 0 ≤ ns.getD j 0 := by
  rw [List.getD_eq_getElem?_getD]
  cases e : ns[j]? with
  | none => exact Int.le_refl _
  | some y => exact h y (List.mem_of_getElem? e)
theorem movePl_len (ns : List Int) (m r : Int × Int) : (movePl ns m r).length = ns.length := by
  unfold movePl
  rw [putAt_len, putAt_len, putAt_len, putAt_len]
theorem move_fits {n : Nat} {ns : List Int} {m r : Int × Int} (h : Fits n ns) (c : canMeet ns m = true) : Fits n (movePl ns m r) := by
  obtain ⟨hl, hn⟩ := h
  refine ⟨(movePl_len ..).trans hl, nonneg_of fun j hj => ?_⟩
  obtain ⟨i0, i1, j0, j1⟩ := canMeet_in c
  have hj0 := nonneg_at hn j
  unfold canMeet at c
  rw [if_neg (by simp only [not_or, Int.not_lt, Int.not_le]; exact ⟨i0, j0, i1, j1⟩)] at c
  unfold movePl
  simp only [putAt_get, putAt_len]
  by_cases e : m.1 = m.2
  · rw [if_pos e, decide_eq_true_eq] at c
    rw [e] at c ⊢
    by_cases e1 : m.2.toNat = j
    · subst e1
      split <;> split <;> split <;> omega
    · simp only [e1, false_and, if_false]
      split <;> split <;> omega
  · rw [if_neg e, Bool.and_eq_true, decide_eq_true_eq, decide_eq_true_eq] at c
    obtain ⟨c1, c2⟩ := c
    by_cases e1 : m.1.toNat = j
    · have e2 : ¬ m.2.toNat = j := fun z => e (by omega)
      subst e1
      simp only [e2, false_and, if_false]
      split <;> split <;> split <;> omega
    · simp only [e1, false_and, if_false]
      by_cases e2 : m.2.toNat = j
      · subst e2
        split <;> split <;> split <;> omega
      · simp only [e2, false_and, if_false]
        split <;> split <;> omega
theorem meetOf_in {D : DD} (v : ValidN D) {m : Int × Int} (h : InR D.st.length m) : InR D.st.length (meetOf (rks D) (rvs D) m) := by
  unfold meetOf
  by_cases c : m ∈ rks D
  · rw [if_pos c]
    have lt := List.idxOf_lt_length_of_mem c
    have l2 : (rvs D).length = (rks D).length := by simp [rvs, rks]
    have mem : (rvs D).getD ((rks D).idxOf m) m ∈ rvs D := getD_mem (by omega)
    obtain ⟨r, hr, er⟩ := List.mem_map.mp mem
    rw [← er]
    obtain ⟨_, _, m3, m4⟩ := v.rum r hr
    have b3 := List.idxOf_lt_length_of_mem m3
    have b4 := List.idxOf_lt_length_of_mem m4
    unfold ix
    refine ⟨?_, ?_, ?_, ?_⟩ <;> dsimp only <;> omega
  · rw [if_neg c]
    exact h
def goPl (f : Int × Int → Int × Int) : Nat → List (Int × Int) → List Int → Nat ⊕ List Int
  | _, [], pl => .inr pl
  | k, m :: r, pl => if canMeet pl m = true then goPl f (k + 1) r (movePl pl m (f m)) else .inl k
theorem goPl_step {f : Int × Int → Int × Int} {ms : List (Int × Int)} {i : Nat} {m : Int × Int} {pl : List Int} (h : ms[i]? = some m) : goPl f i (ms.drop i) pl = if canMeet pl m = true then goPl f (i + 1) (ms.drop (i + 1)) (movePl pl m (f m)) else .inl i := by
  have hi := (List.getElem?_eq_some_iff.mp h).1
  rw [List.drop_eq_getElem_cons hi, (List.getElem?_eq_some_iff.mp h).2]
  rfl
theorem goPl_end {f : Int × Int → Int × Int} {ms : List (Int × Int)} {i : Nat} {pl : List Int} (h : ms.length ≤ i) : goPl f i (ms.drop i) pl = .inr pl := by
  rw [List.drop_eq_nil_iff.mpr h]
  rfl
abbrev fD (D : DD) : Int × Int → Int × Int := meetOf (rks D) (rvs D)
def encI (ns : List Int) : List V := ns.map V.int
theorem refOk : PyData.strOk (Str.ofString "refused") = true := by decide +kernel
/-- what a run tells: the place, or the index of the meeting that is not possible -/
def Told (K : PySem.W.Frag) (H : Hp) (v : V) : Nat ⊕ List Int → Prop
  | .inl k => ∃ q, v = .ref q ∧ SqT K H q [.str "refused", .int (k : Int)]
  | .inr pl => ∃ q, v = .ref q ∧ SqT K H q (pl.map V.int)
theorem Told.same {K : PySem.W.Frag} {H H' : Hp} {v : V} {r : Nat ⊕ List Int} (h : Told K H v r) (e : Same H H') : Told K H' v r := by
  cases r with
  | inl k => exact ⟨h.choose, h.choose_spec.1, Same.seqT e h.choose_spec.2⟩
  | inr pl => exact ⟨h.choose, h.choose_spec.1, Same.seqT e h.choose_spec.2⟩
theorem Told.dp {K : PySem.W.Frag} {H : Hp} {x y : V} {r : Nat ⊕ List Int} (h1 : Told K H x r) (h2 : Told K H y r) : ∃ d e, Dp K H x d ∧ Dp K H y e ∧ SeqAt.shaped d = true ∧ SeqAt.shaped e = true ∧ PyData.eqv d e = true := by
  cases r with
  | inl k =>
    obtain ⟨a, rfl, ha⟩ := h1
    obtain ⟨b, rfl, hb⟩ := h2
    have al : ∀ H, DpAll K H [V.str "refused", V.int (k : Int)] [PyData.str "refused", PyData.int (k : Int)] := fun H => .cons (.str _) (.cons (.int _) .nil)
    have sh : SeqAt.shaped (.tuple [PyData.str "refused", PyData.int (k : Int)]) = true := by
      unfold SeqAt.shaped
      simp [PyData.canLay0, PyData.canLayAll0, PyData.depth, PyData.depthAll, refOk]
    exact ⟨_, _, .tup ha (al H), .tup hb (al H), sh, sh, PySem.SeqAt.eqv_refl _ (by simp [PyData.canLay0, PyData.canLayAll0, refOk])⟩
  | inr pl =>
    obtain ⟨a, rfl, ha⟩ := h1
    obtain ⟨b, rfl, hb⟩ := h2
    obtain ⟨d, e, x1, x2, x3, x4, x5⟩ := TwoInts.dp (K := K) (H := H) (ns := pl) (ms := pl) ⟨a, b, rfl, rfl, .inr ⟨ha, hb⟩⟩
    exact ⟨d, e, x1, x2, x3, x4, by rw [x5]; exact decide_eq_true rfl⟩
/-- a list of pairs as data -/
theorem dpAll_pairs {K : PySem.W.Frag} {H : Hp} : ∀ {xs : List V} {ms : List (Int × Int)}, Tups encP H xs ms → DpAll K H xs (ms.map fun m => PyData.tuple [.int m.1, .int m.2])
  | [], [], _ => .nil
  | [], m :: r, t => by have := t.1; simp at this
  | x :: xs, [], t => by have := t.1; simp at this
  | x :: xs, m :: r, t => by
    obtain ⟨u, e1, e2⟩ := t.2 0 m rfl
    obtain rfl : x = .ref u := Option.some.inj e1
    refine .cons (.tup (SqT.of e2) (.cons (.int _) (.cons (.int _) .nil))) (dpAll_pairs ⟨Nat.succ.inj t.1, fun i a e => ?_⟩)
    exact t.2 (i + 1) a e
end Vf
namespace Vf
open PySem L2
theorem canMeet_bad {ns : List Int} {m : Int × Int} (h : m.1 < 0 ∨ m.2 < 0 ∨ (ns.length : Int) ≤ m.1 ∨ (ns.length : Int) ≤ m.2) : canMeet ns m = false := if_pos h
theorem canMeet_same {ns : List Int} {i j : Int} (h : ¬ (i < 0 ∨ j < 0 ∨ (ns.length : Int) ≤ i ∨ (ns.length : Int) ≤ j)) (e : i = j) : canMeet ns (i, j) = decide (2 ≤ ns.getD i.toNat 0) := by
  unfold canMeet
  rw [if_neg h, if_pos e]
theorem canMeet_diff {ns : List Int} {i j : Int} (h : ¬ (i < 0 ∨ j < 0 ∨ (ns.length : Int) ≤ i ∨ (ns.length : Int) ≤ j)) (e : ¬ i = j) : canMeet ns (i, j) = (decide (1 ≤ ns.getD i.toNat 0) && decide (1 ≤ ns.getD j.toNat 0)) := by
  unfold canMeet
  rw [if_neg h, if_neg e]
end Vf
namespace Vf
open PySem L2
section
variable {pl : List Int} {x : Int}
theorem getI (h0 : 0 ≤ x) (h : x < pl.length) : (pl.map V.int)[x.toNat]? = some (V.int (pl.getD x.toNat 0)) := by
  have lt : x.toNat < pl.length := by omega
  rw [List.getElem?_map, List.getD_eq_getElem?_getD, List.getElem?_eq_getElem lt]
  rfl
theorem ixI (h0 : 0 ≤ x) (h : x < pl.length) : ixN (pl.map V.int).length x = some x.toNat := by
  unfold ixN
  rw [List.length_map, if_pos h0, if_pos (by omega)]
theorem setAdd {H : Hp} {c : Addr} {d : Int} : (upd H c (.lst ((pl.map V.int).set x.toNat (V.int (pl.getD x.toNat 0 + d))))) c = some (.lst ((putAt pl x.toNat d).map V.int)) := by rw [upd_same, ← putAt_map]
theorem setSub {H : Hp} {c : Addr} {d : Int} : (upd H c (.lst ((pl.map V.int).set x.toNat (V.int (pl.getD x.toNat 0 - d))))) c = some (.lst ((putAt pl x.toNat (-d)).map V.int)) := by rw [upd_same, ← putAt_map]; rfl
end
end Vf
namespace Vf
theorem dec2 {x : Int} : decide (2 ≤ x) = decide (1 < x) := decide_eq_decide.mpr (by omega)
theorem dec1 {x : Int} : decide (1 ≤ x) = decide (0 < x) := decide_eq_decide.mpr (by omega)
end Vf
namespace Vf
open PySem L2
theorem PP.got {H : Hp} {kvs : List (List Key × V)} {ks vl : List (Int × Int)} (p : PP H kvs ks vl) {k : Int × Int} {t : Addr} (ht : H t = some (.tup (encP k))) : ∃ t2, (valV kvs (keyP k)).getD (V.ref t) = .ref t2 ∧ H t2 = some (.tup (encP (meetOf ks vl k))) := by
  rcases p.get k with ⟨y1, y2⟩ | ⟨t2, y1, y2⟩
  · rw [y1, y2]
    exact ⟨t, rfl, ht⟩
  · rw [y1]
    exact ⟨t2, rfl, y2⟩
end Vf
namespace Vf
theorem putAt_mem {pl : List Int} {i : Nat} {c y : Int} (h : y ∈ putAt pl i c) : y ∈ pl ∨ (i < pl.length ∧ y = pl.getD i 0 + c) := by
  unfold putAt at h
  have h0 := h
  rcases List.mem_or_eq_of_mem_set h with h | h
  · exact .inl h
  · by_cases l : i < pl.length
    · exact .inr ⟨l, h⟩
    · rw [List.set_eq_of_length_le (by omega)] at h0
      exact .inl h0
theorem putAt_bound {pl : List Int} {i : Nat} {b : Int} (h : ∀ y ∈ pl, 0 ≤ y ∧ y ≤ b) (hi : i < pl.length) : ∀ y ∈ putAt pl i 1, 0 ≤ y ∧ y ≤ b + 1 := fun y hy => by
  rcases putAt_mem hy with m | ⟨_, rfl⟩
  · have := h y m
    omega
  · have := h _ (getD_mem hi (d := 0))
    omega
end Vf
namespace Vf
theorem bits_small {i : Nat} (h : i ≤ 1000000) : (i : Int).natAbs.log2 < 1920 := by
  rw [Int.natAbs_natCast]
  by_cases hz : i = 0
  · subst hz
    decide
  · exact (Nat.log2_lt hz).mpr (Nat.lt_of_le_of_lt h (by decide))
theorem refused_eq {i : Nat} : [L2.V.str "refused", L2.V.int (0 + (i : Int))] = [L2.V.str "refused", L2.V.int (i : Int)] := by rw [Int.zero_add]
end Vf
namespace Vf
open PySem L2
theorem catT {K : PySem.W.Frag} {H : Hp} {a b : Addr} {xs ys : List V} {Q : VK} (hx : H a = some (.tup xs)) (hy : SqT K H b ys) (ne : xs ≠ []) (hs : xs.length + ys.length ≤ sizeLine)
    (k : ∀ (p : Addr) (H' : Hp), Same H H' → H' p = some (.tup (xs ++ ys)) → Q (.ref p) H') : rCatT K (.ref a) (.ref b) H Q := by
  refine ⟨a, b, xs, ys, rfl, rfl, SqT.of hx, hy, ne, hs, fun e => ?_, fun _ p np => k p _ (Vf.Same.new (Same.refl H) np) upd_same⟩
  refine k a H (Same.refl H) ?_
  rw [e, List.append_nil]
  exact hx
theorem slT1 {K : PySem.W.Frag} {H : Hp} {a : Addr} {xs : List V} {Q : VK} (hx : SqT K H a xs) (h0 : 0 < xs.length) (k : ∀ (p : Addr) (H' : Hp), Same H H' → H' p = some (.tup (xs.drop 1)) → Q (.ref p) H') : rSlT K (.ref a) (some 1) none H Q := by
  refine ⟨a, xs, rfl, hx, ?_, fun p np => k p _ (Vf.Same.new (Same.refl H) np) ?_⟩
  · intro e
    have e1 : HT.sIx xs.length 0 (some ((1 : Nat) : Int)) = min 1 xs.length := HT.sIx_nat _ _ _
    have e2 : HT.sIx xs.length 0 (some (1 : Int)) = 0 := e.1
    rw [show ((1 : Nat) : Int) = (1 : Int) from rfl, e2] at e1
    omega
  · rw [upd_same]
    exact congrArg (fun z => some (HO.tup z)) (Vf.cut_from xs 1 h0)
theorem Tups.one {α : Type} {enc : α → List V} {H : Hp} {t : Addr} {a : α} (h : H t = some (.tup (enc a))) : Tups enc H [.ref t] [a] := Tups.snoc (xs := []) (l := []) Tups.nil h
end Vf
namespace Vf
open PySem L2
theorem PoolAt.pp {H : Hp} {p : Addr} {n : Int} {kvs : List (List Key × V)} {ks vl : List (Int × Int)} (P : PoolAt H p n) (q : PP H kvs ks vl) : PP (Er p H) kvs ks vl := ⟨q.keys, P.tups q.vals, q.nd⟩
theorem sum_pos : ∀ {ns : List Int}, 1 < ns.sum → ∃ k, k < ns.length ∧ 0 < ns.getD k 0
  | [], h => by simp at h
  | n :: r, h => by
    by_cases c : 0 < n
    · exact ⟨0, by simp, by simpa using c⟩
    · rw [List.sum_cons] at h
      obtain ⟨k, h1, h2⟩ := sum_pos (ns := r) (by omega)
      exact ⟨k + 1, by simp; omega, by simpa using h2⟩
theorem Keep.tup {p : Addr} {H H' : Hp} {o : HO} (k : Keep [p] H H') (hp : H p = some o) {t : Addr} {ys : List V} (ne : ∀ zs, o ≠ .tup zs) (h : H t = some (.tup ys)) : H' t = some (.tup ys) := k t _ (fun m => by
  rw [List.mem_singleton.mp m, hp] at h
  exact ne ys (Option.some.inj h)) h
end Vf
namespace Vf
open PySem L2
/-- while a run is drawn: the steps' list, the place, the pool -/
structure Stp (G : Hp) (pl dr st at_ : Addr) (xs : List V) (ms : List (Int × Int)) (cur : List Int) (H : Hp) (m : Int) : Prop where
  g : Same G H
  s : H st = some (.lst xs)
  t : Tups encP H xs ms
  a : H at_ = some (.tup (cur.map V.int))
  p : H pl = some (.lst [.ref dr, .int m])
section
variable {G H H' : Hp} {pl dr st at_ : Addr} {xs : List V} {ms : List (Int × Int)} {cur : List Int} {m m' : Int}
theorem Stp.same (S : Stp G pl dr st at_ xs ms cur H m) (e : Same H H') : Stp G pl dr st at_ xs ms cur H' m := ⟨S.g.trans e, e _ _ S.s, S.t.same e, e _ _ S.a, e _ _ S.p⟩
theorem nolst {x y : V} : ∀ zs, HO.lst [x, y] ≠ .tup zs := fun zs e => by cases e
theorem Stp.pick (S : Stp G pl dr st at_ xs ms cur H m) (gn : G pl = none) (ne : st ≠ pl) (h : H' pl = some (.lst [.ref dr, .int m'])) (k : Keep [pl] H H') : Stp G pl dr st at_ xs ms cur H' m' :=
  ⟨same_keep S.g gn k, k st _ (by simpa using ne) S.s, S.t.mono fun t ys e => k.tup S.p nolst e, k.tup S.p nolst S.a, h⟩
theorem Stp.at_ne (S : Stp G pl dr st at_ xs ms cur H m) {t : Addr} {ys : List V} (h : H t = some (.tup ys)) : t ≠ st ∧ t ≠ pl := ⟨fun e => (by rw [e, S.s] at h; cases h), fun e => (by rw [e, S.p] at h; cases h)⟩
/-- a step is put behind -/
theorem Stp.put (S : Stp G pl dr st at_ xs ms cur H m) (gn : G st = none) (ne : st ≠ pl) {t : Addr} {a : Int × Int} (h : H t = some (.tup (encP a))) : Stp G pl dr st at_ (xs ++ [.ref t]) (ms ++ [a]) cur (upd H st (.lst (xs ++ [.ref t]))) m := by
  have up : ∀ {x : Addr} {ys : List V}, H x = some (.tup ys) → (upd H st (.lst (xs ++ [.ref t]))) x = some (.tup ys) := fun {x ys} e => by rw [upd_ne (S.at_ne e).1]; exact e
  exact ⟨Vf.Same.chg S.g gn, upd_same, (S.t.mono fun x ys e => up e).snoc (up h), up S.a, by rw [upd_ne (Ne.symm ne)]; exact S.p⟩
end
theorem canLay_pairs : ∀ ms : List (Int × Int), PyData.canLayAll0 (ms.map fun m => PyData.tuple [.int m.1, .int m.2]) = true
  | [] => by simp [PyData.canLayAll0]
  | m :: r => by simp [PyData.canLayAll0, PyData.canLay0, canLay_pairs r]
theorem depth_pairs : ∀ ms : List (Int × Int), PyData.depthAll (ms.map fun m => PyData.tuple [.int m.1, .int m.2]) ≤ 2
  | [] => by simp [PyData.depthAll]
  | m :: r => by
    have := depth_pairs r
    simp only [List.map_cons, PyData.depthAll, PyData.depth]
    omega
theorem shaped_pairs (ms : List (Int × Int)) : SeqAt.shaped (.list (ms.map fun m => PyData.tuple [.int m.1, .int m.2])) = true := by
  have h1 := depth_pairs ms
  have h2 : PyData.depth (.list (ms.map fun m => PyData.tuple [.int m.1, .int m.2])) ≤ 64 := by
    simp only [PyData.depth]
    omega
  show (PyData.canLay0 (.list (ms.map fun m => PyData.tuple [.int m.1, .int m.2])) && decide (PyData.depth (.list (ms.map fun m => PyData.tuple [.int m.1, .int m.2])) ≤ 64)) = true
  rw [Bool.and_eq_true]
  exact ⟨by simp only [PyData.canLay0]; exact canLay_pairs ms, decide_eq_true h2⟩
theorem eqv_pairs (ms : List (Int × Int)) : PyData.eqv (.list (ms.map fun m => PyData.tuple [.int m.1, .int m.2])) (.list (ms.map fun m => PyData.tuple [.int m.1, .int m.2])) = true :=
  PySem.SeqAt.eqv_refl _ (by simp only [PyData.canLay0]; exact canLay_pairs ms)
theorem cut_to' (xs : List V) (t : Nat) : cutV xs none (some (t : Int)) = xs.take t := by
  have e1 : HT.sIx xs.length xs.length (some (t : Int)) = min t xs.length := HT.sIx_nat _ _ _
  have e2 : HT.sIx xs.length 0 none = 0 := rfl
  unfold cutV
  rw [e1, e2]
  show List.take (min t xs.length - 0) (xs.drop 0) = xs.take t
  rw [List.drop_zero, Nat.sub_zero]
  by_cases h : t ≤ xs.length
  · rw [Nat.min_eq_left h]
  · rw [Nat.min_eq_right (by omega), List.take_length, List.take_of_length_le (by omega)]
/-- places that do not fit -/
theorem bad_fit {n : Nat} {ns x : List Int} (h : ns.length = n) (h0 : 0 < n) (m : x ∈ [ns ++ [0], ns ++ [1], -1 :: ns.drop 1, ns.drop 1]) : ¬ Fits n x := by
  rintro ⟨l, p⟩
  simp only [List.mem_cons, List.not_mem_nil, or_false] at m
  rcases m with rfl | rfl | rfl | rfl
  · simp at l; omega
  · simp at l; omega
  · have := p (-1) (by simp)
    omega
  · simp at l; omega
theorem er_same {pl : Addr} {G H : Hp} (g : G pl = none) (s : Same G H) : Same G (Er pl H) := fun x o h => (if_neg (neq_none h g)).trans (s x o h)
end Vf

/-! ### enumerate(tuple); a list or a tuple walked; sorted of tuples of whole numbers -/
namespace Vf
open PySem PySem.Spec PyProof.Rows L2
def IteT (K : PySem.W.Frag) (a : Addr) : It :=
  ⟨fun i H => ∃ (xs : List V) (x : V), SqT K H a xs ∧ xs[i]? = some x, fun i H v H' => ∃ T x, v = .ref T ∧ H T = none ∧ H' = upd H T (.tup [.int (i : Nat), x]) ∧ ∀ xs, SqT K H a xs → xs[i]? = some x, fun i H => ∃ xs : List V, SqT K H a xs ∧ xs.length = i⟩
theorem turn_enumT {P : Program} {w : World} {K : PySem.W.Frag} {elts : List Expr} {kk : Nat} {tpos : Pos} (a e it : Addr) (hai : a ≠ it) (hae : a ≠ e) :
    Turn P w K (.Tuple elts kk tpos) (IteT K a) [e, it] e (fun i h => (∃ old, IsEnum h e it ((i : Nat) : Int) old) ∧ h.IsTupleIter it a i ∧ e ≠ it) where
  mem := by simp
  obj := fun i h st b hb => by
    obtain ⟨⟨old, he⟩, ⟨o, ho, hc, hd⟩, _⟩ := st
    have e' : b = e ∨ b = it := by simpa using hb
    rcases e' with z | z
    · rw [z]; exact ⟨_, he, fun v q => nomatch q⟩
    · rw [z]; exact ⟨o, ho, fun v q => by rw [hd] at q; cases q⟩
  keep := fun i h h' st k => let ⟨⟨old, he⟩, hi, hne⟩ := st; ⟨⟨old, k e (by simp) _ he⟩, hi.at fun o q => k it (by simp) o q, hne⟩
  item := by
    intro X hP hw hK hc i pins s σ H E I hf st hg
    subst hP hw hK
    obtain ⟨⟨old, he⟩, hit, hne⟩ := st
    obtain ⟨xs, x, hq, hx⟩ := hg
    obtain ⟨its, rv, p, hz⟩ := I.tuple hq
    obtain ⟨u, hu, ru⟩ := rv.get hx
    have hel : e < s.heap.objs.size := Heap.lt_size he
    have hil : it < s.heap.objs.size := by obtain ⟨_, q, _⟩ := hit; exact Heap.lt_size q
    have nh : X.A.in1.handled = none := I.ok.hd hc
    have lx := (List.getElem?_eq_some_iff.mp hu).1
    refine wpAny_pyNext_enum_itemD (Draws.tuple nh it a hai its.toArray) he ⟨hit, p⟩ (by simpa using lx) hne (by simp [hne, Ne.symm hae]) fun x1 h' tk e1 ho hst' hT hsz hk => ?_
    obtain rfl : u = x1 := by
      have e := e1
      simp only [List.getElem?_toArray] at e
      rw [hu] at e
      exact Option.some.inj e
    obtain ⟨hit', _⟩ := hst'
    refine ⟨_, rfl, wpAny_letOwnedTupleGo_enum (s := { s with heap := h', toks := tk + 1 }) ho fun h'' he' sb => ?_⟩
    have hT2 : h''.get? s.heap.objs.size = some { cls := .type "tuple", data := .seq #[.int i tk, u] } := (sb.2 _ (Nat.ne_of_gt hel)).trans hT
    have new : ObjOk X.prog X.w (upd H s.heap.objs.size (.tup [.int (i : Nat), x])) h'' s.heap.objs.size (.tup [.int (i : Nat), x]) :=
      ⟨by show 2 ≤ sizeLine; decide, [.int i tk, u], .cons ⟨_, rfl⟩ (.cons ru .nil), ⟨_, hT2, rfl, _, rfl⟩⟩
    have I1 : Inv X pins σ (upd H s.heap.objs.size (.tup [.int (i : Nat), x])) { s with heap := h'', toks := tk + 1 } :=
      I.turnedNew (ch := [e, it]) (fun b ob hb q => (sb.2 b (fun z => hb (by simp [z]))).trans (hk b ob (fun z => hb (by simp [z])) (fun z => hb (by simp [z])) q)) hf (Nat.le_refl _) new
    refine ⟨.ref s.heap.objs.size, _, I1, rfl, ⟨_, x, rfl, I.hok.fresh (Nat.le_refl _), rfl, fun ys hy => by rw [I.tuple_inj hy hq]; exact hx⟩, ⟨⟨u, ?_⟩, hit'.at fun o q => (sb.2 it (Ne.symm hne)).trans q, hne⟩, fun b hb => ?_⟩
    · have e1 : ((i + 1 : Nat) : Int) = (i : Int) + 1 := by omega
      rw [e1]; exact he'
    · have hb' : b < s.heap.objs.size := by
        have e' : b = e ∨ b = it := by simpa using hb
        rcases e' with z | z
        · rw [z]; exact hel
        · rw [z]; exact hil
      rw [upd_ne (Nat.ne_of_lt hb')]
      exact (hf b hb).1
  done := by
    intro X hP hw hK hc i pins s σ H E I hf st hg
    subst hP hw hK
    obtain ⟨⟨old, he⟩, hit, hne⟩ := st
    obtain ⟨xs, hq, hx⟩ := hg
    obtain ⟨its, rv, p, hz⟩ := I.tuple hq
    obtain ⟨f0, f1, f2, f3, f4, f5⟩ := hf it (by simp)
    have hl := rv.length
    have nh : X.A.in1.handled = none := I.ok.hd hc
    refine wpAny_pyNext_enum_endD (Draws.tuple nh it a hai its.toArray) he ⟨by rw [List.size_toArray, ← hl, hx]; exact hit, p⟩ fun h' eb => ⟨rfl, I.turned (t' := s.toks) (fun b o hb q => eb b o hb q) f0 f1 f3 f4 f5⟩
  self := fun A i s Q E st h => let ⟨⟨_, he⟩, _⟩ := st; wpAny_pyIter_enum he h
theorem meets_enumerate_newT (l : Addr) (items : Array Value) : Meets (Builtin.«enumerate.__new__» ⟨[.type "enumerate", .ref l], []⟩) (fun _ R s => s.heap.IsTuple l items ∧
      R (.ok (.ret (.ref (s.heap.push { cls := .type "tuple_iterator", data := .fields #[.ref l, .int 0 0] }).objs.size)))
        { s with heap := (s.heap.push { cls := .type "tuple_iterator", data := .fields #[.ref l, .int 0 0] }).push { cls := .type "enumerate", data := .fields #[.none, .bool false, .ref s.heap.objs.size, rawInt 0, .none, .none] } }) :=
  .of_wp fun prog w A R s h => by
    obtain ⟨hp, g, d, tk, os⟩ := s
    obtain ⟨hL, h⟩ := h
    have hsub := sub_enumerate
    have hL' : Heap.IsTuple (Shared.heap ⟨hp, g, d, tk, os⟩) l items := hL
    wp_walk
    refine wpAny_stack_any fun st => wpAny_pure ?_
    split
    · rename_i c _ _ _ _ _
      cases (c == Value.type "enumerate")
      · wp_walk using wpAny_pyIter_tuple hL'
        exact ⟨_, rfl, h⟩
      · wp_walk using wpAny_pyIter_tuple hL'
        exact ⟨_, rfl, h⟩
    · wp_walk using wpAny_pyIter_tuple hL'
      exact ⟨_, rfl, h⟩
theorem call_enumerate_tup {prog : Program} {w : World} {A : Around} {E : Value → Shared → Prop} {s : Shared} {l : Addr} {items : Array Value} {Q : Value → Shared → Prop} (hL : s.heap.IsTuple l items)
    (h : ∀ h', IsEnum h' (s.heap.objs.size + 1) s.heap.objs.size 0 .none → h'.IsTupleIter s.heap.objs.size l 0 → h'.objs.size = s.heap.objs.size + 2 →
      (∀ b o, s.heap.get? b = some o → h'.get? b = some o) → Q (.ref (s.heap.objs.size + 1)) { s with heap := h' }) :
    wpAny (model prog w) A (call (.type "enumerate") [.ref l]) Q E s := by
  refine callType_new F.called_enumerate (by decide) (F.typeCall_enumerate_1 _) (F.newCall_enumerate_1 _) (fun obj => F.args_object_init_2 obj _) F.entry_enumerate_new
    (meets_enumerate_newT l items) ⟨hL, ?_⟩
  have hz : (s.heap.push { cls := .type "tuple_iterator", data := .fields #[.ref l, .int 0 0] }).objs.size = s.heap.objs.size + 1 := Heap.size_push ..
  show _ ∧ _
  rw [hz]
  have he : IsEnum ((s.heap.push { cls := .type "tuple_iterator", data := .fields #[.ref l, .int 0 0] }).push
      { cls := .type "enumerate", data := .fields #[.none, .bool false, .ref s.heap.objs.size, rawInt 0, .none, .none] }) (s.heap.objs.size + 1) s.heap.objs.size 0 .none := by
    have := Heap.get?_push_size (s.heap.push { cls := .type "tuple_iterator", data := .fields #[.ref l, .int 0 0] })
      (o := { cls := .type "enumerate", data := .fields #[.none, .bool false, .ref s.heap.objs.size, rawInt 0, .none, .none] }) rfl
    rw [hz] at this; exact this
  refine ⟨⟨_, he, rfl⟩, h _ he ⟨_, Heap.get?_push_of_some _ (Heap.get?_push_size _ rfl), rfl, rfl⟩ (by rw [Heap.size_push, hz]) fun b o x => Heap.get?_push_of_some _ (Heap.get?_push_of_some _ x)⟩
def iEnumT (K : PySem.W.Frag) (ta : TA) : TI := fun σ H R => ta σ H fun vs H1 => ∃ a xs, vs = [.ref a] ∧ SqT K H1 a xs ∧ R (IteT K a) H1
theorem pi_enumT {X : Cx} {e : Expr} {ta : TA} {p pos tpos : Pos} {elts : List Expr} {kk : Nat} (hg : Gl X "enumerate") (hm : X.mg "enumerate" = none) (ha : PA X [e] ta) (hs : starEach [e] X.env = [(false, eval e X.env)] := by rfl) :
    PI X (.Tuple elts kk tpos) (.Call (.Name "enumerate" p) [e] [] pos) (iEnumT X.K ta) := by
  refine ⟨fun pins s σ H R I h => ?_⟩
  refine Call_ (ld_blt I hg hm boot_enumerate (PyProof.Rows.callWith_type1 (thn (ha.run pos pins s σ H _ I h) fun us s1 ⟨vs, H1, I1, r1, q1⟩ => ?_) hs rfl))
  obtain ⟨a, xs, ex, hq, q⟩ := q1
  subst ex
  cases r1 with
  | cons r rr =>
    cases rr
    cases r
    obtain ⟨its, rv, p', hz⟩ := I1.tuple hq
    obtain ⟨o1, w1, _⟩ := id p'
    have al : a < s1.heap.objs.size := Heap.lt_size w1
    refine call_enumerate_tup p' fun h' he hit hsz hk => wpAny_pyIter_enum he ?_
    have I2 : Inv X pins σ H1 { s1 with heap := h' } := I1.kept (t' := s1.toks) hk
    refine ⟨s1.heap.objs.size + 1, [s1.heap.objs.size + 1, s1.heap.objs.size], _, _, H1, rfl, I2, turn_enumT a (s1.heap.objs.size + 1) s1.heap.objs.size (Nat.ne_of_lt al) (Nat.ne_of_lt (Nat.lt_succ_of_lt al)), ⟨⟨.none, he⟩, hit, Nat.succ_ne_self _⟩, fun b hb => ?_, q⟩
    have e' : b = s1.heap.objs.size + 1 ∨ b = s1.heap.objs.size := by simpa using hb
    have hle : s1.heap.objs.size ≤ b := by
      rcases e' with z | z
      · rw [z]; exact Nat.le_add_right _ _
      · rw [z]; exact Nat.le_refl _
    exact I1.fpOk hle (I1.hok.fresh hle)
section
variable {K : PySem.W.Frag} {a : Addr} {xs : List V}
theorem walk_enumT : Walk (IteT K a) xs.length (fun H => SqT K H a xs) (YPair (fun i => some (.int (i : Nat))) (fun i => xs[i]?)) := by
  refine ⟨fun i _ hi q => ⟨xs, xs[i], q, by simp [hi]⟩, fun _ q => ⟨xs, q, rfl⟩, fun i H v H' _ q y => ?_⟩
  obtain ⟨T, x, h1, h2, h3, h4⟩ := y
  exact ⟨T, .int (i : Nat), x, h1, h2, h3, rfl, h4 xs q⟩
end
/-- a list or a tuple walked -/
def iSeq (K : PySem.W.Frag) (tl : TE) : TI := fun σ H R => tl σ H fun x H1 => (∃ a, x = .ref a ∧ (∃ xs, SqL K H1 a xs) ∧ R (Itl K a) H1) ∨ ∃ a, x = .ref a ∧ (∃ xs, SqT K H1 a xs) ∧ R (Itt K a) H1
theorem pi_seq {X : Cx} {tg l : Expr} {tl : TE} (hl : PE X l tl) : PI X tg l (iSeq X.K tl) := by
  refine ⟨fun pins s σ H R I h => ?_⟩
  refine thn (hl.run pins s σ H _ I h) fun v s1 ⟨x, H1, I1, r1, q1⟩ => ?_
  rcases q1 with ⟨a, e, ⟨xs, hq⟩, q⟩ | ⟨a, e, ⟨xs, hq⟩, q⟩
  · subst e
    cases r1
    obtain ⟨its, rv, p, hz⟩ := I1.list hq
    refine wpAny_pyIter_list p.isList ?_
    refine ⟨s1.heap.objs.size, [s1.heap.objs.size], _, _, H1, rfl, I1.kept (t' := s1.toks) fun b o e => Heap.get?_push_of_some _ e, turn_list a _, ⟨_, Heap.get?_push_size _ rfl, rfl, rfl⟩, fun b hb => ?_, q⟩
    have e : b = s1.heap.objs.size := by simpa using hb
    subst e
    exact I1.fpOk (Nat.le_refl _) (I1.hok.fresh (Nat.le_refl _))
  · subst e
    cases r1
    obtain ⟨its, rv, p, hz⟩ := I1.tuple hq
    refine wpAny_pyIter_tuple (show s1.heap.IsTuple a its.toArray from p) ?_
    refine ⟨s1.heap.objs.size, [s1.heap.objs.size], _, _, H1, rfl, I1.kept (t' := s1.toks) fun b o e => Heap.get?_push_of_some _ e, turn_tuple a _, ⟨_, Heap.get?_push_size _ rfl, rfl, rfl⟩, fun b hb => ?_, q⟩
    have e : b = s1.heap.objs.size := by simpa using hb
    subst e
    exact I1.fpOk (Nat.le_refl _) (I1.hok.fresh (Nat.le_refl _))
theorem pi_seqK {X : Cx} {K : PySem.W.Frag} {tg l : Expr} {tl : TE} (h : X.K = K) (hl : PE X l tl) : PI X tg l (iSeq K tl) := by
  subst h
  exact pi_seq hl
end Vf
namespace Vf
open PySem PySem.Spec PyProof.Rows L2
def encIs (ns : List Int) : List V := ns.map V.int
def iV : V → Int
  | .int i => i
  | _ => 0
/-- the ints of the tuple that a value is -/
def nsAt (H : Hp) : V → List Int
  | .ref a => match H a with
    | some (.tup xs) => xs.map iV
    | _ => []
  | _ => []
theorem nsAt_of {H : Hp} {a : Addr} {ns : List Int} (h : H a = some (.tup (encIs ns))) : nsAt H (.ref a) = ns := by
  show (match H a with | some (.tup xs) => xs.map iV | _ => []) = ns
  rw [h]
  show (ns.map V.int).map iV = ns
  rw [List.map_map]
  exact List.map_id' ns
theorem tups_nsAt {H : Hp} {xs : List V} {zs : List (List Int)} (t : Tups encIs H xs zs) : xs.map (nsAt H) = zs := by
  apply List.ext_getElem?
  intro i
  rw [List.getElem?_map]
  cases e : xs[i]? with
  | none =>
    have := List.getElem?_eq_none_iff.mp e
    rw [List.getElem?_eq_none (show zs.length ≤ i by rw [← t.1]; exact this)]
    rfl
  | some x =>
    obtain ⟨a, u, e1, rfl, e2⟩ := t.get e
    rw [e1]
    exact congrArg some (nsAt_of e2)
theorem tups_perm {H : Hp} {xs ys : List V} {zs : List (List Int)} (t : Tups encIs H xs zs) (p : ys.Perm xs) : Tups encIs H ys (ys.map (nsAt H)) := by
  refine ⟨(List.length_map ..).symm, fun i a e => ?_⟩
  rw [List.getElem?_map] at e
  cases e1 : ys[i]? with
  | none => rw [e1] at e; cases e
  | some y =>
    rw [e1] at e
    obtain rfl : nsAt H y = a := Option.some.inj e
    obtain ⟨j, hj⟩ := List.mem_iff_getElem?.mp (p.mem_iff.mp (List.mem_of_getElem? e1))
    obtain ⟨b, u, f1, rfl, f2⟩ := t.get hj
    exact ⟨u, rfl, by rw [nsAt_of f2]; exact f2⟩
def rSortTs (K : PySem.W.Frag) : List V → Hp → VK → Prop := fun vs H Q => ∃ (a : Addr) (xs : List V) (zs : List (List Int)) (d : Nat) (B : Int), vs = [V.ref a] ∧ H a = some (.lst xs) ∧ Tups encIs H xs zs ∧ zs.length < 64 ∧ 1 ≤ d ∧ (∀ z ∈ zs, z.length = d ∧ TS.Bd B z) ∧
  ∀ (p : Addr) (ys : List V) (ws : List (List Int)), H p = none → Tups encIs H ys ws → ws.Perm zs → ws.Pairwise (fun x y => TS.code B x ≤ TS.code B y) → Q (.ref p) (upd H p (.lst ys))
theorem cr_sortTs {X : Cx} : CallR X (.builtin "sorted") (rSortTs X.K) := by
  intro pins s σ H vs us Q I r h
  obtain ⟨a, xs, zs, d, B, rfl, ha, t, h64, hd, hz, q⟩ := h
  refine cr_sortT (d := d) (B := B) hd pins s σ H [V.ref a] us Q I r ⟨a, xs, rfl, SqL.of ha, by rw [t.1]; exact h64, fun x hx => ?_, fun ys p pm pw np => ?_⟩
  · obtain ⟨i, hi⟩ := List.mem_iff_getElem?.mp hx
    obtain ⟨z, u, e1, rfl, e2⟩ := t.get hi
    exact ⟨z, ⟨u, rfl, SqT.of e2⟩, hz z (List.mem_of_getElem? e1)⟩
  · have t2 := tups_perm t pm
    refine q p ys _ np t2 ?_ ?_
    · rw [← tups_nsAt t]
      exact pm.map _
    · rw [List.pairwise_map]
      refine pw.imp_of_mem fun {x y} hx hy hxy => ?_
      obtain ⟨i, hi⟩ := List.mem_iff_getElem?.mp hx
      obtain ⟨j, hj⟩ := List.mem_iff_getElem?.mp hy
      obtain ⟨z, u, e1, rfl, e2⟩ := t2.get hi
      obtain ⟨z', u', e1', rfl, e2'⟩ := t2.get hj
      exact hxy _ _ ⟨u, rfl, SqT.of (by rw [nsAt_of e2]; exact e2)⟩ ⟨u', rfl, SqT.of (by rw [nsAt_of e2']; exact e2')⟩
theorem code_inj {B : Int} : ∀ {x y : List Int}, x.length = y.length → TS.Bd B x → TS.Bd B y → TS.code B x = TS.code B y → x = y
  | [], [], _, _, _, _ => rfl
  | [], _ :: _, h, _, _, _ => by simp at h
  | _ :: _, [], h, _, _, _ => by simp at h
  | a :: r, b :: q, h, h1, h2, e => by
    have hl : r.length = q.length := by simpa using h
    have ab : a = b := by
      rcases Int.lt_trichotomy a b with c | c | c
      · have := TS.code_lt hl h1.tail h2.tail c
        omega
      · exact c
      · have := TS.code_lt hl.symm h2.tail h1.tail c
        omega
    subst ab
    have e2 : a * B ^ r.length + TS.code B r = a * B ^ q.length + TS.code B q := e
    rw [hl] at e2
    rw [code_inj hl h1.tail h2.tail (by omega)]
/-- sorted is one list only -/
theorem sort_one {B : Int} {d : Nat} {ws zs : List (List Int)} (p : ws.Perm zs) (hz : ∀ z ∈ zs, z.length = d ∧ TS.Bd B z) (h1 : ws.Pairwise (fun x y => TS.code B x ≤ TS.code B y)) (h2 : zs.Pairwise (fun x y => TS.code B x ≤ TS.code B y)) : ws = zs := by
  refine p.eq_of_pairwise (fun x y hx hy a b => ?_) h1 h2
  have zx := hz x (p.mem_iff.mp hx)
  have zy := hz y hy
  exact code_inj (zx.1.trans zy.1.symm) zx.2 zy.2 (Int.le_antisymm a b)
/-- sorted(d), d a dict whose keys are tuples of ints -/
def keyI (k : List Int) : List Key := k.map Sum.inl
theorem keyI_inj {a b : List Int} (h : keyI a = keyI b) : a = b := by
  have h2 := congrArg (List.map (fun k : Key => match k with | .inl i => i | .inr _ => 0)) h
  unfold keyI at h2
  rw [List.map_map, List.map_map] at h2
  exact (List.map_id' a).symm.trans (h2.trans (List.map_id' b))
theorem keyI_kV (k : List Int) : (keyI k).map kV = encIs k := by
  unfold keyI encIs
  rw [List.map_map]
  rfl
def rSortDTs : List V → Hp → VK → Prop := fun vs H Q => ∃ (a : Addr) (kvs : List (List Key × V)) (ks : List (List Int)) (d : Nat) (B : Int), vs = [V.ref a] ∧ Rd H a (.dT kvs) ∧ kvs.map (·.1) = ks.map keyI ∧ ks.length < 64 ∧ 1 ≤ d ∧ (∀ z ∈ ks, z.length = d ∧ TS.Bd B z) ∧
  ∀ (p : Addr) (ys : List V) (ws : List (List Int)), H p = none → Tups encIs H ys ws → ws.Perm ks → ws.Pairwise (fun x y => TS.code B x ≤ TS.code B y) → Q (.ref p) (upd H p (.lst ys))
theorem tupInts_of {X : Cx} {pins : List (Addr × Obj)} {σ : L2.St} {H : Hp} {s : Shared} (I : Inv X pins σ H s) {t : Addr} {ns : List Int} (h : H t = some (.tup (encIs ns))) : TS.TupInts s.heap (.ref t) ns := tupI_raw I (SqT.of h)
theorem cr_sortDTs {X : Cx} (hcalm : X.calm = true) : CallR X (.builtin "sorted") rSortDTs := by
  intro pins s σ H xs us Q I r h
  obtain ⟨d, kvs, ks, dd, B, rfl, hd, hks, h64, hd1, hz, q⟩ := h
  obtain ⟨u, rfl, rx⟩ := vals1 r
  cases rx
  obtain ⟨z, hs, xs, pr, o, es, ep, ho, hx, hdt, he, hn⟩ := (show ObjOk X.prog X.w H s.heap d (.dT kvs) from hd.ok I.hok)
  have l1 : es.size = xs.length := size_of_entries he
  have l2 : kvs.length = xs.length := Paired.length pr
  have l3 : kvs.length = ks.length := by
    have := congrArg List.length hks
    simpa using this
  have h16 : es.size ≤ sizeLine := by rw [sizeLine_eq]; omega
  refine Calls.call_function_entry PyProof.Rows.kind_sorted PyProof.Rows.plain_sorted PyProof.Rows.entry_sorted (PyProof.Rows.args_sorted1 _) ?_
  unfold Builtin.«sorted»
  refine wpAny_bind (m := checkCount "sorted" 1 1 _) (wpAny_pure ?_)
  refine wpAny_bind (PySem.W.kdu_collect (A := X.A.in1) (kdl_raw hs hx hdt) (I.ok.hd hcalm) ho h16 fun h' tk acc hk hacc => ?_)
  have ea : acc.toList = (xs.map fun x => x.2.1).map Value.ref := by
    have hl : acc.toList.length = xs.length := by rw [Array.length_toList, hacc.1, l1]
    apply List.ext_getElem?
    intro j
    rw [List.map_map, List.getElem?_map]
    cases hj : acc.toList[j]? with
    | none =>
      have h1 := List.getElem?_eq_none_iff.mp hj
      rw [List.getElem?_eq_none (by omega)]
      rfl
    | some v =>
      obtain ⟨en, hen, hv⟩ := hacc.2 j v (by rw [← Array.getElem?_toList]; exact hj)
      have qe := entry_at he j
      rw [hen] at qe
      cases hb : xs[j]? with
      | none =>
        rw [hb] at qe
        exact nomatch (show some en = none from qe)
      | some b =>
        rw [hb] at qe
        have e2 : en = entryOfKey (tupleKind (mixKind X.prog X.w)) b := Option.some.inj qe
        rw [hv, e2]
        rfl
  have I1 : Inv X pins σ H { s with heap := h', toks := tk } := I.kept hk
  -- the keys' tuples
  have T0 : Tups encIs H ((xs.map fun x => x.2.1).map V.ref) ks := by
    refine ⟨by rw [List.length_map, List.length_map]; omega, fun n k e => ?_⟩
    have hn' : n < xs.length := by
      have := (List.getElem?_eq_some_iff.mp e).1
      omega
    have ex : xs[n]? = some xs[n] := List.getElem?_eq_getElem hn'
    obtain ⟨y, hy, p1, p2, _⟩ := pair_get pr ex
    have hk1 : (kvs.map (·.1))[n]? = some y.1 := by rw [List.getElem?_map, hy]; rfl
    rw [hks, List.getElem?_map, e] at hk1
    have ek : y.1 = keyI k := (Option.some.inj hk1).symm
    rw [ek] at p2
    refine ⟨xs[n].2.1, by rw [List.getElem?_map, List.getElem?_map, ex]; rfl, ?_⟩
    rw [← keyI_kV]
    exact p2
  have hal : acc.toList.length < 64 := by
    rw [ea, List.length_map, List.length_map]
    omega
  refine wpAny_bind (wpAny_newList ?_ (by rw [sizeLine_eq]; omega))
  have hoL : (h'.push (seqObj "list" acc.toList.toArray 0)).get? h'.objs.size = some (seqObj "list" acc.toList.toArray 0) := Heap.get?_push_size _ rfl
  show wpAny _ _ _ _ _ { s with heap := h'.push (seqObj "list" acc.toList.toArray 0), toks := tk }
  have ok : TS.TupsOk (h'.push (seqObj "list" acc.toList.toArray 0)) dd B acc.toList := by
    intro v hv
    rw [ea] at hv
    obtain ⟨a, ha, rfl⟩ := List.mem_map.mp hv
    obtain ⟨n, hn'⟩ := List.mem_iff_getElem?.mp ha
    obtain ⟨k, t, e1, e2, e3⟩ := T0.get (i := n) (x := V.ref a) (by rw [List.getElem?_map, hn']; rfl)
    cases e2
    obtain ⟨z1, z2⟩ := hz k (List.mem_of_getElem? e1)
    exact ⟨k, (tupInts_of I1 e3).keeps fun b o e _ => Heap.get?_push_of_some _ e, z1, z2⟩
  refine wpAny_bind (wpAny_holding (wpAny_call_entry PyProof.Rows.slot_list_sort ⟨_, hoL, rfl⟩ PyProof.Rows.entry_list_sort
    (TS.sort_tups (s := { s with heap := h'.push (seqObj "list" acc.toList.toArray 0), toks := tk }) hoL hal hd1 ok (fun v => TS.code B (TS.intsOf (h'.push (seqObj "list" acc.toList.toArray 0)) v)) (fun v _ ns t => by
      show TS.code B (TS.intsOf _ v) = TS.code B ns
      rw [t.ints]) fun out hperm hs' => ⟨_, rfl, ?_⟩) (args_list_sort _)))
  obtain ⟨e', he'⟩ := PyProof.Rows.sortedHeap_at (vs := acc.toList) (out := out) hoL
  obtain ⟨bs, eb⟩ := refs_out out.toList fun u hu => by
    have hm := hperm.mem_iff.mp hu
    rw [ea] at hm
    obtain ⟨a, _, rfl⟩ := List.mem_map.mp hm
    exact ⟨a, rfl⟩
  rw [ea, eb] at hperm
  have hbp : bs.Perm (xs.map fun x => x.2.1) := by
    have hh := hperm.map (fun v : Value => match v with | .ref a => a | _ => 0)
    rw [List.map_map, List.map_map] at hh
    have e1 : bs.map ((fun v : Value => match v with | .ref a => a | _ => 0) ∘ Value.ref) = bs := List.map_id' bs
    have e2 : (xs.map fun x => x.2.1).map ((fun v : Value => match v with | .ref a => a | _ => 0) ∘ Value.ref) = (xs.map fun x => x.2.1) := List.map_id' _
    rw [e1, e2] at hh
    exact hh
  have vp : (bs.map V.ref).Perm ((xs.map fun x => x.2.1).map V.ref) := hbp.map _
  have t2 := tups_perm T0 vp
  have hlen : (bs.map V.ref).length ≤ sizeLine := by
    rw [List.length_map, hbp.length_eq, List.length_map, sizeLine_eq]
    omega
  refine wpAny_pure ⟨_, rfl, .ref h'.objs.size, upd H h'.objs.size (.lst (bs.map V.ref)), I1.laid (t' := tk) (fun b u e => ?_) (Nat.le_refl _)
    (show ObjOk X.prog X.w _ _ _ (.lst (bs.map V.ref)) from ⟨hlen, bs.map Value.ref, e', vals_refs bs, by rw [he', ← eb]⟩), rfl, q _ _ ((bs.map V.ref).map (nsAt H)) (I1.hok.fresh (Nat.le_refl _)) t2 ?_ ?_⟩
  · have hb : b < h'.objs.size := Heap.lt_size e
    rw [PyProof.Rows.sortedHeap_old (Nat.ne_of_lt hb) (by rw [size_push']; exact Nat.lt_succ_of_lt hb)]
    exact Heap.get?_push_of_some _ e
  · rw [← tups_nsAt T0]
    exact vp.map _
  · rw [eb] at hs'
    rw [List.pairwise_map] at hs'
    rw [List.pairwise_map, List.pairwise_map]
    refine hs'.imp_of_mem fun {x y} hx hy hxy => ?_
    have key : ∀ b ∈ bs, TS.intsOf (h'.push (seqObj "list" acc.toList.toArray 0)) (.ref b) = nsAt H (.ref b) := fun b hb => by
      obtain ⟨i, hi⟩ := List.mem_iff_getElem?.mp hb
      obtain ⟨zz, t, e1, e2, e3⟩ := t2.get (i := i) (x := V.ref b) (by rw [List.getElem?_map, hi]; rfl)
      cases e2
      have e4 := (tupInts_of I1 e3).keeps (h' := h'.push (seqObj "list" acc.toList.toArray 0)) fun b o e _ => Heap.get?_push_of_some _ e
      rw [e4.ints]
      exact (nsAt_of e3).symm
    rw [← key x hx, ← key y hy]
    exact hxy
end Vf
namespace Vf
open PySem PySem.Spec PyProof.Rows L2
theorem op_neIsK {X : Cx} {K : PySem.W.Frag} (h : X.K = K) (hu : X.A.units + 64 < cLine) : OpR X (compareOp .NotEq) (rNeIs K) := by
  subst h
  exact op_neIs hu
theorem op_eqIsK {X : Cx} {K : PySem.W.Frag} (h : X.K = K) (hu : X.A.units + 64 < cLine) : OpR X (compareOp .Eq) (rEqIs K) := by
  subst h
  exact op_eqIs hu
theorem _root_.L2.Room.units65 {k : Nat} {A : Around} (r : Room k A) : A.units + 65 < cLine := by
  have := r.un
  omega
end Vf

/-! ### the meetings of a place, and where they lead -/
namespace Vf
open PySem L2
theorem asc_eq : ∀ {l m : List Int}, l.Pairwise (· < ·) → m.Pairwise (· < ·) → (∀ x, x ∈ l ↔ x ∈ m) → l = m
  | [], [], _, _, _ => rfl
  | [], b :: m, _, _, h => by
    have := (h b).mpr (List.mem_cons_self ..)
    simp at this
  | a :: l, [], _, _, h => by
    have := (h a).mp (List.mem_cons_self ..)
    simp at this
  | a :: l, b :: m, h1, h2, h => by
    obtain ⟨a1, a2⟩ := List.pairwise_cons.mp h1
    obtain ⟨b1, b2⟩ := List.pairwise_cons.mp h2
    have e : a = b := by
      have ha := (h a).mp (List.mem_cons_self ..)
      have hb := (h b).mpr (List.mem_cons_self ..)
      rcases List.mem_cons.mp ha with e | e
      · exact e
      · rcases List.mem_cons.mp hb with e' | e'
        · exact e'.symm
        · have x1 := b1 a e
          have x2 := a1 b e'
          omega
    subst e
    rw [asc_eq a2 b2 fun x => ⟨fun hx => ?_, fun hx => ?_⟩]
    · have q := (h x).mp (List.mem_cons_of_mem _ hx)
      rcases List.mem_cons.mp q with e | e
      · have := a1 x hx
        omega
      · exact e
    · have q := (h x).mpr (List.mem_cons_of_mem _ hx)
      rcases List.mem_cons.mp q with e | e
      · have := b1 x hx
        omega
      · exact e
def nz (i : Nat) : Int := (i : Int)
theorem nz_asc (n : Nat) (p : Nat → Bool) : (((List.range n).filter p).map nz).Pairwise (· < ·) := by
  rw [List.pairwise_map]
  refine (List.pairwise_lt_range.filter p).imp fun {a b} h => ?_
  show (a : Int) < b
  omega
theorem nz_mem {n : Nat} {p : Nat → Bool} {x : Int} : x ∈ ((List.range n).filter p).map nz ↔ 0 ≤ x ∧ x < n ∧ p x.toNat = true := by
  rw [List.mem_map]
  constructor
  · rintro ⟨i, h, rfl⟩
    rw [List.mem_filter, List.mem_range] at h
    exact ⟨Int.natCast_nonneg _, Int.ofNat_lt.mpr h.1, by rw [show (nz i).toNat = i from Int.toNat_natCast i]; exact h.2⟩
  · rintro ⟨h0, h1, h2⟩
    exact ⟨x.toNat, List.mem_filter.mpr ⟨List.mem_range.mpr (by omega), h2⟩, Int.toNat_of_nonneg h0⟩
/-- a meeting that is possible and changes a state -/
def cM (f : Int × Int → Int × Int) (ns : List Int) (m : Int × Int) : Bool := !decide (f m = m) && canMeet ns m
/-- the seconds for a first one -/
def secs (n : Nat) (c : Int × Int → Bool) (a : Int) : List Int := ((List.range n).filter fun j => c (a, nz j)).map nz
/-- all of them, ascending -/
def prs (n : Nat) (c : Int × Int → Bool) : List (Int × Int) := (List.range n).flatMap fun i => (secs n c (nz i)).map fun j => (nz i, j)
theorem secs_len (n : Nat) (c : Int × Int → Bool) (a : Int) : (secs n c a).length ≤ n := by
  unfold secs
  rw [List.length_map]
  exact Nat.le_trans (List.length_filter_le ..) (Nat.le_of_eq List.length_range)
theorem prs_len (n : Nat) (c : Int × Int → Bool) : (prs n c).length ≤ n * n := by
  unfold prs
  have : ∀ k, ((List.range k).flatMap fun i => (secs n c (nz i)).map fun j => (nz i, j)).length ≤ k * n := by
    intro k
    induction k with
    | zero => simp
    | succ k ih =>
      rw [List.range_succ, List.flatMap_append, List.length_append, Nat.succ_mul]
      have h1 : ([k].flatMap fun i => (secs n c (nz i)).map fun j => (nz i, j)).length ≤ n := by
        rw [List.flatMap_singleton, List.length_map]
        exact secs_len n c _
      omega
  exact this n
theorem prs_mem {n : Nat} {c : Int × Int → Bool} {m : Int × Int} (h : m ∈ prs n c) : InR n m ∧ c m = true := by
  unfold prs at h
  rw [List.mem_flatMap] at h
  obtain ⟨i, hi, h⟩ := h
  rw [List.mem_range] at hi
  obtain ⟨j, hj, rfl⟩ := List.mem_map.mp h
  unfold secs at hj
  obtain ⟨h0, h1, h2⟩ := nz_mem.mp hj
  rw [show nz j.toNat = j from Int.toNat_of_nonneg h0] at h2
  refine ⟨⟨Int.natCast_nonneg _, Int.ofNat_lt.mpr hi, h0, h1⟩, h2⟩
/-- what is left of any ascending list that leaves none out -/
theorem secs_of {n : Nat} {f : Int × Int → Int × Int} {ns l : List Int} {a : Int} (hn : ns.length = n) (h1 : l.Pairwise (· < ·)) (h2 : ∀ j ∈ l, f (a, j) ≠ (a, j)) (h3 : ∀ j : Int, 0 ≤ j → j < n → f (a, j) ≠ (a, j) → 0 < ns.getD j.toNat 0 → j ∈ l) :
    l.filter (fun j => canMeet ns (a, j)) = secs n (cM f ns) a := by
  refine asc_eq (h1.filter _) (nz_asc ..) fun x => ?_
  unfold secs
  rw [nz_mem, List.mem_filter]
  constructor
  · rintro ⟨hx, hc⟩
    have r := canMeet_in hc
    rw [hn] at r
    refine ⟨r.2.2.1, r.2.2.2, ?_⟩
    rw [show nz x.toNat = x from Int.toNat_of_nonneg r.2.2.1]
    unfold cM
    rw [decide_eq_false (h2 x hx), hc]
    rfl
  · rintro ⟨h0, hx, hc⟩
    rw [show nz x.toNat = x from Int.toNat_of_nonneg h0] at hc
    unfold cM at hc
    rw [Bool.and_eq_true, Bool.not_eq_true', decide_eq_false_iff_not] at hc
    refine ⟨h3 x h0 hx hc.1 ?_, hc.2⟩
    have cm := hc.2
    unfold canMeet at cm
    split at cm
    · cases cm
    · split at cm
      · rename_i e
        rw [decide_eq_true_eq] at cm
        have : a = x := e
        subst this
        dsimp only at cm
        omega
      · rw [Bool.and_eq_true, decide_eq_true_eq, decide_eq_true_eq] at cm
        dsimp only at cm
        omega
/-- the states in which there are agents -/
def pres (n : Nat) (ns : List Int) : List Int := ((List.range n).filter fun i => decide (0 < ns.getD i 0)).map nz
theorem flat_filter {α β : Type} (p : α → Bool) (g : α → List β) (h : ∀ a, p a = false → g a = []) : ∀ l : List α, (l.filter p).flatMap g = l.flatMap g
  | [] => rfl
  | a :: l => by
    rw [List.flatMap_cons, List.filter_cons]
    by_cases c : p a = true
    · rw [if_pos c, List.flatMap_cons, flat_filter p g h l]
    · rw [if_neg c, flat_filter p g h l, h a (by simpa using c)]
      rfl
theorem secs_none {n : Nat} {f : Int × Int → Int × Int} {ns : List Int} {i : Nat} (h : decide (0 < ns.getD i 0) = false) : secs n (cM f ns) (nz i) = [] := by
  unfold secs
  rw [List.map_eq_nil_iff, List.filter_eq_nil_iff]
  intro j _ c
  unfold cM at c
  rw [Bool.and_eq_true] at c
  have cm := c.2
  have h' := of_decide_eq_false h
  unfold canMeet at cm
  split at cm
  · cases cm
  · have ei : (nz i).toNat = i := Int.toNat_natCast i
    dsimp only at cm
    rw [ei] at cm
    split at cm
    · rw [decide_eq_true_eq] at cm
      omega
    · rw [Bool.and_eq_true, decide_eq_true_eq, decide_eq_true_eq] at cm
      omega
theorem pres_flat (n : Nat) (f : Int × Int → Int × Int) (ns : List Int) : ((pres n ns).flatMap fun a => (secs n (cM f ns) a).map fun j => (a, j)) = prs n (cM f ns) := by
  unfold pres prs
  rw [List.flatMap_map]
  exact flat_filter _ _ (fun i h => by
    show (secs n (cM f ns) (nz i)).map _ = []
    rw [secs_none h]
    rfl) _
/-- the next places, in the order in which they are found -/
def nextS (f : Int × Int → Int × Int) (ns : List Int) (acc : List (List Int × (Int × Int))) (m : Int × Int) : List (List Int × (Int × Int)) :=
  if movePl ns m (f m) = ns ∨ movePl ns m (f m) ∈ acc.map Prod.fst then acc else acc ++ [(movePl ns m (f m), m)]
def nextL (f : Int × Int → Int × Int) (ns : List Int) (ms : List (Int × Int)) : List (List Int × (Int × Int)) := ms.foldl (nextS f ns) []
theorem nextL_snoc (f : Int × Int → Int × Int) (ns : List Int) {ms : List (Int × Int)} {i : Nat} {m : Int × Int} (h : ms[i]? = some m) : nextL f ns (ms.take (i + 1)) = nextS f ns (nextL f ns (ms.take i)) m := by
  unfold nextL
  rw [List.take_add_one, h]
  exact List.foldl_append ..
theorem nextL_len (f : Int × Int → Int × Int) (ns : List Int) (ms : List (Int × Int)) : (nextL f ns ms).length ≤ ms.length := by
  unfold nextL
  have : ∀ (ms : List (Int × Int)) (acc : List (List Int × (Int × Int))), (ms.foldl (nextS f ns) acc).length ≤ acc.length + ms.length := by
    intro ms
    induction ms with
    | nil => intro acc; exact Nat.le_refl _
    | cons m r ih =>
      intro acc
      rw [List.foldl_cons, List.length_cons]
      have h1 := ih (nextS f ns acc m)
      have h2 : (nextS f ns acc m).length ≤ acc.length + 1 := by
        unfold nextS
        split
        · omega
        · rw [List.length_append]; exact Nat.le_refl _
      omega
  simpa using this ms []
theorem nextL_mem {f : Int × Int → Int × Int} {ns : List Int} : ∀ {ms : List (Int × Int)} {z : List Int}, z ∈ (nextL f ns ms).map Prod.fst → ∃ m ∈ ms, z = movePl ns m (f m) := by
  have : ∀ (ms : List (Int × Int)) (acc : List (List Int × (Int × Int))) (z : List Int), z ∈ (ms.foldl (nextS f ns) acc).map Prod.fst → z ∈ acc.map Prod.fst ∨ ∃ m ∈ ms, z = movePl ns m (f m) := by
    intro ms
    induction ms with
    | nil => intro acc z h; exact .inl h
    | cons m r ih =>
      intro acc z h
      rw [List.foldl_cons] at h
      rcases ih _ _ h with h | ⟨m', h1, h2⟩
      · unfold nextS at h
        split at h
        · exact .inl h
        · rw [List.map_append] at h
          rcases List.mem_append.mp h with h | h
          · exact .inl h
          · exact .inr ⟨m, List.mem_cons_self .., by simpa using h⟩
      · exact .inr ⟨m', List.mem_cons_of_mem _ h1, h2⟩
  intro ms z h
  rcases this ms [] z h with h | h
  · simp at h
  · exact h
theorem putAt_le {pl : List Int} {i : Nat} {c b : Int} (h : ∀ y ∈ pl, y ≤ b) (hc : 0 ≤ b) : ∀ y ∈ putAt pl i c, y ≤ b + (if 0 ≤ c then c else 0) := fun y hy => by
  rcases putAt_mem hy with m | ⟨l, rfl⟩
  · have := h y m
    split <;> omega
  · have := h _ (getD_mem l (d := 0))
    split <;> omega
theorem move_le {ns : List Int} {m r : Int × Int} {b : Int} (h : ∀ y ∈ ns, y ≤ b) (hb : 0 ≤ b) : ∀ y ∈ movePl ns m r, y ≤ b + 2 := by
  unfold movePl
  have h1 := putAt_le (i := m.1.toNat) (c := -1) h hb
  have h2 := putAt_le (i := m.2.toNat) (c := -1) h1 (by omega)
  have h3 := putAt_le (i := r.1.toNat) (c := 1) h2 (by omega)
  have h4 := putAt_le (i := r.2.toNat) (c := 1) h3 (by omega)
  intro y hy
  have := h4 y hy
  simp at this
  omega
/-- the next places have the same length, and are bounded -/
theorem next_ok {n : Nat} {f : Int × Int → Int × Int} {ns : List Int} {b : Int} (h : Fits n ns) (hb : ∀ y ∈ ns, y ≤ b) (b0 : 0 ≤ b) : ∀ z ∈ (nextL f ns (prs n (cM f ns))).map Prod.fst, z.length = n ∧ TS.Bd (b + 3) z := by
  intro z hz
  obtain ⟨m, hm, rfl⟩ := nextL_mem hz
  obtain ⟨_, hc⟩ := prs_mem hm
  unfold cM at hc
  rw [Bool.and_eq_true] at hc
  have fm := move_fits (r := f m) h hc.2
  refine ⟨fm.1, fun y hy => ⟨fm.2 y hy, ?_⟩⟩
  have := move_le (m := m) (r := f m) hb b0 y hy
  omega
theorem fD_ch {D : DD} (v : ValidN D) {i : Nat} {j : Int} : (∃ (n : Nat) (w : Int × Int), (rks D)[n]? = some ((i : Int), j) ∧ (rvs D)[n]? = some w ∧ w ≠ ((i : Int), j)) ↔ fD D ((i : Int), j) ≠ ((i : Int), j) := by
  have nd : (rks D).Nodup := by
    have := (v.valid).nd
    exact this
  unfold fD meetOf
  constructor
  · rintro ⟨n, w, h1, h2, h3⟩
    have mem := List.mem_of_getElem? h1
    rw [if_pos mem]
    have e : (rks D).idxOf ((i : Int), j) = n := by
      have lt := List.idxOf_lt_length_of_mem mem
      have g : (rks D)[(rks D).idxOf ((i : Int), j)]? = some ((i : Int), j) := by
        rw [List.getElem?_eq_getElem lt]
        exact congrArg some (List.getElem_idxOf lt)
      exact nodup_ix nd g h1
    rw [e, List.getD_eq_getElem?_getD, h2]
    exact h3
  · intro h
    by_cases mem : ((i : Int), j) ∈ rks D
    · rw [if_pos mem] at h
      have lt := List.idxOf_lt_length_of_mem mem
      have l2 : (rvs D).length = (rks D).length := by simp [rvs, rks]
      refine ⟨(rks D).idxOf ((i : Int), j), (rvs D)[(rks D).idxOf ((i : Int), j)]'(by omega), ?_, List.getElem?_eq_getElem _, ?_⟩
      · rw [List.getElem?_eq_getElem lt]
        exact congrArg some (List.getElem_idxOf lt)
      · rw [List.getD_eq_getElem?_getD, List.getElem?_eq_getElem (by omega)] at h
        exact h
    · rw [if_neg mem] at h
      exact absurd rfl h
end Vf
namespace Vf
open PySem L2
theorem pair_ne {a b : Int × Int} : (!decide ([a.1, a.2] = [b.1, b.2])) = decide (a ≠ b) := by
  have : ([a.1, a.2] = [b.1, b.2]) ↔ a = b := by
    constructor
    · intro h
      simp only [List.cons.injEq, and_true] at h
      exact Prod.ext h.1 h.2
    · intro h
      rw [h]
  by_cases c : a = b
  · rw [decide_eq_true (this.mpr c), decide_eq_false (fun z => z c)]
    rfl
  · rw [decide_eq_false (fun z => c (this.mp z)), decide_eq_true c]
    rfl
theorem filter_take {α : Type} {p : α → Bool} {l : List α} {i : Nat} {x : α} (h : l[i]? = some x) : (l.take (i + 1)).filter p = (l.take i).filter p ++ if p x = true then [x] else [] := by
  rw [List.take_add_one, h, List.filter_append]
  congr 1
  by_cases c : p x = true
  · rw [if_pos c]
    simp [c]
  · rw [if_neg c]
    simp [c]
theorem range_filter {p : Nat → Bool} {i : Nat} : (List.range (i + 1)).filter p = (List.range i).filter p ++ if p i = true then [i] else [] := by
  rw [List.range_succ, List.filter_append]
  congr 1
  by_cases c : p i = true
  · rw [if_pos c]
    simp [c]
  · rw [if_neg c]
    simp [c]
end Vf
namespace Vf
open PySem L2
section
variable {J : It} {n : Nat} {G : Hp → Prop} {Y : Nat → Hp → V → Hp → Prop} {g g1 : TG} {tt tt1 : TT} {te : TE} {wi1 : TI} {vs vs1 : List Nat} {σ : L2.St} {H1 : Hp} {D : Addr} {Qd : Hp → Prop}
/-- the inner walk of a comprehension of two clauses -/
def LcIn (g1 : TG) (tt1 : TT) (te : TE) (vs1 : List Nat) (D : Addr) (σ2 : L2.St) (Nx : Hp → Prop) (J1 : It) (H4 : Hp) : Prop := ∃ W1 : Nat → Nat → Hp → Prop, (∃ m, W1 0 m H4) ∧ ∀ j k H, W1 j k H →
      (J1.stop j H ∧ Nx H) ∨ (J1.go j H ∧ ∃ Nx1 : Hp → Prop, (∀ H', Nx1 H' → ∃ k', k' < k ∧ W1 (j + 1) k' H') ∧ ∀ x H', J1.yld j H x H' → g1 x (wipe σ2 vs1) H' fun σ3 H5 => wipe σ3 vs1 = wipe σ2 vs1 ∧ tt1 σ3 H5 fun b H6 =>
        if b = true then te σ3 H6 fun y H7 => ∃ acc, H7 D = some (.lst acc) ∧ acc.length < sizeLine ∧ Nx1 (upd H7 D (.lst (acc ++ [y]))) else Nx1 H6)
theorem lc_in (w : Walk J n G Y) (Pv : Nat → Hp → Prop) (h0 : Pv 0 H1) (hG : ∀ i H, i ≤ n → Pv i H → G H)
    (hs : ∀ i x H H', i < n → Pv i H → Y i H x H' → g1 x (wipe σ vs1) H' fun σ2 H2 => wipe σ2 vs1 = wipe σ vs1 ∧ tt1 σ2 H2 fun b H3 =>
      if b = true then te σ2 H3 fun y H4 => ∃ acc, H4 D = some (.lst acc) ∧ acc.length < sizeLine ∧ Pv (i + 1) (upd H4 D (.lst (acc ++ [y]))) else Pv (i + 1) H3) (hd : ∀ H, Pv n H → Qd H) : LcIn g1 tt1 te vs1 D σ Qd J H1 := by
  refine ⟨fun i m H => m = n - i ∧ i ≤ n ∧ Pv i H, ⟨n, by simp, Nat.zero_le _, h0⟩, ?_⟩
  rintro i m H ⟨rfl, hi, p⟩
  have q := hG i H hi p
  by_cases hlt : i < n
  · exact .inr ⟨w.goes i H hlt q, Pv (i + 1), fun H' p' => ⟨n - (i + 1), by omega, rfl, hlt, p'⟩, fun x H' y => hs i x H H' hlt p (w.yields i H x H' hlt q y)⟩
  · have e : i = n := by omega
    subst e
    exact .inl ⟨w.stops H q, hd H p⟩
theorem lc2_it (w : Walk J n G Y) (Pv : Nat → Hp → Prop) (h0 : Pv 0 (upd H1 D (.lst []))) (hG : ∀ i H, i ≤ n → Pv i H → G H)
    (hs : ∀ i x H H', i < n → Pv i H → Y i H x H' → g x (wipe σ vs) H' fun σ2 H2 => wipe σ2 vs = wipe σ vs ∧ tt σ2 H2 fun b H3 =>
      if b = true then wi1 σ2 H3 (LcIn g1 tt1 te vs1 D σ2 (Pv (i + 1))) else Pv (i + 1) H3) (hd : ∀ H, Pv n H → Qd H) :
    ∃ W : Nat → Nat → Hp → Prop, (∃ m, W 0 m (upd H1 D (.lst []))) ∧ ∀ i m H, W i m H →
      (J.stop i H ∧ Qd H) ∨ (J.go i H ∧ ∃ Nx : Hp → Prop, (∀ H', Nx H' → ∃ m', m' < m ∧ W (i + 1) m' H') ∧ ∀ x H', J.yld i H x H' → g x (wipe σ vs) H' fun σ2 H2 => wipe σ2 vs = wipe σ vs ∧ tt σ2 H2 fun b H3 =>
        if b = true then wi1 σ2 H3 (LcIn g1 tt1 te vs1 D σ2 Nx) else Nx H3) := by
  refine ⟨fun i m H => m = n - i ∧ i ≤ n ∧ Pv i H, ⟨n, by simp, Nat.zero_le _, h0⟩, ?_⟩
  rintro i m H ⟨rfl, hi, p⟩
  have q := hG i H hi p
  by_cases hlt : i < n
  · exact .inr ⟨w.goes i H hlt q, Pv (i + 1), fun H' p' => ⟨n - (i + 1), by omega, rfl, hlt, p'⟩, fun x H' y => hs i x H H' hlt p (w.yields i H x H' hlt q y)⟩
  · have e : i = n := by omega
    subst e
    exact .inl ⟨w.stops H q, hd H p⟩
end
theorem pres_ok {n : Nat} {ns : List Int} : (pres n ns).Pairwise (· < ·) ∧ (∀ j ∈ pres n ns, 0 ≤ j ∧ j < n ∧ 0 < ns.getD j.toNat 0) ∧ (∀ j : Int, 0 ≤ j → j < n → 0 < ns.getD j.toNat 0 → j ∈ pres n ns) ∧ (pres n ns).length ≤ n := by
  refine ⟨nz_asc .., fun j h => ?_, fun j h0 h1 h2 => nz_mem.mpr ⟨h0, h1, decide_eq_true h2⟩, ?_⟩
  · obtain ⟨h0, h1, h2⟩ := nz_mem.mp h
    exact ⟨h0, h1, of_decide_eq_true h2⟩
  · unfold pres
    rw [List.length_map]
    exact Nat.le_trans (List.length_filter_le ..) (Nat.le_of_eq List.length_range)
theorem secs_le (n : Nat) (c : Int × Int → Bool) (l : List Int) : (l.flatMap fun a => (secs n c a).map fun j => (a, j)).length ≤ l.length * n := by
  induction l with
  | nil => simp
  | cons a r ih =>
    rw [List.flatMap_cons, List.length_append, List.length_map, List.length_cons, Nat.succ_mul]
    have := secs_len n c a
    omega
end Vf
namespace Vf
open PySem L2
theorem valV_in {κ : Type} [DecidableEq κ] {k : κ} : ∀ {kvs : List (κ × V)}, (valV kvs k).isSome = decide (k ∈ kvs.map Prod.fst)
  | [] => by simp [valV]
  | p :: r => by
    by_cases e : p.1 = k
    · rw [valV_pos e, List.map_cons, e]
      simp
    · rw [valV_neg e, valV_in (kvs := r), List.map_cons]
      refine decide_eq_decide.mpr ⟨fun h => List.mem_cons_of_mem _ h, fun h => ?_⟩
      rcases List.mem_cons.mp h with h | h
      · exact absurd h.symm e
      · exact h
/-- a dict from places to meetings -/
structure PPI (H : Hp) (kvs : List (List Key × V)) (nl : List (List Int × (Int × Int))) : Prop where
  keys : kvs.map (·.1) = (nl.map Prod.fst).map keyI
  vals : Tups encP H (kvs.map (·.2)) (nl.map Prod.snd)
section
variable {H H' : Hp} {kvs : List (List Key × V)} {nl : List (List Int × (Int × Int))}
theorem PPI.mono (p : PPI H kvs nl) (e : ∀ t ys, H t = some (.tup ys) → H' t = some (.tup ys)) : PPI H' kvs nl := ⟨p.keys, p.vals.mono e⟩
theorem PPI.same (p : PPI H kvs nl) (e : Same H H') : PPI H' kvs nl := ⟨p.keys, p.vals.same e⟩
theorem PPI.len (p : PPI H kvs nl) : kvs.length = nl.length := by
  have := congrArg List.length p.keys
  simpa using this
theorem PPI.mem (p : PPI H kvs nl) {z : List Int} : keyI z ∈ kvs.map Prod.fst ↔ z ∈ nl.map Prod.fst := by
  have e : kvs.map Prod.fst = (nl.map Prod.fst).map keyI := p.keys
  rw [e, List.mem_map]
  exact ⟨fun ⟨a, h1, h2⟩ => keyI_inj h2 ▸ h1, fun h => ⟨z, h, rfl⟩⟩
theorem PPI.snoc (p : PPI H kvs nl) {z : List Int} {m : Int × Int} {t : Addr} (e : ∀ t ys, H t = some (.tup ys) → H' t = some (.tup ys)) (h : H' t = some (.tup (encP m))) : PPI H' (kvs ++ [(keyI z, .ref t)]) (nl ++ [(z, m)]) := by
  refine ⟨by rw [List.map_append, List.map_append, List.map_append, p.keys]; rfl, ?_⟩
  rw [List.map_append, List.map_append]
  exact (p.vals.mono e).snoc h
end
end Vf
theorem Vf.dec_of {p : Prop} {i : Decidable p} (h : @decide p i = true) : p := by
  cases i with
  | isTrue h' => exact h'
  | isFalse h' => exact absurd h (by simp [decide])
namespace Vf
open PySem L2
def tD (z : List Int) : PyData := .tuple (z.map PyData.int)
theorem dpAll_tups {K : PySem.W.Frag} {H : Hp} : ∀ {xs : List V} {zs : List (List Int)}, Tups encIs H xs zs → DpAll K H xs (zs.map tD)
  | [], [], _ => .nil
  | [], m :: r, t => by have := t.1; simp at this
  | x :: xs, [], t => by have := t.1; simp at this
  | x :: xs, z :: r, t => by
    obtain ⟨u, e1, e2⟩ := t.2 0 z rfl
    obtain rfl : x = .ref u := Option.some.inj e1
    refine .cons (.tup (SqT.of e2) (dpAll_ints z)) (dpAll_tups ⟨Nat.succ.inj t.1, fun i a e => ?_⟩)
    exact t.2 (i + 1) a e
theorem shaped_list_ints (ns : List Int) : PyData.canLayAll0 (ns.map PyData.int) = true ∧ PyData.depthAll (ns.map PyData.int) ≤ 1 := by
  induction ns with
  | nil => simp [PyData.canLayAll0, PyData.depthAll]
  | cons a r ih =>
    constructor
    · simp [PyData.canLayAll0, PyData.canLay0, ih.1]
    · simp only [List.map_cons, PyData.depthAll, PyData.depth]
      have := ih.2
      omega
theorem shaped_list_tups (zs : List (List Int)) : PyData.canLayAll0 (zs.map tD) = true ∧ PyData.depthAll (zs.map tD) ≤ 2 := by
  induction zs with
  | nil => simp [PyData.canLayAll0, PyData.depthAll]
  | cons a r ih =>
    obtain ⟨a1, a2⟩ := shaped_list_ints a
    constructor
    · simp only [List.map_cons, PyData.canLayAll0, tD, PyData.canLay0, a1, Bool.true_and]
      exact ih.1
    · simp only [List.map_cons, PyData.depthAll, tD, PyData.depth]
      have := ih.2
      omega
theorem shaped_tups (zs : List (List Int)) : SeqAt.shaped (.list (zs.map tD)) = true := by
  obtain ⟨h0, h1⟩ := shaped_list_tups zs
  have h2 : PyData.depth (.list (zs.map tD)) ≤ 64 := by
    simp only [PyData.depth]
    omega
  show (PyData.canLay0 (.list (zs.map tD)) && decide (PyData.depth (.list (zs.map tD)) ≤ 64)) = true
  rw [Bool.and_eq_true]
  exact ⟨by simp only [PyData.canLay0]; exact h0, decide_eq_true h2⟩
theorem eqv_tups (zs : List (List Int)) : PyData.eqv (.list (zs.map tD)) (.list (zs.map tD)) = true :=
  PySem.SeqAt.eqv_refl _ (by simp only [PyData.canLay0]; exact (shaped_list_tups zs).1)
theorem eqv_tD (a b : List Int) : PyData.eqv (tD a) (tD b) = decide (a = b) :=
  (PySem.W.Datum.eqv (α := PySem.W.Tup Int) ⟨a⟩ ⟨b⟩).trans (decide_eq_decide.mpr ⟨fun e => congrArg PySem.W.Tup.items e, fun e => by rw [e]⟩)
theorem any_tD (z : List Int) : ∀ zs : List (List Int), ((zs.map tD).any fun x => PyData.eqv x (tD z)) = decide (z ∈ zs)
  | [] => by simp
  | a :: r => by
    rw [List.map_cons, List.any_cons, any_tD z r, eqv_tD]
    by_cases e : a = z
    · rw [e]; simp
    · rw [decide_eq_false e, Bool.false_or]
      refine decide_eq_decide.mpr ⟨fun h => List.mem_cons_of_mem _ h, fun h => ?_⟩
      rcases List.mem_cons.mp h with h | h
      · exact absurd h.symm e
      · exact h
end Vf

/-! ### set comprehensions, by what a set tracks -/
namespace Vf
open PySem PySem.Spec PyProof.Rows L2
/-- an empty set's object -/
abbrev noneIn (w : World) : Obj := { cls := .type "set", dict := none, data := .set #[] 0 (.fresh 0 0 (!w.params.followText "set-order")) }
structure SetLike (P : Program) (w : World) {τ : Type} (SO : Addr → τ → HO) (z : τ) (grow : τ → V → τ → Prop) : Prop where
  fresh : ∀ (H : Hp) (h : Heap), ObjOk P w H (h.push (noneIn w)) h.objs.size (SO h.objs.size z)
  put : ∀ {X : Cx}, X.prog = P → X.w = w → ∀ {pins : List (Addr × Obj)} {σ : L2.St} {H : Hp} {s : Shared} {E : Value → Shared → Prop} {D : Addr} {t t' : τ} {y : V} {u : Value} {Q : Value → Shared → Prop}, Inv X pins σ H s → RelV y u → H D = some (SO D t) → grow t y t' →
    (∀ s', Inv X pins σ (upd H D (SO D t')) s' → Q .none s') → wpAny (model X.prog X.w) X.A (call (.builtin "set.add") [.ref D, u]) Q E s
def tScG {τ : Type} (SO : Addr → τ → HO) (z : τ) (grow : τ → V → τ → Prop) (wi : TI) (g : TG) (tt : TT) (te : TE) (vs : List Nat) : TE := fun σ H Q => wi σ H fun J H1 => ∀ D, H1 D = none → ∃ W : Nat → Nat → Hp → Prop, (∃ m, W 0 m (upd H1 D (SO D z))) ∧ ∀ i m H, W i m H →
  (J.stop i H ∧ Q (.ref D) H) ∨ (J.go i H ∧ ∃ Nx : Hp → Prop, (∀ H', Nx H' → ∃ m', m' < m ∧ W (i + 1) m' H') ∧ ∀ x H', J.yld i H x H' → g x (wipe σ vs) H' fun σ2 H2 => wipe σ2 vs = wipe σ vs ∧ tt σ2 H2 fun b H3 =>
    if b = true then te σ2 H3 fun y H4 => ∃ t t' : τ, H4 D = some (SO D t) ∧ grow t y t' ∧ Nx (upd H4 D (SO D t')) else Nx H3)
section
variable {X : Cx} {τ : Type} {SO : Addr → τ → HO} {z : τ} {grow : τ → V → τ → Prop}
theorem pe_scG (L : SetLike X.prog X.w SO z grow) {elt tg iter : Expr} {ifs : List Expr} {scope : Scope} {own : List (Str × Nat)} {pos : Pos} {wi : TI} {g : TG} {tt : TT} {te : TE} (hc : X.calm = true) (hN : X.N.Nodup) (hi : PI X tg iter wi) (ok : BlkOk X.N X.env.scope scope own)
    (hg : ∀ (s : Shared) (H : Hp) (C : Addr) (cl : List (Str × Addr)) (fp : List Addr), PG (X.blk s H scope (compEnvC scope cl C X.env) fp) tg g)
    (ht : ∀ (s : Shared) (H : Hp) (C : Addr) (cl : List (Str × Addr)) (fp : List Addr), PTs (X.blk s H scope (compEnvC scope cl C X.env) fp) ifs tt)
    (he : ∀ (s : Shared) (H : Hp) (C : Addr) (cl : List (Str × Addr)) (fp : List Addr), PE (X.blk s H scope (compEnvC scope cl C X.env) fp) elt te)
    (hs : ∀ x, foldedSetIterable iter X.env x = pure x := by intro _; rfl) : PE X (.SetComp elt [⟨tg, iter, ifs, 0⟩] scope pos) (tScG SO z grow wi g tt te (own.map (·.2))) := by
  constructor
  intro pins s σ H Q I h
  rw [PpSet.eval_SetComp]
  have free : ∀ y ∈ scope.names, y.2 = .free → ∃ c, X.env.cells.lookup y.1 = some c := fun y hy e => I.ok.has _ (by exact ok.free y hy e)
  refine wpAny_comprehension_free (use := none) rfl hs (closure_ok free) ok.kind (fun y hy e => by rw [ok.uniq y hy, e]) (thn (hi.run pins s σ H _ I h) fun xv s1 hx => thn hx fun itv s2 got => ?_)
  obtain ⟨it, fp, tn, J, H2, rfl, I2, T, st2, f2, q⟩ := got
  refine PpSet.newSet_ok (newEnv_comp ?_)
  obtain ⟨D, hD⟩ : ∃ D, D = s2.heap.objs.size := ⟨_, rfl⟩
  obtain ⟨W, ⟨m0, w0⟩, turn⟩ := q D (I2.hok.fresh (Nat.le_of_eq hD.symm))
  rw [← hD]
  obtain ⟨s3, es3⟩ : ∃ s3 : Shared, s3 = { s2 with heap := s2.heap.push (noneIn X.w) } := ⟨_, rfl⟩
  have h3 : s3.heap = s2.heap.push (noneIn X.w) := by rw [es3]
  have I3 : Inv X pins σ (upd H2 D (SO D z)) s3 := by
    rw [es3]
    refine I2.laid (t' := s2.toks) (fun b o e => Heap.get?_push_of_some _ e) (Nat.le_of_eq hD.symm) ?_
    have fr := L.fresh (upd H2 D (SO D z)) s2.heap
    rw [← hD] at fr
    exact fr
  have below : ∀ b ∈ fp, b < s2.heap.objs.size := fun b hb => Heap.lt_size (T.obj _ _ st2 b hb).choose_spec.1
  have f3 : ∀ b ∈ fp, FpOk X pins (upd H2 D (SO D z)) b ∧ b < s3.heap.objs.size := fun b hb => by
    have lt := below b hb
    have ne : b ≠ D := by rw [hD]; exact Nat.ne_of_lt lt
    refine ⟨⟨?_, (f2 b hb).2⟩, ?_⟩
    · rw [upd_ne ne]
      exact (f2 b hb).1
    · rw [h3, Heap.size_push]
      exact Nat.lt_succ_of_lt lt
  have st3 : tn 0 s3.heap := T.keep _ _ _ st2 fun b _ o e => by rw [h3]; exact Heap.get?_push_of_some _ e
  have I4 := block_start I3 ok hN f3
  have pg := hg s3 (upd H2 D (SO D z)) s3.heap.objs.size (cellsFrom (s3.heap.objs.size + 1) scope.names (cloFrom X.env.cells scope.names [])) fp
  have pt := ht s3 (upd H2 D (SO D z)) s3.heap.objs.size (cellsFrom (s3.heap.objs.size + 1) scope.names (cloFrom X.env.cells scope.names [])) fp
  have pe := he s3 (upd H2 D (SO D z)) s3.heap.objs.size (cellsFrom (s3.heap.objs.size + 1) scope.names (cloFrom X.env.cells scope.names [])) fp
  have done : ∀ (s' : Shared) (m : Str → Option Value) (H' : Hp), Inv X pins σ H' s' → Q (.ref D) H' → s'.heap.Ns s3.heap.objs.size m → FpOk X pins H' s3.heap.objs.size → compPost (model X.prog X.w) X.A X.xe none (EP X pins σ Q) (.ref D) s3.heap.objs.size (.ok .next) s' := fun s' m H' I' qq hn f => ⟨m, hn, fun h'' sb => by
    obtain ⟨a0, a1, a2, a3, a4, a5⟩ := f
    exact ⟨.ref D, H', I'.turned (t' := s'.toks) (fun b o hb e => (sb.2 b hb).trans e) a0 a1 a3 a4 a5, rfl, qq⟩⟩
  have fin0 : ∀ {s4 : Shared} {ce : Env}, ce = compEnvC scope (cellsFrom (s3.heap.objs.size + 1) scope.names (cloFrom X.env.cells scope.names [])) s3.heap.objs.size X.env →
      s4 = { s3 with heap := pushCells (s3.heap.push { cls := .type "dict", data := .dict #[] }) scope.names } → codeAny (model X.prog X.w) X.A (.compStart (.SetComp elt [⟨tg, iter, ifs, 0⟩] scope pos) 0 (.ref it) (.ref D) ce) (compPost (model X.prog X.w) X.A X.xe none (EP X pins σ Q) (.ref D) s3.heap.objs.size) s4 := by
    intro s4 ce ece es4
    rw [← ece] at I4 pg pt pe
    rw [← es4] at I4
    have cL : ce.locals = s3.heap.objs.size := by rw [ece]; rfl
    have st4 : tn 0 s4.heap := T.keep _ _ _ st3 fun b _ o e => by rw [es4]; exact pushCells_keeps _ _ _ _ (Heap.get?_push_of_some _ e)
    have un : ∀ b ∈ fp, (upd H2 D (SO D z)) b = none := fun b hb => (f3 b hb).1.1
    generalize upd H2 D (SO D z) = H3 at I3 I4 pg pt pe w0 un f3
    have stat : ∀ {σ' : L2.St} {H' : Hp} {s' : Shared}, Inv (X.blk s3 H3 scope ce fp) [] σ' H' s' → (∀ b ∈ fp, H' b = none) → ∀ b ∈ fp, FpOk (X.blk s3 H3 scope ce fp) [] H' b := fun {σ' H' s'} I' hn b hb => by
      refine ⟨hn b hb, (I'.ok.exf b hb).1, I'.ok.exfs b hb, .inl hb, fun x c e => (I'.ok.exf b hb).2 x c e, fun p hp => ?_⟩
      simp at hp
    have loop : codeAny (model X.prog X.w) X.A (.compLoop (.SetComp elt [⟨tg, iter, ifs, 0⟩] scope pos) 0 (.ref it) (.ref D) ce) (compPost (model X.prog X.w) X.A X.xe none (EP X pins σ Q) (.ref D) s3.heap.objs.size) s4 := by
      refine PpSet.compLoopS_any (fun n s' => ∃ i H', Inv (X.blk s3 H3 scope ce fp) [] (wipe σ (own.map (·.2))) H' s' ∧ tn i s'.heap ∧ (∀ b ∈ fp, H' b = none) ∧ W i n H') (fun n s5 hI => ?_) m0 ⟨0, H3, I4, st4, un, w0⟩
      obtain ⟨i, H5, I5, st5, n5, w5⟩ := hI
      rcases turn i n H5 w5 with ⟨stop, qq⟩ | ⟨go, Nx, hNx, step⟩
      · refine thnF (T.done (X.blk s3 H3 scope ce fp) rfl rfl rfl hc i [] s5 _ H5 (fun _ _ => False) I5 (stat I5 n5) st5 stop) fun r s6 ⟨hr, I6⟩ => ?_
        subst hr
        have I7 : Inv X pins σ H5 s6 := I3.call' (ch := fp) I6.os I6.base I6.hok I6.bare fun b hb => ⟨(f3 b hb).1.2.2.2.1, (f3 b hb).1.2.1, (f3 b hb).1.2.2.2.2.1, (f3 b hb).1.2.2.2.2.2⟩
        obtain ⟨m, hn, _⟩ := I6.loc
        have fr : H5 ce.locals = none := I6.free
        have hn : s6.heap.Ns ce.locals m := hn
        rw [cL] at hn fr
        exact done s6 m H5 I7 qq hn (I3.fpOk (Nat.le_refl _) fr)
      · refine thnF (T.item (X.blk s3 H3 scope ce fp) rfl rfl rfl hc i [] s5 _ H5 (fun _ _ => False) I5 (stat I5 n5) st5 go) fun r s6 ⟨u, hr, h6⟩ => ?_
        subst hr
        refine thnF h6 fun _ s7 ⟨x, H7, I7, r7, y7, st7, n7⟩ => ?_
        have I8 := I7.pinned (stat I7 n7) (T.obj _ _ st7)
        refine thnF (pg.run _ s7 _ H7 x u _ I8 r7 (step x H7 y7)) fun _ s8 ⟨σ8, H8, I9, hw8, q8⟩ => ?_
        refine thnF (pt.run _ s8 σ8 H8 _ I9 q8) fun b s9 ⟨H9, I10, q9⟩ => ?_
        have next : ∀ {s' : Shared} {H' : Hp}, Inv (X.blk s3 H3 scope ce fp) ([] ++ pinsAt fp s7.heap) σ8 H' s' → Nx H' → ∃ m, m < n ∧ ∃ i H', Inv (X.blk s3 H3 scope ce fp) [] (wipe σ (own.map (·.2))) H' s' ∧ tn i s'.heap ∧ (∀ b ∈ fp, H' b = none) ∧ W i m H' := fun {s' H'} I' nx => by
          obtain ⟨m', hm, w'⟩ := hNx H' nx
          have held : ∀ b ∈ fp, ∀ o, s7.heap.get? b = some o → s'.heap.get? b = some o ∧ H' b = none := fun b hb o e => by
            have zz := I'.pin (b, o) (List.mem_append_right _ (List.mem_append_right _ (mem_pinsAt hb e)))
            exact ⟨zz.1, zz.2.1⟩
          refine ⟨m', hm, i + 1, H', (I'.unpinned (pins := [])).weak (by rw [← hw8, wipe_length]) (fun j v e => ?_), T.keep _ _ _ st7 fun b hb o e => (held b hb o e).1, fun b hb => ?_, w'⟩
          · rw [← hw8] at e
            exact (wipe_some e).1
          · obtain ⟨o, e, _⟩ := T.obj _ _ st7 b hb
            exact (held b hb o e).2
        cases b with
        | false =>
          simp only [Bool.false_eq_true, if_false] at q9 ⊢
          exact next I10 q9
        | true =>
          simp only [if_true] at q9 ⊢
          refine thnF (pe.run _ s9 σ8 H9 _ I10 q9) fun uv s10 ⟨yv, H10, I11, r10, t, t', hD10, gr, nx⟩ => ?_
          exact L.put (X := X.blk s3 H3 scope ce fp) rfl rfl I11 r10 hD10 gr fun s11 I12 => next I12 nx
    exact PpSet.codeAny_compStart_set loop (T.self X.A 0 _ _ _ st4 loop)
  have last := fin0 rfl rfl
  subst es3
  exact last
end
/-- a set of whole numbers -/
def soI (w : World) (a : Addr) (t : (Int → Bool) × Nat) : HO := SetO w a t.1 t.2
def zI : (Int → Bool) × Nat := (fun _ => false, 0)
def growI (t : (Int → Bool) × Nat) (y : V) (t' : (Int → Bool) × Nat) : Prop := ∃ k : Int, y = .int k ∧ t.2 + 1 < scanBound ∧ t' = (fun j => t.1 j || decide (j = k), if t.1 k = true then t.2 else t.2 + 1)
theorem setLikeI (P : Program) (w : World) : SetLike P w (soI w) zI growI where
  fresh H h := setO_new (setR_fresh w)
  put := by
    rintro X rfl rfl pins σ H s E D t t' y u Q I r hD ⟨k, rfl, room, rfl⟩ h
    obtain ⟨tk, rfl⟩ := r
    refine setR_add (setO_get I hD) room fun h' sb new => ?_
    obtain ⟨o, es, ep, tb, ho, _⟩ := id new
    exact h _ (I.write (e := D) (t' := s.toks + 1) (by rw [hD]; trivial) (.inl rfl) (fun b u hb hu => (sb.2 b hb).trans hu) ⟨o, ho⟩ (setO_new new))
theorem pe_scI {X : Cx} {elt tg iter : Expr} {ifs : List Expr} {scope : Scope} {own : List (Str × Nat)} {pos : Pos} {wi : TI} {g : TG} {tt : TT} {te : TE} (hc : X.calm = true) (hN : X.N.Nodup) (hi : PI X tg iter wi) (ok : BlkOk X.N X.env.scope scope own)
    (hg : ∀ (s : Shared) (H : Hp) (C : Addr) (cl : List (Str × Addr)) (fp : List Addr), PG (X.blk s H scope (compEnvC scope cl C X.env) fp) tg g)
    (ht : ∀ (s : Shared) (H : Hp) (C : Addr) (cl : List (Str × Addr)) (fp : List Addr), PTs (X.blk s H scope (compEnvC scope cl C X.env) fp) ifs tt)
    (he : ∀ (s : Shared) (H : Hp) (C : Addr) (cl : List (Str × Addr)) (fp : List Addr), PE (X.blk s H scope (compEnvC scope cl C X.env) fp) elt te)
    (hs : ∀ x, foldedSetIterable iter X.env x = pure x := by intro _; rfl) : PE X (.SetComp elt [⟨tg, iter, ifs, 0⟩] scope pos) (tScG (soI X.w) zI growI wi g tt te (own.map (·.2))) := pe_scG (setLikeI X.prog X.w) hc hN hi ok hg ht he hs
section
variable {τ : Type} {SO : Addr → τ → HO} {z : τ} {grow : τ → V → τ → Prop} {J : It} {n : Nat} {G : Hp → Prop} {Y : Nat → Hp → V → Hp → Prop} {g : TG} {tt : TT} {te : TE} {vs : List Nat} {σ : L2.St} {H1 : Hp} {D : Addr} {Qd : Hp → Prop}
theorem sc_it (w : Walk J n G Y) (Pv : Nat → Hp → Prop) (h0 : Pv 0 (upd H1 D (SO D z))) (hG : ∀ i H, i ≤ n → Pv i H → G H)
    (hs : ∀ i x H H', i < n → Pv i H → Y i H x H' → g x (wipe σ vs) H' fun σ2 H2 => wipe σ2 vs = wipe σ vs ∧ tt σ2 H2 fun b H3 =>
      if b = true then te σ2 H3 fun y H4 => ∃ t t' : τ, H4 D = some (SO D t) ∧ grow t y t' ∧ Pv (i + 1) (upd H4 D (SO D t')) else Pv (i + 1) H3) (hd : ∀ H, Pv n H → Qd H) :
    ∃ W : Nat → Nat → Hp → Prop, (∃ m, W 0 m (upd H1 D (SO D z))) ∧ ∀ i m H, W i m H →
      (J.stop i H ∧ Qd H) ∨ (J.go i H ∧ ∃ Nx : Hp → Prop, (∀ H', Nx H' → ∃ m', m' < m ∧ W (i + 1) m' H') ∧ ∀ x H', J.yld i H x H' → g x (wipe σ vs) H' fun σ2 H2 => wipe σ2 vs = wipe σ vs ∧ tt σ2 H2 fun b H3 =>
        if b = true then te σ2 H3 fun y H4 => ∃ t t' : τ, H4 D = some (SO D t) ∧ grow t y t' ∧ Nx (upd H4 D (SO D t')) else Nx H3) := by
  refine ⟨fun i m H => m = n - i ∧ i ≤ n ∧ Pv i H, ⟨n, by simp, Nat.zero_le _, h0⟩, ?_⟩
  rintro i m H ⟨rfl, hi, p⟩
  have q := hG i H hi p
  by_cases hlt : i < n
  · exact .inr ⟨w.goes i H hlt q, Pv (i + 1), fun H' p' => ⟨n - (i + 1), by omega, rfl, hlt, p'⟩, fun x H' y => hs i x H H' hlt p (w.yields i H x H' hlt q y)⟩
  · have e : i = n := by omega
    subst e
    exact .inl ⟨w.stops H q, hd H p⟩
end
/-- what comes out at a place, up to the i-th state -/
def OutAt (ou ns : List Int) (i : Nat) (k : Int) : Prop := ∃ j : Nat, j < i ∧ ou[j]? = some k ∧ ∃ c, ns[j]? = some c ∧ 0 < c
def totalOf (ou ns : List Int) : Int := ((ou.zip ns).map fun x => x.1 * x.2).sum
theorem OutAt.succ {ou ns : List Int} {i : Nat} {k o c : Int} (ho : ou[i]? = some o) (hc : ns[i]? = some c) : OutAt ou ns (i + 1) k ↔ OutAt ou ns i k ∨ (k = o ∧ 0 < c) := by
  constructor
  · rintro ⟨j, hj, h1, c1, h2, h3⟩
    by_cases e : j = i
    · subst e
      rw [ho] at h1
      rw [hc] at h2
      cases h1
      cases h2
      exact .inr ⟨rfl, h3⟩
    · exact .inl ⟨j, by omega, h1, c1, h2, h3⟩
  · rintro (⟨j, hj, r⟩ | ⟨rfl, h⟩)
    · exact ⟨j, by omega, r⟩
    · exact ⟨i, by omega, ho, c, hc, h⟩
theorem zip_at {α β : Type} {l : List α} {m : List β} {i : Nat} {a : α} {b : β} (h1 : l[i]? = some a) (h2 : m[i]? = some b) : (l.zip m)[i]? = some (a, b) := by
  rw [List.getElem?_zip_eq_some]
  exact ⟨h1, h2⟩
theorem totalOf_succ {ou ns : List Int} {i : Nat} {o c : Int} (ho : ou[i]? = some o) (hc : ns[i]? = some c) : ((((ou.zip ns).map fun x => x.1 * x.2).take (i + 1)).sum) = (((ou.zip ns).map fun x => x.1 * x.2).take i).sum + o * c := by
  have e : ((ou.zip ns).map fun x => x.1 * x.2)[i]? = some (o * c) := by
    rw [List.getElem?_map, zip_at ho hc]
    rfl
  rw [List.take_succ, e, List.sum_append]
  simp
/-- two ways that meet again: what comes behind is shown once -/
theorem seq_join {t u : TS} {D : Ends} {σ : L2.St} {H : Hp} (R : L2.St → Hp → Prop) (h1 : ∀ nx : L2.St → Hp → Prop, (∀ σ' H', R σ' H' → nx σ' H') → t { D with nx := nx } σ H) (h2 : ∀ σ' H', R σ' H' → u D σ' H') : tSeq t u D σ H := h1 (u D) h2
theorem inV_int (s : Int) (l : List Int) : inV (.int s) (l.map V.int) = decide (s ∈ l) := by
  unfold inV
  rw [Bool.eq_iff_iff, List.any_eq_true, decide_eq_true_iff]
  constructor
  · rintro ⟨y, hy, h⟩
    obtain ⟨t, ht, rfl⟩ := List.mem_map.mp hy
    have e : decide (t = s) = true := h
    rw [← of_decide_eq_true e]
    exact ht
  · intro h
    exact ⟨.int s, List.mem_map.mpr ⟨s, h, rfl⟩, (decide_eq_true rfl : decide (s = s) = true)⟩
theorem flat_int (l : List Int) : (l.map V.int).all flatV = true := by
  rw [List.all_eq_true]
  intro x hx
  obtain ⟨t, _, rfl⟩ := List.mem_map.mp hx
  rfl
theorem asc_of {l : List Int} (h : l.Pairwise (· ≤ ·)) (n : l.Nodup) : l.Pairwise (· < ·) := (h.and n).imp fun ⟨a, b⟩ => by omega
end Vf

namespace Vf
open PySem L2
theorem sum_set : ∀ {l : List Int} {i : Nat} {c : Int}, i < l.length → (l.set i (l.getD i 0 + c)).sum = l.sum + c
  | [], i, c, h => by simp at h
  | a :: r, 0, c, _ => by simp; omega
  | a :: r, i + 1, c, h => by
    have h' : i < r.length := by simpa using h
    have e := sum_set (c := c) h'
    rw [show (a :: r).getD (i + 1) 0 = r.getD i 0 from rfl, List.set_cons_succ, List.sum_cons, List.sum_cons, e]
    omega
theorem putAt_sum {l : List Int} {i : Nat} {c : Int} (h : i < l.length) : (putAt l i c).sum = l.sum + c := sum_set h
theorem move_sum {ns : List Int} {m r : Int × Int} (h : InR ns.length m) (h' : InR ns.length r) : (movePl ns m r).sum = ns.sum := by
  obtain ⟨a0, a1, b0, b1⟩ := h
  obtain ⟨c0, c1, d0, d1⟩ := h'
  unfold movePl
  rw [putAt_sum (by rw [putAt_len, putAt_len, putAt_len]; omega), putAt_sum (by rw [putAt_len, putAt_len]; omega), putAt_sum (by rw [putAt_len]; omega), putAt_sum (by omega)]
  omega
theorem in_sum {D : DD} (v : ValidN D) : ∀ (ps : List (Str × Str)) (cs pl : List Int), pl.length = D.st.length → ps.length = cs.length → (∀ p ∈ ps, p.2 ∈ D.st) → ((ps.zip cs).foldl (fun pl pc => putAt pl (D.st.idxOf pc.1.2) pc.2) pl).sum = pl.sum + cs.sum
  | [], [], pl, _, _, _ => by simp
  | [], _ :: _, _, _, h, _ => by simp at h
  | _ :: _, [], _, _, h, _ => by simp at h
  | p :: ps, c :: cs, pl, hl, hh, hm => by
    rw [List.zip_cons_cons, List.foldl_cons, in_sum v ps cs _ ((putAt_len ..).trans hl) (by simpa using hh) fun q hq => hm q (List.mem_cons_of_mem _ hq), List.sum_cons, putAt_sum (by rw [hl]; exact List.idxOf_lt_length_of_mem (hm p (List.mem_cons_self ..)))]
    omega
theorem ld_sum {D : DD} : ∀ (ls : List Str) (pl : List Int), pl.length = D.st.length → (∀ s ∈ ls, s ∈ D.st) → (ldPl D ls pl).sum = pl.sum + ls.length
  | [], pl, _, _ => by simp [ldPl]
  | s :: r, pl, hl, hm => by
    have e : ldPl D (s :: r) pl = ldPl D r (putAt pl (D.st.idxOf s) 1) := rfl
    rw [e, ld_sum r _ ((putAt_len ..).trans hl) fun q hq => hm q (List.mem_cons_of_mem _ hq), putAt_sum (by rw [hl]; exact List.idxOf_lt_length_of_mem (hm s (List.mem_cons_self ..))), List.length_cons]
    omega
theorem zero_sum (n : Nat) : (List.replicate n (0 : Int)).sum = 0 := by
  induction n with
  | zero => rfl
  | succ n ih => rw [List.replicate_succ, List.sum_cons, ih]; rfl
theorem first_sum {D : DD} (v : ValidN D) {cs : List Int} (h : cs.length = D.ins.length) : (firstPl D cs).sum = cs.sum + D.ld.length := by
  unfold firstPl
  rw [ld_sum _ _ (inPl_len ..) v.ldm]
  unfold inPl
  rw [in_sum v _ _ _ (List.length_replicate ..) h.symm fun p hp => (v.inm p hp).2, zero_sum]
  omega
theorem in_nn {D : DD} (n : Nat) : ∀ (ps : List (Str × Str)) (cs pl : List Int), (∀ y ∈ pl, 0 ≤ y) → (∀ y ∈ cs, 0 ≤ y) → ∀ y ∈ (ps.zip cs).foldl (fun pl pc => putAt pl (D.st.idxOf pc.1.2) pc.2) pl, 0 ≤ y
  | [], cs, pl, h, _ => by simpa using h
  | _ :: _, [], pl, h, _ => by simpa using h
  | p :: ps, c :: cs, pl, h, hc => by
    rw [List.zip_cons_cons, List.foldl_cons]
    refine in_nn n ps cs _ (fun y hy => ?_) fun y hy => hc y (List.mem_cons_of_mem _ hy)
    have c0 := hc c (List.mem_cons_self ..)
    rcases putAt_mem hy with m | ⟨l, rfl⟩
    · exact h y m
    · have := h _ (getD_mem l (d := 0))
      dsimp only at l this ⊢
      omega
theorem ld_nn {D : DD} : ∀ (ls : List Str) (pl : List Int), (∀ y ∈ pl, 0 ≤ y) → ∀ y ∈ ldPl D ls pl, 0 ≤ y
  | [], pl, h => h
  | s :: r, pl, h => by
    refine ld_nn r _ fun y hy => ?_
    rcases putAt_mem hy with m | ⟨l, rfl⟩
    · exact h y m
    · have := h _ (getD_mem l (d := 0))
      omega
theorem first_fits {D : DD} {cs : List Int} (h : ∀ y ∈ cs, 0 ≤ y) : Fits D.st.length (firstPl D cs) := by
  refine ⟨(ldPl_len ..).trans (inPl_len ..), ld_nn _ _ (in_nn D.st.length _ _ _ (fun y hy => ?_) h)⟩
  rw [List.eq_of_mem_replicate hy]
  exact Int.le_refl _
theorem le_sum : ∀ {l : List Int}, (∀ y ∈ l, 0 ≤ y) → ∀ i, l.getD i 0 ≤ l.sum ∧ 0 ≤ l.sum
  | [], _, i => by simp
  | a :: r, h, i => by
    have a0 := h a (List.mem_cons_self ..)
    have ih := le_sum (l := r) fun y hy => h y (List.mem_cons_of_mem _ hy)
    rw [List.sum_cons]
    cases i with
    | zero =>
      have := (ih 0).2
      show a ≤ _ ∧ _
      omega
    | succ i =>
      have := ih i
      show r.getD i 0 ≤ _ ∧ _
      omega
theorem le_sum2 : ∀ {l : List Int}, (∀ y ∈ l, 0 ≤ y) → ∀ i j, i ≠ j → l.getD i 0 + l.getD j 0 ≤ l.sum
  | [], _, i, j, _ => by simp
  | a :: r, h, i, j, ne => by
    have a0 := h a (List.mem_cons_self ..)
    have hr : ∀ y ∈ r, 0 ≤ y := fun y hy => h y (List.mem_cons_of_mem _ hy)
    rw [List.sum_cons]
    cases i with
    | zero =>
      cases j with
      | zero => exact absurd rfl ne
      | succ j =>
        have := (le_sum hr j).1
        show a + r.getD j 0 ≤ _
        omega
    | succ i =>
      cases j with
      | zero =>
        have := (le_sum hr i).1
        show r.getD i 0 + a ≤ _
        omega
      | succ j =>
        have := le_sum2 hr i j (fun e => ne (by rw [e]))
        show r.getD i 0 + r.getD j 0 ≤ _
        omega
/-- fewer than two agents do not meet -/
theorem canMeet_two {ns : List Int} {m : Int × Int} (h : ∀ y ∈ ns, 0 ≤ y) (c : canMeet ns m = true) : 2 ≤ ns.sum := by
  have r := canMeet_in c
  unfold canMeet at c
  split at c
  · cases c
  · split at c
    · rw [decide_eq_true_eq] at c
      have := (le_sum h m.1.toNat).1
      omega
    · rename_i ne
      rw [Bool.and_eq_true, decide_eq_true_eq, decide_eq_true_eq] at c
      have := le_sum2 h m.1.toNat m.2.toNat (fun e => ne (by obtain ⟨a, _, b, _⟩ := r; omega))
      omega
theorem nextL_all {f : Int × Int → Int × Int} {ns : List Int} {m : Int × Int} (ne : movePl ns m (f m) ≠ ns) : ∀ {ms : List (Int × Int)}, m ∈ ms → movePl ns m (f m) ∈ (nextL f ns ms).map Prod.fst := by
  have keep : ∀ (ms : List (Int × Int)) (acc : List (List Int × (Int × Int))) (z : List Int), z ∈ acc.map Prod.fst → z ∈ (ms.foldl (nextS f ns) acc).map Prod.fst := by
    intro ms
    induction ms with
    | nil => intro acc z h; exact h
    | cons a r ih =>
      intro acc z h
      rw [List.foldl_cons]
      refine ih _ _ ?_
      unfold nextS
      split
      · exact h
      · rw [List.map_append]
        exact List.mem_append_left _ h
  have go : ∀ (ms : List (Int × Int)) (acc : List (List Int × (Int × Int))), m ∈ ms → movePl ns m (f m) ∈ (ms.foldl (nextS f ns) acc).map Prod.fst := by
    intro ms
    induction ms with
    | nil => intro acc h; simp at h
    | cons a r ih =>
      intro acc h
      rw [List.foldl_cons]
      rcases List.mem_cons.mp h with rfl | h
      · refine keep _ _ _ ?_
        unfold nextS
        split
        · rename_i c
          rcases c with c | c
          · exact absurd c ne
          · exact c
        · rw [List.map_append]
          exact List.mem_append_right _ (by simp)
      · exact ih _ h
  intro ms h
  exact go ms [] h
theorem goPl_snoc {f : Int × Int → Int × Int} {m : Int × Int} {cur : List Int} (c : canMeet cur m = true) : ∀ {ms : List (Int × Int)} {k : Nat} {pl : List Int}, goPl f k ms pl = .inr cur → goPl f k (ms ++ [m]) pl = .inr (movePl cur m (f m))
  | [], k, pl, h => by
    have e : pl = cur := Sum.inr.inj h
    subst e
    show (if canMeet pl m = true then goPl f (k + 1) [] (movePl pl m (f m)) else .inl k) = _
    rw [if_pos c]
    rfl
  | a :: r, k, pl, h => by
    have h' : (if canMeet pl a = true then goPl f (k + 1) r (movePl pl a (f a)) else .inl k) = Sum.inr cur := h
    show (if canMeet pl a = true then goPl f (k + 1) (r ++ [m]) (movePl pl a (f a)) else .inl k) = _
    by_cases ca : canMeet pl a = true
    · rw [if_pos ca] at h' ⊢
      exact goPl_snoc c h'
    · rw [if_neg ca] at h'
      cases h'
theorem pairs_nil {ms : List (Int × Int)} : PyData.eqv (.list (ms.map fun m => PyData.tuple [.int m.1, .int m.2])) (.list []) = decide (ms = []) := by
  cases ms with
  | nil => simp [PyData.eqv, PyData.eqvAll]
  | cons a r => simp [PyData.eqv, PyData.eqvAll]
end Vf

namespace Vf
open PySem L2 PySem.Spec PyProof.Rows
/-- x == y, two objects of a class with an own __eq__ that answers with a truth value -/
def rEqOwn (C : Addr) (sp : Sp) (E : XK) : R2 := fun x y H Q => ∃ (a b dx dy : Addr) (fs gs : List (Str × V)), x = .ref a ∧ y = .ref b ∧ H a = some (.ins C dx fs) ∧ H b = some (.ins C dy gs) ∧ sp [.ref a, .ref b] H (fun v H' => ∃ c : Bool, v = .bl c ∧ Q (.bl c) H') E
theorem op_eqOwn {X : Cx} {CX : CXT} {k : Nat} {C f : Addr} {fd : FuncData} {ps : List Str} {sp : Sp} {E : XK} (F : FnOk X.prog X.w X.K X.mg X.base CX k f fd ps sp) (hr : Room k X.A)
    (fnd : PySem.W.findIn X.K (.ref C) "__eq__" = some (some (.ref f))) (isf : PySem.W.isFn X.K (.ref f) = true) (bd : Binds X.K fd ps []) (px : Passes CX X E) : OpR X (compareOp .Eq) (rEqOwn C sp E) := by
  intro pins s σ H x y v u Q I rx ry h
  obtain ⟨a, b, dx, dy, fs, gs, rfl, rfl, ha, hb, q⟩ := h
  obtain rfl : v = Value.ref a := rx
  obtain rfl : u = Value.ref b := ry
  obtain ⟨_, Ja, _⟩ := ins_get I.hok ha
  obtain ⟨_, Jb, _⟩ := ins_get I.hok hb
  obtain ⟨_, Ja, _⟩ := Ja.look
  obtain ⟨_, Jb, _⟩ := Jb.look
  obtain ⟨_, fr⟩ := I.fr
  have hl := F.len _ _ _ _ q
  have r2 : Vals [V.ref a, V.ref b] [Value.ref a, Value.ref b] := .cons rfl (.cons rfl .nil)
  have hbs : BindsTo s fd ⟨[Value.ref a, Value.ref b], []⟩ (ps.zip [Value.ref a, Value.ref b]) := by
    have := bd s [Value.ref a, Value.ref b] I.kIn (by simpa using hl)
    simpa using this
  show wpAny (model X.prog X.w) X.A (richCompare .Eq (.ref a) (.ref b)) (EP X pins σ Q) X.xe s
  refine PySem.W.cmp_K (op := .Eq) (tb := Value.ref C) hr.units0 fr I.ok.mod.kin Ja Jb.type (by simp [PySem.W.notFirst]) fnd isf (wpAny_call (codeAny_mono (F.run X.A X.stack s H _ _ _ _ E hr I.env0 hbs r2 q) fun r s' hq => ?_))
  cases r with
  | error e => exact px pins σ H s e s' I hq
  | ok fl =>
    cases fl with
    | ret z =>
      obtain ⟨zv, H', I', rz, c, rfl, q'⟩ := I.after hq
      obtain rfl : z = Value.bool c := rz
      exact ⟨.bl c, H', I', rfl, q'⟩
    | next => exact False.elim hq
    | brk => exact False.elim hq
    | cont => exact False.elim hq
end Vf

namespace Vf
open PySem PySem.W L2
/-! ### == of texts, pairs of texts, rules -/
def rEqP (K : PySem.W.Frag) (neg : Bool) : R2 := fun x y H Q => ∃ d e, Dp K H x d ∧ Dp K H y e ∧ (d.plain = true ∧ d.depth ≤ 64) ∧ (e.plain = true ∧ e.depth ≤ 64) ∧ Q (.bl (if neg then !PyData.eqv d e else PyData.eqv d e)) H
theorem op_eqP {X : Cx} (hu : X.A.units + 64 < cLine) : OpR X (compareOp .Eq) (rEqP X.K false) := by
  rintro pins s σ H x y v u Q I rx ry ⟨d, e, hd, he, ⟨pd, dd⟩, ⟨pe, _⟩, q⟩
  obtain ⟨_, r1⟩ := Dp.reads I d x v hd rx
  obtain ⟨_, r2⟩ := Dp.reads I e y u he ry
  exact SeqAt.eq_plain r1 r2 pd pe (by omega) ⟨.bl _, H, I, rfl, q⟩
theorem op_neP {X : Cx} (hu : X.A.units + 64 < cLine) : OpR X (compareOp .NotEq) (rEqP X.K true) := by
  rintro pins s σ H x y v u Q I rx ry ⟨d, e, hd, he, ⟨pd, dd⟩, ⟨pe, _⟩, q⟩
  obtain ⟨_, r1⟩ := Dp.reads I d x v hd rx
  obtain ⟨_, r2⟩ := Dp.reads I e y u he ry
  exact SeqAt.ne_plain r1 r2 pd pe (by omega) ⟨.bl _, H, I, rfl, q⟩
theorem datum_pl {α : Type} [DecidableEq α] [Datum α] (a : α) (h : Datum.depth α ≤ 64) : (Datum.toD a).plain = true ∧ (Datum.toD a).depth ≤ 64 := ⟨Datum.plain a, Nat.le_trans (Datum.depth_le a) h⟩
theorem dpAll_of {α : Type} {K : PySem.W.Frag} {H : Hp} {f : α → V} {g : α → PyData} (h : ∀ a, Dp K H (f a) (g a)) : ∀ l : List α, DpAll K H (l.map f) (l.map g)
  | [] => .nil
  | a :: r => .cons (h a) (dpAll_of h r)
theorem dpAll_strs {K : PySem.W.Frag} {H : Hp} (l : List Str) : DpAll K H (l.map V.str) (l.map Datum.toD) := dpAll_of (fun a => .str a) l
theorem dpAll_tupsG {α : Type} {K : PySem.W.Frag} {H : Hp} {enc : α → List V} {g : α → PyData} (h : ∀ (a : α) (t : Addr), H t = some (.tup (enc a)) → Dp K H (.ref t) (g a)) : ∀ {xs : List V} {l : List α}, Tups enc H xs l → DpAll K H xs (l.map g)
  | [], [], _ => .nil
  | [], _ :: _, t => by have := t.1; simp at this
  | _ :: _, [], t => by have := t.1; simp at this
  | x :: xs, a :: r, t => by
    obtain ⟨u, e1, e2⟩ := t.2 0 a rfl
    obtain rfl : x = .ref u := Option.some.inj e1
    exact .cons (h a u e2) (dpAll_tupsG h ⟨Nat.succ.inj t.1, fun i b e => t.2 (i + 1) b e⟩)
def t4 (r : S4) : T4 Str Str Str Str := ⟨r.1, r.2.1, r.2.2.1, r.2.2.2⟩
theorem t4_inj {a b : List S4} (h : a.map t4 = b.map t4) : a = b := by
  induction a generalizing b with
  | nil => cases b with
    | nil => rfl
    | cons y s => cases h
  | cons x r ih => cases b with
    | nil => cases h
    | cons y s =>
      obtain ⟨e, f⟩ := List.cons.inj h
      rw [ih f]
      obtain ⟨x1, x2, x3, x4⟩ := x
      obtain ⟨y1, y2, y3, y4⟩ := y
      cases e
      rfl
theorem dpAll_ins {K : PySem.W.Frag} {H : Hp} {xs : List V} {l : List (Str × Str)} (t : Tups enc2 H xs l) : DpAll K H xs (l.map Datum.toD) :=
  dpAll_tupsG (fun _ _ h => .tup (SqT.of h) (.cons (.str _) (.cons (.str _) .nil))) t
theorem dpAll_rus {K : PySem.W.Frag} {H : Hp} {xs : List V} {l : List S4} (t : Tups enc4 H xs l) : DpAll K H xs (l.map fun r => Datum.toD (t4 r)) :=
  dpAll_tupsG (fun _ _ h => .tup (SqT.of h) (.cons (.str _) (.cons (.str _) (.cons (.str _) (.cons (.str _) .nil))))) t
/-- the description of a tuple of texts, of pairs, of rules -/
def dStT (l : List Str) : PyData := Datum.toD (⟨l⟩ : Tup Str)
def dInT (l : List (Str × Str)) : PyData := Datum.toD (⟨l⟩ : Tup (Str × Str))
def dRuT (l : List S4) : PyData := Datum.toD (⟨l.map t4⟩ : Tup (T4 Str Str Str Str))
theorem dp_st {K : PySem.W.Frag} {H : Hp} {a : Addr} {l : List Str} (h : H a = some (.tup (l.map V.str))) : Dp K H (.ref a) (dStT l) := .tup (SqT.of h) (dpAll_strs l)
theorem dp_in {K : PySem.W.Frag} {H : Hp} {a : Addr} {xs : List V} {l : List (Str × Str)} (h : H a = some (.tup xs)) (t : Tups enc2 H xs l) : Dp K H (.ref a) (dInT l) := .tup (SqT.of h) (dpAll_ins t)
theorem dp_ru {K : PySem.W.Frag} {H : Hp} {a : Addr} {xs : List V} {l : List S4} (h : H a = some (.tup xs)) (t : Tups enc4 H xs l) : Dp K H (.ref a) (dRuT l) := .tup (SqT.of h) (by
  have := dpAll_rus (K := K) t
  show DpAll K H xs ((l.map t4).map Datum.toD)
  rw [List.map_map]
  exact this)
theorem eqv_st (a b : List Str) : PyData.eqv (dStT a) (dStT b) = decide (a = b) := (Datum.eqv (α := Tup Str) ⟨a⟩ ⟨b⟩).trans (decide_eq_decide.mpr ⟨fun e => congrArg Tup.items e, fun e => by rw [e]⟩)
theorem eqv_in (a b : List (Str × Str)) : PyData.eqv (dInT a) (dInT b) = decide (a = b) := (Datum.eqv (α := Tup (Str × Str)) ⟨a⟩ ⟨b⟩).trans (decide_eq_decide.mpr ⟨fun e => congrArg Tup.items e, fun e => by rw [e]⟩)
theorem eqv_ru (a b : List S4) : PyData.eqv (dRuT a) (dRuT b) = decide (a = b) := (Datum.eqv (α := Tup (T4 Str Str Str Str)) ⟨a.map t4⟩ ⟨b.map t4⟩).trans (decide_eq_decide.mpr ⟨fun e => t4_inj (congrArg Tup.items e), fun e => by rw [e]⟩)
theorem sh_st (l : List Str) : ((dStT l) : PyData).plain = true ∧ PyData.depth (dStT l) ≤ 64 := datum_pl _ (by decide)
theorem sh_in (l : List (Str × Str)) : ((dInT l) : PyData).plain = true ∧ PyData.depth (dInT l) ≤ 64 := datum_pl _ (by decide)
theorem sh_ru (l : List S4) : ((dRuT l) : PyData).plain = true ∧ PyData.depth (dRuT l) ≤ 64 := datum_pl _ (by decide)
end Vf
namespace Vf
open PySem L2
/-! ### what breaks point 4 -/
theorem nodup_seen {α : Type} {l : List α} (h : ∀ i x, l[i]? = some x → x ∉ l.take i) : l.Nodup := by
  rw [List.nodup_iff_pairwise_ne, List.pairwise_iff_getElem]
  intro i j hi hj ij e
  refine h j l[j] (List.getElem?_eq_getElem hj) ?_
  rw [← e]
  exact List.mem_iff_getElem?.mpr ⟨i, by rw [List.getElem?_take_of_lt ij]; exact List.getElem?_eq_getElem hi⟩
theorem last_in {α : Type} {l : List α} {n : Nat} (h : n < l.length) : ∃ x, l[n]? = some x := ⟨l[n], List.getElem?_eq_getElem h⟩
theorem Valid.stp {D : DD} (v : Valid D) {i : Nat} {s : Str} (h : D.st[i]? = some s) : (i < 400 ∧ isName s = true) ∧ s ∉ D.st.take i := by
  have hi := (List.getElem?_eq_some_iff.mp h).1
  obtain ⟨o, ho⟩ := last_in (l := D.ou) (n := i) (by rw [v.len]; exact hi)
  have g := v.st i s o h ho
  unfold DD.okState at g
  simp only [take_len h, Bool.and_eq_true, decide_eq_true_eq] at g
  exact ⟨⟨g.1.1.1, g.1.1.2⟩, g.1.2⟩
theorem Valid.n400 {D : DD} (v : Valid D) : D.st.length ≤ 400 := by
  by_cases h : D.st.length ≤ 400
  · exact h
  · obtain ⟨x, hx⟩ := last_in (l := D.st) (n := 400) (by omega)
    have := (v.stp hx).1.1
    omega
theorem Valid.nm {D : DD} (v : Valid D) {s : Str} (h : s ∈ D.st) : isName s = true := by
  obtain ⟨i, hi⟩ := List.mem_iff_getElem?.mp h
  exact (v.stp hi).1.2
theorem Valid.snd {D : DD} (v : Valid D) : D.st.Nodup := nodup_seen fun _ _ h => (v.stp h).2
theorem Valid.oup {D : DD} (v : Valid D) {o : Int} (h : o ∈ D.ou) : 0 ≤ o ∧ o ≤ 9 := by
  obtain ⟨i, hi⟩ := List.mem_iff_getElem?.mp h
  obtain ⟨s, hs⟩ := last_in (l := D.st) (n := i) (by rw [← v.len]; exact (List.getElem?_eq_some_iff.mp hi).1)
  have g := v.st i s o hs hi
  unfold DD.okState at g
  simp only [Bool.and_eq_true, decide_eq_true_eq] at g
  exact g.2
theorem Valid.inp {D : DD} (v : Valid D) {i : Nat} {x : Str × Str} (h : D.ins[i]? = some x) : ((i < 8 ∧ isName x.1 = true) ∧ x.1 ∉ (D.ins.take i).map (·.1)) ∧ x.2 ∈ D.st := by
  have g := v.ins i x h
  unfold DD.okInput at g
  simp only [take_len h, Bool.and_eq_true, decide_eq_true_eq] at g
  exact g
theorem Valid.n8 {D : DD} (v : Valid D) : D.ins.length ≤ 8 := by
  by_cases h : D.ins.length ≤ 8
  · exact h
  · obtain ⟨x, hx⟩ := last_in (l := D.ins) (n := 8) (by omega)
    have := (v.inp hx).1.1.1
    omega
theorem Valid.inm {D : DD} (v : Valid D) {x : Str × Str} (h : x ∈ D.ins) : isName x.1 = true ∧ x.2 ∈ D.st := by
  obtain ⟨i, hi⟩ := List.mem_iff_getElem?.mp h
  exact ⟨(v.inp hi).1.1.2, (v.inp hi).2⟩
theorem Valid.ind {D : DD} (v : Valid D) : (D.ins.map (·.1)).Nodup := nodup_seen fun i y h => by
  rw [List.getElem?_map] at h
  cases e : D.ins[i]? with
  | none => rw [e] at h; cases h
  | some x =>
    rw [e] at h
    cases h
    have := (v.inp e).1.2
    rwa [List.map_take] at this
theorem Valid.ldp {D : DD} (v : Valid D) {i : Nat} {s : Str} (h : D.ld[i]? = some s) : i < 10 ∧ s ∈ D.st := by
  have g := v.ld i s h
  unfold DD.okLeader at g
  simp only [take_len h, Bool.and_eq_true, decide_eq_true_eq] at g
  exact g
theorem Valid.n10 {D : DD} (v : Valid D) : D.ld.length ≤ 10 := by
  by_cases h : D.ld.length ≤ 10
  · exact h
  · obtain ⟨x, hx⟩ := last_in (l := D.ld) (n := 10) (by omega)
    have := (v.ldp hx).1
    omega
theorem Valid.ldm {D : DD} (v : Valid D) {s : Str} (h : s ∈ D.ld) : s ∈ D.st := by
  obtain ⟨i, hi⟩ := List.mem_iff_getElem?.mp h
  exact (v.ldp hi).2
def badNames : List Str := ["", "A", "1a", "a_b", "abcdefghijklm", "a b", "aB", "a-"]
theorem bad_all : (badNames.all fun s => decide (s.length ≤ 20) && !isName s) = true := by decide +kernel
theorem bad_at {r : Int} (h0 : 0 ≤ r) (h1 : r < 8) : ∃ s : Str, atI (badNames.map V.str) r = some (.str s) ∧ s.length ≤ 20 ∧ isName s = false := by
  have hl : r.toNat < badNames.length := by show r.toNat < 8; omega
  refine ⟨badNames.getD r.toNat Str.empty, map_at (f := V.str) (l := badNames) h0 (by show r < 8; exact h1), ?_⟩
  have := List.all_eq_true.mp bad_all _ (getD_mem (d := Str.empty) hl)
  simp only [Bool.and_eq_true, decide_eq_true_eq, Bool.not_eq_true'] at this
  exact this
def sameDD (D E : DD) : Bool := decide (D.st = E.st) && (decide (D.ins = E.ins) && (decide (D.ld = E.ld) && (decide (D.ru = E.ru) && decide (D.ou = E.ou))))
def rCopy (K : PySem.W.Frag) : List V → Hp → VK → Prop := fun vs H Q => ∃ a its, vs = [.ref a] ∧ (SqL K H a its ∨ SqT K H a its) ∧ ∀ u, H u = none → Q (.ref u) (upd H u (.lst its))
theorem call_list_ofK {X : Cx} {K : PySem.W.Frag} (h : X.K = K) : CallR X (.type "list") (rCopy K) := by
  subst h
  exact call_list_of
/-- five lists, the parts of a protocol -/
structure Five (H : Hp) (a b c d e : Addr) (D : DD) : Prop where
  st : H a = some (.lst (D.st.map V.str))
  ins : ∃ xi, H b = some (.lst xi) ∧ Tups enc2 H xi D.ins
  ld : H c = some (.lst (D.ld.map V.str))
  ru : ∃ xr, H d = some (.lst xr) ∧ Tups enc4 H xr D.ru
  ou : H e = some (.lst (D.ou.map V.int))
theorem Five.same {H H' : Hp} {a b c d e : Addr} {D : DD} (F : Five H a b c d e D) (s : Same H H') : Five H' a b c d e D := by
  obtain ⟨xi, i1, i2⟩ := F.ins
  obtain ⟨xr, r1, r2⟩ := F.ru
  exact ⟨s _ _ F.st, ⟨xi, s _ _ i1, i2.same s⟩, s _ _ F.ld, ⟨xr, s _ _ r1, r2.same s⟩, s _ _ F.ou⟩
theorem Five.parts {H : Hp} {a b c d e z : Addr} {D : DD} (F : Five H a b c d e D) (hz : H z = some (.tup [.ref a, .ref b, .ref c, .ref d, .ref e])) : PartsAt H z D := by
  obtain ⟨xi, i1, i2⟩ := F.ins
  obtain ⟨xr, r1, r2⟩ := F.ru
  exact ⟨a, b, c, d, e, xi, xr, hz, F.st, i1, i2, F.ld, r1, r2, F.ou⟩
def Copied (H H' : Hp) (C a b c d e : Addr) (D : DD) : Prop := Same H H' ∧ H' C = some (.lst [.ref a, .ref b, .ref c, .ref d, .ref e]) ∧ [C, a, b, c, d, e].Nodup ∧ (∀ x ∈ [C, a, b, c, d, e], H x = none) ∧ Five H' a b c d e D
theorem copy_parts {K : PySem.W.Frag} {q0 C : Addr} {D : DD} {H : Hp} {k : Nat} {σ : L2.St} {Qd : Hp → Prop} (PA : PartsAt H q0 D) (hk : k < σ.length) (hC : H C = none) (hd : ∀ H4 a b c d e, Copied H H4 C a b c d e D → Qd H4) :
    ∃ W : Nat → Nat → Hp → Prop, (∃ m, W 0 m (upd H C (.lst []))) ∧ ∀ i m H1, W i m H1 →
      ((Itt K q0).stop i H1 ∧ Qd H1) ∨ ((Itt K q0).go i H1 ∧ ∃ Nx : Hp → Prop, (∀ H', Nx H' → ∃ m', m' < m ∧ W (i + 1) m' H') ∧ ∀ x H', (Itt K q0).yld i H1 x H' → gName k x (wipe σ [k]) H' fun σ2 H2 => wipe σ2 [k] = wipe σ [k] ∧ tYes σ2 H2 fun b H3 =>
        if b = true then tCB (rCopy K) (tCons (tVar k) tNil) σ2 H3 fun y H4 => ∃ acc, H4 C = some (.lst acc) ∧ acc.length < sizeLine ∧ Nx (upd H4 C (.lst (acc ++ [y]))) else Nx H3) := by
  obtain ⟨ls, li, ll, lr, lo, xi, xr, h0, h1, h2, t2, h3, h4, t4, h5⟩ := PA
  have each : ∀ l ∈ [ls, li, ll, lr, lo], ∃ its, H l = some (.lst its) := by
    intro l hl
    simp only [List.mem_cons, List.not_mem_nil, or_false] at hl
    rcases hl with rfl | rfl | rfl | rfl | rfl
    · exact ⟨_, h1⟩
    · exact ⟨_, h2⟩
    · exact ⟨_, h3⟩
    · exact ⟨_, h4⟩
    · exact ⟨_, h5⟩
  refine lc_it (walk_tup (K := K) (a := q0) (xs := [.ref ls, .ref li, .ref ll, .ref lr, .ref lo])) (fun i H' => ∃ ts : List Addr, ts.length = i ∧ H' C = some (.lst (ts.map V.ref)) ∧ Same H H' ∧ (C :: ts).Nodup ∧ (∀ x ∈ ts, H x = none) ∧ ∀ (j : Nat) (t : Addr), ts[j]? = some t → ∃ (l : Addr) (its : List V), [ls, li, ll, lr, lo][j]? = some l ∧ H l = some (.lst its) ∧ H' t = some (.lst its)) ?_ ?_ ?_ ?_
  · exact ⟨[], rfl, upd_same, Same.new (Same.refl H) hC, by simp, by simp, fun j t h => by simp at h⟩
  · rintro i H' _ ⟨ts, _, _, s, _⟩
    exact SqT.of (s _ _ h0)
  · rintro i x H1 H2 hi ⟨ts, tl, c1, s1, nd, fr, al⟩ ⟨rfl, hx⟩
    have hi5 : i < [ls, li, ll, lr, lo].length := hi
    obtain ⟨l, hl⟩ : ∃ l, [ls, li, ll, lr, lo][i]? = some l := ⟨_, List.getElem?_eq_getElem hi5⟩
    have hx' : x = .ref l := by
      have e : ([.ref ls, .ref li, .ref ll, .ref lr, .ref lo] : List V) = [ls, li, ll, lr, lo].map V.ref := rfl
      rw [e, List.getElem?_map, hl] at hx
      exact (Option.some.inj hx).symm
    subst hx'
    obtain ⟨its, hits⟩ := each l (List.mem_of_getElem? hl)
    refine ⟨by simp only [wipe, List.set_set], ?_⟩
    refine ⟨_, ?_, l, its, rfl, .inl (SqL.of (s1 _ _ hits)), fun u hu => ?_⟩
    · show ((wipe σ [k]).set k (some (V.ref l)))[k]? = some (some (V.ref l))
      rw [List.getElem?_set_self]
      rw [wipe_length]
      exact hk
    have nu : H u = none := s1.free hu
    have uC : u ≠ C := fun e => by rw [e, c1] at hu; cases hu
    refine ⟨ts.map V.ref, by rw [upd_ne (Ne.symm uC)]; exact c1, ?_, ts ++ [u], by rw [List.length_append, tl]; rfl, by rw [upd_same, List.map_append]; rfl, Same.chg (Same.new s1 hu) hC, ?_, ?_, ?_⟩
    · rw [List.length_map, tl]
      exact Nat.lt_of_lt_of_le (show i < 5 from hi5) (by decide)
    · have ut : u ∉ ts := fun m => by
        obtain ⟨j, hj⟩ := List.mem_iff_getElem?.mp m
        obtain ⟨_, _, _, _, e⟩ := al j u hj
        rw [e] at hu
        cases hu
      rw [List.nodup_cons] at nd ⊢
      refine ⟨fun m => ?_, ?_⟩
      · rcases List.mem_append.mp m with m | m
        · exact nd.1 m
        · exact uC (List.mem_singleton.mp m).symm
      · rw [List.nodup_append]
        refine ⟨nd.2, by simp, fun y hy z hz e => ?_⟩
        rw [List.mem_singleton] at hz
        exact ut (hz ▸ e ▸ hy)
    · intro y hy
      rcases List.mem_append.mp hy with hy | hy
      · exact fr y hy
      · rw [List.mem_singleton.mp hy]
        exact nu
    · intro j t hj
      have Cn : ∀ y ∈ ts, y ≠ C := fun y hy e => (List.nodup_cons.mp nd).1 (e ▸ hy)
      by_cases hjl : j < ts.length
      · rw [List.getElem?_append_left hjl] at hj
        obtain ⟨l', its', e1, e2, e3⟩ := al j t hj
        have tm := List.mem_of_getElem? hj
        refine ⟨l', its', e1, e2, ?_⟩
        rw [upd_ne (Cn t tm), upd_ne (fun e => by rw [e, hu] at e3; cases e3)]
        exact e3
      · rw [List.getElem?_append_right (by omega)] at hj
        have j0 : j - ts.length = 0 := by
          have := (List.getElem?_eq_some_iff.mp hj).1
          simp at this
          omega
        rw [j0] at hj
        have e1 : u = t := Option.some.inj hj
        subst e1
        have e2 : j = i := by omega
        subst e2
        refine ⟨l, its, hl, hits, ?_⟩
        rw [upd_ne uC, upd_same]
  · rintro H4 ⟨ts, tl, c1, s1, nd, fr, al⟩
    have tl5 : ts.length = 5 := tl
    match ts, tl5, c1, nd, fr, al with
    | [a, b, c, d, e], _, c1, nd, fr, al =>
      have get : ∀ (j : Nat) (l t : Addr) (its : List V), [ls, li, ll, lr, lo][j]? = some l → [a, b, c, d, e][j]? = some t → H l = some (.lst its) → H4 t = some (.lst its) := fun j l t its e1 e2 e3 => by
        obtain ⟨l', its', f1, f2, f3⟩ := al j t e2
        rw [e1] at f1
        cases f1
        rw [e3] at f2
        cases f2
        exact f3
      refine hd H4 a b c d e ⟨s1, c1, nd, ?_, get 0 _ _ _ rfl rfl h1, ⟨xi, get 1 _ _ _ rfl rfl h2, t2.same s1⟩, get 2 _ _ _ rfl rfl h3, ⟨xr, get 3 _ _ _ rfl rfl h4, t4.same s1⟩, get 4 _ _ _ rfl rfl h5⟩
      intro x hx
      rcases List.mem_cons.mp hx with rfl | hx
      · exact hC
      · exact fr x hx
structure StA (H0 : Hp) (p d : Addr) (ds : List Int) (H : Hp) (m : Int) : Prop where
  keep : Keep [p] H0 H
  pool : PoolX H p d ds m
theorem StA.chg {H0 H : Hp} {p d a : Addr} {ds : List Int} {n m : Int} {o : HO} (s : StA H0 p d ds H m) (P : PoolX H0 p d ds n) (h : H0 a = none) : StA H0 p d ds (upd H a o) m := by
  refine ⟨fun b o' hb e => ?_, ?_, ?_, s.pool.2.2⟩
  · rw [upd_ne (neq_none e h)]
    exact s.keep b o' hb e
  · rw [upd_ne (neq_none P.1 h)]
    exact s.pool.1
  · rw [upd_ne (neq_none P.2.1 h)]
    exact s.pool.2.1
theorem StA.new {H0 H : Hp} {p d a : Addr} {ds : List Int} {m : Int} {o : HO} (s : StA H0 p d ds H m) (h : H a = none) : StA H0 p d ds (upd H a o) m := by
  refine ⟨fun b o' hb e => ?_, ?_, ?_, s.pool.2.2⟩
  · have e' := s.keep b o' hb e
    rw [upd_ne (neq_none e' h)]
    exact e'
  · rw [upd_ne (neq_none s.pool.1 h)]
    exact s.pool.1
  · rw [upd_ne (neq_none s.pool.2.1 h)]
    exact s.pool.2.1
theorem StA.go {H0 H H' : Hp} {p d : Addr} {ds : List Int} {m m' : Int} (s : StA H0 p d ds H m) (k : Keep [p] H H') (P : PoolX H' p d ds m') : StA H0 p d ds H' m' := ⟨s.keep.trans k, P⟩
theorem StA.same {H0 H H' : Hp} {p d : Addr} {ds : List Int} {m : Int} (s : StA H0 p d ds H m) (k : Same H H') : StA H0 p d ds H' m := ⟨s.keep.trans (Keep.of k), s.pool.same k⟩
structure Dis (a b c d e : Addr) : Prop where
  ab : a ≠ b
  ac : a ≠ c
  ad : a ≠ d
  ae : a ≠ e
  bc : b ≠ c
  bd : b ≠ d
  be : b ≠ e
  cd : c ≠ d
  ce : c ≠ e
  de : d ≠ e
theorem Dis.of {C a b c d e : Addr} (h : [C, a, b, c, d, e].Nodup) : Dis a b c d e := by
  simp only [List.nodup_cons, List.mem_cons, List.not_mem_nil, or_false, not_or, not_false_eq_true, and_true] at h
  obtain ⟨_, ⟨h1, h2, h3, h4⟩, ⟨h5, h6, h7⟩, ⟨h8, h9⟩, h10, _⟩ := h
  exact ⟨h1, h2, h3, h4, h5, h6, h7, h8, h9, h10⟩
theorem upd_tup {H : Hp} {a t : Addr} {xs ys : List V} {o : HO} (h : H a = some (.lst xs)) (ht : H t = some (.tup ys)) : (upd H a o) t = some (.tup ys) := by
  rw [upd_ne (fun e => by rw [e, h] at ht; cases ht)]
  exact ht
theorem Five.setSt {H : Hp} {a b c d e : Addr} {D : DD} (F : Five H a b c d e D) (n : Dis a b c d e) (st : List Str) : Five (upd H a (.lst (st.map V.str))) a b c d e { D with st := st } := by
  obtain ⟨xi, i1, i2⟩ := F.ins
  obtain ⟨xr, r1, r2⟩ := F.ru
  exact ⟨upd_same, ⟨xi, by rw [upd_ne (Ne.symm n.ab)]; exact i1, i2.mono fun t ys h => upd_tup F.st h⟩, by rw [upd_ne (Ne.symm n.ac)]; exact F.ld, ⟨xr, by rw [upd_ne (Ne.symm n.ad)]; exact r1, r2.mono fun t ys h => upd_tup F.st h⟩, by rw [upd_ne (Ne.symm n.ae)]; exact F.ou⟩
theorem Five.setOu {H : Hp} {a b c d e : Addr} {D : DD} (F : Five H a b c d e D) (n : Dis a b c d e) (ou : List Int) : Five (upd H e (.lst (ou.map V.int))) a b c d e { D with ou := ou } := by
  obtain ⟨xi, i1, i2⟩ := F.ins
  obtain ⟨xr, r1, r2⟩ := F.ru
  exact ⟨by rw [upd_ne n.ae]; exact F.st, ⟨xi, by rw [upd_ne n.be]; exact i1, i2.mono fun t ys h => upd_tup F.ou h⟩, by rw [upd_ne n.ce]; exact F.ld, ⟨xr, by rw [upd_ne n.de]; exact r1, r2.mono fun t ys h => upd_tup F.ou h⟩, upd_same⟩
theorem Five.setLd {H : Hp} {a b c d e : Addr} {D : DD} (F : Five H a b c d e D) (n : Dis a b c d e) (ld : List Str) : Five (upd H c (.lst (ld.map V.str))) a b c d e { D with ld := ld } := by
  obtain ⟨xi, i1, i2⟩ := F.ins
  obtain ⟨xr, r1, r2⟩ := F.ru
  exact ⟨by rw [upd_ne n.ac]; exact F.st, ⟨xi, by rw [upd_ne n.bc]; exact i1, i2.mono fun t ys h => upd_tup F.ld h⟩, upd_same, ⟨xr, by rw [upd_ne (Ne.symm n.cd)]; exact r1, r2.mono fun t ys h => upd_tup F.ld h⟩, by rw [upd_ne (Ne.symm n.ce)]; exact F.ou⟩
theorem Five.setIns {H : Hp} {a b c d e : Addr} {D : DD} (F : Five H a b c d e D) (n : Dis a b c d e) {xs : List V} {ins : List (Str × Str)} (t : Tups enc2 H xs ins) : Five (upd H b (.lst xs)) a b c d e { D with ins := ins } := by
  obtain ⟨xi, i1, i2⟩ := F.ins
  obtain ⟨xr, r1, r2⟩ := F.ru
  exact ⟨by rw [upd_ne n.ab]; exact F.st, ⟨xs, upd_same, t.mono fun t ys h => upd_tup i1 h⟩, by rw [upd_ne (Ne.symm n.bc)]; exact F.ld, ⟨xr, by rw [upd_ne (Ne.symm n.bd)]; exact r1, r2.mono fun t ys h => upd_tup i1 h⟩, by rw [upd_ne (Ne.symm n.be)]; exact F.ou⟩
theorem Five.er {H : Hp} {p a b c d e : Addr} {D : DD} (F : Five H a b c d e D) {n : Int} (P : PoolAt H p n) (h : p ≠ a ∧ p ≠ b ∧ p ≠ c ∧ p ≠ d ∧ p ≠ e) : Five (Er p H) a b c d e D := by
  obtain ⟨xi, i1, i2⟩ := F.ins
  obtain ⟨xr, r1, r2⟩ := F.ru
  have g : ∀ {x : Addr} {o : HO}, p ≠ x → H x = some o → Er p H x = some o := fun hx e => (if_neg (Ne.symm hx)).trans e
  exact ⟨g h.1 F.st, ⟨xi, g h.2.1 i1, P.tups i2⟩, g h.2.2.1 F.ld, ⟨xr, g h.2.2.2.1 r1, P.tups r2⟩, g h.2.2.2.2 F.ou⟩
/-! the thirteen ways -/
theorem dup_no {l r : List Str} {s : Str} {ins : List (Str × Str)} {ld : List Str} {ru : List S4} {ou : List Int} (h : s ∈ l ++ r) : ¬ Valid ⟨l ++ [s] ++ r, ins, ld, ru, ou⟩ := fun v => by
  have n := v.snd
  have n2 : (s :: (l ++ r)).Nodup := by
    refine (List.perm_middle (a := s) (l₁ := l) (l₂ := r)).nodup_iff.mp ?_
    have e : l ++ [s] ++ r = l ++ s :: r := by simp
    rw [← e]
    exact n
  exact (List.nodup_cons.mp n2).1 h
theorem zz_all : ((List.range 6).all fun i => (List.range 3).all fun j => decide (nmB.getD i Str.empty ++ nmS.getD j Str.empty ≠ ("zz9" : Str))) = true := by decide +kernel
theorem Small.zz {D : DD} (s : Small D) : ("zz9" : Str) ∉ D.st := fun m => by
  obtain ⟨i, hi⟩ := List.mem_iff_getElem?.mp m
  have il := (List.getElem?_eq_some_iff.mp hi).1
  have s6 := s.st6
  obtain ⟨j, hj, e⟩ := s.gn i _ hi
  have h := List.all_eq_true.mp (List.all_eq_true.mp zz_all i (List.mem_range.mpr (by omega))) j (List.mem_range.mpr hj)
  exact (of_decide_eq_true h) e.symm
theorem Short.st' {D : DD} (z : Short D) {st : List Str} (h : ∀ s ∈ st, s.length ≤ 1000000) : Short { D with st := st } := ⟨h, z.ou, z.ins, z.ld, z.ru, z.nru⟩
theorem Short.ou' {D : DD} (z : Short D) {ou : List Int} (h : ∀ o ∈ ou, o.natAbs.log2 < 1920) : Short { D with ou := ou } := ⟨z.st, h, z.ins, z.ld, z.ru, z.nru⟩
theorem Short.ins' {D : DD} (z : Short D) {ins : List (Str × Str)} (h : ∀ p ∈ ins, p.1.length ≤ 1000000 ∧ p.2.length ≤ 1000000) : Short { D with ins := ins } := ⟨z.st, z.ou, h, z.ld, z.ru, z.nru⟩
theorem Short.ld' {D : DD} (z : Short D) {ld : List Str} (h : ∀ s ∈ ld, s.length ≤ 1000000) : Short { D with ld := ld } := ⟨z.st, z.ou, z.ins, h, z.ru, z.nru⟩
theorem Short.ru' {D : DD} (z : Short D) {ru : List S4} (h : ∀ r ∈ ru, ∀ x ∈ r4 r, x.length ≤ 1000000) (n : ru.length ≤ 1000000) : Short { D with ru := ru } := ⟨z.st, z.ou, z.ins, z.ld, h, n⟩
theorem ins_map {α : Type} (f : α → V) (l : List α) (k : Nat) (x : α) : List.take k (l.map f) ++ [f x] ++ List.drop k (l.map f) = (l.take k ++ [x] ++ l.drop k).map f := by
  rw [List.map_append, List.map_append, List.map_take, List.map_drop]
  rfl
theorem app_map {α : Type} (f : α → V) (l : List α) (x : α) : l.map f ++ [f x] = (l ++ [x]).map f := by
  rw [List.map_append]
  rfl
theorem mem_ins {α : Type} {l : List α} {k : Nat} {x y : α} (h : y ∈ l.take k ++ [x] ++ l.drop k) : y ∈ l ∨ y = x := by
  rcases List.mem_append.mp h with h | h
  · rcases List.mem_append.mp h with h | h
    · exact .inl (List.mem_of_mem_take h)
    · exact .inr (List.mem_singleton.mp h)
  · exact .inl (List.mem_of_mem_drop h)
theorem in_ins {α : Type} {l : List α} {k : Nat} {x : α} : x ∈ l.take k ++ [x] ++ l.drop k := by simp
theorem l2 {o : Int} (h : o.natAbs < 2 ^ 100) : o.natAbs.log2 < 1920 := by
  by_cases hz : o.natAbs = 0
  · rw [hz]; decide
  · exact Nat.lt_of_lt_of_le ((Nat.log2_lt hz).mpr h) (by decide)
theorem at_last {st : List Str} (h : 1 ≤ st.length) : ∃ s, s ∈ st ∧ atI (st.map V.str) (-1) = some (V.str s) := by
  have ne : st ≠ [] := fun e => by rw [e] at h; simp at h
  refine ⟨st.getLast ne, List.getLast_mem ne, ?_⟩
  have e : st.map V.str = st.dropLast.map V.str ++ [V.str (st.getLast ne)] := by rw [app_map, List.dropLast_concat_getLast]
  rw [e]
  exact atI_last _ _
theorem four_len {a b c d : Str} (ha : a.length ≤ 1000000) (hb : b.length ≤ 1000000) (hc : c.length ≤ 1000000) (hd : d.length ≤ 1000000) : ∀ x ∈ r4 (a, b, c, d), x.length ≤ 1000000 := by
  intro x hx
  simp only [r4, List.mem_cons, List.not_mem_nil, or_false] at hx
  rcases hx with rfl | rfl | rfl | rfl <;> assumption
theorem set_zz {s : Str} (h : s.length ≤ 1000000) {r : Int} (h0 : 0 ≤ r) (h1 : r < 4) : ∃ R : S4, ([.str s, .str s, .str s, .str s] : List V).set r.toNat (.str "zz9") = enc4 R ∧ ("zz9" : Str) ∈ r4 R ∧ ∀ x ∈ r4 R, x.length ≤ 1000000 := by
  have z : (Str.ofString "zz9").length ≤ 1000000 := by decide
  obtain rfl | rfl | rfl | rfl : r = 0 ∨ r = 1 ∨ r = 2 ∨ r = 3 := by omega
  · exact ⟨("zz9", s, s, s), rfl, by simp [r4], four_len z h h h⟩
  · exact ⟨(s, "zz9", s, s), rfl, by simp [r4], four_len h z h h⟩
  · exact ⟨(s, s, "zz9", s), rfl, by simp [r4], four_len h h z h⟩
  · exact ⟨(s, s, s, "zz9"), rfl, by simp [r4], four_len h h h z⟩
theorem u_len : (Str.ofString "u").length ≤ 1000000 := by decide
theorem Five.oth {H : Hp} {a b c d e u : Addr} {D : DD} {ys : List V} {o : HO} (F : Five H a b c d e D) (hu : H u = some (.lst ys)) (ha : a ≠ u) (hb : b ≠ u) (hc : c ≠ u) (hd : d ≠ u) (he : e ≠ u) : Five (upd H u o) a b c d e D := by
  obtain ⟨xi, i1, i2⟩ := F.ins
  obtain ⟨xr, r1, r2⟩ := F.ru
  exact ⟨by rw [upd_ne ha]; exact F.st, ⟨xi, by rw [upd_ne hb]; exact i1, i2.mono fun t ys h => upd_tup hu h⟩, by rw [upd_ne hc]; exact F.ld, ⟨xr, by rw [upd_ne hd]; exact r1, r2.mono fun t ys h => upd_tup hu h⟩, by rw [upd_ne he]; exact F.ou⟩
theorem PartsAt.five {H : Hp} {p : Addr} {D : DD} (P : PartsAt H p D) : ∃ a b c d e : Addr, H p = some (.tup [.ref a, .ref b, .ref c, .ref d, .ref e]) ∧ Five H a b c d e D := by
  obtain ⟨ls, li, ll, lr, lo, xi, xr, hp, h1, h2, t2, h3, h4, t4, h5⟩ := P
  exact ⟨ls, li, ll, lr, lo, hp, h1, ⟨xi, h2, t2⟩, h3, ⟨xr, h4, t4⟩, h5⟩
theorem BookAt.chgL {C q x : Addr} {H : Hp} {a : RA} {D : DD} {xs : List V} {o : HO} (B : BookAt C H q a D) (h : H x = some (.lst xs)) : BookAt C (upd H x o) q a D := by
  have g : ∀ {y : Addr} {o' : HO}, H y = some o' → (∀ ys, o' ≠ .lst ys) → (upd H x o) y = some o' := fun e n => by
    rw [upd_ne (fun z => by rw [z, h] at e; exact n _ (Option.some.inj e).symm)]
    exact e
  obtain ⟨dx, h0⟩ := B.ob
  obtain ⟨x2, h2, T2⟩ := B.ins
  obtain ⟨x4, h4, T4⟩ := B.ru
  obtain ⟨kvs, hk, R⟩ := B.dr
  obtain ⟨xs', rows, r1, r2, r3, r4⟩ := B.rw
  have gt : ∀ t ys, H t = some (.tup ys) → (upd H x o) t = some (.tup ys) := fun t ys e => g e (fun _ z => by cases z)
  exact ⟨⟨dx, g h0 (fun _ z => by cases z)⟩, gt _ _ B.st, ⟨x2, gt _ _ h2, T2.mono gt⟩, gt _ _ B.ld, ⟨x4, gt _ _ h4, T4.mono gt⟩, gt _ _ B.ou, g B.dn (fun _ z => by cases z), ⟨kvs, g hk (fun _ z => by cases z), R.same gt⟩, ⟨xs', rows, gt _ _ r1, r2, fun i y hy => by obtain ⟨t, e, f⟩ := r3 i y hy; exact ⟨t, e, gt _ _ f⟩, r4⟩⟩
theorem sameDD_self (D : DD) : sameDD D D = true := by
  unfold sameDD
  simp only [decide_true, Bool.and_self]
theorem sameDD_eq {D E : DD} : sameDD D E = true ↔ D = E := by
  unfold sameDD
  simp only [Bool.and_eq_true, decide_eq_true_eq]
  constructor
  · rintro ⟨h1, h2, h3, h4, h5⟩
    cases D
    cases E
    simp only at h1 h2 h3 h4 h5
    subst h1 h2 h3 h4 h5
    rfl
  · rintro rfl
    exact ⟨rfl, rfl, rfl, rfl, rfl⟩
theorem sameDD_comm (D E : DD) : sameDD D E = sameDD E D := Bool.eq_iff_iff.mpr (sameDD_eq.trans (eq_comm.trans sameDD_eq.symm))
open PySem.W in
def dParts (D : DD) : PyData := .list [Datum.toD D.st, Datum.toD D.ins, Datum.toD D.ld, Datum.toD (D.ru.map t4), Datum.toD D.ou]
open PySem.W in
theorem eqv_parts (D E : DD) : PyData.eqv (dParts D) (dParts E) = sameDD D E := by
  unfold dParts sameDD
  simp only [PyData.eqv, PyData.eqvAll, Datum.eqv, Bool.and_true]
  rw [show decide (D.ru.map t4 = E.ru.map t4) = decide (D.ru = E.ru) from decide_eq_decide.mpr ⟨t4_inj, fun e => by rw [e]⟩]
open PySem.W in
theorem pl_parts (D : DD) : (dParts D).plain = true ∧ (dParts D).depth ≤ 64 := by
  unfold dParts
  constructor
  · simp only [PyData.plain, PyData.plainAll, Datum.plain, Bool.and_self]
  · simp only [PyData.depth, PyData.depthAll]
    have h1 := Datum.depth_le D.st
    have h2 := Datum.depth_le D.ins
    have h3 := Datum.depth_le D.ld
    have h4 := Datum.depth_le (D.ru.map t4)
    have h5 := Datum.depth_le D.ou
    have e1 : Datum.depth (List Str) = 1 := rfl
    have e2 : Datum.depth (List (Str × Str)) = 2 := rfl
    have e4 : Datum.depth (List (T4 Str Str Str Str)) = 2 := rfl
    have e5 : Datum.depth (List Int) = 1 := rfl
    omega
theorem dp_five {K : PySem.W.Frag} {H : Hp} {C a b c d e : Addr} {D : DD} (h : H C = some (.lst [.ref a, .ref b, .ref c, .ref d, .ref e])) (F : Five H a b c d e D) : Dp K H (.ref C) (dParts D) := by
  obtain ⟨xi, i1, i2⟩ := F.ins
  obtain ⟨xr, r1, r2⟩ := F.ru
  refine .lst (SqL.of h) (.cons (.lst (SqL.of F.st) (dpAll_strs _)) (.cons (.lst (SqL.of i1) (dpAll_ins i2)) (.cons (.lst (SqL.of F.ld) (dpAll_strs _)) (.cons (.lst (SqL.of r1) ?_) (.cons (.lst (SqL.of F.ou) (dpAll_ints _)) .nil)))))
  have := dpAll_rus (K := K) r2
  rw [List.map_map]
  exact this
theorem ValidN.setOu {D : DD} (v : ValidN D) {j : Nat} {y : Int} (h : 0 ≤ y ∧ y ≤ 9) : ValidN { D with ou := D.ou.set j y } where
  len := by show (D.ou.set j y).length = D.st.length; rw [List.length_set]; exact v.len
  n400 := v.n400
  nm := v.nm
  nd := v.nd
  ou := fun o ho => (List.mem_or_eq_of_mem_set ho).elim (v.ou o) fun e => by rw [e]; exact h
  n8 := v.n8
  inm := v.inm
  ind := v.ind
  n10 := v.n10
  ldm := v.ldm
  rum := v.rum
  rnd := v.rnd
theorem sameDD_ou (D : DD) (ou : List Int) : sameDD D { D with ou := ou } = decide (ou = D.ou) := by
  unfold sameDD
  simp only [decide_true, Bool.true_and]
  exact decide_eq_decide.mpr eq_comm
theorem er_none {p a : Addr} {H : Hp} (h : H a = none) : Er p H a = none := by
  unfold Er
  split
  · rfl
  · exact h
theorem er_sub {p : Addr} {H : Hp} : Same (Er p H) H := fun _ _ h => (er_some h).2
def tails : List Str := ["", "", "_", "x", "Z", " "]
theorem tails_all : (tails.all fun s => decide (s.length ≤ 1)) = true := by decide +kernel
theorem tail_at {r : Int} (h0 : 0 ≤ r) (h1 : r < 6) : ∃ s : Str, atI (tails.map V.str) r = some (.str s) ∧ s.length ≤ 1 := by
  have hl : r.toNat < tails.length := by show r.toNat < 6; omega
  exact ⟨tails.getD r.toNat Str.empty, map_at (f := V.str) (l := tails) h0 (by show r < 6; exact h1), of_decide_eq_true (List.all_eq_true.mp tails_all _ (getD_mem (d := Str.empty) hl))⟩
def chS (c : Nat) : Str := ⟨#[c]⟩
theorem in_both (c : Nat) : decide (c ∈ (LETTERS ++ DIGITS).cps.toList) = (lowC c || digC c) := by
  rw [← in_letters, ← in_digits, ← Bool.decide_or]
  refine decide_eq_decide.mpr ?_
  have e : (LETTERS ++ DIGITS).cps.toList = LETTERS.cps.toList ++ DIGITS.cps.toList := by decide +kernel
  rw [e, List.mem_append]
/-- the signs that no name has -/
def oddS (W : Str) (i : Nat) : List Nat := (W.cps.toList.take i).filter fun c => !(lowC c || digC c)
theorem oddS_succ {W : Str} {i c : Nat} (h : W.cps.toList[i]? = some c) : oddS W (i + 1) = oddS W i ++ if (!(lowC c || digC c)) = true then [c] else [] := by
  unfold oddS
  rw [take_snoc h, List.filter_append]
  congr 1
  simp only [List.filter_cons, List.filter_nil]
theorem oddS_len (W : Str) (i : Nat) : (oddS W i).length ≤ i := Nat.le_trans (List.length_filter_le _ _) (by rw [List.length_take]; omega)
theorem oddS_nil {W : Str} {c : Nat} {r : List Nat} (hc : W.cps.toList = c :: r) (h1 : (1 : Int) ≤ (W.length : Int)) (h2 : (W.length : Int) ≤ 12) (hl : lowC c = true) (n : Nat) (hn : W.cps.toList.length ≤ n) : decide ((oddS W n).map chS = []) = isName W := by
  have hlen : W.length = W.cps.toList.length := by show W.cps.size = _; simp
  unfold oddS isName isNameL
  rw [List.take_of_length_le hn, hc]
  rw [hlen, hc] at h1 h2
  rw [decide_eq_true (show 1 ≤ (c :: r).length by simp), decide_eq_true (show (c :: r).length ≤ 12 by omega)]
  simp only [List.head?_cons, Option.any_some, hl, Bool.true_and]
  rw [Bool.eq_iff_iff, decide_eq_true_iff, List.map_eq_nil_iff, List.filter_eq_nil_iff, List.all_eq_true]
  constructor
  · intro h x hx
    have := h x hx
    cases e : (lowC x || digC x) with
    | true => rfl
    | false =>
      rw [e] at this
      exact absurd rfl this
  · intro h x hx
    rw [h x hx]
    decide
end Vf

namespace Vf
open PySem L2
theorem cut_hi (xs : List V) (c : Nat) : cutV xs none (some (c : Int)) = xs.take c := by
  unfold cutV
  rw [HT.sIx_nat, show HT.sIx xs.length 0 none = 0 from rfl, List.drop_zero, Nat.sub_zero]
  by_cases h : c ≤ xs.length
  · rw [Nat.min_eq_left h]
  · rw [Nat.min_eq_right (by omega), List.take_of_length_le (Nat.le_refl _), List.take_of_length_le (by omega)]
theorem cut_lo (xs : List V) (c : Nat) : cutV xs (some (c : Int)) none = xs.drop c := by
  unfold cutV
  rw [HT.sIx_nat, show HT.sIx xs.length xs.length none = xs.length from rfl]
  by_cases h : c ≤ xs.length
  · rw [Nat.min_eq_left h, List.take_of_length_le (by rw [List.length_drop]; omega)]
  · rw [Nat.min_eq_right (by omega), List.drop_of_length_le (Nat.le_refl _), List.drop_of_length_le (by omega), List.take_nil]
theorem Tups.takeT {α : Type} {enc : α → List V} {H : Hp} {xs : List V} {l : List α} (h : Tups enc H xs l) (c : Nat) : Tups enc H (xs.take c) (l.take c) := ⟨by rw [List.length_take, List.length_take, h.1], fun i a e => by
  rw [List.getElem?_take] at e
  by_cases ic : i < c
  · rw [if_pos ic] at e
    obtain ⟨t, h1, h2⟩ := h.2 i a e
    exact ⟨t, by rw [List.getElem?_take, if_pos ic]; exact h1, h2⟩
  · rw [if_neg ic] at e
    cases e⟩
theorem Tups.dropT {α : Type} {enc : α → List V} {H : Hp} {xs : List V} {l : List α} (h : Tups enc H xs l) (c : Nat) : Tups enc H (xs.drop c) (l.drop c) := ⟨by rw [List.length_drop, List.length_drop, h.1], fun i a e => by
  rw [List.getElem?_drop] at e
  obtain ⟨t, h1, h2⟩ := h.2 _ a e
  exact ⟨t, by rw [List.getElem?_drop]; exact h1, h2⟩⟩
theorem Tups.join {α : Type} {enc : α → List V} {H : Hp} {xs ys : List V} {l m : List α} (h : Tups enc H xs l) (k : Tups enc H ys m) : Tups enc H (xs ++ ys) (l ++ m) := by
  refine ⟨by rw [List.length_append, List.length_append, h.1, k.1], fun i a e => ?_⟩
  by_cases c : i < l.length
  · rw [List.getElem?_append_left c] at e
    obtain ⟨t, h1, h2⟩ := h.2 i a e
    exact ⟨t, by rw [List.getElem?_append_left (by rw [h.1]; exact c)]; exact h1, h2⟩
  · rw [List.getElem?_append_right (by omega)] at e
    obtain ⟨t, h1, h2⟩ := k.2 _ a e
    exact ⟨t, by rw [List.getElem?_append_right (by rw [h.1]; omega), h.1]; exact h1, h2⟩
end Vf
namespace Vf
open PySem L2
theorem ans_or2 {t u : TT} {σ : L2.St} {H : Hp} {b1 b2 : Bool} (h1 : Ans t σ H b1) (h2 : Ans u σ H b2) : Ans (tOr t u) σ H (b1 || b2) := fun R r => by
  refine h1 _ ?_
  cases b1 with
  | true => exact ite_b (fun _ => r) (fun c => absurd c (by decide))
  | false => exact ite_b (fun c => absurd c (by decide)) (fun _ => h2 R r)
end Vf

namespace Vf
open PySem L2
theorem pi_listK2 {X : Cx} {K : PySem.W.Frag} (hk : X.K = K) {tg l : Expr} {tl : TE} (hl : PE X l tl) : PI X tg l (iList K tl) := by
  subst hk
  exact pi_list hl
theorem op_notIn_seqK2 {X : Cx} {K : PySem.W.Frag} (hk : X.K = K) : OpR X (compareOp .NotIn) (rIn K true) := by
  subst hk
  exact op_notIn_seq
theorem op_in_seqK2 {X : Cx} {K : PySem.W.Frag} (hk : X.K = K) : OpR X (compareOp .In) (rIn K false) := by
  subst hk
  exact op_in_seq
/-- a comprehension within a comprehension -/
theorem look_relabel (env : Env) (x : Str) : ∀ l : List (Str × NameKind), (l.map (fun p => match p with | (n, k) => if (k == NameKind.free && env.scope.kind == ScopeKind.function && env.kindOf n == some NameKind.cell) = true then (n, NameKind.cell) else (n, k))).lookup x = (l.lookup x).map fun k => if (k == NameKind.free && env.scope.kind == ScopeKind.function && env.kindOf x == some NameKind.cell) = true then NameKind.cell else k
  | [] => rfl
  | (n, k) :: r => by
    have ih := look_relabel env x r
    rw [List.map_cons, List.lookup_cons (as := r)]
    dsimp only
    by_cases c : (k == NameKind.free && env.scope.kind == ScopeKind.function && env.kindOf n == some NameKind.cell) = true
    · rw [if_pos c, List.lookup_cons]
      by_cases e : x = n
      · subst e
        simp only [beq_self_eq_true, Option.map_some]
        rw [if_pos c]
      · have e' : (x == n) = false := by simpa using e
        rw [e']
        exact ih
    · rw [if_neg c, List.lookup_cons]
      by_cases e : x = n
      · subst e
        simp only [beq_self_eq_true, Option.map_some]
        rw [if_neg c]
      · have e' : (x == n) = false := by simpa using e
        rw [e']
        exact ih
theorem blkOk_in {N : List Str} {sc scope : Scope} {own : List (Str × Nat)} {env : Env} (h : blkC N sc scope own = true) : BlkOk N (relabel sc env) scope own := by
  have b := blkOk_by h
  refine ⟨b.kind, b.uniq, b.ix, fun y hy hf => ?_, b.own⟩
  have e : (relabel sc env).names.lookup y.1 = (sc.names.lookup y.1).map fun k => if (k == NameKind.free && env.scope.kind == ScopeKind.function && env.kindOf y.1 == some NameKind.cell) = true then NameKind.cell else k := look_relabel env y.1 sc.names
  rw [e]
  rcases b.free y hy hf with q | q
  · rw [q]
    exact .inl rfl
  · rw [q, Option.map_some]
    split
    · exact .inl rfl
    · exact .inr rfl
end Vf

namespace L2
open PySem PySem.Spec PyProof.Rows
section
variable {X : Cx}
/-- y = {k: v for ..} where the name is stored ahead of the block's end -/
theorem ps_setDc {i : Nat} {y : Str} {py : Pos} {kx vx tg iter : Expr} {ifs : List Expr} {scope : Scope} {own : List (Str × Nat)} {pos spos : Pos} {wi : TI} {g : TG} {tt : TT} {tk tv : TE} (hc : X.calm = true) (hN : X.N.Nodup) (hy : X.N[i]? = some y) (hyl : X.env.scope.names.lookup y = some .local)
    (hsw : swapsWith (.DictComp kx vx [⟨tg, iter, ifs, 0⟩] scope pos) (some (.Name y py)) spos.line X.env = pure true) (hi : PI X tg iter wi) (ok : BlkOk X.N X.env.scope scope own)
    (hg : ∀ (s : Shared) (H : Hp) (C : Addr) (cl : List (Str × Addr)) (fp : List Addr), PG (X.blk s H scope (compEnvC scope cl C X.env) fp) tg g) (ht : ∀ (s : Shared) (H : Hp) (C : Addr) (cl : List (Str × Addr)) (fp : List Addr), PTs (X.blk s H scope (compEnvC scope cl C X.env) fp) ifs tt)
    (hk : ∀ (s : Shared) (H : Hp) (C : Addr) (cl : List (Str × Addr)) (fp : List Addr), PE (X.blk s H scope (compEnvC scope cl C X.env) fp) kx tk)
    (he : ∀ (s : Shared) (H : Hp) (C : Addr) (cl : List (Str × Addr)) (fp : List Addr), PE (X.blk s H scope (compEnvC scope cl C X.env) fp) vx tv) (hs : ∀ x, foldedSetIterable iter X.env x = pure x := by intro _; rfl) :
    PS X (.Assign [.Name y py] (.DictComp kx vx [⟨tg, iter, ifs, 0⟩] scope pos) spos) (tAsg (tDc wi g tt tk tv (own.map (·.2))) (gName i)) := by
  refine ⟨fun pins s σ H D I h => ?_⟩
  rw [exec_Assign_Name_used _ _ _ _ hsw]
  refine wpAny_bind (wpAny_standAt (wpAny_bind ?_))
  show wpAny _ X.A (do let _ ← comprehension (.DictComp kx vx [⟨tg, iter, ifs, 0⟩] scope pos) scope X.env (firstIterPos [⟨tg, iter, ifs, 0⟩] pos) newDict false (eval iter X.env) (some (assign (.Name y py) X.env))) _ _ s
  have h : tDc wi g tt tk tv (own.map (·.2)) σ H (fun x H1 => gName i x σ H1 D.nx) := h
  refine wpAny_bind (thn (dc_core (Qf := fun _ s' => SP X pins D .next s') hc hN I hi ok hg ht hk he hs h fun L C s' m H' I' q hn f => ?_) fun _ s' hq => wpAny_pure (wpAny_pure hq))
  show wpAny _ _ (assign (.Name y py) X.env (.ref L)) _ _ _
  refine wpAny_assign_Name (store_ok2 (v := V.ref L) I' hN hy (.inl hyl) rfl (fun s2 I2 ⟨a, sb, ha⟩ => ?_) (.inr hyl))
  obtain ⟨f0, f1, f2, f3, f4, f5⟩ := f
  have haC : C ≠ a := by
    rcases ha with z | z
    · rw [z]; exact f1
    · exact fun e => f4 y a z e.symm
  refine ⟨m, hn.sameBut sb haC, fun h3 sb3 => ?_⟩
  exact ⟨_, H', I2.turned (t' := s2.toks) (fun b o hb e => (sb3.2 b hb).trans e) f0 f1 f3 f4 f5, q⟩
theorem sw_trueD {kx vx : Expr} {gs : List Comprehension} {scope : Scope} {pos py : Pos} {y : Str} {l : Nat} {env : Env} (hk : env.scope.kind = .function) (hy : env.scope.names.lookup y = some .local) (hl : (py.line == pos.line) = true)
    (ha : (scope.names.any fun (n, k) => n == y && (k == .local || k == .cell)) = false) : swapsWith (.DictComp kx vx gs scope pos) (some (.Name y py)) l env = pure true := by
  have ky : env.kindOf y = some .local := hy
  have hb : env.blockKind = .function := by unfold Env.blockKind; rw [hk]; rfl
  unfold swapsWith
  simp only [hb, ky, ha, Expr.pos, hl]
  rfl
end
end L2
namespace Vf
open PySem L2
/-! ### the doubling protocol -/
def pN (k : Nat) : Str := ("p" : Str) ++ Str.ofString (toString (k : Int))
def carr (e : Nat) : List Str := (List.range e).map pN
def oth (e : Nat) : List Str := carr e ++ [("z" : Str)]
/-- what two in a state become -/
def dv (e i : Nat) : Option (Str × Str) := if i + 1 < e then some (pN (i + 1), "z") else if i + 1 = e then some ("y", "y") else none
def ruOne (e i : Nat) (s : Str) : List S4 := match dv e i with
  | some (a, b) => [(s, s, a, b)]
  | none => []
def ruAt (e i : Nat) (s : Str) : List S4 := ruOne e i s ++ [((s, ("y" : Str), ("y" : Str), ("y" : Str)) : S4)]
def ruL (e : Nat) : List S4 := ((List.range (e + 1)).flatMap fun i => ruAt e i ((oth e).getD i Str.empty)) ++ (oth e).map fun s => ((("y" : Str), s, ("y" : Str), ("y" : Str)) : S4)
def dblD (nm : Str) (e : Nat) : DD := ⟨oth e ++ [("y" : Str)], [(nm, "p0")], [], ruL e, List.replicate (e + 1) 0 ++ [1]⟩
theorem pN_len {k : Nat} (h : k < 50) : (pN k).length ≤ 40 := by
  have : ((List.range 50).all fun k => decide ((pN k).length ≤ 40)) = true := by decide +kernel
  exact of_decide_eq_true (List.all_eq_true.mp this k (List.mem_range.mpr h))
/-- what a dict of pairs of texts says -/
def look (l : List (Str × (Str × Str))) (s : Str) : Option (Str × Str) := match l with
  | [] => none
  | p :: r => if s = p.1 then some p.2 else look r s
def DF (H : Hp) (D : Addr) (n : Nat) (l : List (Str × (Str × Str))) : Prop := ∃ kvs : List (Key × V), H D = some (.dK kvs) ∧ kvs.length ≤ n ∧ ∀ s, (look l s = none → valV kvs (Sum.inr s) = none) ∧
  ∀ a b, look l s = some (a, b) → ∃ t, valV kvs (Sum.inr s) = some (.ref t) ∧ H t = some (.tup [.str a, .str b])
theorem DF.nil {H : Hp} {D : Addr} (h : H D = some (.dK [])) : DF H D 0 [] := ⟨[], h, by simp, fun s => ⟨fun _ => rfl, fun a b z => by cases z⟩⟩
theorem DF.put {H : Hp} {D t : Addr} {n : Nat} {l : List (Str × (Str × Str))} {kvs : List (Key × V)} {s a b : Str} (h : DF H D n l) (hk : H D = some (.dK kvs)) (ht : H t = some (.tup [.str a, .str b])) :
    DF (upd H D (.dK (putK kvs (Sum.inr s) (.ref t)))) D (n + 1) ((s, (a, b)) :: l) := by
  obtain ⟨k2, h1, h2, h3⟩ := h
  have e : kvs = k2 := by
    rw [hk] at h1
    cases h1
    rfl
  subst e
  have up : ∀ u ys, H u = some (.tup ys) → (upd H D (.dK (putK kvs (Sum.inr s) (.ref t)))) u = some (.tup ys) := fun u ys hu => by
    rw [upd_ne (fun z => by rw [z, hk] at hu; cases hu)]
    exact hu
  refine ⟨_, upd_same, Nat.le_trans (length_putK _ _ _) (Nat.succ_le_succ h2), fun s' => ?_⟩
  rw [valV_put]
  by_cases q : s' = s
  · subst q
    rw [if_pos rfl]
    refine ⟨fun z => ?_, fun a' b' z => ?_⟩
    · unfold look at z
      rw [if_pos rfl] at z
      cases z
    · unfold look at z
      rw [if_pos rfl] at z
      cases z
      exact ⟨t, rfl, up _ _ ht⟩
  · rw [if_neg (fun z => q (Sum.inr.inj z))]
    have el : look ((s, (a, b)) :: l) s' = look l s' := by
      rw [look, if_neg q]
    rw [el]
    refine ⟨(h3 s').1, fun a' b' z => ?_⟩
    obtain ⟨t', y1, y2⟩ := (h3 s').2 a' b' z
    exact ⟨t', y1, up _ _ y2⟩
theorem DF.same {H H' : Hp} {D : Addr} {n : Nat} {l : List (Str × (Str × Str))} (h : DF H D n l) (s : Same H H') : DF H' D n l := by
  obtain ⟨k2, h1, h2, h3⟩ := h
  refine ⟨k2, s _ _ h1, h2, fun x => ⟨(h3 x).1, fun a b z => ?_⟩⟩
  obtain ⟨t, y1, y2⟩ := (h3 x).2 a b z
  exact ⟨t, y1, s _ _ y2⟩
/-- the puts, the last one first -/
def puts : Nat → List (Str × (Str × Str))
  | 0 => []
  | i + 1 => (pN i, (pN (i + 1), ("z" : Str))) :: puts i
def dbl (e : Nat) : List (Str × (Str × Str)) := (pN (e - 1), (("y" : Str), ("y" : Str))) :: puts (e - 1)
theorem dbl_look {e i : Nat} (h1 : 1 ≤ e) (h20 : e ≤ 20) (hi : i ≤ e) : look (dbl e) ((oth e).getD i Str.empty) = dv e i := by
  have : ((List.range 21).all fun e => (List.range 21).all fun i => decide (1 ≤ e → i ≤ e → look (dbl e) ((oth e).getD i Str.empty) = dv e i)) = true := by decide +kernel
  have h2 := List.all_eq_true.mp this e (List.mem_range.mpr (by omega))
  exact of_decide_eq_true (List.all_eq_true.mp h2 i (List.mem_range.mpr (by omega))) h1 hi
theorem emp_app (a : Str) : Str.empty ++ a = a := by
  show (⟨#[] ++ a.cps⟩ : Str) = a
  rw [Array.empty_append]
section
variable {J : It} {n : Nat} {G : Hp → Prop} {Y : Nat → Hp → V → Hp → Prop}
theorem dc_it (w : L2.Walk J n G Y) {g : TG} {tt : TT} {tk tv : TE} {vs : List Nat} {σ : L2.St} {H1 : Hp} {D : Addr} {Qd : Hp → Prop} (Pv : Nat → Hp → Prop) (h0 : Pv 0 (upd H1 D (.dK []))) (hG : ∀ i H, i ≤ n → Pv i H → G H)
    (hs : ∀ i x H H', i < n → Pv i H → Y i H x H' → g x (wipe σ vs) H' fun σ2 H2 => wipe σ2 vs = wipe σ vs ∧ tt σ2 H2 fun b H3 =>
      if b = true then tk σ2 H3 fun y H4 => tv σ2 H4 fun z H5 => ∃ kvs k, y = kV k ∧ H5 D = some (.dK kvs) ∧ kvs.length < sizeLine ∧ Pv (i + 1) (upd H5 D (.dK (putK kvs k z))) else Pv (i + 1) H3) (hd : ∀ H, Pv n H → Qd H) :
    ∃ W : Nat → Nat → Hp → Prop, (∃ m, W 0 m (upd H1 D (.dK []))) ∧ ∀ i m H, W i m H →
      (J.stop i H ∧ Qd H) ∨ (J.go i H ∧ ∃ Nx : Hp → Prop, (∀ H', Nx H' → ∃ m', m' < m ∧ W (i + 1) m' H') ∧ ∀ x H', J.yld i H x H' → g x (wipe σ vs) H' fun σ2 H2 => wipe σ2 vs = wipe σ vs ∧ tt σ2 H2 fun b H3 =>
        if b = true then tk σ2 H3 fun y H4 => tv σ2 H4 fun z H5 => ∃ kvs k, y = kV k ∧ H5 D = some (.dK kvs) ∧ kvs.length < sizeLine ∧ Nx (upd H5 D (.dK (putK kvs k z))) else Nx H3) := by
  refine ⟨fun i m H => m = n - i ∧ i ≤ n ∧ Pv i H, ⟨n, by simp, Nat.zero_le _, h0⟩, ?_⟩
  rintro i m H ⟨rfl, hi, p⟩
  have q := hG i H hi p
  by_cases hlt : i < n
  · exact .inr ⟨w.goes i H hlt q, Pv (i + 1), fun H' p' => ⟨n - (i + 1), by omega, rfl, hlt, p'⟩, fun x H' y => hs i x H H' hlt p (w.yields i H x H' hlt q y)⟩
  · have e : i = n := by omega
    subst e
    exact .inl ⟨w.stops H q, hd H p⟩
end
theorem small_log {i : Int} (h0 : 0 ≤ i) (h : i < 1000) : i.natAbs.log2 < 1920 := by
  exact Nat.lt_of_le_of_lt (Nat.log2_le_self _) (by omega)
theorem carr_at {k i : Nat} (h : i < k) : (carr k)[i]? = some (pN i) := by
  unfold carr
  rw [List.getElem?_map, List.getElem?_range h]
  rfl
theorem carr_len (k : Nat) : (carr k).length = k := by simp [carr]
theorem oth_len (k : Nat) : (oth k).length = k + 1 := by simp [oth, carr]
theorem carr_succ (k : Nat) : carr (k + 1) = carr k ++ [pN k] := by simp [carr, List.range_succ]
/-- the rules of the states so far -/
def ruF (k : Nat) : Nat → List S4
  | 0 => []
  | i + 1 => ruF k i ++ ruAt k i ((oth k).getD i Str.empty)
theorem ruF_eq (k : Nat) : ∀ i, ruF k i = (List.range i).flatMap fun i => ruAt k i ((oth k).getD i Str.empty)
  | 0 => rfl
  | i + 1 => by
    rw [List.range_succ, List.flatMap_append, ← ruF_eq k i]
    show _ = ruF k i ++ (ruAt k i ((oth k).getD i Str.empty) ++ [])
    rw [List.append_nil]
    rfl
theorem ruAt_len (k i : Nat) (s : Str) : (ruAt k i s).length ≤ 2 := by
  unfold ruAt ruOne
  cases dv k i with
  | none => simp
  | some x => simp
theorem ruF_step {k i : Nat} {st : Str} (h : (oth k).getD i Str.empty = st) : ruF k (i + 1) = (ruF k i ++ ruOne k i st) ++ [((st, ("y" : Str), ("y" : Str), ("y" : Str)) : S4)] := by
  show ruF k i ++ ruAt k i ((oth k).getD i Str.empty) = _
  rw [h, List.append_assoc]
  rfl
theorem ruF_len (k : Nat) : ∀ i, (ruF k i).length ≤ 2 * i
  | 0 => Nat.le_refl _
  | i + 1 => by
    have h1 := ruF_len k i
    have h2 := ruAt_len k i ((oth k).getD i Str.empty)
    show (ruF k i ++ ruAt k i ((oth k).getD i Str.empty)).length ≤ _
    rw [List.length_append]
    omega
theorem ruL_eq (k : Nat) : ruL k = ruF k (k + 1) ++ (oth k).map fun s => ((("y" : Str), s, ("y" : Str), ("y" : Str)) : S4) := by
  rw [ruF_eq]
  rfl
def okD (k : Nat) : Bool := let st := oth k ++ [("y" : Str)]
  (st.all isName) && decide st.Nodup && decide (("p0" : Str) ∈ st) && ((ruL k).all fun r => decide (r.1 ∈ st ∧ r.2.1 ∈ st ∧ r.2.2.1 ∈ st ∧ r.2.2.2 ∈ st)) && decide ((ruL k).map fun x => (x.1, x.2.1)).Nodup
theorem okD_all : ((List.range 21).all fun k => k == 0 || okD k) = true := by decide +kernel
theorem dbl_valid {nm : Str} {k : Nat} (h1 : 1 ≤ k) (h20 : k ≤ 20) (hn : isName nm = true) : ValidN (dblD nm k) := by
  have h := List.all_eq_true.mp okD_all k (List.mem_range.mpr (by omega))
  rw [Bool.or_eq_true] at h
  have h := h.resolve_left (by simp; omega)
  unfold okD at h
  simp only [Bool.and_eq_true, decide_eq_true_eq, List.all_eq_true] at h
  obtain ⟨⟨⟨⟨g1, g2⟩, g3⟩, g4⟩, g5⟩ := h
  exact {
    len := by simp [dblD, oth_len]
    n400 := by simp [dblD, oth_len]; omega
    nm := g1
    nd := g2
    ou := fun o ho => by
      have : o ∈ List.replicate (k + 1) (0 : Int) ++ [1] := ho
      rw [List.mem_append, List.mem_replicate, List.mem_singleton] at this
      omega
    n8 := by simp [dblD]
    inm := fun p hp => by
      have : p = (nm, ("p0" : Str)) := List.mem_singleton.mp hp
      subst this
      exact ⟨hn, g3⟩
    ind := by simp [dblD]
    n10 := by simp [dblD]
    ldm := fun s hs => by cases hs
    rum := g4
    rnd := g5 }
theorem dbl_bad {nm : Str} {k : Nat} (hn : ¬ isName nm = true) : ¬ Valid (dblD nm k) := fun v => by
  have h := v.ins 0 (nm, ("p0" : Str)) rfl
  unfold DD.okInput at h
  simp only [Bool.and_eq_true] at h
  exact hn h.1.1.2
def shD (k : Nat) : Bool := ((oth k ++ [("y" : Str)]).all fun s => decide (s.length ≤ 100)) && ((ruL k).all fun r => (r4 r).all fun x => decide (x.length ≤ 100)) && decide ((ruL k).length ≤ 1000)
theorem shD_all : ((List.range 21).all shD) = true := by decide +kernel
theorem dbl_short {nm : Str} {k : Nat} (h20 : k ≤ 20) (hn : nm.length ≤ 1000) : Short (dblD nm k) := by
  have h := List.all_eq_true.mp shD_all k (List.mem_range.mpr (by omega))
  unfold shD at h
  simp only [Bool.and_eq_true, decide_eq_true_eq, List.all_eq_true] at h
  obtain ⟨⟨g1, g2⟩, g3⟩ := h
  exact {
    st := fun s hs => Nat.le_trans (g1 s hs) (by decide)
    ou := fun o ho => by
      have : o ∈ List.replicate (k + 1) (0 : Int) ++ [1] := ho
      rw [List.mem_append, List.mem_replicate, List.mem_singleton] at this
      exact small_log (by omega) (by omega)
    ins := fun p hp => by
      have : p = (nm, ("p0" : Str)) := List.mem_singleton.mp hp
      subst this
      exact ⟨Nat.le_trans hn (by decide), (by decide +kernel : ("p0" : Str).length ≤ 1000000)⟩
    ld := fun s hs => by cases hs
    ru := fun r hr x hx => Nat.le_trans (g2 r hr x hx) (by decide)
    nru := Nat.le_trans g3 (by decide) }
def nmL (l : List Nat) : Bool := l.head?.any lowC && l.all fun c => lowC c || digC c
theorem nmL_name {s : Str} (h : nmL s.cps.toList = true) (h1 : 1 ≤ s.length) (h12 : s.length ≤ 12) : isName s = true := by
  unfold nmL at h
  rw [Bool.and_eq_true] at h
  have e : s.cps.toList.length = s.length := by simp [Str.length]
  unfold isName isNameL
  rw [h.1, h.2, decide_eq_true (show 1 ≤ s.cps.toList.length by omega), decide_eq_true (show s.cps.toList.length ≤ 12 by omega)]
  rfl
theorem atI_memN {xs : List Nat} {i : Int} {c : Nat} (h : atI xs i = some c) : c ∈ xs := by
  unfold atI at h
  cases e : ixN xs.length i with
  | none => rw [e] at h; cases h
  | some j =>
    rw [e] at h
    exact List.mem_of_getElem? h
theorem nmL_one {i : Int} {c : Nat} (h : atI ((Str.ofString "abcdefghijklmnopqrstuvwxyz" : Str).cps.toList) i = some c) : nmL (⟨#[c]⟩ : Str).cps.toList = true := by
  have m := atI_memN h
  have a : (Str.ofString "abcdefghijklmnopqrstuvwxyz" : Str).cps.toList.all lowC = true := by decide +kernel
  have l := List.all_eq_true.mp a c m
  show ([c].head?.any lowC && [c].all fun c => lowC c || digC c) = true
  simp [l]
theorem nmL_more {w : Str} {i : Int} {c : Nat} (hw : nmL w.cps.toList = true) (h : atI ((Str.ofString "abcdefghijklmnopqrstuvwxyz0123456789" : Str).cps.toList) i = some c) : nmL (w ++ (⟨#[c]⟩ : Str)).cps.toList = true := by
  have m := atI_memN h
  have a : (Str.ofString "abcdefghijklmnopqrstuvwxyz0123456789" : Str).cps.toList.all (fun c => lowC c || digC c) = true := by decide +kernel
  have l := List.all_eq_true.mp a c m
  have e : (w ++ (⟨#[c]⟩ : Str)).cps.toList = w.cps.toList ++ [c] := by
    show (w.cps ++ #[c]).toList = _
    rw [Array.toList_append]
  rw [e]
  unfold nmL at hw ⊢
  rw [Bool.and_eq_true] at hw
  rw [List.all_append, hw.2]
  cases q : w.cps.toList with
  | nil =>
    rw [q] at hw
    cases hw.1
  | cons x r =>
    rw [q] at hw
    have h1 := hw.1
    simp only [List.head?, Option.any] at h1
    simp [l, h1]
/-! the law's rules -/
def ss (e : Nat) : List Str := oth e ++ [("y" : Str)]
def sK (e k : Nat) : Str := (ss e).getD k Str.empty
theorem ss_len (e : Nat) : (ss e).length = e + 2 := by simp [ss, oth_len]
theorem ss_at {e k : Nat} (h : k < e + 2) : atI ((ss e).map V.str) (k : Int) = some (V.str (sK e k)) := by
  refine atI_nat ?_
  rw [List.getElem?_map, List.getElem?_eq_getElem (by rw [ss_len]; exact h)]
  simp [sK, List.getD, List.getElem?_eq_getElem (show k < (ss e).length by rw [ss_len]; exact h)]
def rW (e k j : Nat) : List S4 :=
  if (k = e + 1 ∧ j ≠ k) ∨ (j = e + 1 ∧ j ≠ k) then [((sK e k, sK e j, ("y" : Str), ("y" : Str)) : S4)]
  else if k = j ∧ k + 1 < e then [((sK e k, sK e k, sK e (k + 1), ("z" : Str)) : S4)]
  else if k = j ∧ k + 1 = e then [((sK e k, sK e k, ("y" : Str), ("y" : Str)) : S4)] else []
def rowW (e k : Nat) : Nat → List S4
  | 0 => []
  | j + 1 => rowW e k j ++ rW e k j
def rulesW (e : Nat) : Nat → List S4
  | 0 => []
  | k + 1 => rulesW e k ++ rowW e k (e + 2)
theorem rulesW_all : ((List.range 21).all fun e => e == 0 || decide (rulesW e (e + 2) = ruL e)) = true := by decide +kernel
theorem rulesW_eq {e : Nat} (h1 : 1 ≤ e) (h20 : e ≤ 20) : rulesW e (e + 2) = ruL e := by
  have h := List.all_eq_true.mp rulesW_all e (List.mem_range.mpr (by omega))
  rw [Bool.or_eq_true] at h
  exact of_decide_eq_true (h.resolve_left (by simp; omega))
theorem rW_len (e k j : Nat) : (rW e k j).length ≤ 1 := by
  unfold rW
  repeat' split
  all_goals simp
theorem rowW_len (e k : Nat) : ∀ j, (rowW e k j).length ≤ j
  | 0 => Nat.le_refl _
  | j + 1 => by
    have h1 := rowW_len e k j
    have h2 := rW_len e k j
    show (rowW e k j ++ rW e k j).length ≤ _
    rw [List.length_append]
    omega
theorem rulesW_len (e : Nat) : ∀ k, (rulesW e k).length ≤ k * (e + 2)
  | 0 => by simp [rulesW]
  | k + 1 => by
    have h1 := rulesW_len e k
    have h2 := rowW_len e k (e + 2)
    show (rulesW e k ++ rowW e k (e + 2)).length ≤ _
    rw [List.length_append, Nat.succ_mul]
    omega
open PySem.W in
def dPartsT (D : DD) : PyData := .tuple [Datum.toD D.st, Datum.toD D.ins, Datum.toD D.ld, Datum.toD (D.ru.map t4), Datum.toD D.ou]
open PySem.W in
theorem eqv_partsT (D : DD) : PyData.eqv (dPartsT D) (dPartsT D) = true := by
  unfold dPartsT
  simp only [PyData.eqv, PyData.eqvAll, Datum.eqv, Bool.and_true, decide_true]
open PySem.W in
theorem pl_partsT (D : DD) : (dPartsT D).plain = true ∧ (dPartsT D).depth ≤ 64 := by
  unfold dPartsT
  constructor
  · simp only [PyData.plain, PyData.plainAll, Datum.plain, Bool.and_self]
  · simp only [PyData.depth, PyData.depthAll]
    have h1 := Datum.depth_le D.st
    have h2 := Datum.depth_le D.ins
    have h3 := Datum.depth_le D.ld
    have h4 := Datum.depth_le (D.ru.map t4)
    have h5 := Datum.depth_le D.ou
    have e1 : Datum.depth (List Str) = 1 := rfl
    have e2 : Datum.depth (List (Str × Str)) = 2 := rfl
    have e4 : Datum.depth (List (T4 Str Str Str Str)) = 2 := rfl
    have e5 : Datum.depth (List Int) = 1 := rfl
    omega
theorem dp_partsT {K : PySem.W.Frag} {H : Hp} {C : Addr} {D : DD} (h : PartsAt H C D) : Dp K H (.ref C) (dPartsT D) := by
  obtain ⟨ls, li, ll, lr, lo, xi, xr, h0, h1, h2, t2, h3, h4, t4, h5⟩ := h
  refine .tup (SqT.of h0) (.cons (.lst (SqL.of h1) (dpAll_strs _)) (.cons (.lst (SqL.of h2) (dpAll_ins t2)) (.cons (.lst (SqL.of h3) (dpAll_strs _)) (.cons (.lst (SqL.of h4) ?_) (.cons (.lst (SqL.of h5) (dpAll_ints _)) .nil)))))
  have := dpAll_rus (K := K) t4
  rw [List.map_map]
  exact this
theorem ne_parts {K : PySem.W.Frag} {H : Hp} {a b : Addr} {D : DD} {Q : VK} (ha : PartsAt H a D) (hb : PartsAt H b D) (q : Q (.bl false) H) : rEqP K true (.ref a) (.ref b) H Q := by
  refine ⟨_, _, dp_partsT ha, dp_partsT hb, pl_partsT D, pl_partsT D, ?_⟩
  rw [eqv_partsT]
  exact q
theorem keepT {H H' : Hp} {p w : Addr} {ls xs : List V} (k : Keep [p] H H') (hp : H p = some (.lst ls)) (hw : H w = some (.tup xs)) : H' w = some (.tup xs) := k w _ (fun m => by
  rw [List.mem_singleton] at m
  rw [m, hp] at hw
  cases hw) hw
/-- a row of the law that is no doubling protocol -/
def BadRow (H : Hp) (x : V) : Prop := ∃ (w : Addr) (s : Str) (z : Int), x = .ref w ∧ H w = some (.tup [.str s, .int z]) ∧ s.length ≤ 1000 ∧ z.natAbs.log2 < 1920 ∧ ¬ (1 ≤ z ∧ z ≤ 20 ∧ isName s = true)
theorem BadRow.same {H H' : Hp} {x : V} (b : BadRow H x) (e : Same H H') : BadRow H' x := by
  obtain ⟨w, s, z, rfl, h, r⟩ := b
  exact ⟨w, s, z, rfl, e _ _ h, r⟩
theorem BadRow.keep {H H' : Hp} {x : V} {p : Addr} {ls : List V} (b : BadRow H x) (k : Keep [p] H H') (hp : H p = some (.lst ls)) : BadRow H' x := by
  obtain ⟨w, s, z, rfl, h, r⟩ := b
  exact ⟨w, s, z, rfl, keepT k hp h, r⟩
theorem small_logI {i : Int} (h0 : -1000 < i) (h : i < 1000) : i.natAbs.log2 < 1920 := by
  exact Nat.lt_of_le_of_lt (Nat.log2_le_self _) (by omega)
end Vf

namespace Vf
open PySem PySem.Spec PyProof.Rows L2
/-! ### several except clauses, some with a name -/
/-- what the clauses wish of an exception of the body, one after the other; some i: the name is slot i's -/
def wMas (K : PySem.W.Frag) (Wout : WX) (D : Ends) : List (Value × Option Nat × (Addr → Value → Option Addr → TS)) → WX
  | [] => Wout
  | (c, none, ts) :: r => fun cls d σ H => ∃ b, PySem.W.exmOne K cls c = some b ∧ (b = true → ∀ a, H a = none → ts a cls d D σ H) ∧ (b = false → wMas K Wout D r cls d σ H)
  | (c, some i, ts) :: r => fun cls d σ H => ∃ b, PySem.W.exmOne K cls c = some b ∧ (b = true → ∀ a, H a = none → ts a cls d { nx := fun σ' H' => D.nx (σ'.set i none) H', rt := D.rt, bk := fun σ' H' => D.bk (σ'.set i none) H', ct := fun σ' H' => D.ct (σ'.set i none) H' } (σ.set i (some (.ref a))) H) ∧ (b = false → wMas K Wout D r cls d σ H)
inductive HdsAs (X : Cx) : List ExceptHandler → List (Value × Option Nat × (Addr → Value → Option Addr → TS)) → Prop
  | nil : HdsAs X [] []
  | cons {x : Str} {c : Value} {ts : Addr → Value → Option Addr → TS} {b₀ : Stmt} {suite : List Stmt} {np pos' : Pos} {hds : List ExceptHandler} {l : List (Value × Option Nat × (Addr → Value → Option Addr → TS))} (hc : Names X x c)
      (hsu : ∀ (a : Addr) (oe : Obj) (cls : Value) (d : Option Addr) (pn : List (Addr × Obj)), Zc cls d oe → (∃ vs, oe.data = .fields vs) → PSs (X.suite a ((a, oe) :: pn)) (b₀ :: suite) (ts a cls d)) (r : HdsAs X hds l) :
      HdsAs X (.ExceptHandler (some (.Name x np)) none (b₀ :: suite) pos' :: hds) ((c, none, ts) :: l)
  | consA {x n : Str} {i : Nat} {c : Value} {ts : Addr → Value → Option Addr → TS} {b₀ : Stmt} {suite : List Stmt} {np pos' : Pos} {hds : List ExceptHandler} {l : List (Value × Option Nat × (Addr → Value → Option Addr → TS))} (hi : X.N[i]? = some n) (hln : X.env.kindOf n = some .local) (hc : Names X x c)
      (hsu : ∀ (a : Addr) (oe : Obj) (cls : Value) (d : Option Addr) (pn : List (Addr × Obj)), Zc cls d oe → (∃ vs, oe.data = .fields vs) → PSs (X.suite a ((a, oe) :: pn)) (b₀ :: suite) (ts a cls d)) (r : HdsAs X hds l) :
      HdsAs X (.ExceptHandler (some (.Name x np)) (some n) (b₀ :: suite) pos' :: hds) ((c, some i, ts) :: l)
section
variable {X : Cx} {body : List Stmt} {h₀ : ExceptHandler} {hds : List ExceptHandler} {l : List (Value × Option Nat × (Addr → Value → Option Addr → TS))} {pos : Pos} {tb : WX → TS} {Wout : WX}
theorem ps_try_mas (hs : X.stack = X.env :: X.outer) (hf : X.env.frame = some X.env.locals) (hN : X.N.Nodup) (tk : Takes X Wout)
    (hb : ∀ (W : WX) (pn : List (Addr × Obj)) (xe : Value → Shared → Prop), Takes (X.tr pn xe) W → PassesOwn (model X.prog X.w) X.A X.env xe → PSs (X.tr pn xe) body (tb W))
    (hh : HdsAs X (h₀ :: hds) l) : PS X (.Try body (h₀ :: hds) [] [] pos) (fun D σ H => tb (wMas X.K Wout D l) D σ H) := by
  refine ⟨fun pins s σ H D I h => ?_⟩
  have ok := I.ok
  have hfr : X.A.frames = some (X.env :: X.outer) := by rw [ok.frames, hs]
  refine wpAny_Try_except ?_
  refine wpAny_mono ((hb (wMas X.K Wout D l) (X.pn ++ pins) (fun e s₁ => wpAny (model X.prog X.w) X.A (noteFrame e X.env) (fun _ s₂ => wpAny (model X.prog X.w) X.A (setFlight e none) (fun _ s₃ =>
    wpAny (model X.prog X.w) X.A (handleBy e X.env (h₀ :: hds)) (SP X pins D) X.xe s₃) X.xe s₂) X.xe s₁) (fun u s' xx => ?_) PassesOwn.looking).run [] s σ H D (I.toTry _) h) (fun f s1 hsp => ?_) (fun e s1 he => he)
  · -- the catch
    obtain ⟨a, B, sI, pins', σ', H', cls, d, rfl, J', nb, up, sky, na, os, ag, w⟩ := xx
    have J : Inv X pins σ' H' sI := J'.ofTry ok
    have sky' : Sky B (X.env :: X.outer) a (Zc cls d) X.env.locals s'.heap := by rw [← hs]; exact sky
    show wpAny (model X.prog X.w) X.A (noteFrame (.ref a) X.env) _ _ _
    refine Sky.land Zc.steady hfr hf sky' fun h3 fl3 up3 => ?_
    have J3 : Inv X pins σ' H' { s' with heap := h3 } := J.landed nb fl3.1 (up.trans up3) os ag
    obtain ⟨oe3, vs3, he3, hz3, hd3⟩ := fl3.there
    have notFr : ∀ {h : Heap} {o : Obj} {vs : Array Value}, h.FunFrames B (X.env :: X.outer) → h.get? a = some o → o.data = .fields vs → a ∉ frs (X.env :: X.outer) := fun {h o vs} ff e dd hm => by
      obtain ⟨_, o', e', hnf⟩ := ff.mem hm
      rw [e] at e'; cases e'
      exact hnf _ dd
    have nfr := notFr fl3.2.2.1 he3 hd3
    have nL : a ≠ X.env.locals := fun z => nfr (List.mem_filterMap.mpr ⟨X.env, List.mem_cons_self, by rw [hf, z]⟩)
    have nF : a ∉ X.fs := fun hm => by
      obtain ⟨e, he, q⟩ := List.mem_filterMap.mp hm
      exact nfr (List.mem_filterMap.mpr ⟨e, List.mem_cons_of_mem _ he, q⟩)
    have S3 := J3.suite he3 hd3 na nL nF
    have LT : PySem.W.Looks (model X.prog X.w) h3 (typeOf (.ref a)) cls := fun A Q E s k q => wpAny_typeOf_ref (k _ _ he3) (by rw [hz3.1]; exact q)
    have test : ∀ {x : Str} {c : Value} {np : Pos} {Q : Value → Shared → Prop} {E : Value → Shared → Prop}, Names X x c → Q c { s' with heap := h3 } → wpAny (model X.prog X.w) (X.A.mark (some (.ref a))) (eval (.Name x np) X.env) Q E { s' with heap := h3 } := fun {x c np Q E} hc q => by
      obtain ⟨hg, hdbg, hm | ⟨hm, hv, hnn⟩⟩ := hc
      · exact ld_glob (X := X.suite a ((a, oe3) :: (X.pn ++ pins))) S3 hg hm q hdbg
      · exact ld_blt (X := X.suite a ((a, oe3) :: (X.pn ++ pins))) S3 hg hm hv q hnn hdbg
    have go : ∀ {hds' : List ExceptHandler} {l' : List (Value × Option Nat × (Addr → Value → Option Addr → TS))}, HdsAs X hds' l' → wMas X.K Wout D l' cls d σ' H' →
        wpAny (model X.prog X.w) X.A (handleBy (.ref a) X.env hds') (SP X pins D) X.xe { s' with heap := h3 } := by
      intro hds' l' hk
      induction hk with
      | nil =>
        intro w
        refine wpAny_handleBy_nil ?_
        obtain ⟨k1, k2, k3, oe, vs, T, oT, ts', he, hz, hd, h1, hr⟩ := id fl3
        unfold PySem.passOn
        refine wpAny_bind (wpAny_field he hd h1 ?_)
        rw [if_neg (show ¬ ((Value.ref T == Value.none) = true) from by simp)]
        have fin : wpAny (model X.prog X.w) X.A (setFlight (.ref a) X.env.frame) (fun _ s4 => wpAny (model X.prog X.w) X.A (throw (.ref a) : Sem Flow) (SP X pins D) X.xe s4) X.xe { s' with heap := h3 } := by
          rw [hf]
          refine HandSPX.setFlight_upZ fl3 fun h4 hh4 up4 => wpAny_throw (tk _ _ ?_)
          exact ⟨a, B, sI, pins, σ', H', cls, d, rfl, J, nb, (up.trans up3).trans up4, .inr (.inr (by rw [hs]; exact hh4)), na, os, ag, w⟩
        first
          | exact wpAny_bind (wpAny_pure (wpAny_bind fin))
          | exact wpAny_bind fin
      | @cons x c ts b₀ suite np pos' hds2 l2 hc hsu r ih =>
        intro w
        obtain ⟨b, hb1, hyes, hno⟩ := w
        refine wpAny_handleBy_cons (codeAny_handlers_test ?_) (by intro q; cases q)
        have LM := PySem.W.exm_one (M := model X.prog X.w) (J3.kIn) LT hb1
        refine test hc (LM.here ?_)
        cases b with
        | true =>
          refine codeAny_handlers_suite ?_
          refine HandSPX.lands_againZ fl3 fun h4 fl4 up4 => ?_
          have J4 : Inv X pins σ' H' { s' with heap := h4 } := J.landed nb fl4.1 ((up.trans up3).trans up4) os ag
          obtain ⟨oe4, vs4, he4, hz4, hd4⟩ := fl4.there
          have S4 := J4.suite he4 hd4 na nL nF
          refine wpAny_mono ((hsu a oe4 cls d (X.pn ++ pins) hz4 ⟨_, hd4⟩).run [] _ _ H' _ S4 (hyes rfl a na)) (fun f s6 hsp => ?_) (fun _ _ z => False.elim z)
          cases f with
          | next =>
            obtain ⟨σ6, H6, S6, q6⟩ := hsp
            exact ⟨_, _, S6.unsuite ok, q6⟩
          | brk =>
            obtain ⟨σ6, H6, S6, q6⟩ := hsp
            exact ⟨_, _, S6.unsuite ok, q6⟩
          | cont =>
            obtain ⟨σ6, H6, S6, q6⟩ := hsp
            exact ⟨_, _, S6.unsuite ok, q6⟩
          | ret u =>
            obtain ⟨v6, σ6, H6, S6, r6, q6⟩ := hsp
            exact ⟨_, _, _, S6.unsuite ok, r6, q6⟩
        | false =>
          show wpAny _ X.A (handleBy (.ref a) X.env hds2) _ _ _
          exact ih (hno rfl)
      | @consA x n i c ts b₀ suite np pos' hds2 l2 hi hln hc hsu r ih =>
        intro w
        obtain ⟨b, hb1, hyes, hno⟩ := w
        have hloc : Loc X.env.scope n := .inl hln
        refine wpAny_handleBy_cons (codeAny_handlers_test ?_) (by intro q; cases q)
        have LM := PySem.W.exm_one (M := model X.prog X.w) (J3.kIn) LT hb1
        refine test hc (LM.here ?_)
        cases b with
        | true =>
          refine codeAny_handlers_suite_as ?_
          refine HandSPX.lands_againZ fl3 fun h4 fl4 up4 => ?_
          have J4 : Inv X pins σ' H' { s' with heap := h4 } := J.landed nb fl4.1 ((up.trans up3).trans up4) os ag
          obtain ⟨oe4, vs4, he4, hz4, hd4⟩ := fl4.there
          have S4 := J4.suite he4 hd4 na nL nF
          refine store_ok (X := X.suite a ((a, oe4) :: (X.pn ++ pins))) (v := .ref a) S4 hN hi hloc rfl (fun s5 S5 => ?_) (.inr hln)
          refine wpAny_mono ((hsu a oe4 cls d (X.pn ++ pins) hz4 ⟨_, hd4⟩).run [] s5 _ H' _ S5 (hyes rfl a na)) (fun f s6 hsp => ?_) (fun _ _ z => False.elim z)
          have end_ : ∀ {σ6 : L2.St} {H6 : Hp} {Q : Shared → Prop}, Inv (X.suite a ((a, oe4) :: (X.pn ++ pins))) [] σ6 H6 s6 → (∀ s7, Inv X pins (σ6.set i none) H6 s7 → Q s7) →
              wpAny (model X.prog X.w) X.A (do bindName X.env n .none; unbindBehindTheSuite X.env n pos') (fun _ s7 => Q s7) X.xe s6 := fun {σ6 H6 Q} S6 hq => gone_ok (S6.unsuite ok) hN hi hln hq
          cases f with
          | next =>
            obtain ⟨σ6, H6, S6, q6⟩ := hsp
            exact end_ S6 fun s7 J7 => ⟨_, _, J7, q6⟩
          | brk =>
            obtain ⟨σ6, H6, S6, q6⟩ := hsp
            exact end_ S6 fun s7 J7 => ⟨_, _, J7, q6⟩
          | cont =>
            obtain ⟨σ6, H6, S6, q6⟩ := hsp
            exact end_ S6 fun s7 J7 => ⟨_, _, J7, q6⟩
          | ret u =>
            obtain ⟨v6, σ6, H6, S6, r6, q6⟩ := hsp
            exact end_ S6 fun s7 J7 => ⟨_, _, _, J7, r6, q6⟩
        | false =>
          show wpAny _ X.A (handleBy (.ref a) X.env hds2) _ _ _
          exact ih (hno rfl)
    exact go hh w
  · cases f with
    | next =>
      obtain ⟨σ', H', J', q⟩ := hsp
      exact wpAny_execs_nil ⟨σ', H', J'.ofTry ok, q⟩
    | brk =>
      obtain ⟨σ', H', J', q⟩ := hsp
      exact ⟨σ', H', J'.ofTry ok, q⟩
    | cont =>
      obtain ⟨σ', H', J', q⟩ := hsp
      exact ⟨σ', H', J'.ofTry ok, q⟩
    | ret u =>
      obtain ⟨v, σ', H', J', r, q⟩ := hsp
      exact ⟨v, σ', H', J'.ofTry ok, r, q⟩
end
section
variable {X : Cx} {CX : CXT} {k : Nat} {f : Addr} {fd : FuncData} {ps ks : List Str} {sp : Sp} {E : L2.St → XK} {x : Str} {p pos : Pos} {e : Expr} {es : List Expr} {kws : List Keyword} {t tk : TA} {g : List Value → List Value → List Value} {gV : List V → List V → List V}
/-- a call by keyword, the wish of exceptions may look at the slots -/
def tCallKS (sp : Sp) (gV : List V → List V → List V) (E : L2.St → XK) (t tk : TA) : TE := fun σ H Q => t σ H fun vs H1 => tk σ H1 fun zs H2 => sp (gV vs zs) H2 Q (E σ)
theorem run_fnkS {pins : List (Addr × Obj)} {σ : L2.St} {H : Hp} {s : Shared} {Q : VK} {us ws : List Value} {vs zs : List V} (F : FnOk X.prog X.w X.K X.mg X.base CX k f fd ps sp) (hr : Room k X.A) (hb : KBinds X.K fd ps ks g gV) (hx : PassesAt CX X σ (E σ))
    (I : Inv X pins σ H s) (r : Vals vs us) (rz : Vals zs ws) (h : sp (gV vs zs) H Q (E σ)) : wpAny (model X.prog X.w) X.A (call (.ref f) us (ks.zip ws)) (EP X pins σ Q) X.xe s := by
  have r2 := hb.rel r rz
  have hl : (g us ws).length = ps.length := by rw [← r2.length]; exact F.len _ _ _ _ h
  refine wpAny_call (codeAny_mono (F.run X.A X.stack s H ⟨us, ks.zip ws⟩ (g us ws) (gV vs zs) Q (E σ) hr I.env0 (hb.to s us ws I.kIn hl) r2 h) fun r s' hq => ?_)
  cases r with
  | error e => exact hx pins H s e s' I hq
  | ok fl =>
    cases fl with
    | ret u => exact I.after hq
    | next => exact False.elim hq
    | brk => exact False.elim hq
    | cont => exact False.elim hq
theorem pe_callKS (F : FnOk X.prog X.w X.K X.mg X.base CX k f fd ps sp) (hr : Room k X.A) (hg : Gl X x) (hm : X.mg x = some (.ref f)) (hk : PySem.W.keepIn X.K (.ref f) = true) (hb : KBinds X.K fd ps ks g gV) (hx : ∀ σ, PassesAt CX X σ (E σ))
    (ha : PA X (e :: es) t) (hkw : PK X kws tk) (hall : (backToKw pos (keywordEach kws X.env)).all (·.1.isSome) = true := by rfl) (hks : (backToKw pos (keywordEach kws X.env)).filterMap (·.1) = ks := by rfl)
    (hdb : (x == ("__debug__" : Str)) = false := by decide) (he : starEach (e :: es) X.env = (false, eval e X.env) :: starEach es X.env := by rfl)
    (hpl : ((backTo pos (starEach (e :: es) X.env)).any (·.1) || (backToKw pos (keywordEach kws X.env)).any (·.1.isNone)) = false := by rfl) :
    PE X (.Call (.Name x p) (e :: es) kws pos) (tCallKS sp gV E t tk) := by
  refine ⟨fun pins s σ H Q I h => ?_⟩
  refine wpAny_Call_Name_kw (ld_glob I hg hm ?_ hdb)
  refine PySem.W.callWith_KW (h₀ := X.base) I.ok.mod.kin hk hall (thn (ha.run pos pins s σ H _ I h) fun us s1 ⟨vs, H1, I1, r, q⟩ => ?_) hpl he
  refine thn (hkw.run pos pins s1 σ H1 _ I1 q) fun ws s2 ⟨zs, H2, I2, rz, q2⟩ => ⟨I2.kIn, ?_⟩
  rw [hks]
  exact run_fnkS F hr hb (hx σ) I2 r rz q2
end
end Vf

namespace Vf
open PySem L2
theorem exm_other {K : PySem.W.Frag} {c d : Addr} (b : PySem.W.subIn K (.ref d) (.type "BaseException") = some true) (i : PySem.W.isClsIn K d = true) (t : PySem.W.typeIn K (.ref d) = some (.type "type")) (s : PySem.W.subIn K (.ref c) (.ref d) = some false) (ne : c ≠ d) :
    PySem.W.exmOne K (.ref c) (.ref d) = some false := by
  unfold PySem.W.isClsIn at i
  simp [PySem.W.exmOne, PySem.W.kitCls, b, i, t, s, ne]
end Vf

/-! ### tuples that are known to have no attributes: dict(t) of a tuple of pairs -/
namespace Vf
open PySem PySem.Spec PyProof.Rows L2
/-- a tuple just as tuple(list) makes it -/
def plainT (its : Array Value) : Obj := { cls := .type "tuple", data := .seq its }
def PT (H : Hp) (a : Addr) (xs : List V) : Prop := ∃ its, H a = some (.frz (plainT its) (.tup xs))
theorem PT.sq {K : PySem.W.Frag} {H : Hp} {a : Addr} {xs : List V} (h : PT H a xs) : SqT K H a xs := by
  obtain ⟨its, e⟩ := h
  exact .inl (.inr ⟨_, e⟩)
theorem PT.same {H H' : Hp} {a : Addr} {xs : List V} (h : PT H a xs) (s : ∀ o, H a = some o → H' a = some o) : PT H' a xs := by
  obtain ⟨its, e⟩ := h
  exact ⟨its, s _ e⟩
section
variable {X : Cx}
/-- tuple(xs): the reader chooses whether it wants to know that the tuple is plain -/
theorem call_tuple_frz : CallR X (.type "tuple") (fun xs H Q => ∃ p ys, xs = [.ref p] ∧ ((SqL X.K H p ys ∧ ((∀ l, H l = none → Q (.ref l) (upd H l (.tup ys))) ∨ ∀ l its, H l = none → Q (.ref l) (upd H l (.frz (plainT its) (.tup ys))))) ∨ (SqT X.K H p ys ∧ Q (.ref p) H))) := by
  intro pins s σ H xs us Q I r h
  obtain ⟨p, ys, rfl, h⟩ := h
  obtain ⟨u, rfl, rx⟩ := vals1 r
  cases rx
  rcases h with ⟨hq, q⟩ | ⟨hq, q⟩
  · obtain ⟨its, r', pl, hz⟩ := I.list hq
    have hlen := r'.length
    refine call_tuple_list pl.isList (fun h' kp => ?_) (by simp only [List.size_toArray] <;> omega)
    have I1 : Inv X pins σ H { s with heap := h' } := I.kept (t' := s.toks) kp
    rcases q with q | q
    · have I2 : Inv X pins σ (upd H h'.objs.size (.tup ys)) { s with heap := h'.push { cls := .type "tuple", data := .seq its.toArray } } :=
        I1.laid (t' := s.toks) (fun b o e => Heap.get?_push_of_some _ e) (Nat.le_refl _) (show ObjOk X.prog X.w _ _ _ (.tup ys) from ⟨hz, its, r', IsTup.new _ _⟩)
      exact ⟨.ref h'.objs.size, _, I2, rfl, q _ (I1.hok.fresh (Nat.le_refl _))⟩
    · have I2 : Inv X pins σ (upd H h'.objs.size (.frz (plainT its.toArray) (.tup ys))) { s with heap := h'.push { cls := .type "tuple", data := .seq its.toArray } } :=
        I1.laid (t' := s.toks) (fun b o e => Heap.get?_push_of_some _ e) (Nat.le_refl _) (show ObjOk X.prog X.w _ _ _ (.frz (plainT its.toArray) (.tup ys)) from ⟨Heap.get?_push_size _ rfl, hz, its, r', IsTup.new _ _⟩)
      exact ⟨.ref h'.objs.size, _, I2, rfl, q _ _ (I1.hok.fresh (Nat.le_refl _))⟩
  · obtain ⟨its, r', pl, hz⟩ := I.tuple hq
    exact call_tuple_same pl ⟨.ref p, H, I, rfl, q⟩
theorem pairs_of2 {pins : List (Addr × Obj)} {σ : L2.St} {H : Hp} {s : Shared} (I : Inv X pins σ H s) : ∀ {ps : List Addr} {kvs : List (Key × V)}, Paired (fun p kv => SqT X.K H p [kV kv.1, kv.2]) ps kvs →
    ∃ (prs : List (Key × Value)) (vps : List (Value × Value)), KV kvs prs ∧ prs.length = ps.length ∧ vps.length = ps.length ∧
      ∀ (j : Nat) (k v : Value), vps[j]? = some (k, v) → ∃ (b : Addr) (key : Key), ps[j]? = some b ∧ IsTup s.heap b #[k, v] ∧ prs[j]? = some (key, v) ∧ keyIs key k = true
  | _, _, .nil => ⟨[], [], .nil, rfl, rfl, fun j k v e => by simp at e⟩
  | _, _, .cons (a := p) (b := kv) h t => by
    obtain ⟨prs, vps, r, hl, hl2, hp⟩ := pairs_of2 I t
    obtain ⟨its, rv, ht, _⟩ := I.tuple h
    obtain ⟨u, y, ei, ru, ry⟩ := vals2 rv
    subst ei
    refine ⟨(kv.1, y) :: prs, (u, y) :: vps, .cons ⟨rfl, ry⟩ r, by rw [List.length_cons, List.length_cons, hl], by rw [List.length_cons, List.length_cons, hl2], fun j k v e => ?_⟩
    cases j with
    | zero =>
      have e' : (u, y) = (k, v) := Option.some.inj e
      cases e'
      exact ⟨p, kv.1, rfl, ht, rfl, kV_is (P := X.prog) (w := X.w) ru⟩
    | succ j =>
      obtain ⟨b, key, e1, e2, e3, e4⟩ := hp j k v (by simpa using e)
      exact ⟨b, key, by simpa using e1, e2, by simpa using e3, e4⟩
theorem call_dictPT (hc : X.calm = true) : CallR X (.type "dict") (fun xs H Q => ∃ (a : Addr) (ps : List Addr) (kvs : List (Key × V)), xs = [.ref a] ∧ PT H a (ps.map V.ref) ∧ Paired (fun p kv => SqT X.K H p [kV kv.1, kv.2]) ps kvs ∧
    ∀ p, H p = none → Q (.ref p) (upd H p (.dK (mergeK [] kvs)))) := by
  intro pins s σ H xs us Q I r q
  obtain ⟨a, ps, kvs, ex, ⟨its, hq⟩, hp, q⟩ := q
  subst ex
  obtain ⟨u, eu, rx⟩ := vals1 r
  subst eu
  cases rx
  have ok : ObjOk X.prog X.w H s.heap a (.frz (plainT its) (.tup (ps.map V.ref))) := I.hok a _ hq
  obtain ⟨ho, hz, its', rv, o', ho', c', n', d'⟩ := ok
  have eo : plainT its = o' := Option.some.inj (ho.symm.trans ho')
  subst eo
  have ei := refs_at rv
  subst ei
  have ea : its = (ps.map Value.ref).toArray := by
    injection d' with e1 e2
  subst ea
  rw [List.length_map] at hz
  obtain ⟨prs, vps, rel, hl, hl2, hpr⟩ := pairs_of2 I hp
  refine PySem.call_dict_pairs (knd := mixKind X.prog X.w) (kvs := prs) (PairArg.tuple a (ps.map Value.ref).toArray (fun j => (ps[j]?).getD 0) vps) (I.ok.hd hc) ⟨⟨_, _, ho, rfl, rfl, rfl⟩, ?_, ?_⟩ ⟨by rw [hl, hl2], ?_⟩ (by rw [hl2]; exact hz) ?_
  · simp [hl2]
  · intro j k v e
    obtain ⟨b, key, e1, e2, e3⟩ := hpr j k v e
    refine ⟨by simp [e1], .inl ?_⟩
    show s.heap.IsTuple ((ps[j]?).getD 0) #[k, v]
    rw [e1]
    exact e2
  · intro i key v e
    obtain ⟨b, k, e1, e2, e3, e4⟩ := hpr i key v e
    exact ⟨k, e3, e4⟩
  · intro h' tk hd' k
    have keep : ∀ b o, s.heap.get? b = some o → h'.get? b = some o := fun b o e => k b o (by simp) e
    have hm : (s.heap.objs.size == sysModules) = false := beq_eq_false_iff_ne.mpr (Nat.ne_of_gt I.big)
    have hlen : (mergeK [] kvs).length ≤ sizeLine := by
      refine Nat.le_trans (length_mergeK kvs []) ?_
      rw [List.length_nil, Nat.zero_add, rel.length, hl]
      exact hz
    exact ⟨.ref s.heap.objs.size, upd H s.heap.objs.size (.dK (mergeK [] kvs)), I.laid (t' := tk) keep (Nat.le_refl _) (show ObjOk X.prog X.w _ _ _ (.dK (mergeK [] kvs)) from ⟨hlen, hm, merged [] prs, KV.merge rel .nil, hd'⟩), rfl, q _ (I.hok.fresh (Nat.le_refl _))⟩
end
end Vf
namespace Vf
open PySem L2
/-! ### loops over a list or a tuple -/
def SqE (H : Hp) (a : Addr) (xs : List V) : Prop := H a = some (.lst xs) ∨ H a = some (.tup xs)
theorem SqE.same {H H' : Hp} {a : Addr} {xs : List V} (h : SqE H a xs) (s : Same H H') : SqE H' a xs := h.imp (s a _) (s a _)
theorem SqE.len {K : PySem.W.Frag} {H : Hp} {a : Addr} {xs : List V} (h : SqE H a xs) : SqL K H a xs ∨ SqT K H a xs := h.imp SqL.of SqT.of
theorem for_seq2 {K : PySem.W.Frag} {a : Addr} {xs : List V} {g : TG} {tb : TS} {D : Ends} {σ : L2.St} {H H0 : Hp} (e : SqE H0 a xs) (Pv : Nat → L2.St → Hp → Prop) (h0 : Pv 0 σ H) (hl : ∀ i σ H, i ≤ xs.length → Pv i σ H → Same H0 H)
    (hs : ∀ i x σ H, xs[i]? = some x → Pv i σ H → g x σ H fun σ2 H2 => tb { D with nx := Pv (i + 1), ct := Pv (i + 1), bk := D.nx } σ2 H2) (hd : ∀ σ H, Pv xs.length σ H → D.nx σ H) :
    (∃ b, V.ref a = .ref b ∧ (∃ xs, SqL K H b xs) ∧ ∃ W : Nat → Nat → L2.St → Hp → Prop, (∃ m, W 0 m σ H) ∧ ∀ i m σ H, W i m σ H →
      ((Itl K b).stop i H ∧ D.nx σ H) ∨ ((Itl K b).go i H ∧ ∃ N : L2.St → Hp → Prop, (∀ σ' H', N σ' H' → ∃ m', m' < m ∧ W (i + 1) m' σ' H') ∧ ∀ x H', (Itl K b).yld i H x H' → g x σ H' fun σ2 H2 => tb { D with nx := N, ct := N, bk := D.nx } σ2 H2)) ∨
    ∃ b, V.ref a = .ref b ∧ (∃ xs, SqT K H b xs) ∧ ∃ W : Nat → Nat → L2.St → Hp → Prop, (∃ m, W 0 m σ H) ∧ ∀ i m σ H, W i m σ H →
      ((Itt K b).stop i H ∧ D.nx σ H) ∨ ((Itt K b).go i H ∧ ∃ N : L2.St → Hp → Prop, (∀ σ' H', N σ' H' → ∃ m', m' < m ∧ W (i + 1) m' σ' H') ∧ ∀ x H', (Itt K b).yld i H x H' → g x σ H' fun σ2 H2 => tb { D with nx := N, ct := N, bk := D.nx } σ2 H2) := by
  have s0 := hl 0 σ H (Nat.zero_le _) h0
  rcases e with e | e
  · exact .inl ⟨a, rfl, ⟨xs, SqL.of (s0 _ _ e)⟩, for_list Pv h0 (fun i σ H hi p => SqL.of (hl i σ H hi p _ _ e)) hs hd⟩
  · exact .inr ⟨a, rfl, ⟨xs, SqT.of (s0 _ _ e)⟩, for_tup Pv h0 (fun i σ H hi p => SqT.of (hl i σ H hi p _ _ e)) hs hd⟩
def TwoE (H : Hp) (a b : Addr) (xs ys : List V) : Prop := (H a = some (.lst xs) ∧ H b = some (.lst ys)) ∨ (H a = some (.tup xs) ∧ H b = some (.tup ys))
theorem TwoE.fst {H : Hp} {a b : Addr} {xs ys : List V} (h : TwoE H a b xs ys) : SqE H a xs := h.imp And.left And.left
theorem TwoE.snd {H : Hp} {a b : Addr} {xs ys : List V} (h : TwoE H a b xs ys) : SqE H b ys := h.imp And.right And.right
theorem for_zip2 {K : PySem.W.Frag} {a b : Addr} {xs ys : List V} {g : TG} {tb : TS} {D : Ends} {σ : L2.St} {H H0 : Hp} (e : TwoE H0 a b xs ys) (hl : xs.length = ys.length) (Pv : Nat → L2.St → Hp → Prop) (h0 : Pv 0 σ H) (hq : ∀ i σ H, Pv i σ H → Same H0 H)
    (hs : ∀ (i : Nat) (x y : V) (T : Addr) (σ : L2.St) (H : Hp), xs[i]? = some x → ys[i]? = some y → Pv i σ H → H T = none → g (.ref T) σ (upd H T (.tup [x, y])) fun σ2 H2 => tb { D with nx := Pv (i + 1), ct := Pv (i + 1), bk := D.nx } σ2 H2) (hd : ∀ σ H, Pv xs.length σ H → D.nx σ H) :
    (SqL K H a xs ∧ SqL K H b ys ∧ ∃ W : Nat → Nat → L2.St → Hp → Prop, (∃ m, W 0 m σ H) ∧ ∀ i m σ H, W i m σ H →
      ((Itz K a b).stop i H ∧ D.nx σ H) ∨ ((Itz K a b).go i H ∧ ∃ N : L2.St → Hp → Prop, (∀ σ' H', N σ' H' → ∃ m', m' < m ∧ W (i + 1) m' σ' H') ∧ ∀ v H', (Itz K a b).yld i H v H' → g v σ H' fun σ2 H2 => tb { D with nx := N, ct := N, bk := D.nx } σ2 H2)) ∨
    (SqT K H a xs ∧ SqT K H b ys ∧ ∃ W : Nat → Nat → L2.St → Hp → Prop, (∃ m, W 0 m σ H) ∧ ∀ i m σ H, W i m σ H →
      ((RZ.ItzT K a b).stop i H ∧ D.nx σ H) ∨ ((RZ.ItzT K a b).go i H ∧ ∃ N : L2.St → Hp → Prop, (∀ σ' H', N σ' H' → ∃ m', m' < m ∧ W (i + 1) m' σ' H') ∧ ∀ v H', (RZ.ItzT K a b).yld i H v H' → g v σ H' fun σ2 H2 => tb { D with nx := N, ct := N, bk := D.nx } σ2 H2)) := by
  have s0 := hq 0 σ H h0
  rcases e with ⟨e1, e2⟩ | ⟨e1, e2⟩
  · exact .inl ⟨SqL.of (s0 _ _ e1), SqL.of (s0 _ _ e2), RZ.for_zipL hl Pv h0 (fun i σ H p => ⟨SqL.of (hq i σ H p _ _ e1), SqL.of (hq i σ H p _ _ e2)⟩) hs hd⟩
  · exact .inr ⟨SqT.of (s0 _ _ e1), SqT.of (s0 _ _ e2), RZ.for_zipT hl Pv h0 (fun i σ H p => ⟨SqT.of (hq i σ H p _ _ e1), SqT.of (hq i σ H p _ _ e2)⟩) hs hd⟩
end Vf
namespace Vf
open PySem L2
/-! ### a protocol whose inputs are a plain tuple -/
structure BookP (C : Addr) (H : Hp) (p : Addr) (a : RA) (D : DD) : Prop where
  ob : ∃ dx, H p = some (.ins C dx (bFs a))
  st : H a.t1 = some (.tup (D.st.map V.str))
  ins : ∃ xs, PT H a.t2 xs ∧ Tups enc2 H xs D.ins
  ld : H a.t3 = some (.tup (D.ld.map V.str))
  ru : ∃ xs, H a.t4 = some (.tup xs) ∧ Tups enc4 H xs D.ru
  ou : H a.t5 = some (.tup (D.ou.map V.int))
  dn : H a.dn = some (.dK (numK D.st))
theorem BookP.same {C : Addr} {H H' : Hp} {p : Addr} {a : RA} {D : DD} (S : BookP C H p a D) (e : Same H H') : BookP C H' p a D := by
  obtain ⟨dx, h0⟩ := S.ob
  obtain ⟨x2, h2, T2⟩ := S.ins
  obtain ⟨x4, h4, T4⟩ := S.ru
  exact ⟨⟨dx, e _ _ h0⟩, e _ _ S.st, ⟨x2, h2.same (e _), T2.same e⟩, e _ _ S.ld, ⟨x4, e _ _ h4, T4.same e⟩, e _ _ S.ou, e _ _ S.dn⟩
end Vf

namespace Vf
open PySem L2
/-! as in chances and quiets (never both) -/
section
variable {J : It} {n : Nat} {G : Hp → Prop} {Y : Nat → Hp → V → Hp → Prop} {g : TG} {tt : TT} {te : TE} {vs : List Nat} {σ : L2.St} {H1 : Hp} {D : Addr} {Qd : Hp → Prop}
/-- a comprehension of one clause with a test -/
theorem lc_one (w : L2.Walk J n G Y) (Pv : Nat → Hp → Prop) (h0 : Pv 0 (upd H1 D (.lst []))) (hG : ∀ i H, i ≤ n → Pv i H → G H)
    (hs : ∀ i x H H', i < n → Pv i H → Y i H x H' → g x (wipe σ vs) H' fun σ2 H2 => wipe σ2 vs = wipe σ vs ∧ tt σ2 H2 fun b H3 =>
      if b = true then te σ2 H3 fun y H4 => ∃ acc, H4 D = some (.lst acc) ∧ acc.length < sizeLine ∧ Pv (i + 1) (upd H4 D (.lst (acc ++ [y]))) else Pv (i + 1) H3) (hd : ∀ H, Pv n H → Qd H) :
    ∃ W : Nat → Nat → Hp → Prop, (∃ m, W 0 m (upd H1 D (.lst []))) ∧ ∀ i m H, W i m H →
      (J.stop i H ∧ Qd H) ∨ (J.go i H ∧ ∃ Nx : Hp → Prop, (∀ H', Nx H' → ∃ m', m' < m ∧ W (i + 1) m' H') ∧ ∀ x H', J.yld i H x H' → g x (wipe σ vs) H' fun σ2 H2 => wipe σ2 vs = wipe σ vs ∧ tt σ2 H2 fun b H3 =>
        if b = true then te σ2 H3 fun y H4 => ∃ acc, H4 D = some (.lst acc) ∧ acc.length < sizeLine ∧ Nx (upd H4 D (.lst (acc ++ [y]))) else Nx H3) := by
  refine ⟨fun i m H => m = n - i ∧ i ≤ n ∧ Pv i H, ⟨n, by simp, Nat.zero_le _, h0⟩, ?_⟩
  rintro i m H ⟨rfl, hi, p⟩
  have q := hG i H hi p
  by_cases hlt : i < n
  · exact .inr ⟨w.goes i H hlt q, Pv (i + 1), fun H' p' => ⟨n - (i + 1), by omega, rfl, hlt, p'⟩, fun x H' y => hs i x H H' hlt p (w.yields i H x H' hlt q y)⟩
  · have e : i = n := by omega
    subst e
    exact .inl ⟨w.stops H q, hd H p⟩
end
end Vf
namespace Vf
open PySem L2
/-! ### an input fixed to a count -/
theorem mergeF : ∀ (more acc : List (Key × V)), ((acc ++ more).map Prod.fst).Nodup → mergeK acc more = acc ++ more
  | [], acc, _ => by simp [mergeK]
  | kv :: r, acc, h => by
    have n : kv.1 ∉ acc.map Prod.fst := fun m => by
      rw [List.map_append, List.nodup_append] at h
      exact h.2.2 _ m kv.1 (by simp) rfl
    have e : putK acc kv.1 kv.2 = acc ++ [kv] := by
      unfold putK
      rw [if_neg]
      intro z
      rw [List.any_eq_true] at z
      obtain ⟨x, h1, h2⟩ := z
      exact n (List.mem_map.mpr ⟨x, h1, of_decide_eq_true h2⟩)
    show mergeK (putK acc kv.1 kv.2) r = _
    rw [e, mergeF r (acc ++ [kv]) (by simpa using h)]
    simp
def inK (l : List (Str × Str)) : List (Key × V) := l.map fun p => (Sum.inr p.1, V.str p.2)
theorem inK_merge {l : List (Str × Str)} (nd : (l.map (·.1)).Nodup) : mergeK [] (inK l) = inK l := by
  rw [mergeF _ _ ?_]
  · rfl
  · unfold inK
    rw [List.nil_append, List.map_map]
    have e : l.map (Prod.fst ∘ fun p : Str × Str => ((Sum.inr p.1 : Key), V.str p.2)) = (l.map (·.1)).map Sum.inr := by rw [List.map_map]; rfl
    rw [e]
    exact List.Pairwise.map _ (fun a b e h => e (Sum.inr.inj h)) nd
/-- the state of an input -/
def stOf (l : List (Str × Str)) (nm : Str) : Str := ((l.find? fun p => decide (p.1 = nm)).map (·.2)).getD Str.empty
theorem inK_val : ∀ {l : List (Str × Str)} {nm : Str}, nm ∈ l.map (·.1) → valV (inK l) (Sum.inr nm) = some (.str (stOf l nm))
  | [], _, m => by cases m
  | p :: l, nm, m => by
    show valV ((Sum.inr p.1, V.str p.2) :: inK l) (Sum.inr nm) = _
    by_cases e : p.1 = nm
    · rw [valV_pos (by rw [e])]
      unfold stOf
      rw [List.find?_cons_of_pos (by simpa using e)]
      rfl
    · rw [valV_neg (by intro q; exact e (Sum.inr.inj q)), inK_val (by simpa [Ne.symm e] using m)]
      unfold stOf
      rw [List.find?_cons_of_neg (by simpa using e)]
theorem inK_none {l : List (Str × Str)} {nm : Str} (m : nm ∉ l.map (·.1)) : valV (inK l) (Sum.inr nm) = none := by
  cases e : valV (inK l) (Sum.inr nm) with
  | none => rfl
  | some v =>
    have h := valV_any (κ := Key) (Sum.inr nm) (inK l)
    rw [e] at h
    obtain ⟨x, h1, h2⟩ := List.any_eq_true.mp h
    obtain ⟨p, hp, rfl⟩ := List.mem_map.mp h1
    exact absurd (List.mem_map.mpr ⟨p, hp, Sum.inr.inj (of_decide_eq_true h2)⟩) m
theorem stOf_mem {l : List (Str × Str)} {nm : Str} (m : nm ∈ l.map (·.1)) : (nm, stOf l nm) ∈ l := by
  unfold stOf
  cases e : l.find? fun p => decide (p.1 = nm) with
  | none =>
    rw [List.find?_eq_none] at e
    obtain ⟨p, hp, h⟩ := List.mem_map.mp m
    exact absurd (decide_eq_true h) (by simpa using e p hp)
  | some p =>
    have h1 := List.mem_of_find?_eq_some e
    have h2 : p.1 = nm := by simpa using List.find?_some e
    subst h2
    exact h1
theorem stOf_at {l : List (Str × Str)} {k : Nat} {p : Str × Str} (nd : (l.map (·.1)).Nodup) (h : l[k]? = some p) : stOf l p.1 = p.2 := by
  have m : p.1 ∈ l.map (·.1) := List.mem_map.mpr ⟨p, List.mem_of_getElem? h, rfl⟩
  have q := stOf_mem m
  obtain ⟨j, hj⟩ := List.mem_iff_getElem?.mp q
  have e1 : (l.map (·.1))[k]? = some p.1 := by rw [List.getElem?_map, h]; rfl
  have e2 : (l.map (·.1))[j]? = some p.1 := by rw [List.getElem?_map, hj]; rfl
  have := nodup_ix nd e1 e2
  subst this
  rw [h] at hj
  have := Option.some.inj hj
  exact (congrArg Prod.snd this).symm
/-- the protocol with an input fixed to a count -/
def fxD (D : DD) (nm : Str) (c : Nat) : DD := ⟨D.st, D.ins.filter fun p => decide (p.1 ≠ nm), D.ld ++ List.replicate c (stOf D.ins nm), D.ru, D.ou⟩
theorem fx_valid {D : DD} {nm : Str} {c : Nat} (v : ValidN D) (m : nm ∈ D.ins.map (·.1)) (h : D.ld.length + c ≤ 10) : ValidN (fxD D nm c) where
  len := v.len
  n400 := v.n400
  nm := v.nm
  nd := v.nd
  ou := v.ou
  n8 := Nat.le_trans (List.length_filter_le _ _) v.n8
  inm := fun p hp => v.inm p (List.mem_filter.mp hp).1
  ind := v.ind.sublist (List.filter_sublist.map _)
  n10 := by
    show (D.ld ++ List.replicate c (stOf D.ins nm)).length ≤ 10
    rw [List.length_append, List.length_replicate]
    exact h
  ldm := fun s hs => by
    rcases List.mem_append.mp hs with hs | hs
    · exact v.ldm s hs
    · rw [List.mem_replicate] at hs
      rw [hs.2]
      exact (v.inm _ (stOf_mem m)).2
  rum := v.rum
  rnd := v.rnd
theorem tups_refs {K : PySem.W.Frag} {H : Hp} : ∀ {xs : List V} {l : List (Str × Str)}, Tups enc2 H xs l → ∃ ps : List Addr, xs = ps.map V.ref ∧ Paired (fun p kv => SqT K H p [kV kv.1, kv.2]) ps (inK l)
  | xs, [], h => by
    have e : xs = [] := List.length_eq_zero_iff.mp (by rw [h.1]; rfl)
    subst e
    exact ⟨[], rfl, .nil⟩
  | xs, p :: l, h => by
    obtain ⟨t, e1, e2⟩ := h.2 0 p rfl
    cases xs with
    | nil => cases e1
    | cons x xs =>
      have ex : x = .ref t := Option.some.inj e1
      subst ex
      have h' : Tups enc2 H xs l := ⟨by have := h.1; simpa using this, fun i a e => by
        obtain ⟨u, u1, u2⟩ := h.2 (i + 1) a (by simpa using e)
        exact ⟨u, by simpa using u1, u2⟩⟩
      obtain ⟨ps, e3, e4⟩ := tups_refs (K := K) h'
      exact ⟨t :: ps, by rw [e3]; rfl, .cons (SqT.of e2) e4⟩
end Vf
namespace Vf
open PySem L2
section
variable {H : Hp} {p : Addr} {n : Int}
theorem PoolAt.bookP {C q : Addr} {a : RA} {D : DD} (P : PoolAt H p n) (S : BookP C H q a D) : BookP C (Er p H) q a D := by
  have P' := P
  obtain ⟨d, ds, h1, _⟩ := P
  have tup : ∀ t ys, H t = some (.tup ys) → Er p H t = some (.tup ys) := fun t ys e => er_ne e h1 (by intro q; cases q)
  obtain ⟨dx, h0⟩ := S.ob
  obtain ⟨x2, ⟨its, h2⟩, T2⟩ := S.ins
  obtain ⟨x4, h4, T4⟩ := S.ru
  exact ⟨⟨dx, er_ne h0 h1 (by intro q; cases q)⟩, tup _ _ S.st, ⟨x2, ⟨its, er_ne h2 h1 (by intro q; cases q)⟩, P'.tups T2⟩, tup _ _ S.ld, ⟨x4, tup _ _ h4, P'.tups T4⟩, tup _ _ S.ou, er_ne S.dn h1 (by intro q; cases q)⟩
end
/-! first places of a protocol with a fixed input -/
theorem putAt_comm (pl : List Int) (i j : Nat) (a b : Int) : putAt (putAt pl i a) j b = putAt (putAt pl j b) i a := by
  refine List.ext_getElem? fun m => ?_
  unfold putAt
  simp only [List.getD_eq_getElem?_getD, List.getElem?_set, List.length_set]
  by_cases e : i = j
  · subst e
    by_cases h : i = m
    · subst h
      by_cases l : i < pl.length
      · simp [l, List.getElem?_set]
        omega
      · simp [l]
    · simp [h]
  · have e' : ¬ j = i := fun x => e x.symm
    by_cases h : i = m
    · subst h
      simp [e, e', List.getElem?_set]
    · by_cases h' : j = m
      · subst h'
        simp [e, e', h, List.getElem?_set]
      · simp [h, h']
theorem putAt_add (pl : List Int) (i : Nat) (a b : Int) : putAt (putAt pl i a) i b = putAt pl i (a + b) := by
  refine List.ext_getElem? fun m => ?_
  unfold putAt
  simp only [List.getD_eq_getElem?_getD, List.getElem?_set, List.length_set]
  by_cases h : i = m
  · subst h
    by_cases l : i < pl.length
    · simp [l, List.getElem?_set]
      omega
    · simp [l]
  · simp [h]
theorem putAt_zero (pl : List Int) (i : Nat) : putAt pl i 0 = pl := by
  refine List.ext_getElem? fun m => ?_
  unfold putAt
  simp only [List.getD_eq_getElem?_getD, List.getElem?_set]
  by_cases h : i = m
  · subst h
    by_cases l : i < pl.length
    · simp [l]
    · simp [l]
  · simp [h]
def adds (us : List (Nat × Int)) (pl : List Int) : List Int := us.foldl (fun pl u => putAt pl u.1 u.2) pl
theorem adds_perm {us vs : List (Nat × Int)} (h : us.Perm vs) (pl : List Int) : adds us pl = adds vs pl :=
  h.foldl_eq' (fun x _ y _ z => putAt_comm z x.1 y.1 x.2 y.2) pl
theorem adds_rep (i : Nat) : ∀ (c : Nat) (pl : List Int), adds (List.replicate c (i, (1 : Int))) pl = putAt pl i (c : Int)
  | 0, pl => (putAt_zero pl i).symm
  | c + 1, pl => by
    show adds (List.replicate c (i, (1 : Int))) (putAt pl i 1) = _
    rw [adds_rep i c, putAt_add]
    congr 1
    omega
theorem firstPl_adds (D : DD) (cs : List Int) : firstPl D cs = adds ((D.ins.zip cs).map (fun pc => (D.st.idxOf pc.1.2, pc.2)) ++ D.ld.map fun s => (D.st.idxOf s, 1)) (List.replicate D.st.length 0) := by
  unfold firstPl ldPl inPl adds
  rw [List.foldl_append, List.foldl_map, List.foldl_map]
theorem filter_cut {l : List (Str × Str)} {k : Nat} {p : Str × Str} (nd : (l.map (·.1)).Nodup) (h : l[k]? = some p) : (l.filter fun q => decide (q.1 ≠ p.1)) = l.take k ++ l.drop (k + 1) := by
  have hk := (List.getElem?_eq_some_iff.mp h).1
  have e : l = l.take k ++ p :: l.drop (k + 1) := by
    have e2 : l.drop k = p :: l.drop (k + 1) := by
      rw [List.drop_eq_getElem_cons hk, (List.getElem?_eq_some_iff.mp h).2]
    rw [← e2, List.take_append_drop]
  have nd' : ((l.take k ++ p :: l.drop (k + 1)).map (·.1)).Nodup := by rw [← e]; exact nd
  rw [List.map_append, List.map_cons, List.nodup_append] at nd'
  obtain ⟨_, n2, n3⟩ := nd'
  rw [List.nodup_cons] at n2
  have f1 : (l.take k).filter (fun q => decide (q.1 ≠ p.1)) = l.take k := List.filter_eq_self.mpr fun q hq => by
    simpa using n3 _ (List.mem_map.mpr ⟨q, hq, rfl⟩) p.1 (by simp)
  have f2 : (l.drop (k + 1)).filter (fun q => decide (q.1 ≠ p.1)) = l.drop (k + 1) := List.filter_eq_self.mpr fun q hq => decide_eq_true fun x => n2.1 (List.mem_map.mpr ⟨q, hq, x⟩)
  conv => lhs; rw [e]
  rw [List.filter_append, List.filter_cons_of_neg (by simp), f1, f2]
theorem first_fix {D : DD} {k : Nat} {p : Str × Str} {c : Nat} {cs : List Int} (nd : (D.ins.map (·.1)).Nodup) (h : D.ins[k]? = some p) (hl : cs.length + 1 = D.ins.length) :
    firstPl (fxD D p.1 c) cs = firstPl D (cs.take k ++ [(c : Int)] ++ cs.drop k) := by
  have hk := (List.getElem?_eq_some_iff.mp h).1
  have e : D.ins = D.ins.take k ++ p :: D.ins.drop (k + 1) := by
    have e2 : D.ins.drop k = p :: D.ins.drop (k + 1) := by
      rw [List.drop_eq_getElem_cons hk, (List.getElem?_eq_some_iff.mp h).2]
    rw [← e2, List.take_append_drop]
  have lk : (D.ins.take k).length = (cs.take k).length := by rw [List.length_take, List.length_take]; omega
  have z1 : D.ins.zip (cs.take k ++ [(c : Int)] ++ cs.drop k) = (D.ins.take k).zip (cs.take k) ++ (p, (c : Int)) :: (D.ins.drop (k + 1)).zip (cs.drop k) := by
    conv => lhs; rw [e]
    rw [List.append_assoc, List.zip_append lk]
    rfl
  have z2 : (D.ins.filter fun q => decide (q.1 ≠ p.1)).zip cs = (D.ins.take k).zip (cs.take k) ++ (D.ins.drop (k + 1)).zip (cs.drop k) := by
    rw [filter_cut nd h]
    conv => lhs; rw [show cs = cs.take k ++ cs.drop k from (List.take_append_drop k cs).symm]
    rw [List.zip_append lk]
  rw [firstPl_adds, firstPl_adds, z1]
  show adds (((D.ins.filter fun q => decide (q.1 ≠ p.1)).zip cs).map (fun pc => (D.st.idxOf pc.1.2, pc.2)) ++ (D.ld ++ List.replicate c (stOf D.ins p.1)).map fun s => (D.st.idxOf s, 1)) (List.replicate D.st.length 0) = _
  rw [z2, stOf_at nd h]
  simp only [List.map_append, List.map_replicate, List.map_cons]
  have e1 : ∀ (A B L : List (Nat × Int)) (i : Nat) (pl : List Int), adds (A ++ B ++ (L ++ List.replicate c (i, 1))) pl = adds (A ++ (i, (c : Int)) :: B ++ L) pl := fun A B L i pl => by
    have p1 : (A ++ B ++ (L ++ List.replicate c (i, (1 : Int)))).Perm (List.replicate c (i, 1) ++ (A ++ B ++ L)) := by
      rw [← List.append_assoc (A ++ B) L]
      exact List.perm_append_comm
    have p2 : (A ++ (i, (c : Int)) :: B ++ L).Perm ((i, (c : Int)) :: (A ++ B ++ L)) := by
      rw [List.append_assoc, List.cons_append, List.append_assoc]
      exact List.perm_middle
    rw [adds_perm p1, adds_perm p2]
    show adds _ _ = adds (A ++ B ++ L) (putAt pl i c)
    rw [← adds_rep i c pl]
    unfold adds
    rw [List.foldl_append]
  exact e1 _ _ _ _ _
theorem ne_two {K : PySem.W.Frag} {H : Hp} {a b : Addr} {s t : Str} {Q : VK} (ha : H a = some (.tup [.str s, .str t])) (hb : H b = some (.tup [.str s, .str t])) (q : Q (.bl false) H) : rEqP K true (.ref a) (.ref b) H Q := by
  have pl : (PyData.tuple [PyData.str s, PyData.str t]).plain = true ∧ (PyData.tuple [PyData.str s, PyData.str t]).depth ≤ 64 := ⟨by simp [PyData.plain, PyData.plainAll], by simp [PyData.depth, PyData.depthAll]⟩
  refine ⟨.tuple [.str s, .str t], .tuple [.str s, .str t], .tup (SqT.of ha) (.cons (.str s) (.cons (.str t) .nil)), .tup (SqT.of hb) (.cons (.str s) (.cons (.str t) .nil)), pl, pl, ?_⟩
  have e : PyData.eqv (.tuple [.str s, .str t]) (.tuple [.str s, .str t]) = true := by simp [PyData.eqv, PyData.eqvAll]
  rw [e]
  exact q
end Vf
namespace Vf
open PySem L2
theorem inB_zzA : ((List.range 3).all fun i => decide (inB.getD i Str.empty ≠ ("zz9" : Str))) = true := by decide +kernel
theorem inB_zz {i : Nat} (hi : i < 3) : inB.getD i Str.empty ≠ ("zz9" : Str) := of_decide_eq_true (List.all_eq_true.mp inB_zzA i (List.mem_range.mpr hi))
theorem nmB_zzA : ((List.range 6).all fun i => (List.range 3).all fun j => decide (nmB.getD i Str.empty ++ nmS.getD j Str.empty ≠ ("zz9" : Str))) = true := by decide +kernel
theorem st_zz {D : DD} (sm : Small D) : ("zz9" : Str) ∉ D.st := fun m => by
  obtain ⟨i, hi⟩ := List.mem_iff_getElem?.mp m
  obtain ⟨j, hj, e⟩ := sm.gn i _ hi
  have il := (List.getElem?_eq_some_iff.mp hi).1
  have h := List.all_eq_true.mp (List.all_eq_true.mp nmB_zzA i (List.mem_range.mpr (Nat.lt_of_lt_of_le il sm.st6))) j (List.mem_range.mpr hj)
  exact of_decide_eq_true h e.symm
end Vf
namespace Vf
open PySem L2
/-! the inputs i0, i1, .. -/
def iN (k : Nat) : Str := ("i" : Str) ++ Str.ofString (toString ((k : Nat) : Int))
theorem iN_all : ((List.range 9).all fun i => isName (iN i) && (List.range 9).all fun j => decide (i = j) || decide (iN i ≠ iN j)) = true := by decide +kernel
theorem iN_name {k : Nat} (h : k < 9) : isName (iN k) = true := by
  have a := List.all_eq_true.mp iN_all k (List.mem_range.mpr h)
  rw [Bool.and_eq_true] at a
  exact a.1
theorem iN_inj {i j : Nat} (hi : i < 9) (hj : j < 9) (e : iN i = iN j) : i = j := by
  have a := List.all_eq_true.mp iN_all i (List.mem_range.mpr hi)
  rw [Bool.and_eq_true] at a
  have b := List.all_eq_true.mp a.2 j (List.mem_range.mpr hj)
  rw [Bool.or_eq_true] at b
  rcases b with b | b
  · exact of_decide_eq_true b
  · exact absurd e (of_decide_eq_true b)
theorem iN_len {k : Nat} (h : k < 9) : (iN k).length ≤ 12 := name_len (iN_name h)
theorem in_valid {D : DD} {I : List (Str × Str)} (v : ValidN D) (h : ∀ i p, I[i]? = some p → p.1 = iN i ∧ p.2 ∈ D.st) (h8 : I.length ≤ 8) : ValidN { D with ins := I } where
  len := v.len
  n400 := v.n400
  nm := v.nm
  nd := v.nd
  ou := v.ou
  n8 := h8
  inm := fun p hp => by
    obtain ⟨i, hi⟩ := List.mem_iff_getElem?.mp hp
    have il : i < I.length := (List.getElem?_eq_some_iff.mp hi).1
    obtain ⟨e1, e2⟩ := h i p hi
    rw [e1]
    exact ⟨iN_name (by omega), e2⟩
  ind := nodup_by (fun s : Str => s) (fun i => iN i) (fun i a e => by
    obtain ⟨p, hp, rfl⟩ := map_get e
    exact (h i p hp).1) fun i j hi hj e => by
      have hi' : i < I.length := by simpa using hi
      have hj' : j < I.length := by simpa using hj
      exact iN_inj (by omega) (by omega) e
  n10 := v.n10
  ldm := v.ldm
  rum := v.rum
  rnd := v.rnd
theorem in_short {D : DD} {I : List (Str × Str)} (Z : Short D) (h : ∀ p ∈ I, p.1.length ≤ 1000000 ∧ p.2.length ≤ 1000000) : Short { D with ins := I } :=
  ⟨Z.st, Z.ou, h, Z.ld, Z.ru, Z.nru⟩
theorem in_bad8 {D : DD} {I : List (Str × Str)} (h : 8 < I.length) : ¬ Valid { D with ins := I } := fun v => by
  have := v.n8
  have : I.length ≤ 8 := this
  omega
end Vf
namespace Vf
open PySem L2
def BadIn (H : Hp) (D : DD) (x : V) : Prop := ∃ (li : Addr) (xi : List V) (I : List (Str × Str)), x = .ref li ∧ H li = some (.lst xi) ∧ Tups enc2 H xi I ∧ (∀ p ∈ I, p.1.length ≤ 1000000 ∧ p.2.length ≤ 1000000) ∧ ¬ Valid { D with ins := I }
theorem BadIn.same {H H' : Hp} {D : DD} {x : V} (b : BadIn H D x) (s : Same H H') : BadIn H' D x := by
  obtain ⟨li, xi, I, e, h, t, r⟩ := b
  exact ⟨li, xi, I, e, s _ _ h, t.same s, r⟩
theorem bad_one {H : Hp} {D : DD} {li t : Addr} {n s : Str} (h : H li = some (.lst [.ref t])) (ht : H t = some (.tup [.str n, .str s])) (l1 : n.length ≤ 1000000) (l2 : s.length ≤ 1000000) (b : isName n = false ∨ s ∉ D.st) : BadIn H D (.ref li) := by
  refine ⟨li, [.ref t], [(n, s)], rfl, h, ⟨rfl, fun i a e => ?_⟩, fun p hp => ?_, fun v => ?_⟩
  · cases i with
    | zero => cases Option.some.inj e; exact ⟨t, rfl, ht⟩
    | succ i => simp at e
  · rw [List.mem_singleton] at hp
    rw [hp]
    exact ⟨l1, l2⟩
  · have q := v.inm (x := (n, s)) (List.mem_singleton.mpr rfl)
    rcases b with b | b
    · have := q.1
      rw [b] at this
      cases this
    · exact b q.2
theorem bad_two {H : Hp} {D : DD} {li t u : Addr} {n s s' : Str} (h : H li = some (.lst [.ref t, .ref u])) (ht : H t = some (.tup [.str n, .str s])) (hu : H u = some (.tup [.str n, .str s'])) (l1 : n.length ≤ 1000000) (l2 : s.length ≤ 1000000) (l3 : s'.length ≤ 1000000) : BadIn H D (.ref li) := by
  refine ⟨li, [.ref t, .ref u], [(n, s), (n, s')], rfl, h, ⟨rfl, fun i a e => ?_⟩, fun p hp => ?_, fun v => ?_⟩
  · match i, e with
    | 0, e => cases Option.some.inj e; exact ⟨t, rfl, ht⟩
    | 1, e => cases Option.some.inj e; exact ⟨u, rfl, hu⟩
    | i + 2, e => simp at e
  · rcases List.mem_cons.mp hp with hp | hp
    · rw [hp]; exact ⟨l1, l2⟩
    · rw [List.mem_singleton] at hp
      rw [hp]
      exact ⟨l1, l3⟩
  · have q := (v.inp (i := 1) (x := (n, s')) rfl).1.2
    exact q (by simp)
theorem last_at {l : List Str} (h : 1 ≤ l.length) : ∃ s, s ∈ l ∧ atI (l.map V.str) (-1) = some (.str s) := by
  obtain ⟨r, a, rfl⟩ : ∃ r a, l = r ++ [a] := by
    rcases List.eq_nil_or_concat l with e | ⟨r, a, e⟩
    · rw [e] at h
      exact absurd h (by decide)
    · exact ⟨r, a, by rw [e]; simp⟩
  refine ⟨a, by simp, ?_⟩
  rw [List.map_append]
  exact atI_last _ _
end Vf

namespace Pf
open PySem L2
def top (i : Nat) : Stmt := PySem.Challenge.pw_mingle_k72_fixed_and_other_inputs.main.body.getD i (.Pass ⟨0, 0, 0, 0⟩)
abbrev s__law_draws : Stmt := (top 26)
abbrev s__law_cell : Stmt := (top 25)
abbrev s__law_pool : Stmt := (top 29)
abbrev s__law_parts : Stmt := (top 27)
abbrev s__demand : Stmt := (top 16)
abbrev s_Draft___init__ : Stmt := (inClass (top 17) 0)
abbrev s_is_name : Stmt := (top 14)
abbrev s_Draft_add_state : Stmt := (inClass (top 17) 1)
abbrev s_Draft__demand_state : Stmt := (inClass (top 17) 5)
abbrev s_Draft_add_input : Stmt := (inClass (top 17) 2)
abbrev s_Draft_add_leader : Stmt := (inClass (top 17) 3)
abbrev s_Draft_add_rule : Stmt := (inClass (top 17) 4)
abbrev s__drafted : Stmt := (top 18)
abbrev s__partners : Stmt := (top 19)
abbrev s_Rulebook___init__ : Stmt := (inClass (top 20) 0)
abbrev s__law_made : Stmt := (top 28)
abbrev s__law_pick : Stmt := (top 30)
abbrev s__law_parts_of : Stmt := (top 31)
abbrev s_UnknownName___init__ : Stmt := (inClass (top 5) 0)
abbrev s_fixed : Stmt := (top 23)
abbrev s__law_told_fixed : Stmt := (top 32)
abbrev s_are_counts : Stmt := (top 15)
abbrev s_Rulebook_first_place : Stmt := (inClass (top 20) 6)
abbrev s_with_inputs : Stmt := (top 22)
abbrev s__law_told_inputs : Stmt := (top 33)
abbrev s_law : Stmt := (top 34)
structure Ad where
  f__law_draws : Addr
  d__law_draws : FuncData
  f__law_cell : Addr
  d__law_cell : FuncData
  f__law_pool : Addr
  d__law_pool : FuncData
  f__law_parts : Addr
  d__law_parts : FuncData
  f__demand : Addr
  d__demand : FuncData
  f_Draft___init__ : Addr
  d_Draft___init__ : FuncData
  f_is_name : Addr
  d_is_name : FuncData
  f_Draft_add_state : Addr
  d_Draft_add_state : FuncData
  f_Draft__demand_state : Addr
  d_Draft__demand_state : FuncData
  f_Draft_add_input : Addr
  d_Draft_add_input : FuncData
  f_Draft_add_leader : Addr
  d_Draft_add_leader : FuncData
  f_Draft_add_rule : Addr
  d_Draft_add_rule : FuncData
  f__drafted : Addr
  d__drafted : FuncData
  f__partners : Addr
  d__partners : FuncData
  f_Rulebook___init__ : Addr
  d_Rulebook___init__ : FuncData
  f__law_made : Addr
  d__law_made : FuncData
  f__law_pick : Addr
  d__law_pick : FuncData
  f__law_parts_of : Addr
  d__law_parts_of : FuncData
  f_UnknownName___init__ : Addr
  d_UnknownName___init__ : FuncData
  cc_UnknownName___init__ : Addr
  cda_UnknownName___init__ : Addr
  f_fixed : Addr
  d_fixed : FuncData
  f__law_told_fixed : Addr
  d__law_told_fixed : FuncData
  f_are_counts : Addr
  d_are_counts : FuncData
  f_Rulebook_first_place : Addr
  d_Rulebook_first_place : FuncData
  f_with_inputs : Addr
  d_with_inputs : FuncData
  f__law_told_inputs : Addr
  d__law_told_inputs : FuncData
  f_law : Addr
  d_law : FuncData
  c_Draft : Addr
  c_Rulebook : Addr
  c_InvalidRulebook : Addr
  c_WrongCounts : Addr
  c_UnknownName : Addr
structure Txt (P : Program) (K : PySem.W.Frag) (mg : Str → Option Value) (A : Ad) : Prop where
  F__law_draws : Fun K "_law_draws" "_law_draws" s__law_draws A.f__law_draws A.d__law_draws
  B__law_draws : Binds K A.d__law_draws ["cell", "count"] []
  G__law_draws : mg "_law_draws" = some (.ref A.f__law_draws)
  F__law_cell : Fun K "_law_cell" "_law_cell" s__law_cell A.f__law_cell A.d__law_cell
  B__law_cell : Binds K A.d__law_cell ["script", "k"] []
  G__law_cell : mg "_law_cell" = some (.ref A.f__law_cell)
  F__law_pool : Fun K "_law_pool" "_law_pool" s__law_pool A.f__law_pool A.d__law_pool
  B__law_pool : Binds K A.d__law_pool ["script"] []
  G__law_pool : mg "_law_pool" = some (.ref A.f__law_pool)
  F__law_parts : Fun K "_law_parts" "_law_parts" s__law_parts A.f__law_parts A.d__law_parts
  B__law_parts : Binds K A.d__law_parts ["cell", "most"] []
  G__law_parts : mg "_law_parts" = some (.ref A.f__law_parts)
  F__demand : Fun K "_demand" "_demand" s__demand A.f__demand A.d__demand
  B__demand : Binds K A.d__demand ["holds", "why"] []
  G__demand : mg "_demand" = some (.ref A.f__demand)
  F_Draft___init__ : Fun K "__init__" "Draft.__init__" s_Draft___init__ A.f_Draft___init__ A.d_Draft___init__
  B_Draft___init__ : Binds K A.d_Draft___init__ ["self"] []
  F_is_name : Fun K "is_name" "is_name" s_is_name A.f_is_name A.d_is_name
  B_is_name : Binds K A.d_is_name ["name"] []
  G_is_name : mg "is_name" = some (.ref A.f_is_name)
  F_Draft_add_state : Fun K "add_state" "Draft.add_state" s_Draft_add_state A.f_Draft_add_state A.d_Draft_add_state
  B_Draft_add_state : Binds K A.d_Draft_add_state ["self", "name", "output"] []
  M_Draft_add_state : Meth K A.c_Draft "add_state" A.f_Draft_add_state
  F_Draft__demand_state : Fun K "_demand_state" "Draft._demand_state" s_Draft__demand_state A.f_Draft__demand_state A.d_Draft__demand_state
  B_Draft__demand_state : Binds K A.d_Draft__demand_state ["self", "name"] []
  M_Draft__demand_state : Meth K A.c_Draft "_demand_state" A.f_Draft__demand_state
  F_Draft_add_input : Fun K "add_input" "Draft.add_input" s_Draft_add_input A.f_Draft_add_input A.d_Draft_add_input
  B_Draft_add_input : Binds K A.d_Draft_add_input ["self", "pair"] []
  M_Draft_add_input : Meth K A.c_Draft "add_input" A.f_Draft_add_input
  F_Draft_add_leader : Fun K "add_leader" "Draft.add_leader" s_Draft_add_leader A.f_Draft_add_leader A.d_Draft_add_leader
  B_Draft_add_leader : Binds K A.d_Draft_add_leader ["self", "state"] []
  M_Draft_add_leader : Meth K A.c_Draft "add_leader" A.f_Draft_add_leader
  F_Draft_add_rule : Fun K "add_rule" "Draft.add_rule" s_Draft_add_rule A.f_Draft_add_rule A.d_Draft_add_rule
  B_Draft_add_rule : Binds K A.d_Draft_add_rule ["self", "rule"] []
  M_Draft_add_rule : Meth K A.c_Draft "add_rule" A.f_Draft_add_rule
  F__drafted : Fun K "_drafted" "_drafted" s__drafted A.f__drafted A.d__drafted
  B__drafted : Binds K A.d__drafted ["states", "inputs", "leaders", "rules", "outputs"] []
  G__drafted : mg "_drafted" = some (.ref A.f__drafted)
  F__partners : Fun K "_partners" "_partners" s__partners A.f__partners A.d__partners
  B__partners : Binds K A.d__partners ["results", "many"] []
  G__partners : mg "_partners" = some (.ref A.f__partners)
  F_Rulebook___init__ : Fun K "__init__" "Rulebook.__init__" s_Rulebook___init__ A.f_Rulebook___init__ A.d_Rulebook___init__
  B_Rulebook___init__ : Binds K A.d_Rulebook___init__ ["self", "states", "inputs", "leaders", "rules", "outputs"] []
  F__law_made : Fun K "_law_made" "_law_made" s__law_made A.f__law_made A.d__law_made
  B__law_made : Binds K A.d__law_made ["parts"] []
  G__law_made : mg "_law_made" = some (.ref A.f__law_made)
  F__law_pick : Fun K "_law_pick" "_law_pick" s__law_pick A.f__law_pick A.d__law_pick
  B__law_pick : Binds K A.d__law_pick ["pool", "many"] []
  G__law_pick : mg "_law_pick" = some (.ref A.f__law_pick)
  F__law_parts_of : Fun K "_law_parts_of" "_law_parts_of" s__law_parts_of A.f__law_parts_of A.d__law_parts_of
  B__law_parts_of : Binds K A.d__law_parts_of ["made"] []
  G__law_parts_of : mg "_law_parts_of" = some (.ref A.f__law_parts_of)
  D_UnknownName___init__ : Vf.InitAt P K "UnknownName.__init__" s_UnknownName___init__ A.c_UnknownName A.f_UnknownName___init__ A.cc_UnknownName___init__ A.cda_UnknownName___init__ A.d_UnknownName___init__
  B_UnknownName___init__ : Binds K A.d_UnknownName___init__ ["self", "name"] []
  O_UnknownName : OexC K A.c_UnknownName
  S_UnknownName : Vf.SupCls K A.c_UnknownName
  X_UnknownName : XfC K A.c_UnknownName
  I_UnknownName : PySem.W.findIn K (.ref A.c_UnknownName) "__init__" = some (some (.ref A.f_UnknownName___init__))
  Y_UnknownName : PySem.W.typeIn K (.ref A.f_UnknownName___init__) = some (.type "function")
  N_UnknownName_name : PySem.W.findIn K (.ref A.c_UnknownName) "name" = some none
  F_fixed : Fun K "fixed" "fixed" s_fixed A.f_fixed A.d_fixed
  B_fixed : Binds K A.d_fixed ["protocol", "name", "count"] []
  G_fixed : mg "fixed" = some (.ref A.f_fixed)
  F__law_told_fixed : Fun K "_law_told_fixed" "_law_told_fixed" s__law_told_fixed A.f__law_told_fixed A.d__law_told_fixed
  B__law_told_fixed : Binds K A.d__law_told_fixed ["made", "name", "count"] []
  G__law_told_fixed : mg "_law_told_fixed" = some (.ref A.f__law_told_fixed)
  F_are_counts : Fun K "are_counts" "are_counts" s_are_counts A.f_are_counts A.d_are_counts
  B_are_counts : Binds K A.d_are_counts ["counts", "many"] []
  G_are_counts : mg "are_counts" = some (.ref A.f_are_counts)
  F_Rulebook_first_place : Fun K "first_place" "Rulebook.first_place" s_Rulebook_first_place A.f_Rulebook_first_place A.d_Rulebook_first_place
  B_Rulebook_first_place : Binds K A.d_Rulebook_first_place ["self", "counts"] []
  M_Rulebook_first_place : Meth K A.c_Rulebook "first_place" A.f_Rulebook_first_place
  F_with_inputs : Fun K "with_inputs" "with_inputs" s_with_inputs A.f_with_inputs A.d_with_inputs
  B_with_inputs : Binds K A.d_with_inputs ["protocol", "inputs"] []
  G_with_inputs : mg "with_inputs" = some (.ref A.f_with_inputs)
  F__law_told_inputs : Fun K "_law_told_inputs" "_law_told_inputs" s__law_told_inputs A.f__law_told_inputs A.d__law_told_inputs
  B__law_told_inputs : Binds K A.d__law_told_inputs ["made", "inputs"] []
  G__law_told_inputs : mg "_law_told_inputs" = some (.ref A.f__law_told_inputs)
  F_law : Fun K "law" "law" s_law A.f_law A.d_law
  G_law : mg "law" = some (.ref A.f_law)
  C_Draft : Cls K A.c_Draft
  G_Draft : mg "Draft" = some (.ref A.c_Draft)
  K_Draft : Mk K A.c_Draft A.f_Draft___init__
  A_Draft_inputs : NoAttr K A.c_Draft "inputs"
  A_Draft_leaders : NoAttr K A.c_Draft "leaders"
  A_Draft_numbers : NoAttr K A.c_Draft "numbers"
  A_Draft_outputs : NoAttr K A.c_Draft "outputs"
  A_Draft_results : NoAttr K A.c_Draft "results"
  A_Draft_rules : NoAttr K A.c_Draft "rules"
  A_Draft_states : NoAttr K A.c_Draft "states"
  C_Rulebook : Cls K A.c_Rulebook
  G_Rulebook : mg "Rulebook" = some (.ref A.c_Rulebook)
  K_Rulebook : Mk K A.c_Rulebook A.f_Rulebook___init__
  A_Rulebook__numbers : NoAttr K A.c_Rulebook "_numbers"
  A_Rulebook__results : NoAttr K A.c_Rulebook "_results"
  A_Rulebook__rows : NoAttr K A.c_Rulebook "_rows"
  A_Rulebook_inputs : NoAttr K A.c_Rulebook "inputs"
  A_Rulebook_leaders : NoAttr K A.c_Rulebook "leaders"
  A_Rulebook_outputs : NoAttr K A.c_Rulebook "outputs"
  A_Rulebook_rules : NoAttr K A.c_Rulebook "rules"
  A_Rulebook_states : NoAttr K A.c_Rulebook "states"
  G_InvalidRulebook : mg "InvalidRulebook" = some (.ref A.c_InvalidRulebook)
  x_InvalidRulebook : PySem.W.excIn K A.c_InvalidRulebook [.type "ValueError", .type "Exception", .type "BaseException", .type "object"] "ValueError.__new__" = true
  k_InvalidRulebook : PySem.W.keepIn K (.ref A.c_InvalidRulebook) = true
  b_InvalidRulebook : PySem.W.subIn K (.ref A.c_InvalidRulebook) (.type "BaseException") = some true
  t_InvalidRulebook : PySem.W.typeIn K (.ref A.c_InvalidRulebook) = some (.type "type")
  e_InvalidRulebook : PySem.W.exmOne K (.ref A.c_InvalidRulebook) (.ref A.c_InvalidRulebook) = some true
  G_WrongCounts : mg "WrongCounts" = some (.ref A.c_WrongCounts)
  x_WrongCounts : PySem.W.excIn K A.c_WrongCounts [.type "ValueError", .type "Exception", .type "BaseException", .type "object"] "ValueError.__new__" = true
  k_WrongCounts : PySem.W.keepIn K (.ref A.c_WrongCounts) = true
  b_WrongCounts : PySem.W.subIn K (.ref A.c_WrongCounts) (.type "BaseException") = some true
  t_WrongCounts : PySem.W.typeIn K (.ref A.c_WrongCounts) = some (.type "type")
  e_WrongCounts : PySem.W.exmOne K (.ref A.c_WrongCounts) (.ref A.c_WrongCounts) = some true
  G_UnknownName : mg "UnknownName" = some (.ref A.c_UnknownName)
  k_UnknownName : PySem.W.keepIn K (.ref A.c_UnknownName) = true
  b_UnknownName : PySem.W.subIn K (.ref A.c_UnknownName) (.type "BaseException") = some true
  t_UnknownName : PySem.W.typeIn K (.ref A.c_UnknownName) = some (.type "type")
  e_UnknownName : PySem.W.exmOne K (.ref A.c_UnknownName) (.ref A.c_UnknownName) = some true
  e_WrongCounts_UnknownName : PySem.W.exmOne K (.ref A.c_WrongCounts) (.ref A.c_UnknownName) = some false
  e_InvalidRulebook_UnknownName : PySem.W.exmOne K (.ref A.c_InvalidRulebook) (.ref A.c_UnknownName) = some false
  e_InvalidRulebook_WrongCounts : PySem.W.exmOne K (.ref A.c_InvalidRulebook) (.ref A.c_WrongCounts) = some false
  N_all : mg "all" = none
  N_dict : mg "dict" = none
  N_int : mg "int" = none
  N_isinstance : mg "isinstance" = none
  N_len : mg "len" = none
  N_list : mg "list" = none
  N_min : mg "min" = none
  N_range : mg "range" = none
  N_sorted : mg "sorted" = none
  N_str : mg "str" = none
  N_super : mg "super" = none
  N_tuple : mg "tuple" = none
  N_zip : mg "zip" = none
  V_DIGITS : ∃ t, mg "DIGITS" = some (.str "0123456789" t)
  V_GREATEST_OUTPUT : ∃ t, mg "GREATEST_OUTPUT" = some (.int 9 t)
  V_LETTERS : ∃ t, mg "LETTERS" = some (.str "abcdefghijklmnopqrstuvwxyz" t)
  V_LONGEST_NAME : ∃ t, mg "LONGEST_NAME" = some (.int 12 t)
  V_MOST_INPUTS : ∃ t, mg "MOST_INPUTS" = some (.int 8 t)
  V_MOST_LEADERS : ∃ t, mg "MOST_LEADERS" = some (.int 10 t)
  V_MOST_STATES : ∃ t, mg "MOST_STATES" = some (.int 400 t)
section
variable {P : Program} {w : World} {K : PySem.W.Frag} {mg : Str → Option Value} {base : Heap}
theorem sc__law_draws : FnScope ["cell", "count", "rows", "left", "k", "mixed"] ["cell", "count"] (defScope s__law_draws) := ⟨rfl, rfl, rfl, by decide +kernel, rfl, by decide +kernel, by decide +kernel⟩
theorem sc__law_cell : FnScope ["script", "k"] ["script", "k"] (defScope s__law_cell) := ⟨rfl, rfl, rfl, by decide +kernel, rfl, by decide +kernel, by decide +kernel⟩
theorem sc__law_pool : FnScope ["script", "draws", "k"] ["script"] (defScope s__law_pool) := ⟨rfl, rfl, rfl, by decide +kernel, rfl, by decide +kernel, by decide +kernel⟩
theorem sc__law_parts : FnScope ["cell", "most", "draws", "count", "names", "outputs", "inputs", "leaders", "rules", "share", "first", "second", "draw", "third", "fourth", "turn", "k"] ["cell", "most"] (defScope s__law_parts) := ⟨rfl, rfl, rfl, by decide +kernel, rfl, by decide +kernel, by decide +kernel⟩
theorem sc__demand : FnScope ["holds", "why"] ["holds", "why"] (defScope s__demand) := ⟨rfl, rfl, rfl, by decide +kernel, rfl, by decide +kernel, by decide +kernel⟩
theorem sc_Draft___init__ : FnScope ["self"] ["self"] (defScope s_Draft___init__) := ⟨rfl, rfl, rfl, by decide +kernel, rfl, by decide +kernel, by decide +kernel⟩
theorem sc_is_name : FnScope ["name", "sign"] ["name"] (defScope s_is_name) := ⟨rfl, rfl, rfl, by decide +kernel, rfl, by decide +kernel, by decide +kernel⟩
theorem sc_Draft_add_state : FnScope ["self", "name", "output"] ["self", "name", "output"] (defScope s_Draft_add_state) := ⟨rfl, rfl, rfl, by decide +kernel, rfl, by decide +kernel, by decide +kernel⟩
theorem sc_Draft__demand_state : FnScope ["self", "name"] ["self", "name"] (defScope s_Draft__demand_state) := ⟨rfl, rfl, rfl, by decide +kernel, rfl, by decide +kernel, by decide +kernel⟩
theorem sc_Draft_add_input : FnScope ["self", "pair", "name", "state", "known", "_"] ["self", "pair"] (defScope s_Draft_add_input) := ⟨rfl, rfl, rfl, by decide +kernel, rfl, by decide +kernel, by decide +kernel⟩
theorem sc_Draft_add_leader : FnScope ["self", "state"] ["self", "state"] (defScope s_Draft_add_leader) := ⟨rfl, rfl, rfl, by decide +kernel, rfl, by decide +kernel, by decide +kernel⟩
theorem sc_Draft_add_rule : FnScope ["self", "rule", "state", "first", "second", "third", "fourth"] ["self", "rule"] (defScope s_Draft_add_rule) := ⟨rfl, rfl, rfl, by decide +kernel, rfl, by decide +kernel, by decide +kernel⟩
theorem sc__drafted : FnScope ["states", "inputs", "leaders", "rules", "outputs", "draft", "name", "output", "pair", "state", "rule"] ["states", "inputs", "leaders", "rules", "outputs"] (defScope s__drafted) := ⟨rfl, rfl, rfl, by decide +kernel, rfl, by decide +kernel, by decide +kernel⟩
theorem sc__partners : FnScope ["results", "many", "rows", "pair", "_", "row"] ["results", "many"] (defScope s__partners) := ⟨rfl, rfl, rfl, by decide +kernel, rfl, by decide +kernel, by decide +kernel⟩
theorem sc_Rulebook___init__ : FnScope ["self", "states", "inputs", "leaders", "rules", "outputs", "draft"] ["self", "states", "inputs", "leaders", "rules", "outputs"] (defScope s_Rulebook___init__) := ⟨rfl, rfl, rfl, by decide +kernel, rfl, by decide +kernel, by decide +kernel⟩
theorem sc__law_made : FnScope ["parts"] ["parts"] (defScope s__law_made) := ⟨rfl, rfl, rfl, by decide +kernel, rfl, by decide +kernel, by decide +kernel⟩
theorem sc__law_pick : FnScope ["pool", "many", "at", "turn"] ["pool", "many"] (defScope s__law_pick) := ⟨rfl, rfl, rfl, by decide +kernel, rfl, by decide +kernel, by decide +kernel⟩
theorem sc__law_parts_of : FnScope ["made"] ["made"] (defScope s__law_parts_of) := ⟨rfl, rfl, rfl, by decide +kernel, rfl, by decide +kernel, by decide +kernel⟩
theorem sc_UnknownName___init__ : NdefX.NScope ["self", "name", "__class__"] ["self", "name"] ["__class__"] (defScope s_UnknownName___init__) := NdefX.nscope_by (by decide +kernel)
theorem sc_fixed : FnScope ["protocol", "name", "count", "states", "inputs", "leaders", "pair"] ["protocol", "name", "count"] (defScope s_fixed) := ⟨rfl, rfl, rfl, by decide +kernel, rfl, by decide +kernel, by decide +kernel⟩
theorem sc__law_told_fixed : FnScope ["made", "name", "count", "e"] ["made", "name", "count"] (defScope s__law_told_fixed) := ⟨rfl, rfl, rfl, by decide +kernel, rfl, by decide +kernel, by decide +kernel⟩
theorem sc_are_counts : FnScope ["counts", "many"] ["counts", "many"] (defScope s_are_counts) := ⟨rfl, rfl, rfl, by decide +kernel, rfl, by decide +kernel, by decide +kernel⟩
theorem sc_Rulebook_first_place : FnScope ["self", "counts", "place", "_", "state", "count"] ["self", "counts"] (defScope s_Rulebook_first_place) := ⟨rfl, rfl, rfl, by decide +kernel, rfl, by decide +kernel, by decide +kernel⟩
theorem sc_with_inputs : FnScope ["protocol", "inputs"] ["protocol", "inputs"] (defScope s_with_inputs) := ⟨rfl, rfl, rfl, by decide +kernel, rfl, by decide +kernel, by decide +kernel⟩
theorem sc__law_told_inputs : FnScope ["made", "inputs"] ["made", "inputs"] (defScope s__law_told_inputs) := ⟨rfl, rfl, rfl, by decide +kernel, rfl, by decide +kernel, by decide +kernel⟩
theorem sc_law : FnScope ["script", "pool", "turn", "parts", "made", "count", "k", "rest", "due", "counts", "inputs", "bad", "row"] ["script"] (defScope s_law) := ⟨rfl, rfl, rfl, by decide +kernel, rfl, by decide +kernel, by decide +kernel⟩
end
local macro_rules | `(tactic| walk_at "hp") => `(tactic| ((try dsimp only); repeat (first | exact upd_same | assumption | (rw [upd_ne] <;> first | (show _ ≠ _; first | assumption | exact Ne.symm (by assumption)) | skip))))
local macro_rules | `(tactic| walk_at "sm") => `(tactic| first | with_reducible assumption | (with_reducible refine Vf.sm_num ?_; first | with_reducible assumption | decide +kernel) | (with_reducible refine Vf.sm_lit ?_; decide +kernel))
local macro_rules | `(tactic| walk_at "fit") => `(tactic| first | (with_reducible refine Vf.fit1 ?_ <;> walk_at "sm") | (with_reducible refine Vf.fit2 ?_ ?_ <;> walk_at "sm") | (with_reducible refine Vf.fit3 ?_ ?_ ?_ <;> walk_at "sm") | (with_reducible refine Vf.fit4 ?_ ?_ ?_ ?_ <;> walk_at "sm") | (with_reducible refine Vf.fit5 ?_ ?_ ?_ ?_ ?_ <;> walk_at "sm") | (with_reducible refine Vf.fit6 ?_ ?_ ?_ ?_ ?_ ?_ <;> walk_at "sm") | (with_reducible refine Vf.fit7 ?_ ?_ ?_ ?_ ?_ ?_ ?_ <;> walk_at "sm") | (with_reducible refine Vf.fit8 ?_ ?_ ?_ ?_ ?_ ?_ ?_ ?_ <;> walk_at "sm") | (with_reducible refine Vf.fit9 ?_ ?_ ?_ ?_ ?_ ?_ ?_ ?_ ?_ <;> walk_at "sm") | (with_reducible refine Vf.fit10 ?_ ?_ ?_ ?_ ?_ ?_ ?_ ?_ ?_ ?_ <;> walk_at "sm"))
def sp__law_draws (K : PySem.W.Frag) (A : Ad) : Sp := fun vs H Q _ => ∃ (cell count : Int), vs = [.int cell, .int count] ∧ 0 ≤ count ∧ count ≤ 10000 ∧ Vf.NewInts H Q fun ds => (ds.length : Int) = count ∧ ∀ d ∈ ds, 0 ≤ d ∧ d < 4096
theorem len__law_draws {K : PySem.W.Frag} {A : Ad} (vs : List V) (H : Hp) (Q : VK) (E : XK) (h : sp__law_draws K A vs H Q E) : vs.length = ["cell", "count"].length := by
  obtain ⟨a, b, rfl, _⟩ := h
  rfl

section
variable {P : Program} {w : World} {K : PySem.W.Frag} {mg : Str → Option Value} {base : Heap}
set_option maxHeartbeats 4000000 in
theorem ok__law_draws {A : Ad} (T : Txt P K mg A) : FnOk P w K mg base CX0 1 A.f__law_draws A.d__law_draws ["cell", "count"] (sp__law_draws K A) := by
  refine T.F__law_draws.ok sc__law_draws len__law_draws (fun cdv Ar outer s H vs Q E hr h => ?_)
  have hu := hu_of hr
  obtain ⟨cell, count, rfl, h0, h1, q⟩ := h
  refine ⟨_, (pss_cons (ps_set (i := 2) sc__law_draws.nd rfl (Or.inl rfl) (pe_lst pa_nil))
      (pss_cons (ps_set (i := 3) sc__law_draws.nd rfl (Or.inl rfl) (pv 0))
      (pss_cons (ps_for PassesOwn.never rfl (pi_range1 rfl T.N_range (pa_cons (pv 1) pa_nil)) (pg_name (i := 4) sc__law_draws.nd rfl (Or.inl rfl))
        (pss_one (ps_if (PW.pt (pw_and (pt_cmpR op_ge (pv 0) (pe_op op_pow pe_int pe_int) (nomark _)) (pw_and1 (pt_cmpR op_gt (pv 3) pe_int (nomark _))))) (pss_cons (ps_expr (pe_bm PySem.F.plainAttrs_list PySem.F.slot_list_append PySem.F.type_list_append mt_append (pv 2) (pa_cons (pe_op op_mod (pe_callTy call_int1 (by rfl) T.N_int (by decide +kernel) (pa_cons (pv 3) pa_nil)) pe_int) pa_nil)))
      (pss_one (ps_set (i := 3) sc__law_draws.nd rfl (Or.inl rfl) (pe_op op_fdiv (pv 3) pe_int)))) (pss_cons (ps_set (i := 5) sc__law_draws.nd rfl (Or.inl rfl) (pe_op op_mod (pe_callTy call_int1 (by rfl) T.N_int (by decide +kernel) (pa_cons (pe_op op_add (pe_op op_mul (pv 0) pe_int) (pe_op op_mul (pe_op op_add (pv 4) pe_int) pe_int)) pa_nil)) pe_int))
      (pss_cons (ps_set (i := 5) sc__law_draws.nd rfl (Or.inl rfl) (pe_op op_mod (pe_callTy call_int1 (by rfl) T.N_int (by decide +kernel) (pa_cons (pe_op op_add (pe_op op_add (pe_op op_mul (pv 5) (pv 5)) (pe_op op_mul (pv 5) pe_int)) (pe_op op_mul (pv 4) pe_int)) pa_nil)) pe_int))
      (pss_cons (ps_set (i := 5) sc__law_draws.nd rfl (Or.inl rfl) (pe_op op_mod (pe_callTy call_int1 (by rfl) T.N_int (by decide +kernel) (pa_cons (pe_op op_add (pe_op op_add (pe_op op_mul (pv 5) (pv 5)) (pv 0)) (pe_op op_mul pe_int (pv 4))) pa_nil)) pe_int))
      (pss_one (ps_expr (pe_bm PySem.F.plainAttrs_list PySem.F.slot_list_append PySem.F.type_list_append mt_append (pv 2) (pa_cons (pe_op op_mod (pe_op op_fdiv (pv 5) pe_int) pe_int) pa_nil))))))))))
      (pss_one (ps_ret (pv 2)))))), ?_⟩
  refine ⟨(by show 0 ≤ sizeLine; decide), fun p hp => ?_⟩
  refine ⟨_, rfl, _, rfl, count, rfl, by omega, by omega, for_range (lo := 0) (n := count.toNat) (fun i σ H' => ∃ (ds : List Int) (left : Int) (k m : Option V), σ = [some (.int cell), some (.int count), some (.ref p), some (.int left), k, m] ∧ Same H H' ∧ H' p = some (.lst (ds.map V.int)) ∧ ds.length = i ∧ ∀ d ∈ ds, 0 ≤ d ∧ d < 4096) ?_ ?_ ?_⟩
  · exact ⟨[], cell, none, none, rfl, Vf.Same.new (Same.refl H) hp, upd_same, rfl, fun d hd => nomatch hd⟩
  · rintro i σ H' hi ⟨ds, left, k, m, rfl, s1, hl, rfl, hr1⟩
    -- the word again, with one more
    have fin : ∀ (z left' : Int) (m' : Option V), 0 ≤ z → z < 4096 → ∃ (ds' : List Int) (l' : Int) (k' m'' : Option V), [some (V.int cell), some (.int count), some (.ref p), some (.int left'), some (.int (0 + (ds.length : Int))), m'] = [some (.int cell), some (.int count), some (.ref p), some (.int l'), k', m''] ∧
        Same H (upd H' p (.lst (ds.map V.int ++ [V.int z]))) ∧ (upd H' p (.lst (ds.map V.int ++ [V.int z]))) p = some (.lst (ds'.map V.int)) ∧ ds'.length = ds.length + 1 ∧ ∀ d ∈ ds', 0 ≤ d ∧ d < 4096 := by
      intro z left' m' z0 z1
      refine ⟨ds ++ [z], left', _, m', rfl, Vf.Same.chg s1 hp, by rw [upd_same, List.map_append]; rfl, by simp, fun d hd => ?_⟩
      rcases List.mem_append.mp hd with hd | hd
      · exact hr1 d hd
      · obtain rfl : d = z := by simpa using hd
        exact ⟨z0, z1⟩
    have big : (ds.map V.int).length < sizeLine := by rw [List.length_map]; exact Nat.lt_of_lt_of_le (show ds.length < 10000 by omega) (by decide)
    refine Vf.st_if (b := decide ((10 : Int) ^ (18 : Int).toNat ≤ cell) && decide ((0 : Int) < left)) (ans_and2 (fun Q q => ⟨_, rfl, _, _, rfl, rfl, ⟨by decide, by decide, by decide⟩, _, _, rfl, rfl, _, rfl, q⟩) (fun Q q => ⟨_, rfl, _, _, rfl, rfl, _, rfl, q⟩)) (fun hb => ?_) (fun hb => ?_)
    · refine ⟨_, rfl, .inl ⟨rfl, _, SqL.of hl⟩, _, rfl, .inl ⟨_, rfl, _, _, rfl, rfl, (by show (0 : Int) < 4096; decide), p, _, _, rfl, rfl, hl, big, ?_⟩⟩
      refine ⟨_, rfl, _, _, rfl, rfl, ⟨by decide, by decide⟩, ?_⟩
      exact fin _ _ _ (Int.emod_nonneg _ (by decide)) (Int.emod_lt_of_pos _ (by decide))
    · refine ⟨_, rfl, _, _, rfl, rfl, .inr ⟨by decide, by decide⟩, _, rfl, _, _, rfl, rfl, _, _, rfl, rfl, .inr ⟨by decide, by decide⟩, _, _, rfl, rfl, .inl ⟨_, rfl, _, _, rfl, rfl, (by show (0 : Int) < 2147483647; decide), ?_⟩⟩
      refine ⟨_, rfl, _, rfl, _, _, rfl, rfl, .inl (Vf.mod_w (by decide) (by decide)), _, rfl, _, _, rfl, rfl, .inl (Vf.mod_w (by decide) (by decide)), _, _, rfl, rfl, _, rfl, _, _, rfl, rfl, .inr ⟨by decide, by decide⟩, _, _, rfl, rfl, .inl ⟨_, rfl, _, _, rfl, rfl, (by show (0 : Int) < 2147483629; decide), ?_⟩⟩
      refine ⟨_, rfl, _, rfl, _, _, rfl, rfl, .inl (Vf.mod_w (by decide) (by decide)), _, rfl, _, _, rfl, rfl, _, rfl, _, _, rfl, rfl, .inl ⟨by decide, by decide⟩, _, _, rfl, rfl, .inl ⟨_, rfl, _, _, rfl, rfl, (by show (0 : Int) < 2147483587; decide), ?_⟩⟩
      refine ⟨_, rfl, .inl ⟨rfl, _, SqL.of hl⟩, _, rfl, _, _, rfl, rfl, ⟨by decide, by decide⟩, _, _, rfl, rfl, (by show (0 : Int) < 4096; decide), p, _, _, rfl, rfl, hl, big, ?_⟩
      exact fin _ _ _ (Int.emod_nonneg _ (by decide)) (Int.emod_lt_of_pos _ (by decide))
  · rintro σ H' ⟨ds, left, k, m, rfl, s1, hl, hn, hr1⟩
    exact ⟨_, rfl, q p H' ds hp s1 hl ⟨by omega, hr1⟩⟩
end

def sp__law_cell (K : PySem.W.Frag) (A : Ad) : Sp := fun vs H Q _ => ∃ (a : Addr) (ns : List Int) (k : Int), vs = [.ref a, .int k] ∧ SqL K H a (ns.map V.int) ∧ 0 ≤ k ∧ Q (.int (ns.getD k.toNat 0)) H
theorem len__law_cell {K : PySem.W.Frag} {A : Ad} (vs : List V) (H : Hp) (Q : VK) (E : XK) (h : sp__law_cell K A vs H Q E) : vs.length = ["script", "k"].length := by
  obtain ⟨a, ns, k, rfl, _⟩ := h
  rfl

section
variable {P : Program} {w : World} {K : PySem.W.Frag} {mg : Str → Option Value} {base : Heap}
set_option maxHeartbeats 4000000 in
theorem ok__law_cell {A : Ad} (T : Txt P K mg A) : FnOk P w K mg base CX0 1 A.f__law_cell A.d__law_cell ["script", "k"] (sp__law_cell K A) := by
  refine T.F__law_cell.ok sc__law_cell len__law_cell (fun cdv Ar outer s H vs Q E hr h => ?_)
  have hu := hu_of hr
  obtain ⟨a, ns, k, rfl, hS, h0, q⟩ := h
  refine ⟨_, (pss_cons (ps_if (pt_cmpR op_lt (pv 1) (pe_callB call_len_seq (by rfl) T.N_len PySem.boot_len (pa_cons (pv 0) pa_nil)) (nomark _)) (pss_one (ps_ret (pe_ix ix_list (pv 0) (pv 1) (fun _ _ => rfl)))) pss_nil)
      (pss_one (ps_ret pe_int))), ?_⟩
  refine ⟨_, rfl, _, rfl, a, _, rfl, .inl hS, _, _, rfl, rfl, _, rfl, ?_⟩
  refine Vf.ite_d (fun h1 => ?_) (fun h1 => ?_)
  · rw [List.length_map] at h1
    exact ⟨_, rfl, _, rfl, a, _, _, _, rfl, rfl, hS, Vf.int_at h0 h1, q⟩
  · rw [List.length_map] at h1
    have e : ns.getD k.toNat 0 = 0 := by
      rw [List.getD_eq_getElem?_getD, List.getElem?_eq_none (by omega)]
      rfl
    rw [e] at q
    exact q
end

def sp__law_pool (K : PySem.W.Frag) (A : Ad) : Sp := fun vs H Q _ => ∃ (a : Addr) (ns : List Int), vs = [.ref a] ∧ SqL K H a (ns.map V.int) ∧ ∀ (p : Addr) (H' : Hp), H p = none → Same H H' → Vf.PoolAt H' p 0 → Q (.ref p) H'
theorem len__law_pool {K : PySem.W.Frag} {A : Ad} (vs : List V) (H : Hp) (Q : VK) (E : XK) (h : sp__law_pool K A vs H Q E) : vs.length = ["script"].length := by
  obtain ⟨a, b, rfl, _⟩ := h
  rfl

section
variable {P : Program} {w : World} {K : PySem.W.Frag} {mg : Str → Option Value} {base : Heap}
set_option maxHeartbeats 4000000 in
theorem ok__law_pool {A : Ad} (T : Txt P K mg A) : FnOk P w K mg base CX0 2 A.f__law_pool A.d__law_pool ["script"] (sp__law_pool K A) := by
  have G__law_draws := ok__law_draws (P := P) (w := w) (base := base) T
  have G__law_cell := ok__law_cell (P := P) (w := w) (base := base) T
  refine T.F__law_pool.ok sc__law_pool len__law_pool (fun cdv Ar outer s H vs Q E hr h => ?_)
  have hu := hu_of hr
  obtain ⟨a, ns, rfl, hS, q⟩ := h
  refine ⟨_, (pss_cons (ps_set (i := 1) sc__law_pool.nd rfl (Or.inl rfl) (pe_lst pa_nil))
      (pss_cons (ps_for PassesOwn.never rfl (pi_range1 rfl T.N_range (pa_cons pe_int pa_nil)) (pg_name (i := 2) sc__law_pool.nd rfl (Or.inl rfl))
        (pss_one (ps_set (i := 1) sc__law_pool.nd rfl (Or.inl rfl) (pe_op op_cat (pv 1) (pe_call G__law_draws hr (by rfl) T.G__law_draws T.F__law_draws.kp T.B__law_draws .nil pass0 (pa_cons (pe_call G__law_cell hr (by rfl) T.G__law_cell T.F__law_cell.kp T.B__law_cell .nil pass0 (pa_cons (pv 0) (pa_cons (pv 2) pa_nil))) (pa_cons pe_int pa_nil)))))))
      (pss_one (ps_ret (pe_lst (pa_cons (pv 1) (pa_cons pe_int pa_nil))))))), ?_⟩
  refine ⟨(by show 0 ≤ sizeLine; decide), fun l0 n0 => ?_⟩
  refine ⟨_, rfl, by decide, by decide, for_range (lo := 0) (n := ((4 : Int)).toNat) (fun i σ H' => ∃ (l : Addr) (ds : List Int) (k : Option V), σ = [some (.ref a), some (.ref l), k] ∧ Same H H' ∧ H l = none ∧ H' l = some (.lst (ds.map V.int)) ∧ ds.length = 40 * i ∧ ∀ d ∈ ds, 0 ≤ d ∧ d < 4096) ?_ ?_ ?_⟩
  · exact ⟨l0, [], none, rfl, Vf.Same.new (Same.refl H) n0, n0, upd_same, rfl, fun d hd => nomatch hd⟩
  · rintro i σ H' hi ⟨l, ds, k, rfl, s1, nl, hl, hlen, hr1⟩
    have hi4 : i < 4 := hi
    refine ⟨_, rfl, _, rfl, _, rfl, a, ns, _, rfl, s1.seq hS, by omega, _, 40, rfl, by decide, by decide, fun p H2 es np s2 hp ⟨el, eb⟩ => ?_⟩
    refine ⟨l, p, _, _, rfl, rfl, s2 _ _ hl, hp, ?_, fun t nt => ?_⟩
    · rw [List.length_map, List.length_map]
      exact Nat.le_trans (show ds.length + es.length ≤ 200 by omega) (by decide)
    · have s3 := Vf.Same.new (o := .lst (ds.map V.int ++ es.map V.int)) (s1.trans s2) nt
      refine ⟨t, ds ++ es, _, rfl, s3, (s1.trans s2).free nt, ?_, ?_, fun d hd => ?_⟩
      · rw [upd_same, List.map_append]
      · rw [List.length_append]
        omega
      · rcases List.mem_append.mp hd with hd | hd
        · exact hr1 d hd
        · exact eb d hd
  · rintro σ H' ⟨l, ds, k, rfl, s1, nl, hl, hlen, hr1⟩
    refine ⟨_, rfl, (by show 2 ≤ sizeLine; decide), fun p np => ?_⟩
    have np' := s1.free np
    have ne : l ≠ p := fun e => by rw [e, np] at hl; cases hl
    refine q p _ np' (Vf.Same.new s1 np) ⟨l, ds, upd_same, ?_, ne, hlen, hr1⟩
    rw [upd_ne ne]
    exact hl
end

def sp__law_parts (K : PySem.W.Frag) (A : Ad) : Sp := fun vs H Q _ => ∃ (cell most : Int), vs = [.int cell, .int most] ∧ 1 ≤ most ∧ most ≤ 6 ∧
  ∀ (p : Addr) (H' : Hp) (D : Vf.DD), Vf.PartsAt H' p D → Vf.ValidN D → (Vf.Small D ∧ ∀ p ∈ D.ins, p.1 ≠ "zz9") → Same H H' → H p = none → Q (.ref p) H'
theorem len__law_parts {K : PySem.W.Frag} {A : Ad} (vs : List V) (H : Hp) (Q : VK) (E : XK) (h : sp__law_parts K A vs H Q E) : vs.length = ["cell", "most"].length := by
  obtain ⟨a, b, rfl, _⟩ := h
  rfl
/-- the rules drawn so far: at most one for each pair of names looked at -/
def RulesAt (H5 : Hp) (ns : List Str) (n : Nat) (R : Addr) (H' : Hp) (k : Nat) : Prop := Same H5 H' ∧ ∃ (ru : List Vf.S4) (xr : List V) (fs : List (Nat × Nat)), H' R = some (.lst xr) ∧ Vf.Tups Vf.enc4 H' xr ru ∧ (∀ r ∈ ru, r.1 ∈ ns ∧ r.2.1 ∈ ns ∧ r.2.2.1 ∈ ns ∧ r.2.2.2 ∈ ns) ∧
  ru.map (fun r => (r.1, r.2.1)) = fs.map (fun p => (ns.getD p.1 Str.empty, ns.getD p.2 Str.empty)) ∧ fs.Nodup ∧ (∀ p ∈ fs, p.1 < n ∧ p.2 < n ∧ p.1 * n + p.2 < k) ∧ ru.length ≤ k
theorem RulesAt.more {H5 H' : Hp} {ns : List Str} {n : Nat} {R t : Addr} {i j : Nat} {r : Vf.S4} {ru : List Vf.S4} {xr : List V} {fs : List (Nat × Nat)} (W : RulesAt H5 ns n R H' (i * n + j)) (hR : H5 R = none) (nRt : R ≠ t) (ht : H' t = none) (hR' : H' R = some (.lst xr)) (tr : Vf.Tups Vf.enc4 H' xr ru)
    (rm : ∀ r ∈ ru, r.1 ∈ ns ∧ r.2.1 ∈ ns ∧ r.2.2.1 ∈ ns ∧ r.2.2.2 ∈ ns) (rf : ru.map (fun r => (r.1, r.2.1)) = fs.map (fun p => (ns.getD p.1 Str.empty, ns.getD p.2 Str.empty))) (fnd : fs.Nodup) (fb : ∀ p ∈ fs, p.1 < n ∧ p.2 < n ∧ p.1 * n + p.2 < i * n + j) (rl : ru.length ≤ i * n + j)
    (hi : i < n) (hj : j < n) (e1 : r.1 = ns.getD i Str.empty) (e2 : r.2.1 = ns.getD j Str.empty) (m1 : r.1 ∈ ns) (m2 : r.2.1 ∈ ns) (m3 : r.2.2.1 ∈ ns) (m4 : r.2.2.2 ∈ ns) : RulesAt H5 ns n R (upd (upd H' t (.tup (Vf.enc4 r))) R (.lst (xr ++ [.ref t]))) (i * n + (j + 1)) := by
  have sN : Same H' (upd H' t (.tup (Vf.enc4 r))) := Vf.Same.new (Same.refl H') ht
  refine ⟨Vf.Same.chg (W.1.trans sN) hR, ru ++ [r], xr ++ [.ref t], fs ++ [(i, j)], upd_same, ?_, ?_, ?_, ?_, ?_, ?_⟩
  · have keep : ∀ u ys, (upd H' t (.tup (Vf.enc4 r))) u = some (.tup ys) → (upd (upd H' t (.tup (Vf.enc4 r))) R (.lst (xr ++ [.ref t]))) u = some (.tup ys) := fun u ys hu => by
      rw [upd_ne (fun z => by rw [z, upd_ne nRt, hR'] at hu; cases hu)]
      exact hu
    exact ((tr.same sN).mono keep).snoc (keep t _ upd_same)
  · intro x hx
    rw [List.mem_append, List.mem_singleton] at hx
    rcases hx with hx | rfl
    · exact rm x hx
    · exact ⟨m1, m2, m3, m4⟩
  · rw [List.map_append, List.map_append, rf]
    show _ ++ [(r.1, r.2.1)] = _ ++ [(ns.getD i Str.empty, ns.getD j Str.empty)]
    rw [e1, e2]
  · rw [List.nodup_append]
    refine ⟨fnd, by simp, fun a ha b hb => ?_⟩
    rw [List.mem_singleton] at hb
    subst hb
    intro z
    subst z
    have := (fb _ ha).2.2
    exact absurd this (Nat.lt_irrefl _)
  · intro p hp
    rw [List.mem_append, List.mem_singleton] at hp
    rcases hp with hp | rfl
    · obtain ⟨b1, b2, b3⟩ := fb p hp
      exact ⟨b1, b2, by omega⟩
    · exact ⟨hi, hj, by show i * n + j < _; omega⟩
  · rw [List.length_append]
    show ru.length + 1 ≤ _
    omega

section
variable {P : Program} {w : World} {K : PySem.W.Frag} {mg : Str → Option Value} {base : Heap}
set_option maxHeartbeats 4000000 in
theorem ok__law_parts {A : Ad} (T : Txt P K mg A) : FnOk P w K mg base CX0 2 A.f__law_parts A.d__law_parts ["cell", "most"] (sp__law_parts K A) := by
  have G__law_draws := ok__law_draws (P := P) (w := w) (base := base) T
  refine T.F__law_parts.ok sc__law_parts len__law_parts (fun cdv Ar outer s H vs Q E hr h => ?_)
  have hu := hu_of hr
  obtain ⟨cell, most, rfl, hm1, hm6, q⟩ := h
  refine ⟨_, (pss_cons (ps_set (i := 2) sc__law_parts.nd rfl (Or.inr rfl) (pe_call G__law_draws hr (by rfl) T.G__law_draws T.F__law_draws.kp T.B__law_draws .nil pass0 (pa_cons (pv 0) (pa_cons pe_int pa_nil))))
      (pss_cons (ps_set (i := 3) sc__law_parts.nd rfl (Or.inr rfl) (pe_op op_add pe_int (pe_op op_mod (pe_ix ix_list (pv 2) pe_int (fun _ _ => rfl)) (pv 1))))
      (pss_cons (ps_set (i := 4) sc__law_parts.nd rfl (Or.inr rfl) (pe_lc (own := [("k", 16)]) (g := (gName 16)) (tt := tYes) rfl sc__law_parts.nd (pi_range1 rfl T.N_range (pa_cons (pv 3) pa_nil)) (blkOk_by (N := ["cell", "most", "draws", "count", "names", "outputs", "inputs", "leaders", "rules", "share", "first", "second", "draw", "third", "fourth", "turn", "k"]) (sc := defScope s__law_parts) (by decide +kernel)) (fun _ _ _ _ _ => (pg_name (i := 16) sc__law_parts.nd rfl (Or.inl rfl))) (fun _ _ _ _ _ => pts_nil) (fun _ _ _ _ _ => (pe_op op_add_str (pe_ix (Vf.ix_listK (K := K) rfl) (pe_lst (pa_cons pe_str (pa_cons pe_str (pa_cons pe_str (pa_cons pe_str (pa_cons pe_str (pa_cons pe_str pa_nil))))))) (pv 16) (fun _ _ => rfl)) (pe_ix (Vf.ix_listK (K := K) rfl) (pe_lst (pa_cons pe_str (pa_cons pe_str (pa_cons pe_str pa_nil)))) (pe_op op_mod (pe_ix (Vf.ix_listK (K := K) rfl) (pv 2) (pe_op op_add pe_int (pv 16)) (fun _ _ => rfl)) pe_int) (fun _ _ => rfl))))))
      (pss_cons (ps_setLc (i := 5) (own := [("k", 16)]) (g := (gName 16)) (tt := tYes) rfl sc__law_parts.nd rfl rfl (sw_true rfl rfl rfl (by decide +kernel)) (pi_range1 rfl T.N_range (pa_cons (pv 3) pa_nil)) (blkOk_by (N := ["cell", "most", "draws", "count", "names", "outputs", "inputs", "leaders", "rules", "share", "first", "second", "draw", "third", "fourth", "turn", "k"]) (sc := defScope s__law_parts) (by decide +kernel)) (fun _ _ _ _ _ => (pg_name (i := 16) sc__law_parts.nd rfl (Or.inl rfl))) (fun _ _ _ _ _ => pts_nil) (fun _ _ _ _ _ => (pe_op op_mod (pe_ix (Vf.ix_listK (K := K) rfl) (pv 2) (pe_op op_add pe_int (pv 16)) (fun _ _ => rfl)) (pe_ix (Vf.ix_listK (K := K) rfl) (pe_lst (pa_cons pe_int (pa_cons pe_int (pa_cons pe_int pa_nil)))) (pe_op op_mod (pe_ix (Vf.ix_listK (K := K) rfl) (pv 2) pe_int (fun _ _ => rfl)) pe_int) (fun _ _ => rfl)))))
      (pss_cons (ps_setLc (i := 6) (own := [("k", 16)]) (g := (gName 16)) (tt := tYes) rfl sc__law_parts.nd rfl rfl (sw_true rfl rfl rfl (by decide +kernel)) (pi_range1 rfl T.N_range (pa_cons (pe_op op_mod (pe_ix ix_list (pv 2) pe_int (fun _ _ => rfl)) pe_int) pa_nil)) (blkOk_by (N := ["cell", "most", "draws", "count", "names", "outputs", "inputs", "leaders", "rules", "share", "first", "second", "draw", "third", "fourth", "turn", "k"]) (sc := defScope s__law_parts) (by decide +kernel)) (fun _ _ _ _ _ => (pg_name (i := 16) sc__law_parts.nd rfl (Or.inl rfl))) (fun _ _ _ _ _ => pts_nil) (fun _ _ _ _ _ => (pe_tup (pa_cons (pe_ix (Vf.ix_listK (K := K) rfl) (pe_lst (pa_cons pe_str (pa_cons pe_str (pa_cons pe_str pa_nil)))) (pv 16) (fun _ _ => rfl)) (pa_cons (pe_ix (Vf.ix_listK (K := K) rfl) (pv 4) (pe_op op_mod (pe_ix (Vf.ix_listK (K := K) rfl) (pv 2) (pe_op op_add pe_int (pv 16)) (fun _ _ => rfl)) (pv 3)) (fun _ _ => rfl)) pa_nil)))))
      (pss_cons (ps_setLc (i := 7) (own := [("k", 16)]) (g := (gName 16)) (tt := tYes) rfl sc__law_parts.nd rfl rfl (sw_true rfl rfl rfl (by decide +kernel)) (pi_range1 rfl T.N_range (pa_cons (pe_ix ix_list (pe_lst (pa_cons pe_int (pa_cons pe_int (pa_cons pe_int (pa_cons pe_int pa_nil))))) (pe_op op_mod (pe_ix ix_list (pv 2) pe_int (fun _ _ => rfl)) pe_int) (fun _ _ => rfl)) pa_nil)) (blkOk_by (N := ["cell", "most", "draws", "count", "names", "outputs", "inputs", "leaders", "rules", "share", "first", "second", "draw", "third", "fourth", "turn", "k"]) (sc := defScope s__law_parts) (by decide +kernel)) (fun _ _ _ _ _ => (pg_name (i := 16) sc__law_parts.nd rfl (Or.inl rfl))) (fun _ _ _ _ _ => pts_nil) (fun _ _ _ _ _ => (pe_ix (Vf.ix_listK (K := K) rfl) (pv 4) (pe_op op_mod (pe_ix (Vf.ix_listK (K := K) rfl) (pv 2) (pe_op op_add pe_int (pv 16)) (fun _ _ => rfl)) (pv 3)) (fun _ _ => rfl))))
      (pss_cons (ps_set (i := 8) sc__law_parts.nd rfl (Or.inl rfl) (pe_lst pa_nil))
      (pss_cons (ps_set (i := 9) sc__law_parts.nd rfl (Or.inl rfl) (pe_op op_add pe_int (pe_op op_mod (pe_ix ix_list (pv 2) pe_int (fun _ _ => rfl)) pe_int)))
      (pss_cons (ps_for PassesOwn.never rfl (pi_range1 rfl T.N_range (pa_cons (pv 3) pa_nil)) (pg_name (i := 10) sc__law_parts.nd rfl (Or.inl rfl))
        (pss_one (ps_for PassesOwn.never rfl (pi_range1 rfl T.N_range (pa_cons (pv 3) pa_nil)) (pg_name (i := 11) sc__law_parts.nd rfl (Or.inl rfl))
        (pss_cons (ps_set (i := 12) sc__law_parts.nd rfl (Or.inl rfl) (pe_ix ix_list (pv 2) (pe_op op_add pe_int (pe_op op_mod (pe_callTy call_int1 (by rfl) T.N_int (by decide +kernel) (pa_cons (pe_op op_add (pe_op op_mul (pv 10) (pv 3)) (pv 11)) pa_nil)) pe_int)) (fun _ _ => rfl)))
      (pss_one (ps_if (pt_cmpR op_eq (pe_op op_mod (pv 12) (pv 9)) pe_int (nomark _)) (pss_cons (ps_set (i := 13) sc__law_parts.nd rfl (Or.inl rfl) (pe_op op_mod (pe_op op_fdiv (pv 12) pe_int) (pv 3)))
      (pss_cons (ps_set (i := 14) sc__law_parts.nd rfl (Or.inl rfl) (pe_op op_mod (pe_op op_fdiv (pv 12) pe_int) (pv 3)))
      (pss_one (ps_expr (pe_bm PySem.F.plainAttrs_list PySem.F.slot_list_append PySem.F.type_list_append mt_append (pv 8) (pa_cons (pe_tup (pa_cons (pe_ix ix_list (pv 4) (pv 10) (fun _ _ => rfl)) (pa_cons (pe_ix ix_list (pv 4) (pv 11) (fun _ _ => rfl)) (pa_cons (pe_ix ix_list (pv 4) (pv 13) (fun _ _ => rfl)) (pa_cons (pe_ix ix_list (pv 4) (pv 14) (fun _ _ => rfl)) pa_nil))))) pa_nil)))))) pss_nil))))))
      (pss_cons (ps_set (i := 15) sc__law_parts.nd rfl (Or.inl rfl) (pe_op op_mod (pe_ix ix_list (pv 2) pe_int (fun _ _ => rfl)) (pe_op op_add (pe_callB call_len_seq (by rfl) T.N_len PySem.boot_len (pa_cons (pv 8) pa_nil)) pe_int)))
      (pss_one (ps_ret (pe_tup (pa_cons (pv 4) (pa_cons (pv 6) (pa_cons (pv 7) (pa_cons (pe_op op_cat (pe_slice sl_list (pv 8) (po_some (pv 15)) po_none) (pe_slice sl_list (pv 8) po_none (po_some (pv 15)))) (pa_cons (pv 5) pa_nil)))))))))))))))))), ?_⟩
  refine ⟨_, rfl, cell, 80, rfl, by decide, by decide, fun dr H1 ds _ s1 hdr ⟨hl, hrg⟩ => ?_⟩
  have hl : ds.length = 80 := by omega
  have dat : ∀ {i : Int}, 0 ≤ i → i < 80 → atI (ds.map V.int) i = some (V.int (ds.getD i.toNat 0)) := fun h0 h1 => Vf.int_at h0 (by omega)
  have drg : ∀ i : Nat, i < 80 → 0 ≤ ds.getD i 0 ∧ ds.getD i 0 < 4096 := fun i hi => hrg _ (Vf.getD_mem (by omega))
  -- count
  refine ⟨_, rfl, dr, _, 0, _, rfl, rfl, SqL.of hdr, dat (by decide) (by decide), _, rfl, _, _, rfl, rfl, (by show 0 < most; omega), _, _, rfl, rfl, ?_⟩
  obtain ⟨n, hn, hn1, hn6⟩ : ∃ n : Nat, 1 + ds.getD (Int.toNat 0) 0 % most = (n : Int) ∧ 1 ≤ n ∧ n ≤ 6 := by
    have a := Int.emod_nonneg (ds.getD (Int.toNat 0) 0) (show most ≠ 0 by omega)
    have b := Int.emod_lt_of_pos (ds.getD (Int.toNat 0) 0) (show 0 < most by omega)
    exact ⟨(1 + ds.getD (Int.toNat 0) 0 % most).toNat, by omega, by omega, by omega⟩
  show gName 3 (V.int (1 + ds.getD (Int.toNat 0) 0 % most)) _ _ _
  rw [hn]
  have mod_of : ∀ (x : Int), 0 ≤ x % (n : Int) ∧ x % (n : Int) < (n : Int) := fun x => ⟨Int.emod_nonneg _ (by omega), Int.emod_lt_of_pos _ (by omega)⟩
  -- names
  refine ⟨_, rfl, n, rfl, by omega, by omega, fun ls hls => ?_⟩
  refine Vf.lc_enc (walk_range (lo := 0) (n := ((n : Int)).toNat)) V.str Vf.goodName hls (by omega) (fun _ _ => trivial) ?_ ?_
  · rintro i x Ha Hb hi s ⟨rfl, rfl⟩ Q' q'
    have hi : i < n := by omega
    have a := Int.emod_nonneg (ds.getD (1 + i) 0) (show (3 : Int) ≠ 0 by decide)
    have b := Int.emod_lt_of_pos (ds.getD (1 + i) 0) (show (0 : Int) < 3 by decide)
    have ei : ((1 : Int) + (0 + (i : Int))).toNat = 1 + i := by omega
    refine ⟨rfl, (by show 6 ≤ sizeLine; decide), fun u1 hu1 => ?_⟩
    refine ⟨_, rfl, u1, _, _, .str (Vf.nmB.getD i Str.empty), rfl, rfl, SqL.of upd_same, (by rw [show ((0 : Int) + (i : Int)) = ((i : Nat) : Int) by omega]; exact Vf.map_at (f := V.str) (l := Vf.nmB) (i := ((i : Nat) : Int)) (d := Str.empty) (by omega) (by show (i : Int) < 6; omega)), ?_⟩
    refine ⟨(by show 3 ≤ sizeLine; decide), fun u2 hu2 => ?_⟩
    have sb := Vf.Same.new (o := .lst [.str "", .str "x", .str "q7"]) (Vf.Same.new (o := .lst [.str "a", .str "b", .str "c", .str "d1", .str "e", .str "f"]) (Same.refl Hb) hu1) hu2
    refine ⟨_, rfl, _, rfl, _, _, rfl, rfl, dr, _, _, _, rfl, rfl, SqL.of (sb _ _ (s _ _ hdr)), dat (by omega) (by omega), _, _, rfl, rfl, (by show (0 : Int) < 3; decide), u2, _, _, .str (Vf.nmS.getD (ds.getD (1 + i) 0 % 3).toNat Str.empty), rfl, rfl, SqL.of upd_same, (by rw [ei]; exact Vf.map_at (f := V.str) (l := Vf.nmS) (d := Str.empty) a b), _, _, rfl, rfl, ?_, ?_⟩
    · have h1 : (Vf.nmB.getD i Str.empty).length ≤ 2 ∧ (Vf.nmS.getD (ds.getD (1 + i) 0 % 3).toNat Str.empty).length ≤ 2 := by
        have c1 : ∀ j, j < 6 → (Vf.nmB.getD j Str.empty).length ≤ 2 := by decide +kernel
        have c2 : ∀ j, j < 3 → (Vf.nmS.getD j Str.empty).length ≤ 2 := by decide +kernel
        exact ⟨c1 i (by omega), c2 _ (by omega)⟩
      exact Nat.le_trans (Nat.add_le_add h1.1 h1.2) (by decide)
    · exact q' _ _ sb ⟨_, by omega, rfl⟩
  intro ns H2 hnl s2 hns good
  have hnl : ns.length = n := by omega
  have nat_ : ∀ {i : Int}, 0 ≤ i → i < (n : Int) → atI (ns.map V.str) i = some (V.str (ns.getD i.toNat Str.empty)) := fun h0 h1 => Vf.map_at h0 (by omega)
  have nmem : ∀ i : Nat, i < n → ns.getD i Str.empty ∈ ns := fun i hi => Vf.getD_mem (by omega)
  -- outputs
  refine ⟨_, rfl, n, rfl, by omega, by omega, fun lo hlo => ?_⟩
  refine Vf.lc_enc (walk_range (lo := 0) (n := ((n : Int)).toNat)) V.int (fun _ o => 0 ≤ o ∧ o ≤ 9) hlo (by omega) (fun _ _ => trivial) ?_ ?_
  · rintro i x Ha Hb hi s ⟨rfl, rfl⟩ Q' q'
    have hi : i < n := by omega
    have a := Int.emod_nonneg (ds.getD 7 0) (show (3 : Int) ≠ 0 by decide)
    have b := Int.emod_lt_of_pos (ds.getD 7 0) (show (0 : Int) < 3 by decide)
    have sd := s _ _ (s2 _ _ hdr)
    refine ⟨rfl, _, rfl, _, rfl, _, _, rfl, rfl, dr, _, _, _, rfl, rfl, SqL.of sd, dat (by omega) (by omega), (by show 3 ≤ sizeLine; decide), fun u1 hu1 => ?_⟩
    have sb := Vf.Same.new (o := .lst [.int 2, .int 2, .int 10]) (Same.refl Hb) hu1
    have c1 : ∀ j, j < 3 → 0 < ([2, 2, 10] : List Int).getD j 0 ∧ ([2, 2, 10] : List Int).getD j 0 ≤ 10 := by decide
    obtain ⟨c2, c3⟩ := c1 (ds.getD 7 0 % 3).toNat (by omega)
    refine ⟨_, rfl, dr, _, 7, _, rfl, rfl, SqL.of (sb _ _ sd), dat (by decide) (by decide), _, _, rfl, rfl, (by show (0 : Int) < 3; decide), u1, _, _, .int (([2, 2, 10] : List Int).getD (ds.getD 7 0 % 3).toNat 0), rfl, rfl, SqL.of upd_same, Vf.map_at (f := V.int) (l := [2, 2, 10]) (d := 0) a b, _, _, rfl, rfl, c2, ?_⟩
    have d1 := Int.emod_nonneg (ds.getD ((8 : Int) + (0 + (i : Int))).toNat 0) (show ([2, 2, 10] : List Int).getD (ds.getD 7 0 % 3).toNat 0 ≠ 0 by omega)
    have d2 := Int.emod_lt_of_pos (ds.getD ((8 : Int) + (0 + (i : Int))).toNat 0) c2
    exact q' _ _ sb ⟨d1, by omega⟩
  intro os H3 hol s3 hos goodo
  have hol : os.length = n := by omega
  have s13 := s2.trans s3
  -- inputs
  have hd3 := s13 _ _ hdr
  have hn3 := s3 _ _ hns
  have a14 := Int.emod_nonneg (ds.getD 14 0) (show (4 : Int) ≠ 0 by decide)
  have b14 := Int.emod_lt_of_pos (ds.getD 14 0) (show (0 : Int) < 4 by decide)
  refine ⟨_, rfl, dr, _, 14, _, rfl, rfl, SqL.of hd3, dat (by decide) (by decide), _, _, rfl, rfl, (by show (0 : Int) < 4; decide), _, rfl, (by show -(2 ^ 62 : Int) ≤ ds.getD 14 0 % 4; omega), (by show ds.getD 14 0 % 4 < (2 ^ 62 : Int); omega), fun li hli => ?_⟩
  refine Vf.lc_tups (walk_range (lo := 0) (n := (ds.getD 14 0 % 4).toNat)) Vf.enc2 (fun i p => p.1 = Vf.inB.getD i Str.empty ∧ p.2 ∈ ns) hli (by omega) (fun _ _ => trivial) ?_ ?_
  · rintro i x Ha Hb hi s ⟨rfl, rfl⟩ Q' q'
    have hi3 : i < 3 := by omega
    have m := mod_of (ds.getD (15 + i) 0)
    have ei : ((15 : Int) + (0 + (i : Int))).toNat = 15 + i := by omega
    refine ⟨rfl, (by show 3 ≤ sizeLine; decide), fun u1 hu1 => ?_⟩
    have sb := Vf.Same.new (o := .lst [.str "u", .str "v", .str "w"]) (Same.refl Hb) hu1
    have sc := s.trans sb
    refine ⟨_, rfl, u1, _, _, .str (Vf.inB.getD i Str.empty), rfl, rfl, SqL.of upd_same, (by rw [show ((0 : Int) + (i : Int)) = ((i : Nat) : Int) by omega]; exact Vf.map_at (f := V.str) (l := Vf.inB) (i := ((i : Nat) : Int)) (d := Str.empty) (by omega) (by show (i : Int) < 3; omega)), ?_⟩
    refine ⟨_, rfl, _, rfl, _, rfl, _, _, rfl, rfl, dr, _, _, _, rfl, rfl, SqL.of (sc _ _ hd3), dat (by omega) (by omega), _, rfl, _, _, rfl, rfl, (by show (0 : Int) < (n : Int); omega), ls, _, _, .str (ns.getD (ds.getD (15 + i) 0 % (n : Int)).toNat Str.empty), rfl, rfl, SqL.of (sc _ _ hn3), (by rw [ei]; exact nat_ m.1 m.2), (by show 2 ≤ sizeLine; decide), fun t ht => ?_⟩
    exact q' (Vf.inB.getD i Str.empty, ns.getD (ds.getD (15 + i) 0 % (n : Int)).toNat Str.empty) t _ (Vf.Same.new sb ht) upd_same ⟨rfl, nmem _ (by omega)⟩
  intro ins xi H4 hil s4 hins tins goodi
  have hil : ins.length ≤ 3 := by omega
  -- leaders
  have hd4 := s4 _ _ hd3
  have hn4 := s4 _ _ hn3
  have a19 := Int.emod_nonneg (ds.getD 19 0) (show (4 : Int) ≠ 0 by decide)
  have b19 := Int.emod_lt_of_pos (ds.getD 19 0) (show (0 : Int) < 4 by decide)
  refine ⟨(by show 4 ≤ sizeLine; decide), fun u1 hu1 => ?_⟩
  have s5 := Vf.Same.new (o := .lst [.int 0, .int 0, .int 1, .int 2]) (Same.refl H4) hu1
  have cl : ∀ j, j < 4 → 0 ≤ ([0, 0, 1, 2] : List Int).getD j 0 ∧ ([0, 0, 1, 2] : List Int).getD j 0 ≤ 2 := by decide
  obtain ⟨cl1, cl2⟩ := cl (ds.getD 19 0 % 4).toNat (by omega)
  refine ⟨_, rfl, dr, _, 19, _, rfl, rfl, SqL.of (s5 _ _ hd4), dat (by decide) (by decide), _, _, rfl, rfl, (by show (0 : Int) < 4; decide), u1, _, _, .int (([0, 0, 1, 2] : List Int).getD (ds.getD 19 0 % 4).toNat 0), rfl, rfl, SqL.of upd_same, Vf.map_at (f := V.int) (l := [0, 0, 1, 2]) (d := 0) a19 b19, _, rfl, (by omega), (by omega), fun ll hll => ?_⟩
  refine Vf.lc_enc (walk_range (lo := 0) (n := (([0, 0, 1, 2] : List Int).getD (ds.getD 19 0 % 4).toNat 0).toNat)) V.str (fun _ x => x ∈ ns) hll (by omega) (fun _ _ => trivial) ?_ ?_
  · rintro i x Ha Hb hi s ⟨rfl, rfl⟩ Q' q'
    have hi2 : i < 2 := by omega
    have sc := s5.trans s
    have m := mod_of (ds.getD (20 + i) 0)
    have ei : ((20 : Int) + (0 + (i : Int))).toNat = 20 + i := by omega
    refine ⟨rfl, _, rfl, _, rfl, _, rfl, _, _, rfl, rfl, dr, _, _, _, rfl, rfl, SqL.of (sc _ _ hd4), dat (by omega) (by omega), _, rfl, _, _, rfl, rfl, (by show (0 : Int) < (n : Int); omega), ls, _, _, .str (ns.getD (ds.getD (20 + i) 0 % (n : Int)).toNat Str.empty), rfl, rfl, SqL.of (sc _ _ hn4), (by rw [ei]; exact nat_ m.1 m.2), ?_⟩
    exact q' _ _ (Same.refl _) (nmem _ (by omega))
  intro lds H5 hll2 s6 hlds goodl
  have hll2 : lds.length ≤ 2 := by omega
  have s45 := s5.trans s6
  have hd5 := s45 _ _ hd4
  have hn5 := s45 _ _ hn4
  -- rules, share
  refine ⟨(by show 0 ≤ sizeLine; decide), fun R hR => ?_⟩
  have s56 : Same H5 (upd H5 R (.lst [])) := Vf.Same.new (Same.refl H5) hR
  have a23 := Int.emod_nonneg (ds.getD 23 0) (show (4 : Int) ≠ 0 by decide)
  refine ⟨_, rfl, dr, _, 23, _, rfl, rfl, SqL.of (s56 _ _ hd5), dat (by decide) (by decide), _, _, rfl, rfl, (by show (0 : Int) < 4; decide), _, _, rfl, rfl, ?_⟩
  show gName 9 (V.int (1 + ds.getD 23 0 % 4)) _ _ _
  obtain ⟨sh, hsh, hsh1⟩ : ∃ sh : Int, 1 + ds.getD 23 0 % 4 = sh ∧ 0 < sh := ⟨_, rfl, by omega⟩
  rw [hsh]
  have W0 : RulesAt H5 ns n R (upd H5 R (.lst [])) 0 := ⟨Vf.Same.new (Same.refl H5) hR, [], [], [], upd_same, Vf.Tups.nil, (fun r hr => absurd hr List.not_mem_nil), rfl, List.nodup_nil, (fun p hp => absurd hp List.not_mem_nil), Nat.zero_le _⟩
  refine ⟨_, rfl, n, rfl, by omega, by omega, for_range (lo := 0) (n := ((n : Int)).toNat) (fun i σ H' => (∃ v10 v11 v12 v13 v14 : Option V, σ = [some (.int cell), some (.int most), some (.ref dr), some (.int (n : Int)), some (.ref ls), some (.ref lo), some (.ref li), some (.ref ll), some (.ref R), some (.int sh), v10, v11, v12, v13, v14, none, none]) ∧ RulesAt H5 ns n R H' (i * n)) ?_ ?_ ?_⟩
  · exact ⟨⟨none, none, none, none, none, rfl⟩, by rw [Nat.zero_mul]; exact W0⟩
  · rintro i σ H' hi ⟨⟨v10, v11, v12, v13, v14, rfl⟩, W⟩
    have hi : i < n := by omega
    refine ⟨_, rfl, n, rfl, by omega, by omega, for_range (lo := 0) (n := ((n : Int)).toNat) (fun j σ H' => (∃ v11 v12 v13 v14 : Option V, σ = [some (.int cell), some (.int most), some (.ref dr), some (.int (n : Int)), some (.ref ls), some (.ref lo), some (.ref li), some (.ref ll), some (.ref R), some (.int sh), some (.int (0 + (i : Int))), v11, v12, v13, v14, none, none]) ∧ RulesAt H5 ns n R H' (i * n + j)) ?_ ?_ ?_⟩
    · exact ⟨⟨_, _, _, _, rfl⟩, W⟩
    · rintro j σ H' hj ⟨⟨v11, v12, v13, v14, rfl⟩, W⟩
      have hj : j < n := by omega
      obtain ⟨sW, ru, xr, fs, hR', tr, rm, rf, fnd, fb, rl⟩ := id W
      have hd' := sW _ _ hd5
      have hn' := sW _ _ hn5
      have hbig : (0 : Int) + (i : Int) < 2 ^ 64 := by omega
      have m50 := Int.emod_nonneg (((0 : Int) + (i : Int)) * (n : Int) + (0 + (j : Int))) (show (50 : Int) ≠ 0 by decide)
      have l50 := Int.emod_lt_of_pos (((0 : Int) + (i : Int)) * (n : Int) + (0 + (j : Int))) (show (0 : Int) < 50 by decide)
      refine ⟨_, rfl, _, rfl, _, rfl, _, _, rfl, rfl, .inl ⟨by omega, hbig⟩, _, rfl, _, _, rfl, rfl, .inl ⟨_, rfl, _, _, rfl, rfl, (by show (0 : Int) < 50; decide), _, _, rfl, rfl, dr, _, _, _, rfl, rfl, SqL.of hd', dat (by omega) (by omega), ?_⟩⟩
      show gName 12 (V.int (ds.getD (24 + (((0 : Int) + (i : Int)) * (n : Int) + (0 + (j : Int))) % 50).toNat 0)) _ _ _
      generalize ds.getD (24 + (((0 : Int) + (i : Int)) * (n : Int) + (0 + (j : Int))) % 50).toNat 0 = dw
      refine Vf.gN ?_
      dsimp only
      refine Vf.st_if (b := decide (V.int (dw % sh) = V.int 0)) (fun Q0 r => ⟨_, rfl, _, rfl, _, _, rfl, rfl, hsh1, rfl, _, rfl, r⟩) (fun _ => ?_) (fun _ => ?_)
      · have m5 := mod_of (dw / 5)
        have m35 := mod_of (dw / 35)
        have pn : (0 : Int) < (n : Int) := by omega
        refine ⟨_, rfl, _, _, rfl, rfl, ⟨by decide, by decide⟩, _, rfl, _, _, rfl, rfl, pn, _, rfl, _, _, rfl, rfl, ⟨by decide, by decide⟩, _, rfl, _, _, rfl, rfl, pn, ?_⟩
        refine ⟨_, rfl, Vf.tyL hR', ?_⟩
        refine ⟨_, rfl, _, rfl, ls, _, _, _, rfl, rfl, SqL.of hn', nat_ (by omega) (by omega), _, rfl, _, rfl, ls, _, _, _, rfl, rfl, SqL.of hn', nat_ (by omega) (by omega), _, rfl, _, rfl, ls, _, _, _, rfl, rfl, SqL.of hn', nat_ m5.1 m5.2, _, rfl, _, rfl, ls, _, _, _, rfl, rfl, SqL.of hn', nat_ m35.1 m35.2, (by show 4 ≤ sizeLine; decide), fun t ht => ?_⟩
        have nRt : R ≠ t := ne_of_none hR' ht
        refine ⟨R, xr, _, rfl, rfl, (by rw [upd_ne nRt]; exact hR'), (by rw [tr.1]; exact Nat.lt_of_le_of_lt (show ru.length ≤ 1000 by have : i * n + j ≤ 6 * 6 + 6 := Nat.add_le_add (Nat.mul_le_mul (by omega) hn6) (by omega); omega) (by decide)), ?_⟩
        refine ⟨⟨_, _, _, _, rfl⟩, ?_⟩
        exact W.more hR nRt ht (r := (ns.getD (0 + (i : Int)).toNat Str.empty, ns.getD (0 + (j : Int)).toNat Str.empty, ns.getD (dw / 5 % (n : Int)).toNat Str.empty, ns.getD (dw / 35 % (n : Int)).toNat Str.empty)) hR' tr rm rf fnd fb rl hi hj (by rw [show (0 + (i : Int)).toNat = i by omega]) (by show ns.getD (0 + (j : Int)).toNat Str.empty = _; rw [show (0 + (j : Int)).toNat = j by omega]) (nmem _ (by omega)) (nmem _ (by omega)) (nmem _ (by omega)) (nmem _ (by omega))
      · exact ⟨⟨_, _, _, _, rfl⟩, sW, ru, xr, fs, hR', tr, rm, rf, fnd, fun p hp => by
          obtain ⟨b1, b2, b3⟩ := fb p hp
          exact ⟨b1, b2, by omega⟩, by omega⟩
    · rintro σ H' ⟨⟨v11, v12, v13, v14, rfl⟩, W⟩
      refine ⟨⟨_, _, _, _, _, rfl⟩, ?_⟩
      have e : i * n + ((n : Int)).toNat = (i + 1) * n := by
        rw [Nat.succ_mul]
        omega
      rw [e] at W
      exact W
  rintro σ H6 ⟨⟨v10, v11, v12, v13, v14, rfl⟩, W⟩
  obtain ⟨sW, ru, xr, fs, hR6, tr, rm, rf, fnd, fb, rl⟩ := W
  have rl36 : ru.length ≤ 36 := by
    have : ((n : Int)).toNat * n ≤ 6 * 6 := Nat.mul_le_mul (by omega) hn6
    omega
  -- turn
  have hl1 : (0 : Int) < (ru.length : Int) + 1 := by omega
  have t0 := Int.emod_nonneg (ds.getD 79 0) (show (ru.length : Int) + 1 ≠ 0 by omega)
  have t1 := Int.emod_lt_of_pos (ds.getD 79 0) hl1
  obtain ⟨tn, htn⟩ : ∃ tn : Nat, ds.getD 79 0 % ((ru.length : Int) + 1) = (tn : Int) := ⟨(ds.getD 79 0 % ((ru.length : Int) + 1)).toNat, by omega⟩
  have htl : tn ≤ ru.length := by omega
  refine ⟨_, rfl, dr, _, 79, _, rfl, rfl, SqL.of (sW _ _ hd5), dat (by decide) (by decide), _, rfl, R, _, rfl, .inl (SqL.of hR6), _, _, rfl, rfl, _, _, rfl, rfl, (by rw [tr.1]; exact hl1), ?_⟩
  show gName 15 (V.int (ds.getD 79 0 % ((xr.length : Int) + 1))) _ _ _
  rw [tr.1, htn]
  -- the five
  have tx : tn ≤ xr.length := by rw [tr.1]; exact htl
  refine ⟨_, rfl, _, rfl, _, rfl, _, rfl, _, rfl, _, rfl, R, xr, rfl, SqL.of hR6, fun u1 hu1 => ?_⟩
  have sa := Vf.Same.new (o := .lst (cutV xr (some (tn : Int)) none)) (Same.refl H6) hu1
  refine ⟨_, rfl, _, rfl, _, rfl, R, xr, rfl, SqL.of (sa _ _ hR6), fun u2 hu2 => ?_⟩
  have sb := Vf.Same.new (o := .lst (cutV xr none (some (tn : Int)))) sa hu2
  have nu : u1 ≠ u2 := ne_of_none upd_same hu2
  refine ⟨u1, u2, _, _, rfl, rfl, (by rw [upd_ne nu]; exact upd_same), upd_same, Nat.le_trans (Nat.add_le_add (cutV_length _ _ _) (cutV_length _ _ _)) (by rw [tr.1]; exact Vf.line (by omega)), fun u3 hu3 => ?_⟩
  have sc := Vf.Same.new (o := .lst (cutV xr (some (tn : Int)) none ++ cutV xr none (some (tn : Int)))) sb hu3
  refine ⟨_, rfl, (by show 5 ≤ sizeLine; decide), fun p hp => ?_⟩
  have sd := Vf.Same.new (o := .tup [.ref ls, .ref li, .ref ll, .ref u3, .ref lo]) sc hp
  have nu3 : u3 ≠ p := ne_of_none upd_same hp
  have s6d := sW.trans sd
  have hxe : cutV xr (some (tn : Int)) none ++ cutV xr none (some (tn : Int)) = xr.drop tn ++ xr.take tn := by rw [Vf.cut_from _ _ tx, Vf.cut_to _ _ tx]
  have pru : (ru.drop tn ++ ru.take tn).Perm ru := by
    have h := List.perm_append_comm (l₁ := ru.drop tn) (l₂ := ru.take tn)
    rw [List.take_append_drop] at h
    exact h
  have noZ : ∀ p ∈ ins, p.1 ≠ "zz9" := fun p hp e => by
    obtain ⟨i, hi⟩ := List.mem_iff_getElem?.mp hp
    have il := (List.getElem?_eq_some_iff.mp hi).1
    rw [(goodi i p hi).1] at e
    exact Vf.inB_zz (by omega) e
  have hall : Same H _ := (((s1.trans s13).trans s4).trans s45).trans s6d
  refine q p _ ⟨ns, ins, lds, ru.drop tn ++ ru.take tn, os⟩ ⟨ls, li, ll, u3, lo, xi, xr.drop tn ++ xr.take tn, upd_same, (s6d _ _ hn5), s6d _ _ (s45 _ _ hins), ?_, s6d _ _ hlds, (by rw [upd_ne nu3, ← hxe]; exact upd_same), ?_, s6d _ _ (s45 _ _ (s4 _ _ hos))⟩ ?_ ⟨⟨by show 1 ≤ ns.length; omega, by show ns.length ≤ 6; omega, hil, hll2, (by show (ru.drop tn ++ ru.take tn).length ≤ 36; rw [pru.length_eq]; exact rl36), good⟩, noZ⟩ hall (((((s1.trans s13).trans s4).trans s45).trans (sW.trans sc)).free hp)
  · exact (tins.same s45).same s6d
  · exact ((tr.drop tn).append (tr.take tn)).same sd
  · have nnd : ns.Nodup := Vf.goodNames_nodup (by omega) good
    have insn : ∀ p ∈ ins, Vf.isName p.1 = true ∧ p.2 ∈ ns := fun p hp => by
      obtain ⟨i, hi⟩ := List.mem_iff_getElem?.mp hp
      obtain ⟨g1, g2⟩ := goodi i p hi
      have il := (List.getElem?_eq_some_iff.mp hi).1
      rw [g1]
      exact ⟨(Vf.inB_of (by omega)).1, g2⟩
    refine ⟨by show os.length = ns.length; omega, by show ns.length ≤ 400; omega, fun x hx => ?_, nnd, fun o ho => ?_, by show ins.length ≤ 8; omega, insn, ?_, by show lds.length ≤ 10; omega, fun x hx => ?_, fun r hr => rm r (pru.mem_iff.mp hr), ?_⟩
    · obtain ⟨i, hi⟩ := List.mem_iff_getElem?.mp hx
      have il := (List.getElem?_eq_some_iff.mp hi).1
      have il' : i < ns.length := il
      exact (Vf.goodName_of (by omega) (good i x hi)).1
    · obtain ⟨i, hi⟩ := List.mem_iff_getElem?.mp ho
      exact goodo i o hi
    · refine Vf.nodup_by (fun s : Str => s.cps.toList.head?) (fun i => some (117 + i)) (fun i a e => ?_) fun i j _ _ e => by
        have := Option.some.inj e
        omega
      obtain ⟨p, hp, rfl⟩ := Vf.map_get e
      have il := (List.getElem?_eq_some_iff.mp hp).1
      have il' : i < ins.length := il
      rw [(goodi i p hp).1]
      exact (Vf.inB_of (by omega)).2
    · obtain ⟨i, hi⟩ := List.mem_iff_getElem?.mp hx
      exact goodl i x hi
    · have pm := (pru.map fun x : Vf.S4 => (x.1, x.2.1)).nodup_iff
      refine pm.mpr ?_
      rw [rf]
      rw [List.Nodup, List.pairwise_map]
      refine List.Pairwise.imp_of_mem (fun {x y} hx hy ne e => ne ?_) fnd
      obtain ⟨x1, x2, _⟩ := fb x hx
      obtain ⟨y1, y2, _⟩ := fb y hy
      have inj : ∀ a b : Nat, a < n → b < n → ns.getD a Str.empty = ns.getD b Str.empty → a = b := fun a b ha hb e => by
        have ea : ns[a]? = some (ns.getD a Str.empty) := by
          rw [List.getD_eq_getElem?_getD, List.getElem?_eq_getElem (show a < ns.length by omega)]
          rfl
        have eb : ns[b]? = some (ns.getD b Str.empty) := by
          rw [List.getD_eq_getElem?_getD, List.getElem?_eq_getElem (show b < ns.length by omega)]
          rfl
        rw [← e] at eb
        exact Vf.nodup_ix nnd ea eb
      have e' := Prod.mk.inj e
      exact Prod.ext (inj _ _ x1 y1 e'.1) (inj _ _ x2 y2 e'.2)
end

def sp__demand (K : PySem.W.Frag) (A : Ad) : Sp := fun vs H Q E => ∃ (b : Bool) (why : Str), vs = [.bl b, .str why] ∧ (b = true → Q .non H) ∧ (b = false → E (.ref A.c_InvalidRulebook) none H)
theorem len__demand {K : PySem.W.Frag} {A : Ad} (vs : List V) (H : Hp) (Q : VK) (E : XK) (h : sp__demand K A vs H Q E) : vs.length = ["holds", "why"].length := by
  obtain ⟨a, b, rfl, _⟩ := h
  rfl

section
variable {P : Program} {w : World} {K : PySem.W.Frag} {mg : Str → Option Value} {base : Heap}
set_option maxHeartbeats 4000000 in
theorem ok__demand {A : Ad} (T : Txt P K mg A) : FnOk P w K mg base (L2.CX P w) 1 A.f__demand A.d__demand ["holds", "why"] (sp__demand K A) := by
  refine T.F__demand.okX sc__demand len__demand (fun cdv Ar outer s H vs Q E hr h => ?_)
  have hu := hu_of hr
  obtain ⟨b, why, rfl, q1, q2⟩ := h
  refine ⟨_, (pss_one (ps_if (pt_not (pt_val (pv 0))) (pss_one (ps_raise rfl (takes_of rfl rfl rfl rfl) (SkE.pmk_own1 PySem.F.excBase_ValueError T.x_InvalidRulebook T.G_InvalidRulebook T.k_InvalidRulebook (raises_own T.b_InvalidRulebook T.t_InvalidRulebook) (by rfl) (pv 1)))) pss_nil)), ?_⟩
  refine ⟨_, rfl, b, rfl, ?_⟩
  cases b with
  | true => exact iteF (q1 rfl)
  | false => exact iteT ⟨_, rfl, q2 rfl⟩
end

def sp_Draft___init__ (K : PySem.W.Frag) (A : Ad) : Sp := fun vs H Q _ => ∃ (p dx : Addr), vs = [.ref p] ∧ H p = some (.ins A.c_Draft dx []) ∧
  ∀ (a : Vf.DA) (H' : Hp), Vf.DraftAt A.c_Draft H' p a Vf.DD.nil → (∀ b ∈ a.foot, H b = none) → (∀ b o, H b = some o → b ≠ p → H' b = some o) → Q .non H'
theorem len_Draft___init__ {K : PySem.W.Frag} {A : Ad} (vs : List V) (H : Hp) (Q : VK) (E : XK) (h : sp_Draft___init__ K A vs H Q E) : vs.length = ["self"].length := by
  obtain ⟨a, b, rfl, _⟩ := h
  rfl

section
variable {P : Program} {w : World} {K : PySem.W.Frag} {mg : Str → Option Value} {base : Heap}
set_option maxHeartbeats 4000000 in
theorem ok_Draft___init__ {A : Ad} (T : Txt P K mg A) : FnOk P w K mg base CX0 1 A.f_Draft___init__ A.d_Draft___init__ ["self"] (sp_Draft___init__ K A) := by
  refine T.F_Draft___init__.ok sc_Draft___init__ len_Draft___init__ (fun cdv Ar outer s H vs Q E hr h => ?_)
  have hu := hu_of hr
  obtain ⟨p, dx, rfl, hp, q⟩ := h
  refine ⟨_, (pss_cons (ps_fld (pv 0) (pe_lst pa_nil) rfl)
      (pss_cons (ps_fld (pv 0) (pe_lst pa_nil) rfl)
      (pss_cons (ps_fld (pv 0) (pe_lst pa_nil) rfl)
      (pss_cons (ps_fld (pv 0) (pe_lst pa_nil) rfl)
      (pss_cons (ps_fld (pv 0) (pe_lst pa_nil) rfl)
      (pss_cons (ps_fld (pv 0) pe_dnewK rfl)
      (pss_one (ps_fld (pv 0) pe_dnewT rfl)))))))), ?_⟩
  refine ⟨(by show 0 ≤ sizeLine; decide), fun ls n1 => ?_⟩
  have p1 : p ≠ ls := ne_of_none hp n1
  refine ⟨_, rfl, p, A.c_Draft, dx, [], rfl, (by rw [upd_ne p1]; exact hp), T.C_Draft, T.A_Draft_states, (by show 0 < 1000; decide), ?_⟩
  refine ⟨(by show 0 ≤ sizeLine; decide), fun li n2 => ?_⟩
  have p2 : p ≠ li := ne_of_none upd_same n2
  refine ⟨_, rfl, p, A.c_Draft, dx, _, rfl, (by rw [upd_ne p2]; exact upd_same), T.C_Draft, T.A_Draft_inputs, (by show 1 < 1000; decide), ?_⟩
  refine ⟨(by show 0 ≤ sizeLine; decide), fun ll n3 => ?_⟩
  have p3 : p ≠ ll := ne_of_none upd_same n3
  refine ⟨_, rfl, p, A.c_Draft, dx, _, rfl, (by rw [upd_ne p3]; exact upd_same), T.C_Draft, T.A_Draft_leaders, (by show 2 < 1000; decide), ?_⟩
  refine ⟨(by show 0 ≤ sizeLine; decide), fun lr n4 => ?_⟩
  have p4 : p ≠ lr := ne_of_none upd_same n4
  refine ⟨_, rfl, p, A.c_Draft, dx, _, rfl, (by rw [upd_ne p4]; exact upd_same), T.C_Draft, T.A_Draft_rules, (by show 3 < 1000; decide), ?_⟩
  refine ⟨(by show 0 ≤ sizeLine; decide), fun lo n5 => ?_⟩
  have p5 : p ≠ lo := ne_of_none upd_same n5
  refine ⟨_, rfl, p, A.c_Draft, dx, _, rfl, (by rw [upd_ne p5]; exact upd_same), T.C_Draft, T.A_Draft_outputs, (by show 4 < 1000; decide), ?_⟩
  intro dn n6
  have p6 : p ≠ dn := ne_of_none upd_same n6
  refine ⟨_, rfl, p, A.c_Draft, dx, _, rfl, (by rw [upd_ne p6]; exact upd_same), T.C_Draft, T.A_Draft_numbers, (by show 5 < 1000; decide), ?_⟩
  intro dr n7
  have p7 : p ≠ dr := ne_of_none upd_same n7
  refine ⟨_, rfl, p, A.c_Draft, dx, _, rfl, (by rw [upd_ne p7]; exact upd_same), T.C_Draft, T.A_Draft_results, (by show 6 < 1000; decide), ?_⟩
  have m2 := Vf.upd_none n2
  have k2 := Vf.upd_none m2.2
  have m3 := Vf.upd_none n3
  have k3 := Vf.upd_none m3.2
  have l3 := Vf.upd_none k3.2
  have j3 := Vf.upd_none l3.2
  have m4 := Vf.upd_none n4
  have k4 := Vf.upd_none m4.2
  have l4 := Vf.upd_none k4.2
  have j4 := Vf.upd_none l4.2
  have i4 := Vf.upd_none j4.2
  have h4 := Vf.upd_none i4.2
  have m5 := Vf.upd_none n5
  have k5 := Vf.upd_none m5.2
  have l5 := Vf.upd_none k5.2
  have j5 := Vf.upd_none l5.2
  have i5 := Vf.upd_none j5.2
  have h5 := Vf.upd_none i5.2
  have g5 := Vf.upd_none h5.2
  have f5 := Vf.upd_none g5.2
  have m6 := Vf.upd_none n6
  have k6 := Vf.upd_none m6.2
  have l6 := Vf.upd_none k6.2
  have j6 := Vf.upd_none l6.2
  have i6 := Vf.upd_none j6.2
  have h6 := Vf.upd_none i6.2
  have g6 := Vf.upd_none h6.2
  have f6 := Vf.upd_none g6.2
  have e6 := Vf.upd_none f6.2
  have d6 := Vf.upd_none e6.2
  have m7 := Vf.upd_none n7
  have k7 := Vf.upd_none m7.2
  have l7 := Vf.upd_none k7.2
  have j7 := Vf.upd_none l7.2
  have i7 := Vf.upd_none j7.2
  have h7 := Vf.upd_none i7.2
  have g7 := Vf.upd_none h7.2
  have f7 := Vf.upd_none g7.2
  have e7 := Vf.upd_none f7.2
  have d7 := Vf.upd_none e7.2
  have c7 := Vf.upd_none d7.2
  have b7 := Vf.upd_none c7.2
  obtain ⟨q21, q22⟩ := k2
  obtain ⟨q31, q32⟩ := k3
  obtain ⟨q33, q34⟩ := j3
  obtain ⟨q41, q42⟩ := k4
  obtain ⟨q43, q44⟩ := j4
  obtain ⟨q45, q46⟩ := h4
  obtain ⟨q51, q52⟩ := k5
  obtain ⟨q53, q54⟩ := j5
  obtain ⟨q55, q56⟩ := h5
  obtain ⟨q57, q58⟩ := f5
  obtain ⟨q61, q62⟩ := k6
  obtain ⟨q63, q64⟩ := j6
  obtain ⟨q65, q66⟩ := h6
  obtain ⟨q67, q68⟩ := f6
  obtain ⟨q69, q60⟩ := d6
  obtain ⟨q71, q72⟩ := k7
  obtain ⟨q73, q74⟩ := j7
  obtain ⟨q75, q76⟩ := h7
  obtain ⟨q77, q78⟩ := f7
  obtain ⟨q79, q70⟩ := d7
  obtain ⟨q7a, q7b⟩ := b7
  refine q ⟨ls, li, ll, lr, lo, dn, dr⟩ _ ⟨⟨dx, ?_⟩, ?_, ⟨[], ?_, Vf.Tups.nil⟩, ?_, ⟨[], ?_, Vf.Tups.nil⟩, ?_, ?_, ⟨[], ?_, ⟨rfl, Vf.Tups.nil⟩⟩, ?_⟩ ?_ ?_
  · exact upd_same
  · walk_at "hp"
  · walk_at "hp"
  · walk_at "hp"
  · walk_at "hp"
  · walk_at "hp"
  · walk_at "hp"
  · walk_at "hp"
  · simp only [List.nodup_cons, List.mem_cons, List.not_mem_nil, or_false, not_or, not_false_eq_true, List.nodup_nil, and_true]
    refine ⟨⟨Ne.symm ?_, Ne.symm ?_, Ne.symm ?_, Ne.symm ?_⟩, ⟨Ne.symm ?_, Ne.symm ?_, Ne.symm ?_⟩, ⟨Ne.symm ?_, Ne.symm ?_⟩, Ne.symm ?_⟩ <;> assumption
  · intro b hb
    simp only [Vf.DA.foot, List.mem_cons, List.not_mem_nil, or_false] at hb
    rcases hb with rfl | rfl | rfl | rfl | rfl | rfl | rfl <;> assumption
  · intro b o e hb
    have u1 := ne_of_none e n1
    have u2 := ne_of_none e q22
    have u3 := ne_of_none e q34
    have u4 := ne_of_none e q46
    have u5 := ne_of_none e q58
    have u6 := ne_of_none e q60
    have u7 := ne_of_none e q7b
    walk_at "hp"
end

def sp_is_name (K : PySem.W.Frag) (A : Ad) : Sp := fun vs H Q _ => ∃ (s : Str), vs = [.str s] ∧ s.length ≤ 1000000 ∧ ∀ H', Same H H' → Q (.bl (Vf.isName s)) H'
theorem len_is_name {K : PySem.W.Frag} {A : Ad} (vs : List V) (H : Hp) (Q : VK) (E : XK) (h : sp_is_name K A vs H Q E) : vs.length = ["name"].length := by
  obtain ⟨a, rfl, _⟩ := h
  rfl

section
variable {P : Program} {w : World} {K : PySem.W.Frag} {mg : Str → Option Value} {base : Heap}
set_option maxHeartbeats 4000000 in
theorem ok_is_name {A : Ad} (T : Txt P K mg A) : FnOk P w K mg base CX0 1 A.f_is_name A.d_is_name ["name"] (sp_is_name K A) := by
  obtain ⟨_, v_DIGITS⟩ := T.V_DIGITS
  obtain ⟨_, v_LETTERS⟩ := T.V_LETTERS
  obtain ⟨_, v_LONGEST_NAME⟩ := T.V_LONGEST_NAME
  refine T.F_is_name.ok sc_is_name len_is_name (fun cdv Ar outer s H vs Q E hr h => ?_)
  have hu := hu_of hr
  obtain ⟨z, rfl, hz, q⟩ := h
  refine ⟨_, (pss_cons (ps_if (pt_not (pt_chain op_le op_le pe_int (pe_callB call_len_str (by rfl) T.N_len PySem.boot_len (pa_cons (pv 0) pa_nil)) (pe_glob (v := .int 12) rfl v_LONGEST_NAME ⟨_, rfl⟩))) (pss_one (ps_ret pe_bl)) pss_nil)
      (pss_one (ps_ret (pe_and (pe_cmpR op_inS (pe_ix ix_str (pv 0) pe_int (fun _ _ => rfl)) (pe_glob (v := .str "abcdefghijklmnopqrstuvwxyz") rfl v_LETTERS ⟨_, rfl⟩) (by rfl)) (pe_one (pe_callB (cr_all rfl) (by rfl) T.N_all (by decide +kernel) (pa_cons (pe_lc (own := [("sign", 1)]) (g := (gName 1)) (tt := tYes) rfl sc_is_name.nd (pi_str (pv 0)) (blkOk_by (N := ["name", "sign"]) (sc := defScope s_is_name) (by decide +kernel)) (fun _ _ _ _ _ => (pg_name (i := 1) sc_is_name.nd rfl (Or.inl rfl))) (fun _ _ _ _ _ => pts_nil) (fun _ _ _ _ _ => (pe_or (pe_cmpR op_inS (pv 1) (pe_glob (v := .str "abcdefghijklmnopqrstuvwxyz") rfl v_LETTERS ⟨_, rfl⟩) (by rfl)) (pe_one (pe_cmpR op_inS (pv 1) (pe_glob (v := .str "0123456789") rfl v_DIGITS ⟨_, rfl⟩) (by rfl)))))) pa_nil))))))), ?_⟩
  have hzl : z.length ≤ sizeLine := Vf.fits hz (by decide)
  have hsz : z.cps.size = z.cps.toList.length := by simp
  have hlen : z.length = z.cps.toList.length := hsz
  refine Vf.st_if (b := !(decide ((1 : Int) ≤ (z.length : Int)) && decide ((z.length : Int) ≤ 12))) (ans_not fun R r => ⟨_, rfl, z, rfl, hzl, _, _, rfl, rfl, _, rfl, ?_⟩) (fun hb => ?_) (fun hb => ?_)
  · by_cases h1 : (1 : Int) ≤ (z.length : Int)
    · rw [decide_eq_true h1] at r ⊢
      refine iteT ⟨_, _, rfl, rfl, _, rfl, ?_⟩
      simpa using r
    · rw [decide_eq_false h1] at r ⊢
      exact iteF ⟨_, rfl, r⟩
  · rw [hlen] at hb
    have e : Vf.isName z = false := Vf.isNameL_bad hb
    exact e ▸ q H (Same.refl H)
  · rw [hlen] at hb
    obtain ⟨c, r, hc, ei⟩ := Vf.isNameL_ok hb
    have ei : Vf.isName z = (Vf.lowC c && z.cps.toList.all fun c => Vf.lowC c || Vf.digC c) := ei
    refine ⟨_, rfl, z, 0, c, rfl, rfl, hzl, atI_nat (j := 0) (by rw [hc]; rfl), c, _, rfl, rfl, _, rfl, ?_⟩
    rw [show decide (c ∈ (Str.ofString "abcdefghijklmnopqrstuvwxyz").cps.toList) = Vf.lowC c from Vf.in_letters c]
    refine Vf.ite_b (fun hl => ?_) (fun hl => ?_)
    · refine ⟨_, rfl, z, rfl, fun D hD => ?_⟩
      refine Vf.lc_val (walk_str (z := z)) (fun i => .bl (Vf.lowC (z.cps.toList.getD i 0) || Vf.digC (z.cps.toList.getD i 0))) hD (by omega) (fun _ _ => trivial) ?_ ?_
      · rintro i x H1 H2 hi s1 ⟨rfl, c', hc', rfl⟩ Q' q'
        have ec : z.cps.toList.getD i 0 = c' := by
          rw [List.getD_eq_getElem?_getD, Array.getElem?_toList, hc']
          rfl
        rw [ec] at q'
        refine ⟨rfl, _, rfl, c', _, rfl, rfl, _, rfl, ?_⟩
        rw [show decide (c' ∈ (Str.ofString "abcdefghijklmnopqrstuvwxyz").cps.toList) = Vf.lowC c' from Vf.in_letters c']
        refine Vf.ite_b (fun h1 => ?_) (fun h1 => ?_)
        · rw [h1] at q'
          exact q' _ (Same.refl _)
        · refine ⟨_, rfl, c', _, rfl, rfl, ?_⟩
          rw [show decide (c' ∈ (Str.ofString "0123456789").cps.toList) = Vf.digC c' from Vf.in_digits c']
          rw [h1] at q'
          exact q' _ (Same.refl _)
      · intro H1 s1 hl1
        refine ⟨D, (List.range z.cps.size).map fun i => Vf.lowC (z.cps.toList.getD i 0) || Vf.digC (z.cps.toList.getD i 0), rfl, SqL.of (by rw [hl1, List.map_map]; rfl), ?_⟩
        rw [Vf.name_any _ _ hsz]
        have q2 := q H1 (fun a o e => s1 a o e)
        rw [ei, hl] at q2
        exact q2
    · rw [hl] at ei
      have q2 := q H (Same.refl H)
      rw [ei] at q2
      exact q2
end

def sp_Draft_add_state (K : PySem.W.Frag) (A : Ad) : Sp := fun vs H Q E => ∃ (p : Addr) (a : Vf.DA) (D : Vf.DD) (name : Str) (output : Int), vs = [.ref p, .str name, .int output] ∧ Vf.DraftAt A.c_Draft H p a D ∧ D.ru = [] ∧ D.ou.length = D.st.length ∧ name.length ≤ 1000000 ∧ output.natAbs.log2 < 1920 ∧
  (D.okState name output = true → ∀ H', Vf.DraftAt A.c_Draft H' p a (D.addState name output) → Vf.Keep a.foot H H' → Q .non H') ∧ (D.okState name output = false → ∀ H', Same H H' → E (.ref A.c_InvalidRulebook) none H')
theorem len_Draft_add_state {K : PySem.W.Frag} {A : Ad} (vs : List V) (H : Hp) (Q : VK) (E : XK) (h : sp_Draft_add_state K A vs H Q E) : vs.length = ["self", "name", "output"].length := by
  obtain ⟨a, b, c, d, e, rfl, _⟩ := h
  rfl

section
variable {P : Program} {w : World} {K : PySem.W.Frag} {mg : Str → Option Value} {base : Heap}
set_option maxHeartbeats 4000000 in
theorem ok_Draft_add_state {A : Ad} (T : Txt P K mg A) : FnOk P w K mg base (L2.CX P w) 2 A.f_Draft_add_state A.d_Draft_add_state ["self", "name", "output"] (sp_Draft_add_state K A) := by
  have G__demand := ok__demand (P := P) (w := w) (base := base) T
  have G_is_name := ok_is_name (P := P) (w := w) (base := base) T
  obtain ⟨_, v_GREATEST_OUTPUT⟩ := T.V_GREATEST_OUTPUT
  obtain ⟨_, v_MOST_STATES⟩ := T.V_MOST_STATES
  refine T.F_Draft_add_state.okX sc_Draft_add_state len_Draft_add_state (fun cdv Ar outer s H vs Q E hr h => ?_)
  have hu := hu_of hr
  obtain ⟨p, a, D, name, output, rfl, S, hru, hou, hn, ho, q1, q2⟩ := h
  obtain ⟨dx, h0⟩ := S.ob
  refine ⟨_, (pss_cons (ps_expr (pe_call G__demand hr (by rfl) T.G__demand T.F__demand.kp T.B__demand .nil (passes_call (takes_of rfl rfl rfl rfl) fun _ _ _ _ h => h) (pa_cons (pe_cmpR op_lt (pe_callB call_len_seq (by rfl) T.N_len PySem.boot_len (pa_cons (pe_fld (pv 0) (by rfl)) pa_nil)) (pe_glob (v := .int 400) rfl v_MOST_STATES ⟨_, rfl⟩) (nomark _)) (pa_cons (Vf.pe_join (.cons pe_str (.cons (pe_fmt (pe_glob (v := .int 400) rfl v_MOST_STATES ⟨_, rfl⟩)) (.cons pe_str .nil)))) pa_nil))))
      (pss_cons (ps_expr (pe_call G__demand hr (by rfl) T.G__demand T.F__demand.kp T.B__demand .nil (passes_call (takes_of rfl rfl rfl rfl) fun _ _ _ _ h => h) (pa_cons (pe_call G_is_name hr (by rfl) T.G_is_name T.F_is_name.kp T.B_is_name .nil pass0 (pa_cons (pv 1) pa_nil)) (pa_cons (Vf.pe_join (.cons (pe_fmt (pv 1)) (.cons pe_str .nil))) pa_nil))))
      (pss_cons (ps_expr (pe_call G__demand hr (by rfl) T.G__demand T.F__demand.kp T.B__demand .nil (passes_call (takes_of rfl rfl rfl rfl) fun _ _ _ _ h => h) (pa_cons (pe_cmp (pc_dnotin hu (pv 1) (pe_fld (pv 0) (by rfl)))) (pa_cons (Vf.pe_join (.cons pe_str (.cons (pe_fmt (pv 1)) (.cons pe_str .nil)))) pa_nil))))
      (pss_cons (ps_expr (pe_call G__demand hr (by rfl) T.G__demand T.F__demand.kp T.B__demand .nil (passes_call (takes_of rfl rfl rfl rfl) fun _ _ _ _ h => h) (pa_cons (pe_chain op_le op_le pe_int (pv 2) (pe_glob (v := .int 9) rfl v_GREATEST_OUTPUT ⟨_, rfl⟩)) (pa_cons (Vf.pe_join (.cons pe_str (.cons (pe_fmt (pv 2)) (.cons pe_str .nil)))) pa_nil))))
      (pss_cons (ps_dput hu (pe_fld (pv 0) (by rfl)) (pv 1) (pe_callB call_len_seq (by rfl) T.N_len PySem.boot_len (pa_cons (pe_fld (pv 0) (by rfl)) pa_nil)) rfl)
      (pss_cons (ps_expr (pe_bm PySem.F.plainAttrs_list PySem.F.slot_list_append PySem.F.type_list_append mt_append (pe_fld (pv 0) (by rfl)) (pa_cons (pv 1) pa_nil)))
      (pss_one (ps_expr (pe_bm PySem.F.plainAttrs_list PySem.F.slot_list_append PySem.F.type_list_append mt_append (pe_fld (pv 0) (by rfl)) (pa_cons (pv 2) pa_nil)))))))))), ?_⟩
  -- there is room
  refine ⟨_, rfl, p, A.c_Draft, dx, _, _, rfl, h0, T.C_Draft, T.A_Draft_states, rfl, a.ls, _, rfl, .inl (SqL.of S.ls), _, _, rfl, rfl, ?_⟩
  refine ⟨_, rfl, (by walk_at "fit"), .inr ⟨400, rfl, by decide +kernel, _, rfl, (by walk_at "fit"), _, rfl, (by walk_at "fit"), _, _, rfl, fun c1 => ?_, fun c1 => q2 ?_ H (Same.refl H)⟩⟩
  rotate_left
  · rw [List.length_map] at c1
    have c2 := of_decide_eq_false c1
    unfold Vf.DD.okState
    rw [decide_eq_false (show ¬ D.st.length < 400 by omega)]
    simp
  rw [List.length_map] at c1
  have c1 : D.st.length < 400 := by
    have := of_decide_eq_true c1
    omega
  -- it is a name
  refine ⟨_, rfl, name, rfl, hn, fun H1 s1 => ?_⟩
  have S1 := S.same s1
  refine ⟨_, rfl, .inl ⟨_, rfl, Vf.fits hn (by decide), _, rfl, (by walk_at "fit"), _, rfl, (by walk_at "fit"), _, _, rfl, fun c2 => ?_, fun c2 => q2 ?_ H1 s1⟩⟩
  rotate_left
  · unfold Vf.DD.okState
    rw [c2]
    simp
  -- it is a new one
  refine ⟨_, rfl, _, rfl, p, A.c_Draft, dx, _, _, rfl, s1 _ _ h0, T.C_Draft, T.A_Draft_numbers, rfl, a.dn, _, rfl, DGet.k (k := Sum.inr name) S1.dn, ?_⟩
  refine ⟨_, rfl, (by walk_at "fit"), _, rfl, .inl ⟨_, rfl, Vf.fits hn (by decide), _, rfl, (by walk_at "fit"), _, rfl, (by walk_at "fit"), _, _, rfl, fun c3 => ?_, fun c3 => q2 ?_ H1 s1⟩⟩
  rotate_left
  · rw [Vf.num_val] at c3
    by_cases hm : name ∈ D.st
    · unfold Vf.DD.okState
      rw [decide_eq_false (show ¬ name ∉ D.st from fun z => z hm)]
      simp
    · rw [if_neg hm] at c3
      cases c3
  have c3 : name ∉ D.st := fun hm => by
    rw [Vf.num_val, if_pos hm] at c3
    cases c3
  -- the output is in its range
  refine ⟨_, rfl, Vf.chain_le (fun R r => r) ?_⟩
  refine ⟨_, rfl, (by walk_at "fit"), _, rfl, .inr ⟨output, rfl, ho, _, rfl, (by walk_at "fit"), _, rfl, (by walk_at "fit"), _, _, rfl, fun c4 => ?_, fun c4 => q2 ?_ H1 s1⟩⟩
  rotate_left
  · unfold Vf.DD.okState
    rw [c4]
    simp
  have ok : D.okState name output = true := by
    unfold Vf.DD.okState
    rw [decide_eq_true c1, c2, decide_eq_true c3, c4]
    rfl
  have d := S1.dist
  have w1 := S1.ls
  have w2 := S1.lo
  have w3 := S1.dn
  have w0 := s1 _ _ h0
  obtain ⟨d1, d2, d3, d4, d5, d6, d7, d8, d9, d10, d11, d12, d13, d14, d15, d16, d17, d18, d19, d20, d21, d22, d23, d24, d25, d26, d27, d28⟩ := d
  -- the three stores
  refine ⟨_, rfl, p, A.c_Draft, dx, _, _, rfl, w0, T.C_Draft, T.A_Draft_states, rfl, a.ls, _, rfl, .inl (SqL.of w1), _, rfl, p, A.c_Draft, dx, _, _, rfl, w0, T.C_Draft, T.A_Draft_numbers, rfl, _, rfl, a.dn, _, rfl, DPut.k (k := Sum.inr name) w3 (by rw [Vf.numK_len]; exact Nat.lt_of_lt_of_le c1 (by decide)), ?_⟩
  refine ⟨_, rfl, p, A.c_Draft, dx, _, _, rfl, (by walk_at "hp"), T.C_Draft, T.A_Draft_states, rfl, Vf.tyL (a := a.ls) (xs := D.st.map V.str) (by walk_at "hp"), _, rfl, a.ls, D.st.map V.str, _, rfl, rfl, (by walk_at "hp"), (by rw [List.length_map]; exact Nat.lt_of_lt_of_le c1 (by decide)), ?_⟩
  refine ⟨_, rfl, p, A.c_Draft, dx, _, _, rfl, (by walk_at "hp"), T.C_Draft, T.A_Draft_outputs, rfl, Vf.tyL (a := a.lo) (xs := D.ou.map V.int) (by walk_at "hp"), _, rfl, a.lo, D.ou.map V.int, _, rfl, rfl, (by walk_at "hp"), (by rw [List.length_map, hou]; exact Nat.lt_of_lt_of_le c1 (by decide)), ?_⟩
  have e1 : putK (Vf.numK D.st) (Sum.inr name) (V.int ((D.st.map V.str).length : Int)) = Vf.numK (D.st ++ [name]) := by
    rw [Vf.numK_snoc, List.length_map, putK_new _ (by rw [Vf.num_val, if_neg c3])]
  have k : Vf.Keep a.foot H1 (upd (upd (upd H1 a.dn (.dK (putK (Vf.numK D.st) (Sum.inr name) (V.int ((D.st.map V.str).length : Int))))) a.ls (.lst (D.st.map V.str ++ [V.str name]))) a.lo (.lst (D.ou.map V.int ++ [V.int output]))) :=
    (((Vf.Keep.refl H1).put (by simp [Vf.DA.foot])).put (by simp [Vf.DA.foot])).put (by simp [Vf.DA.foot])
  refine q1 ok _ (S1.next k ?_ ?_ ?_ ?_ ?_ ?_ ?_) ((Vf.Keep.of s1).trans k)
  · rw [upd_ne d11, upd_same]
    simp [Vf.DD.addState]
  · exact S1.li' k (by rw [upd_ne d16, upd_ne (Ne.symm d8), upd_ne d17])
  · rw [upd_ne d20, upd_ne (Ne.symm d9), upd_ne d21]
    exact S1.ll
  · exact S1.lr' k (by rw [upd_ne d23, upd_ne (Ne.symm d10), upd_ne d24])
  · rw [upd_same]
    simp [Vf.DD.addState]
  · rw [upd_ne (Ne.symm d26), upd_ne (Ne.symm d12), upd_same, e1]
    rfl
  · obtain ⟨kvs, hk, R⟩ := S1.dr' k (by rw [upd_ne (Ne.symm d27), upd_ne (Ne.symm d13), upd_ne (Ne.symm d28)])
    refine ⟨kvs, hk, ?_⟩
    have hru' : (D.addState name output).ru = [] := hru
    rw [hru] at R
    rw [hru']
    have hk0 : kvs = [] := by
      have := R.keys
      simpa using this
    subst hk0
    exact ⟨rfl, Vf.Tups.nil⟩
end

def sp_Draft__demand_state (K : PySem.W.Frag) (A : Ad) : Sp := fun vs H Q E => ∃ (p : Addr) (a : Vf.DA) (D : Vf.DD) (name : Str), vs = [.ref p, .str name] ∧ Vf.DraftAt A.c_Draft H p a D ∧ name.length ≤ 1000000 ∧
  (name ∈ D.st → Q .non H) ∧ (name ∉ D.st → E (.ref A.c_InvalidRulebook) none H)
theorem len_Draft__demand_state {K : PySem.W.Frag} {A : Ad} (vs : List V) (H : Hp) (Q : VK) (E : XK) (h : sp_Draft__demand_state K A vs H Q E) : vs.length = ["self", "name"].length := by
  obtain ⟨a, b, c, d, rfl, _⟩ := h
  rfl

section
variable {P : Program} {w : World} {K : PySem.W.Frag} {mg : Str → Option Value} {base : Heap}
set_option maxHeartbeats 4000000 in
theorem ok_Draft__demand_state {A : Ad} (T : Txt P K mg A) : FnOk P w K mg base (L2.CX P w) 2 A.f_Draft__demand_state A.d_Draft__demand_state ["self", "name"] (sp_Draft__demand_state K A) := by
  have G__demand := ok__demand (P := P) (w := w) (base := base) T
  refine T.F_Draft__demand_state.okX sc_Draft__demand_state len_Draft__demand_state (fun cdv Ar outer s H vs Q E hr h => ?_)
  have hu := hu_of hr
  obtain ⟨p, a, D, name, rfl, S, hn, q1, q2⟩ := h
  obtain ⟨dx, h0⟩ := S.ob
  refine ⟨_, (pss_one (ps_expr (pe_call G__demand hr (by rfl) T.G__demand T.F__demand.kp T.B__demand .nil (passes_call (takes_of rfl rfl rfl rfl) fun _ _ _ _ h => h) (pa_cons (pe_cmp (pc_din hu (pv 1) (pe_fld (pv 0) (by rfl)))) (pa_cons (Vf.pe_join (.cons pe_str (.cons (pe_fmt (pv 1)) .nil))) pa_nil))))), ?_⟩
  refine ⟨_, rfl, _, rfl, p, A.c_Draft, dx, _, _, rfl, h0, T.C_Draft, T.A_Draft_numbers, rfl, a.dn, _, rfl, DGet.k (k := Sum.inr name) S.dn, ?_⟩
  refine ⟨_, rfl, (by walk_at "fit"), _, rfl, .inl ⟨_, rfl, Vf.fits hn (by decide), _, rfl, (by walk_at "fit"), _, _, rfl, ?_, ?_⟩⟩
  · intro hb
    refine q1 ?_
    rw [Vf.num_val] at hb
    by_cases hm : name ∈ D.st
    · exact hm
    · rw [if_neg hm] at hb
      cases hb
  · intro hb
    refine q2 fun hm => ?_
    rw [Vf.num_val, if_pos hm] at hb
    cases hb
end

def sp_Draft_add_input (K : PySem.W.Frag) (A : Ad) : Sp := fun vs H Q E => ∃ (p : Addr) (a : Vf.DA) (D : Vf.DD) (t : Addr) (pr : Str × Str), vs = [.ref p, .ref t] ∧ Vf.DraftAt A.c_Draft H p a D ∧ H t = some (.tup (Vf.enc2 pr)) ∧ pr.1.length ≤ 1000000 ∧ pr.2.length ≤ 1000000 ∧
  (D.okInput pr = true → ∀ H', Vf.DraftAt A.c_Draft H' p a (D.addInput pr) → Vf.Keep a.foot H H' → Q .non H') ∧ (D.okInput pr = false → ∀ H', Same H H' → E (.ref A.c_InvalidRulebook) none H')
theorem len_Draft_add_input {K : PySem.W.Frag} {A : Ad} (vs : List V) (H : Hp) (Q : VK) (E : XK) (h : sp_Draft_add_input K A vs H Q E) : vs.length = ["self", "pair"].length := by
  obtain ⟨a, b, c, d, e, rfl, _⟩ := h
  rfl

section
variable {P : Program} {w : World} {K : PySem.W.Frag} {mg : Str → Option Value} {base : Heap}
set_option maxHeartbeats 4000000 in
theorem ok_Draft_add_input {A : Ad} (T : Txt P K mg A) : FnOk P w K mg base (L2.CX P w) 3 A.f_Draft_add_input A.d_Draft_add_input ["self", "pair"] (sp_Draft_add_input K A) := by
  have G__demand := ok__demand (P := P) (w := w) (base := base) T
  have G_is_name := ok_is_name (P := P) (w := w) (base := base) T
  have G_Draft__demand_state := ok_Draft__demand_state (P := P) (w := w) (base := base) T
  obtain ⟨_, v_MOST_INPUTS⟩ := T.V_MOST_INPUTS
  refine T.F_Draft_add_input.okX sc_Draft_add_input len_Draft_add_input (fun cdv Ar outer s H vs Q E hr h => ?_)
  have hu := hu_of hr
  obtain ⟨p, a, D, t, ⟨name, state⟩, rfl, S, ht, hn, hs, q1, q2⟩ := h
  obtain ⟨dx, h0⟩ := S.ob
  obtain ⟨xs, hx, tx⟩ := S.li
  refine ⟨_, (pss_cons (ps_expr (pe_call G__demand (hr.mono (by decide)) (by rfl) T.G__demand T.F__demand.kp T.B__demand .nil (passes_call (takes_of rfl rfl rfl rfl) fun _ _ _ _ h => h) (pa_cons (pe_cmpR op_lt (pe_callB call_len_seq (by rfl) T.N_len PySem.boot_len (pa_cons (pe_fld (pv 0) (by rfl)) pa_nil)) (pe_glob (v := .int 8) rfl v_MOST_INPUTS ⟨_, rfl⟩) (nomark _)) (pa_cons (Vf.pe_join (.cons pe_str (.cons (pe_fmt (pe_glob (v := .int 8) rfl v_MOST_INPUTS ⟨_, rfl⟩)) (.cons pe_str .nil)))) pa_nil))))
      (pss_cons (ps_expr (pe_call G__demand (hr.mono (by decide)) (by rfl) T.G__demand T.F__demand.kp T.B__demand .nil (passes_call (takes_of rfl rfl rfl rfl) fun _ _ _ _ h => h) (pa_cons (pe_cmpR op_eq (pe_callB call_len_seq (by rfl) T.N_len PySem.boot_len (pa_cons (pv 1) pa_nil)) pe_int (nomark _)) (pa_cons pe_str pa_nil))))
      (pss_cons (ps_asg (pv 1) (pg_tup (by rfl) (pgs_cons (pg_name (i := 2) sc_Draft_add_input.nd rfl (Or.inl rfl)) (pgs_cons (pg_name (i := 3) sc_Draft_add_input.nd rfl (Or.inl rfl)) pgs_nil))))
      (pss_cons (ps_expr (pe_call G__demand (hr.mono (by decide)) (by rfl) T.G__demand T.F__demand.kp T.B__demand .nil (passes_call (takes_of rfl rfl rfl rfl) fun _ _ _ _ h => h) (pa_cons (pe_call G_is_name (hr.mono (by decide)) (by rfl) T.G_is_name T.F_is_name.kp T.B_is_name .nil pass0 (pa_cons (pv 2) pa_nil)) (pa_cons (Vf.pe_join (.cons (pe_fmt (pv 2)) (.cons pe_str .nil))) pa_nil))))
      (pss_cons (ps_expr (pe_call G__demand (hr.mono (by decide)) (by rfl) T.G__demand T.F__demand.kp T.B__demand .nil (passes_call (takes_of rfl rfl rfl rfl) fun _ _ _ _ h => h) (pa_cons (pe_cmpR op_notIn_seq (pv 2) (pe_lc (own := [("known", 4), ("_", 5)]) (g := (gTup K 2 (gCons (gName 4) (gCons (gName 5) gNil)))) (tt := tYes) rfl sc_Draft_add_input.nd (pi_list (pe_fld (pv 0) (by rfl))) (blkOk_by (N := ["self", "pair", "name", "state", "known", "_"]) (sc := defScope s_Draft_add_input) (by decide +kernel)) (fun _ _ _ _ _ => (pg_tup (by rfl) (pgs_cons (pg_name (i := 4) sc_Draft_add_input.nd rfl (Or.inl rfl)) (pgs_cons (pg_name (i := 5) sc_Draft_add_input.nd rfl (Or.inl rfl)) pgs_nil)))) (fun _ _ _ _ _ => pts_nil) (fun _ _ _ _ _ => (pv 4))) (by rfl)) (pa_cons (Vf.pe_join (.cons pe_str (.cons (pe_fmt (pv 2)) (.cons pe_str .nil)))) pa_nil))))
      (pss_cons (ps_expr (pe_meth (pv 0) T.C_Draft T.M_Draft__demand_state G_Draft__demand_state hr T.B_Draft__demand_state .nil (passes_call (takes_of rfl rfl rfl rfl) fun _ _ _ _ h => h) (pa_cons (pv 3) pa_nil)))
      (pss_one (ps_expr (pe_bm PySem.F.plainAttrs_list PySem.F.slot_list_append PySem.F.type_list_append mt_append (pe_fld (pv 0) (by rfl)) (pa_cons (pe_tup (pa_cons (pv 2) (pa_cons (pv 3) pa_nil))) pa_nil)))))))))), ?_⟩
  refine ⟨_, rfl, p, A.c_Draft, dx, _, _, rfl, h0, T.C_Draft, T.A_Draft_inputs, rfl, a.li, _, rfl, .inl (SqL.of hx), _, _, rfl, rfl, ?_⟩
  refine ⟨_, rfl, (by walk_at "fit"), .inr ⟨8, rfl, by decide +kernel, _, rfl, (by walk_at "fit"), _, rfl, (by walk_at "fit"), _, _, rfl, fun c1 => ?_, fun c1 => q2 ?_ H (Same.refl H)⟩⟩
  rotate_left
  · rw [tx.1] at c1
    have c2 := of_decide_eq_false c1
    unfold Vf.DD.okInput
    rw [decide_eq_false (show ¬ D.ins.length < 8 by omega)]
    simp
  rw [tx.1] at c1
  have c1 : D.ins.length < 8 := by
    have := of_decide_eq_true c1
    omega
  -- a pair
  refine ⟨_, rfl, t, _, rfl, .inr (SqT.of ht), rfl, _, _, rfl, fun _ => ?_, fun c => (by cases c)⟩
  refine ⟨_, rfl, t, _, rfl, SqT.of ht, rfl, _, _, rfl, _, _, rfl, rfl, ?_⟩
  -- a name
  refine ⟨_, rfl, name, rfl, hn, fun H1 s1 => ?_⟩
  refine ⟨_, rfl, .inl ⟨_, rfl, Vf.fits hn (by decide), _, rfl, (by walk_at "fit"), _, rfl, (by walk_at "fit"), _, _, rfl, fun c2 => ?_, fun c2 => q2 ?_ H1 s1⟩⟩
  rotate_left
  · unfold Vf.DD.okInput
    rw [c2]
    simp
  -- a new one
  refine ⟨_, rfl, _, rfl, p, A.c_Draft, dx, _, .ref a.li, rfl, s1 _ _ h0, T.C_Draft, T.A_Draft_inputs, rfl, a.li, rfl, ⟨_, SqL.of (s1 _ _ hx)⟩, fun L hL => ?_⟩
  refine Vf.lc_val (walk_list (K := K) (a := a.li) (xs := xs)) (fun i => .str ((D.ins.map (·.1)).getD i Str.empty)) hL (by rw [tx.1]; omega) (fun H2 s2 => SqL.of (s2 _ _ (s1 _ _ hx))) ?_ ?_
  · rintro i x H2 H3 hi s2 ⟨rfl, hxi⟩ Q' q'
    obtain ⟨pr, u, e1, rfl, hu1⟩ := tx.get hxi
    refine ⟨u, _, rfl, SqT.of (s2 _ _ (s1 _ _ hu1)), rfl, _, _, rfl, _, _, rfl, rfl, rfl, _, rfl, ?_⟩
    have e : (D.ins.map (·.1)).getD i Str.empty = pr.1 := by
      rw [List.getD_eq_getElem?_getD, List.getElem?_map, e1]
      rfl
    rw [e] at q'
    exact q' H3 (Same.refl H3)
  intro H2 s2 hL2
  rw [Vf.range_map (D.ins.map (·.1)) V.str Str.empty xs.length (by rw [tx.1, List.length_map])] at hL2
  refine ⟨L, _, rfl, .inl (SqL.of hL2), rfl, Vf.flat_str _, ?_⟩
  rw [Vf.inV_str]
  have s12 : Same H H2 := s1.trans s2
  refine ⟨_, rfl, (by walk_at "fit"), _, rfl, .inl ⟨_, rfl, Vf.fits hn (by decide), _, rfl, (by walk_at "fit"), _, rfl, (by walk_at "fit"), _, _, rfl, fun c3 => ?_, fun c3 => q2 ?_ H2 s12⟩⟩
  rotate_left
  · have hm : name ∈ D.ins.map (·.1) := by
      rw [if_pos rfl, Bool.not_eq_false'] at c3
      exact of_decide_eq_true c3
    unfold Vf.DD.okInput
    rw [decide_eq_false (fun z : name ∉ D.ins.map (·.1) => z hm)]
    simp
  have c3 : name ∉ D.ins.map (·.1) := by
    rw [if_pos rfl, Bool.not_eq_true'] at c3
    exact of_decide_eq_false c3
  have S2 := S.same s12
  -- its state is there
  refine ⟨_, rfl, p, dx, _, rfl, s12 _ _ h0, rfl, _, rfl, p, a, D, state, rfl, S2, hs, fun c4 => ?_, fun c4 => q2 ?_ H2 s12⟩
  rotate_left
  · unfold Vf.DD.okInput
    rw [decide_eq_false c4]
    simp
  have ok : D.okInput (name, state) = true := by
    unfold Vf.DD.okInput
    rw [decide_eq_true c1, c2, decide_eq_true c3, decide_eq_true c4]
    rfl
  obtain ⟨d1, d2, d3, d4, d5, d6, d7, d8, d9, d10, d11, d12, d13, d14, d15, d16, d17, d18, d19, d20, d21, d22, d23, d24, d25, d26, d27, d28⟩ := S.dist
  have w1 := s12 _ _ hx
  refine ⟨_, rfl, p, A.c_Draft, dx, _, _, rfl, s12 _ _ h0, T.C_Draft, T.A_Draft_inputs, rfl, Vf.tyL (a := a.li) (xs := xs) w1, _, rfl, _, rfl, (by show 2 ≤ sizeLine; decide), fun u hu2 => ?_⟩
  have nu : a.li ≠ u := ne_of_none w1 hu2
  refine ⟨a.li, xs, _, rfl, rfl, (by rw [upd_ne nu]; exact w1), (by rw [tx.1]; exact Nat.lt_of_lt_of_le c1 (by decide)), ?_⟩
  have s3 : Same H2 (upd H2 u (.tup [.str name, .str state])) := Vf.Same.new (Same.refl H2) hu2
  have k : Vf.Keep a.foot H2 (upd (upd H2 u (.tup [.str name, .str state])) a.li (.lst (xs ++ [.ref u]))) := (Vf.Keep.of s3).put (by simp [Vf.DA.foot])
  have w0 := S2.ls
  have w2 := S2.ll
  have w3 := S2.lo
  have w4 := S2.dn
  obtain ⟨y1, w5, _⟩ := S2.lr
  obtain ⟨y2, w6, _⟩ := S2.dr
  refine q1 ok _ (S2.next k ?_ ⟨xs ++ [.ref u], upd_same, ?_⟩ ?_ ?_ ?_ ?_ ?_) ((Vf.Keep.of s12).trans k)
  · rw [upd_ne d8, upd_ne (ne_of_none w0 hu2)]
    exact w0
  · refine (((tx.same s12).same s3).keep (S := [a.li]) ((Vf.Keep.refl _).put (by simp)) fun v ys hv m => ?_).snoc (t := u) (a := (name, state)) ?_
    · rw [List.mem_singleton] at m
      subst m
      rw [s3 _ _ w1] at hv
      cases hv
    · rw [upd_ne (Ne.symm nu), upd_same]
      rfl
  · rw [upd_ne (Ne.symm d14), upd_ne (ne_of_none w2 hu2)]
    exact w2
  · exact S2.lr' k (by rw [upd_ne (Ne.symm d15), upd_ne (ne_of_none w5 hu2)])
  · rw [upd_ne (Ne.symm d16), upd_ne (ne_of_none w3 hu2)]
    exact w3
  · rw [upd_ne (Ne.symm d17), upd_ne (ne_of_none w4 hu2)]
    exact w4
  · exact S2.dr' k (by rw [upd_ne (Ne.symm d18), upd_ne (ne_of_none w6 hu2)])
end

def sp_Draft_add_leader (K : PySem.W.Frag) (A : Ad) : Sp := fun vs H Q E => ∃ (p : Addr) (a : Vf.DA) (D : Vf.DD) (name : Str), vs = [.ref p, .str name] ∧ Vf.DraftAt A.c_Draft H p a D ∧ name.length ≤ 1000000 ∧
  (D.okLeader name = true → ∀ H', Vf.DraftAt A.c_Draft H' p a (D.addLeader name) → Vf.Keep a.foot H H' → Q .non H') ∧ (D.okLeader name = false → ∀ H', Same H H' → E (.ref A.c_InvalidRulebook) none H')
theorem len_Draft_add_leader {K : PySem.W.Frag} {A : Ad} (vs : List V) (H : Hp) (Q : VK) (E : XK) (h : sp_Draft_add_leader K A vs H Q E) : vs.length = ["self", "state"].length := by
  obtain ⟨a, b, c, d, rfl, _⟩ := h
  rfl

section
variable {P : Program} {w : World} {K : PySem.W.Frag} {mg : Str → Option Value} {base : Heap}
set_option maxHeartbeats 4000000 in
theorem ok_Draft_add_leader {A : Ad} (T : Txt P K mg A) : FnOk P w K mg base (L2.CX P w) 3 A.f_Draft_add_leader A.d_Draft_add_leader ["self", "state"] (sp_Draft_add_leader K A) := by
  have G__demand := ok__demand (P := P) (w := w) (base := base) T
  have G_Draft__demand_state := ok_Draft__demand_state (P := P) (w := w) (base := base) T
  obtain ⟨_, v_MOST_LEADERS⟩ := T.V_MOST_LEADERS
  refine T.F_Draft_add_leader.okX sc_Draft_add_leader len_Draft_add_leader (fun cdv Ar outer s H vs Q E hr h => ?_)
  have hu := hu_of hr
  obtain ⟨p, a, D, name, rfl, S, hn, q1, q2⟩ := h
  obtain ⟨dx, h0⟩ := S.ob
  refine ⟨_, (pss_cons (ps_expr (pe_call G__demand (hr.mono (by decide)) (by rfl) T.G__demand T.F__demand.kp T.B__demand .nil (passes_call (takes_of rfl rfl rfl rfl) fun _ _ _ _ h => h) (pa_cons (pe_cmpR op_lt (pe_callB call_len_seq (by rfl) T.N_len PySem.boot_len (pa_cons (pe_fld (pv 0) (by rfl)) pa_nil)) (pe_glob (v := .int 10) rfl v_MOST_LEADERS ⟨_, rfl⟩) (nomark _)) (pa_cons (Vf.pe_join (.cons pe_str (.cons (pe_fmt (pe_glob (v := .int 10) rfl v_MOST_LEADERS ⟨_, rfl⟩)) (.cons pe_str .nil)))) pa_nil))))
      (pss_cons (ps_expr (pe_meth (pv 0) T.C_Draft T.M_Draft__demand_state G_Draft__demand_state hr T.B_Draft__demand_state .nil (passes_call (takes_of rfl rfl rfl rfl) fun _ _ _ _ h => h) (pa_cons (pv 1) pa_nil)))
      (pss_one (ps_expr (pe_bm PySem.F.plainAttrs_list PySem.F.slot_list_append PySem.F.type_list_append mt_append (pe_fld (pv 0) (by rfl)) (pa_cons (pv 1) pa_nil)))))), ?_⟩
  refine ⟨_, rfl, p, A.c_Draft, dx, _, _, rfl, h0, T.C_Draft, T.A_Draft_leaders, rfl, a.ll, _, rfl, .inl (SqL.of S.ll), _, _, rfl, rfl, ?_⟩
  refine ⟨_, rfl, (by walk_at "fit"), .inr ⟨10, rfl, by decide +kernel, _, rfl, (by walk_at "fit"), _, rfl, (by walk_at "fit"), _, _, rfl, fun c1 => ?_, fun c1 => q2 ?_ H (Same.refl H)⟩⟩
  rotate_left
  · rw [List.length_map] at c1
    have c2 := of_decide_eq_false c1
    unfold Vf.DD.okLeader
    rw [decide_eq_false (show ¬ D.ld.length < 10 by omega)]
    simp
  rw [List.length_map] at c1
  have c1 : D.ld.length < 10 := by
    have := of_decide_eq_true c1
    omega
  refine ⟨_, rfl, p, dx, _, rfl, h0, rfl, _, rfl, p, a, D, name, rfl, S, hn, fun c2 => ?_, fun c2 => q2 ?_ H (Same.refl H)⟩
  rotate_left
  · unfold Vf.DD.okLeader
    rw [decide_eq_false c2]
    simp
  have ok : D.okLeader name = true := by
    unfold Vf.DD.okLeader
    rw [decide_eq_true c1, decide_eq_true c2]
    rfl
  have w1 := S.ll
  obtain ⟨d1, d2, d3, d4, d5, d6, d7, d8, d9, d10, d11, d12, d13, d14, d15, d16, d17, d18, d19, d20, d21, d22, d23, d24, d25, d26, d27, d28⟩ := S.dist
  refine ⟨_, rfl, p, A.c_Draft, dx, _, _, rfl, h0, T.C_Draft, T.A_Draft_leaders, rfl, Vf.tyL (a := a.ll) (xs := D.ld.map V.str) w1, _, rfl, a.ll, D.ld.map V.str, _, rfl, rfl, w1, (by rw [List.length_map]; exact Nat.lt_of_lt_of_le c1 (by decide)), ?_⟩
  have k : Vf.Keep a.foot H (upd H a.ll (.lst (D.ld.map V.str ++ [V.str name]))) := (Vf.Keep.refl H).put (by simp [Vf.DA.foot])
  refine q1 ok _ (S.next k ?_ ?_ ?_ ?_ ?_ ?_ ?_) k
  · rw [upd_ne d9]
    exact S.ls
  · exact S.li' k (by rw [upd_ne d14])
  · rw [upd_same]
    simp [Vf.DD.addLeader]
  · exact S.lr' k (by rw [upd_ne (Ne.symm d19)])
  · rw [upd_ne (Ne.symm d20)]
    exact S.lo
  · rw [upd_ne (Ne.symm d21)]
    exact S.dn
  · exact S.dr' k (by rw [upd_ne (Ne.symm d22)])
end

def sp_Draft_add_rule (K : PySem.W.Frag) (A : Ad) : Sp := fun vs H Q E => ∃ (p : Addr) (a : Vf.DA) (D : Vf.DD) (t : Addr) (r : Vf.S4), vs = [.ref p, .ref t] ∧ Vf.DraftAt A.c_Draft H p a D ∧ H t = some (.tup (Vf.enc4 r)) ∧ (∀ x ∈ Vf.r4 r, x.length ≤ 1000000) ∧
  (∀ x ∈ D.ru, x.1 ∈ D.st ∧ x.2.1 ∈ D.st) ∧ D.ru.length ≤ 1000000 ∧
  (D.okRule r = true → ∀ H', Vf.DraftAt A.c_Draft H' p a (D.addRule r) → Vf.Keep a.foot H H' → Q .non H') ∧ (D.okRule r = false → ∀ H', Same H H' → E (.ref A.c_InvalidRulebook) none H')
theorem len_Draft_add_rule {K : PySem.W.Frag} {A : Ad} (vs : List V) (H : Hp) (Q : VK) (E : XK) (h : sp_Draft_add_rule K A vs H Q E) : vs.length = ["self", "rule"].length := by
  obtain ⟨a, b, c, d, e, rfl, _⟩ := h
  rfl
theorem okRule_all {D : Vf.DD} {r : Vf.S4} {i : Nat} {s : Str} (h : (Vf.r4 r)[i]? = some s) (n : s ∉ D.st) : D.okRule r = false := by
  unfold Vf.DD.okRule
  match i, h with
  | 0, h =>
    have e : r.1 = s := Option.some.inj h
    rw [e, decide_eq_false n]
    simp
  | 1, h =>
    have e : r.2.1 = s := Option.some.inj h
    rw [e, decide_eq_false n]
    simp
  | 2, h =>
    have e : r.2.2.1 = s := Option.some.inj h
    rw [e, decide_eq_false n]
    simp
  | 3, h =>
    have e : r.2.2.2 = s := Option.some.inj h
    rw [e, decide_eq_false n]
    simp
  | n + 4, h => simp [Vf.r4] at h
theorem okRule_mem {D : Vf.DD} {r : Vf.S4} (h : ∀ j < 4, ∀ s, (Vf.r4 r)[j]? = some s → s ∈ D.st) : r.1 ∈ D.st ∧ r.2.1 ∈ D.st ∧ r.2.2.1 ∈ D.st ∧ r.2.2.2 ∈ D.st :=
  ⟨h 0 (by decide) _ rfl, h 1 (by decide) _ rfl, h 2 (by decide) _ rfl, h 3 (by decide) _ rfl⟩

section
variable {P : Program} {w : World} {K : PySem.W.Frag} {mg : Str → Option Value} {base : Heap}
set_option maxHeartbeats 4000000 in
theorem ok_Draft_add_rule {A : Ad} (T : Txt P K mg A) : FnOk P w K mg base (L2.CX P w) 3 A.f_Draft_add_rule A.d_Draft_add_rule ["self", "rule"] (sp_Draft_add_rule K A) := by
  have G__demand := ok__demand (P := P) (w := w) (base := base) T
  have G_Draft__demand_state := ok_Draft__demand_state (P := P) (w := w) (base := base) T
  refine T.F_Draft_add_rule.okX sc_Draft_add_rule len_Draft_add_rule (fun cdv Ar outer s H vs Q E hr h => ?_)
  have hu := hu_of hr
  obtain ⟨p, a, D, t, r, rfl, S, ht, hn, hw, hz, q1, q2⟩ := h
  obtain ⟨dx, h0⟩ := S.ob
  obtain ⟨kvs, hk, R⟩ := S.dr
  refine ⟨_, (pss_cons (ps_expr (pe_call G__demand (hr.mono (by decide)) (by rfl) T.G__demand T.F__demand.kp T.B__demand .nil (passes_call (takes_of rfl rfl rfl rfl) fun _ _ _ _ h => h) (pa_cons (pe_cmpR op_eq (pe_callB call_len_seq (by rfl) T.N_len PySem.boot_len (pa_cons (pv 1) pa_nil)) pe_int (nomark _)) (pa_cons pe_str pa_nil))))
      (pss_cons (ps_for (passes_of rfl) rfl (pi_tup (pv 1)) (pg_name (i := 2) sc_Draft_add_rule.nd rfl (Or.inl rfl))
        (pss_one (ps_expr (pe_meth (pv 0) T.C_Draft T.M_Draft__demand_state G_Draft__demand_state hr T.B_Draft__demand_state .nil (passes_call (takes_of rfl rfl rfl rfl) fun _ _ _ _ h => h) (pa_cons (pv 2) pa_nil)))))
      (pss_cons (ps_asg (pe_lc (own := [("state", 2)]) (g := (gName 2)) (tt := tYes) rfl sc_Draft_add_rule.nd (pi_tup (pv 1)) (blkOk_by (N := ["self", "rule", "state", "first", "second", "third", "fourth"]) (sc := defScope s_Draft_add_rule) (by decide +kernel)) (fun _ _ _ _ _ => (pg_name (i := 2) sc_Draft_add_rule.nd rfl (Or.inl rfl))) (fun _ _ _ _ _ => pts_nil) (fun _ _ _ _ _ => (pe_dget (by exact hu) (Vf.pe_fldK (K := K) rfl (pv 0) (by rfl)) (pv 2) (fun _ _ => rfl)))) (pg_unl (by rfl) (pgs_cons (pg_name (i := 3) sc_Draft_add_rule.nd rfl (Or.inl rfl)) (pgs_cons (pg_name (i := 4) sc_Draft_add_rule.nd rfl (Or.inl rfl)) (pgs_cons (pg_name (i := 5) sc_Draft_add_rule.nd rfl (Or.inl rfl)) (pgs_cons (pg_name (i := 6) sc_Draft_add_rule.nd rfl (Or.inl rfl)) pgs_nil))))))
      (pss_cons (ps_expr (pe_call G__demand (hr.mono (by decide)) (by rfl) T.G__demand T.F__demand.kp T.B__demand .nil (passes_call (takes_of rfl rfl rfl rfl) fun _ _ _ _ h => h) (pa_cons (pe_cmp (pc_dnotin hu (pe_tup (pa_cons (pv 3) (pa_cons (pv 4) pa_nil))) (pe_fld (pv 0) (by rfl)))) (pa_cons (Vf.pe_join (.cons pe_str (.cons (pe_fmt (pe_ix ix_tup (pv 1) pe_int (fun _ _ => rfl))) (.cons pe_str (.cons (pe_fmt (pe_ix ix_tup (pv 1) pe_int (fun _ _ => rfl))) .nil))))) pa_nil))))
      (pss_cons (ps_dput hu (pe_fld (pv 0) (by rfl)) (pe_tup (pa_cons (pv 3) (pa_cons (pv 4) pa_nil))) (pe_tup (pa_cons (pv 5) (pa_cons (pv 6) pa_nil))) rfl)
      (pss_one (ps_expr (pe_bm PySem.F.plainAttrs_list PySem.F.slot_list_append PySem.F.type_list_append mt_append (pe_fld (pv 0) (by rfl)) (pa_cons (pe_callTy call_tupleT (by rfl) T.N_tuple (by decide +kernel) (pa_cons (pv 1) pa_nil)) pa_nil))))))))), ?_⟩
  -- four states
  refine ⟨_, rfl, t, _, rfl, .inr (SqT.of ht), rfl, _, _, rfl, fun _ => ?_, fun c => (by cases c)⟩
  -- .. that are there
  refine ⟨_, rfl, t, rfl, ⟨_, SqT.of ht⟩, for_tup (K := K) (a := t) (xs := Vf.enc4 r) (fun i σ H' => H' = H ∧ (∃ v, σ = [some (.ref p), some (.ref t), v, none, none, none, none]) ∧ ∀ j < i, ∀ s, (Vf.r4 r)[j]? = some s → s ∈ D.st)
    ⟨rfl, ⟨none, rfl⟩, fun j hj => absurd hj (Nat.not_lt_zero j)⟩ (fun i σ H' _ ⟨e, _⟩ => by rw [e]; exact SqT.of ht) ?_ ?_⟩
  · rintro i x σ H' hi ⟨rfl, ⟨v, rfl⟩, hin⟩
    rw [Vf.enc4_eq, List.getElem?_map] at hi
    obtain ⟨nm, hnm, rfl⟩ : ∃ nm, (Vf.r4 r)[i]? = some nm ∧ x = V.str nm := by
      cases e : (Vf.r4 r)[i]? with
      | none => rw [e] at hi; cases hi
      | some nm => rw [e] at hi; exact ⟨nm, rfl, (Option.some.inj hi).symm⟩
    refine ⟨_, rfl, p, dx, _, rfl, h0, rfl, _, rfl, p, a, D, nm, rfl, S, hn nm (List.mem_of_getElem? hnm), fun c => ?_, fun c => q2 (okRule_all hnm c) H' (Same.refl H')⟩
    refine ⟨rfl, ⟨_, rfl⟩, fun j hj s hs => ?_⟩
    by_cases e : j = i
    · subst e
      rw [hnm] at hs
      cases hs
      exact c
    · exact hin j (by omega) s hs
  rintro σ H' ⟨rfl, ⟨v, rfl⟩, hin⟩
  obtain ⟨m1, m2, m3, m4⟩ := okRule_mem hin
  -- their numbers
  refine ⟨_, rfl, t, rfl, ⟨_, SqT.of ht⟩, fun L hL => ?_⟩
  refine Vf.lc_val (walk_tup (K := K) (a := t) (xs := Vf.enc4 r)) (fun i => .int (Vf.ix D.st ((Vf.r4 r).getD i Str.empty))) hL (by show 4 ≤ 1000000; decide) (fun H2 s2 => SqT.of (s2 _ _ ht)) ?_ ?_
  · rintro i x H2 H3 hi s2 ⟨rfl, hxi⟩ Q' q'
    rw [Vf.enc4_eq, List.getElem?_map] at hxi
    obtain ⟨nm, hnm, rfl⟩ : ∃ nm, (Vf.r4 r)[i]? = some nm ∧ x = V.str nm := by
      cases e : (Vf.r4 r)[i]? with
      | none => rw [e] at hxi; cases hxi
      | some nm => rw [e] at hxi; exact ⟨nm, rfl, (Option.some.inj hxi).symm⟩
    have hi4 : i < 4 := hi
    refine ⟨rfl, _, rfl, p, A.c_Draft, dx, _, _, rfl, s2 _ _ h0, T.C_Draft, T.A_Draft_numbers, rfl, _, rfl, a.dn, .int (Vf.ix D.st nm), rfl, ?_, ?_⟩
    · rw [← Vf.num_in (hin i hi4 nm hnm)]
      exact DGet.k (k := Sum.inr nm) (s2 _ _ S.dn)
    · have e : (Vf.r4 r).getD i Str.empty = nm := by rw [List.getD_eq_getElem?_getD, hnm]; rfl
      have q2' := q' H3 (Same.refl H3)
      rw [e] at q2'
      exact q2'
  intro H2 s2 hL2
  refine ⟨L, _, rfl, SqL.of hL2, rfl, _, _, rfl, _, _, rfl, _, _, rfl, _, _, rfl, rfl, ?_⟩
  -- the first two don't have a rule
  refine ⟨_, rfl, _, rfl, (by show 2 ≤ sizeLine; decide), fun u hu1 => ?_⟩
  have s3 : Same H' (upd H2 u (.tup [.int (Vf.ix D.st r.1), .int (Vf.ix D.st r.2.1)])) := Vf.Same.new s2 hu1
  refine ⟨_, rfl, p, A.c_Draft, dx, _, _, rfl, s3 _ _ h0, T.C_Draft, T.A_Draft_results, rfl, a.dr, _, rfl, DGet.t (k := Vf.ruKey D.st r) (b := u) (s3 _ _ hk) upd_same, ?_⟩
  rw [Vf.key_none R m1 m2 hw]
  have hz1 : r.1.length ≤ 1000000 := hn r.1 (by simp [Vf.r4])
  have hz2 : r.2.1.length ≤ 1000000 := hn r.2.1 (by simp [Vf.r4])
  refine ⟨_, rfl, (by walk_at "fit"), _, rfl, t, Vf.enc4 r, 0, .str r.1, rfl, rfl, SqT.of (s3 _ _ ht), atI_nat (j := 0) rfl, .inl ⟨_, rfl, Vf.fits hz1 (by decide), _, rfl, (by walk_at "fit"), _, rfl, (by walk_at "fit"), _, rfl, t, Vf.enc4 r, 1, .str r.2.1, rfl, rfl, SqT.of (s3 _ _ ht), atI_nat (j := 1) rfl, .inl ⟨_, rfl, Vf.fits hz2 (by decide), _, rfl, (by walk_at "fit"), _, _, rfl, fun c => ?_, fun c => q2 ?_ _ s3⟩⟩⟩
  rotate_left
  · have c' := of_decide_eq_false c
    unfold Vf.DD.okRule
    rw [decide_eq_false c']
    simp
  have c' := of_decide_eq_true c
  have ok : D.okRule r = true := by
    unfold Vf.DD.okRule
    rw [decide_eq_true m1, decide_eq_true m2, decide_eq_true m3, decide_eq_true m4, decide_eq_true c']
    rfl
  have S3 := S.same s3
  obtain ⟨d1, d2, d3, d4, d5, d6, d7, d8, d9, d10, d11, d12, d13, d14, d15, d16, d17, d18, d19, d20, d21, d22, d23, d24, d25, d26, d27, d28⟩ := S.dist
  -- the two stores
  refine ⟨_, rfl, _, rfl, (by show 2 ≤ sizeLine; decide), fun x hx => ?_⟩
  refine ⟨_, rfl, p, A.c_Draft, dx, _, _, rfl, (Vf.Same.new s3 hx) _ _ h0, T.C_Draft, T.A_Draft_results, rfl, _, rfl, _, rfl, (by show 2 ≤ sizeLine; decide), fun y hy => ?_⟩
  have s5 : Same (upd H2 u (.tup [.int (Vf.ix D.st r.1), .int (Vf.ix D.st r.2.1)])) (upd (upd (upd H2 u (.tup [.int (Vf.ix D.st r.1), .int (Vf.ix D.st r.2.1)])) x (.tup (Vf.encR D.st r))) y (.tup [.int (Vf.ix D.st r.1), .int (Vf.ix D.st r.2.1)])) := Vf.Same.new (Vf.Same.new (Same.refl (upd H2 u (.tup [.int (Vf.ix D.st r.1), .int (Vf.ix D.st r.2.1)]))) hx) hy
  have yx := (Vf.upd_none hy).1
  have hx5 : (upd (upd (upd H2 u (.tup [.int (Vf.ix D.st r.1), .int (Vf.ix D.st r.2.1)])) x (.tup (Vf.encR D.st r))) y (.tup [.int (Vf.ix D.st r.1), .int (Vf.ix D.st r.2.1)])) x = some (.tup (Vf.encR D.st r)) := by rw [upd_ne (Ne.symm yx), upd_same]
  have hy5 : (upd (upd (upd H2 u (.tup [.int (Vf.ix D.st r.1), .int (Vf.ix D.st r.2.1)])) x (.tup (Vf.encR D.st r))) y (.tup [.int (Vf.ix D.st r.1), .int (Vf.ix D.st r.2.1)])) y = some (.tup [.int (Vf.ix D.st r.1), .int (Vf.ix D.st r.2.1)]) := upd_same
  refine ⟨a.dr, _, rfl, DPut.t (kvs := kvs) (k := Vf.ruKey D.st r) (b := y) (s5 _ _ (s3 _ _ hk)) hy5 (by rw [R.len]; exact Nat.lt_of_le_of_lt hz (by decide)), ?_⟩
  have S5 := S3.same s5
  have s05 := s3.trans s5
  obtain ⟨xr, hxr, txr⟩ := S5.lr
  have hp5 := s05 _ _ h0
  have ht5 := s05 _ _ ht
  have ntr : t ≠ a.dr := ne_of ht5 (s05 _ _ hk) (by intro z; cases z)
  refine ⟨_, rfl, p, A.c_Draft, dx, _, _, rfl, (by walk_at "hp"), T.C_Draft, T.A_Draft_rules, rfl, Vf.tyL (a := a.lr) (xs := xr) (by walk_at "hp"), _, rfl, t, Vf.enc4 r, rfl, SqT.of (by rw [upd_ne ntr]; exact ht5), a.lr, xr, _, rfl, rfl, (by walk_at "hp"), (by rw [txr.1]; exact Nat.lt_of_le_of_lt hz (by decide)), ?_⟩
  have kk : Vf.Keep a.foot (upd (upd (upd H2 u (.tup [.int (Vf.ix D.st r.1), .int (Vf.ix D.st r.2.1)])) x (.tup (Vf.encR D.st r))) y (.tup [.int (Vf.ix D.st r.1), .int (Vf.ix D.st r.2.1)])) (upd (upd (upd (upd (upd H2 u (.tup [.int (Vf.ix D.st r.1), .int (Vf.ix D.st r.2.1)])) x (.tup (Vf.encR D.st r))) y (.tup [.int (Vf.ix D.st r.1), .int (Vf.ix D.st r.2.1)])) a.dr (.dT (putK kvs (Vf.ruKey D.st r) (.ref x)))) a.lr (.lst (xr ++ [.ref t]))) := ((Vf.Keep.refl (upd (upd (upd H2 u (.tup [.int (Vf.ix D.st r.1), .int (Vf.ix D.st r.2.1)])) x (.tup (Vf.encR D.st r))) y (.tup [.int (Vf.ix D.st r.1), .int (Vf.ix D.st r.2.1)]))).put (by simp [Vf.DA.foot])).put (by simp [Vf.DA.foot])
  have nt5 : ∀ t ys, (upd (upd (upd H2 u (.tup [.int (Vf.ix D.st r.1), .int (Vf.ix D.st r.2.1)])) x (.tup (Vf.encR D.st r))) y (.tup [.int (Vf.ix D.st r.1), .int (Vf.ix D.st r.2.1)])) t = some (.tup ys) → (upd (upd (upd (upd (upd H2 u (.tup [.int (Vf.ix D.st r.1), .int (Vf.ix D.st r.2.1)])) x (.tup (Vf.encR D.st r))) y (.tup [.int (Vf.ix D.st r.1), .int (Vf.ix D.st r.2.1)])) a.dr (.dT (putK kvs (Vf.ruKey D.st r) (.ref x)))) a.lr (.lst (xr ++ [.ref t]))) t = some (.tup ys) := fun v ys hv => by
    have nv := S5.notup v ys hv
    simp only [Vf.DA.foot, List.mem_cons, List.not_mem_nil, or_false, not_or] at nv
    rw [upd_ne nv.2.2.2.1, upd_ne nv.2.2.2.2.2.2]
    exact hv
  have ek : putK kvs (Vf.ruKey D.st r) (.ref x) = kvs ++ [(Vf.ruKey D.st r, .ref x)] := putK_new _ (Vf.key_new R m1 m2 hw c')
  have R5 : Vf.Res (upd (upd (upd H2 u (.tup [.int (Vf.ix D.st r.1), .int (Vf.ix D.st r.2.1)])) x (.tup (Vf.encR D.st r))) y (.tup [.int (Vf.ix D.st r.1), .int (Vf.ix D.st r.2.1)])) D.st D.ru kvs := R.same fun v ys hv => s05 v _ hv
  have kt : ∀ v ys, (upd (upd (upd H2 u (.tup [.int (Vf.ix D.st r.1), .int (Vf.ix D.st r.2.1)])) x (.tup (Vf.encR D.st r))) y (.tup [.int (Vf.ix D.st r.1), .int (Vf.ix D.st r.2.1)])) v = some (.tup ys) → (upd (upd (upd (upd (upd H2 u (.tup [.int (Vf.ix D.st r.1), .int (Vf.ix D.st r.2.1)])) x (.tup (Vf.encR D.st r))) y (.tup [.int (Vf.ix D.st r.1), .int (Vf.ix D.st r.2.1)])) a.dr (.dT (putK kvs (Vf.ruKey D.st r) (.ref x)))) a.lr (.lst (xr ++ [.ref t]))) v = some (.tup ys) := fun v ys hv => by
    have nv := S5.notup v ys hv
    simp only [Vf.DA.foot, List.mem_cons, List.not_mem_nil, or_false, not_or] at nv
    rw [upd_ne nv.2.2.2.1, upd_ne nv.2.2.2.2.2.2]
    exact hv
  refine q1 ok _ (S5.next kk ?_ ?_ ?_ ⟨_, upd_same, ?_⟩ ?_ ?_ ⟨_, (by rw [upd_ne (Ne.symm d25), upd_same]), ?_⟩) ((Vf.Keep.of s05).trans kk)
  · rw [upd_ne d10, upd_ne d13]
    exact S5.ls
  · exact S5.li' kk (by rw [upd_ne d15, upd_ne d18] <;> rfl)
  · rw [upd_ne d19, upd_ne d22]
    exact S5.ll
  · exact (txr.mono kt).snoc (a := r) (kt t _ ht5)
  · rw [upd_ne (Ne.symm d23), upd_ne d27]
    exact S5.lo
  · rw [upd_ne (Ne.symm d24), upd_ne d28]
    exact S5.dn
  · have RR := R5.snoc kt (kt x _ hx5)
    rw [← ek] at RR
    exact RR
end

def sp__drafted (K : PySem.W.Frag) (A : Ad) : Sp := fun vs H Q E => ∃ (ls li ll lr lo : Addr) (D : Vf.DD) (xi xr : List V), vs = [.ref ls, .ref li, .ref ll, .ref lr, .ref lo] ∧
  Vf.TwoE H ls lo (D.st.map V.str) (D.ou.map V.int) ∧ H li = some (.lst xi) ∧ Vf.Tups Vf.enc2 H xi D.ins ∧ Vf.SqE H ll (D.ld.map V.str) ∧ Vf.SqE H lr xr ∧ Vf.Tups Vf.enc4 H xr D.ru ∧ Vf.Short D ∧
  (Vf.Valid D → ∀ (p : Addr) (a : Vf.DA) (H' : Hp), Vf.DraftAt A.c_Draft H' p a D → Same H H' → H p = none → (∀ b ∈ a.foot, H b = none) → Q (.ref p) H') ∧ (¬ Vf.Valid D → ∀ H', Same H H' → E (.ref A.c_InvalidRulebook) none H')
theorem len__drafted {K : PySem.W.Frag} {A : Ad} (vs : List V) (H : Hp) (Q : VK) (E : XK) (h : sp__drafted K A vs H Q E) : vs.length = ["states", "inputs", "leaders", "rules", "outputs"].length := by
  obtain ⟨a, b, c, d, e, D, x, y, rfl, _⟩ := h
  rfl

section
variable {P : Program} {w : World} {K : PySem.W.Frag} {mg : Str → Option Value} {base : Heap}
set_option maxHeartbeats 4000000 in
theorem ok__drafted {A : Ad} (T : Txt P K mg A) : FnOk P w K mg base (L2.CX P w) 4 A.f__drafted A.d__drafted ["states", "inputs", "leaders", "rules", "outputs"] (sp__drafted K A) := by
  have G__demand := ok__demand (P := P) (w := w) (base := base) T
  have G_Draft___init__ := ok_Draft___init__ (P := P) (w := w) (base := base) T
  have G_Draft_add_state := ok_Draft_add_state (P := P) (w := w) (base := base) T
  have G_Draft_add_input := ok_Draft_add_input (P := P) (w := w) (base := base) T
  have G_Draft_add_leader := ok_Draft_add_leader (P := P) (w := w) (base := base) T
  have G_Draft_add_rule := ok_Draft_add_rule (P := P) (w := w) (base := base) T
  refine T.F__drafted.okX sc__drafted len__drafted (fun cdv Ar outer s H vs Q E hr h => ?_)
  have hu := hu_of hr
  obtain ⟨ls, li, ll, lr, lo, D, xi, xr, rfl, hlo, hli, ti, hll, hlr, tr, Z, q1, q2⟩ := h
  refine ⟨_, (pss_cons (ps_expr (pe_call G__demand (hr.mono (by decide)) (by rfl) T.G__demand T.F__demand.kp T.B__demand .nil (passes_call (takes_of rfl rfl rfl rfl) fun _ _ _ _ h => h) (pa_cons (pe_cmpR op_eq (pe_callB call_len_seq (by rfl) T.N_len PySem.boot_len (pa_cons (pv 4) pa_nil)) (pe_callB call_len_seq (by rfl) T.N_len PySem.boot_len (pa_cons (pv 0) pa_nil)) (nomark _)) (pa_cons pe_str pa_nil))))
      (pss_cons (ps_set (i := 5) sc__drafted.nd rfl (Or.inl rfl) (pe_make0 T.K_Draft G_Draft___init__ (hr.mono (by decide)) (by rfl) T.G_Draft T.B_Draft___init__ .nil pass0))
      (pss_cons (ps_for (passes_of rfl) rfl (RZ.pi_zipA (by rfl) T.N_zip (pa_cons (pv 0) (pa_cons (pv 4) pa_nil))) (pg_tup (by rfl) (pgs_cons (pg_name (i := 6) sc__drafted.nd rfl (Or.inl rfl)) (pgs_cons (pg_name (i := 7) sc__drafted.nd rfl (Or.inl rfl)) pgs_nil)))
        (pss_one (ps_expr (pe_meth (pv 5) T.C_Draft T.M_Draft_add_state G_Draft_add_state (hr.mono (by decide)) T.B_Draft_add_state .nil (passes_call (takes_of rfl rfl rfl rfl) fun _ _ _ _ h => h) (pa_cons (pv 6) (pa_cons (pv 7) pa_nil))))))
      (pss_cons (ps_for (passes_of rfl) rfl (pi_list (pv 1)) (pg_name (i := 8) sc__drafted.nd rfl (Or.inl rfl))
        (pss_one (ps_expr (pe_meth (pv 5) T.C_Draft T.M_Draft_add_input G_Draft_add_input hr T.B_Draft_add_input .nil (passes_call (takes_of rfl rfl rfl rfl) fun _ _ _ _ h => h) (pa_cons (pv 8) pa_nil)))))
      (pss_cons (ps_for (passes_of rfl) rfl (Vf.pi_seqK (K := K) rfl (pv 2)) (pg_name (i := 9) sc__drafted.nd rfl (Or.inl rfl))
        (pss_one (ps_expr (pe_meth (pv 5) T.C_Draft T.M_Draft_add_leader G_Draft_add_leader hr T.B_Draft_add_leader .nil (passes_call (takes_of rfl rfl rfl rfl) fun _ _ _ _ h => h) (pa_cons (pv 9) pa_nil)))))
      (pss_cons (ps_for (passes_of rfl) rfl (Vf.pi_seqK (K := K) rfl (pv 3)) (pg_name (i := 10) sc__drafted.nd rfl (Or.inl rfl))
        (pss_one (ps_expr (pe_meth (pv 5) T.C_Draft T.M_Draft_add_rule G_Draft_add_rule hr T.B_Draft_add_rule .nil (passes_call (takes_of rfl rfl rfl rfl) fun _ _ _ _ h => h) (pa_cons (pv 10) pa_nil)))))
      (pss_one (ps_ret (pv 5))))))))), ?_⟩
  -- as many outputs
  refine ⟨_, rfl, lo, _, rfl, hlo.snd.len, _, rfl, ls, _, rfl, hlo.fst.len, rfl, _, _, rfl, fun c1 => ?_, fun c1 => q2 (fun v => ?_) H (Same.refl H)⟩
  rotate_left
  · have c2 := of_decide_eq_false c1
    rw [List.length_map, List.length_map, v.len] at c2
    exact c2 rfl
  have c1 : D.ou.length = D.st.length := by
    have c2 := of_decide_eq_true c1
    rw [List.length_map, List.length_map] at c2
    have := V.int.inj c2
    omega
  -- a draft
  intro p dx np nd nex
  refine ⟨p, dx, rfl, upd_same, fun a H1 S1 fr kp => ⟨rfl, ?_⟩⟩
  have s0 : Same H (upd (upd H dx (.own p)) p (.ins A.c_Draft dx [])) := Vf.Same.chg (Vf.Same.new (Same.refl H) nd) np
  have s1 : Same H H1 := fun b o e => kp b o (s0 b o e) (ne_of_none e np)
  have fr0 : ∀ b ∈ a.foot, H b = none := fun b hb => s0.free (fr b hb)
  -- the states
  refine ⟨_, rfl, _, rfl, ls, lo, D.st.map V.str, D.ou.map V.int, rfl, Vf.for_zip2 (K := K) hlo (by rw [List.length_map, List.length_map, c1]) (fun i σ H' => ∃ v6 v7 : Option V, σ = [some (.ref ls), some (.ref li), some (.ref ll), some (.ref lr), some (.ref lo), some (.ref p), v6, v7, none, none, none] ∧ Same H H' ∧ Vf.DraftAt A.c_Draft H' p a ⟨D.st.take i, [], [], [], D.ou.take i⟩ ∧
    ∀ j < i, ∀ s o, D.st[j]? = some s → D.ou[j]? = some o → Vf.DD.okState ⟨D.st.take j, [], [], [], D.ou.take j⟩ s o = true) ⟨none, none, rfl, s1, S1, fun j hj => absurd hj (Nat.not_lt_zero j)⟩ (fun i σ H' ⟨_, _, _, s, _⟩ => s) ?_ ?_⟩
  · rintro i x' y' T' σ H' hx hy ⟨v6, v7, rfl, s, S, ok⟩ hT
    obtain ⟨nm, hnm, rfl⟩ := Vf.map_get hx
    obtain ⟨o, ho, rfl⟩ := Vf.map_get hy
    have sT : Same H' (upd H' T' (.tup [.str nm, .int o])) := Vf.Same.new (Same.refl H') hT
    have ST := S.same sT
    obtain ⟨dy, hp⟩ := ST.ob
    refine ⟨T', _, rfl, SqT.of upd_same, rfl, _, _, rfl, _, _, rfl, rfl, ?_⟩
    refine ⟨_, rfl, p, dy, _, rfl, hp, rfl, _, rfl, _, rfl, p, a, _, nm, o, rfl, ST, rfl, (by rw [List.length_take, List.length_take, c1]), Z.st nm (List.mem_of_getElem? hnm), Z.ou o (List.mem_of_getElem? ho), fun c H3 S3 k3 => ?_, fun c H3 s3 => q2 (fun v => ?_) H3 ((s.trans sT).trans s3)⟩
    · refine ⟨_, _, rfl, Vf.Same.but (s.trans sT) k3 fr0, ?_, fun j hj s' o' e1 e2 => ?_⟩
      · rw [Vf.take_snoc hnm, Vf.take_snoc ho]
        exact S3
      · by_cases e : j = i
        · subst e
          rw [hnm] at e1
          rw [ho] at e2
          cases e1
          cases e2
          exact c
        · exact ok j (by omega) s' o' e1 e2
    · rw [v.st i nm o hnm ho] at c
      cases c
  rintro σ H2 ⟨v6, v7, rfl, s2, S2, ok1⟩
  rw [List.length_map] at S2 ok1
  have S2 : Vf.DraftAt A.c_Draft H2 p a ⟨D.st, [], [], [], D.ou⟩ := by
    have e1 : D.st.take D.st.length = D.st := List.take_length
    have e2 : D.ou.take D.st.length = D.ou := by rw [← c1]; exact List.take_length
    rw [e1, e2] at S2
    exact S2
  have ok1 : ∀ i s o, D.st[i]? = some s → D.ou[i]? = some o → Vf.DD.okState ⟨D.st.take i, [], [], [], D.ou.take i⟩ s o = true := fun i s o e1 e2 => ok1 i (List.getElem?_eq_some_iff.mp e1).1 s o e1 e2
  -- the inputs
  refine ⟨_, rfl, li, rfl, ⟨_, SqL.of (s2 _ _ hli)⟩, for_list (K := K) (a := li) (xs := xi) (fun i σ H' => ∃ v8 : Option V, σ = [some (.ref ls), some (.ref li), some (.ref ll), some (.ref lr), some (.ref lo), some (.ref p), v6, v7, v8, none, none] ∧ Same H H' ∧ Vf.DraftAt A.c_Draft H' p a ⟨D.st, D.ins.take i, [], [], D.ou⟩ ∧
    ∀ j < i, ∀ x, D.ins[j]? = some x → Vf.DD.okInput ⟨D.st, D.ins.take j, [], [], D.ou⟩ x = true) ⟨none, rfl, s2, S2, fun j hj => absurd hj (Nat.not_lt_zero j)⟩ (fun i σ H' _ ⟨_, _, s, _⟩ => SqL.of (s _ _ hli)) ?_ ?_⟩
  · rintro i x σ H' hi ⟨v8, rfl, s, S, ok⟩
    obtain ⟨pr, t, hpr, rfl, ht⟩ := ti.get hi
    obtain ⟨dy, hp⟩ := S.ob
    have zz := Z.ins pr (List.mem_of_getElem? hpr)
    refine ⟨_, rfl, p, dy, _, rfl, hp, rfl, _, rfl, p, a, _, t, pr, rfl, S, s _ _ ht, zz.1, zz.2, fun c H3 S3 k3 => ?_, fun c H3 s3 => q2 (fun v => ?_) H3 (s.trans s3)⟩
    · refine ⟨_, rfl, Vf.Same.but s k3 fr0, ?_, fun j hj x e1 => ?_⟩
      · rw [Vf.take_snoc hpr]
        exact S3
      · by_cases e : j = i
        · subst e
          rw [hpr] at e1
          cases e1
          exact c
        · exact ok j (by omega) x e1
    · rw [v.ins i pr hpr] at c
      cases c
  rintro σ H3 ⟨v8, rfl, s3, S3, ok2⟩
  have S3 : Vf.DraftAt A.c_Draft H3 p a ⟨D.st, D.ins, [], [], D.ou⟩ := by
    rw [ti.1, List.take_length] at S3
    exact S3
  have ok2 : ∀ i x, D.ins[i]? = some x → Vf.DD.okInput ⟨D.st, D.ins.take i, [], [], D.ou⟩ x = true := fun i x e1 => ok2 i (by rw [ti.1]; exact (List.getElem?_eq_some_iff.mp e1).1) x e1
  -- the leaders
  refine ⟨_, rfl, Vf.for_seq2 (K := K) hll (fun i σ H' => ∃ v9 : Option V, σ = [some (.ref ls), some (.ref li), some (.ref ll), some (.ref lr), some (.ref lo), some (.ref p), v6, v7, v8, v9, none] ∧ Same H H' ∧ Vf.DraftAt A.c_Draft H' p a ⟨D.st, D.ins, D.ld.take i, [], D.ou⟩ ∧
    ∀ j < i, ∀ x, D.ld[j]? = some x → Vf.DD.okLeader ⟨D.st, D.ins, D.ld.take j, [], D.ou⟩ x = true) ⟨none, rfl, s3, S3, fun j hj => absurd hj (Nat.not_lt_zero j)⟩ (fun i σ H' _ ⟨_, _, s, _⟩ => s) ?_ ?_⟩
  · rintro i x σ H' hi ⟨v9, rfl, s, S, ok⟩
    obtain ⟨nm, hnm, rfl⟩ := Vf.map_get hi
    obtain ⟨dy, hp⟩ := S.ob
    refine ⟨_, rfl, p, dy, _, rfl, hp, rfl, _, rfl, p, a, _, nm, rfl, S, Z.ld nm (List.mem_of_getElem? hnm), fun c H4 S4 k4 => ?_, fun c H4 s4 => q2 (fun v => ?_) H4 (s.trans s4)⟩
    · refine ⟨_, rfl, Vf.Same.but s k4 fr0, ?_, fun j hj x e1 => ?_⟩
      · rw [Vf.take_snoc hnm]
        exact S4
      · by_cases e : j = i
        · subst e
          rw [hnm] at e1
          cases e1
          exact c
        · exact ok j (by omega) x e1
    · rw [v.ld i nm hnm] at c
      cases c
  rintro σ H4 ⟨v9, rfl, s4, S4, ok3⟩
  have S4 : Vf.DraftAt A.c_Draft H4 p a ⟨D.st, D.ins, D.ld, [], D.ou⟩ := by
    rw [List.length_map, List.take_length] at S4
    exact S4
  have ok3 : ∀ i x, D.ld[i]? = some x → Vf.DD.okLeader ⟨D.st, D.ins, D.ld.take i, [], D.ou⟩ x = true := fun i x e1 => ok3 i (by rw [List.length_map]; exact (List.getElem?_eq_some_iff.mp e1).1) x e1
  -- the rules
  refine ⟨_, rfl, Vf.for_seq2 (K := K) hlr (fun i σ H' => ∃ v10 : Option V, σ = [some (.ref ls), some (.ref li), some (.ref ll), some (.ref lr), some (.ref lo), some (.ref p), v6, v7, v8, v9, v10] ∧ Same H H' ∧ Vf.DraftAt A.c_Draft H' p a ⟨D.st, D.ins, D.ld, D.ru.take i, D.ou⟩ ∧
    ∀ j < i, ∀ x, D.ru[j]? = some x → Vf.DD.okRule ⟨D.st, D.ins, D.ld, D.ru.take j, D.ou⟩ x = true) ⟨none, rfl, s4, S4, fun j hj => absurd hj (Nat.not_lt_zero j)⟩ (fun i σ H' _ ⟨_, _, s, _⟩ => s) ?_ ?_⟩
  · rintro i x σ H' hi ⟨v10, rfl, s, S, ok⟩
    obtain ⟨r, t, hr', rfl, ht⟩ := tr.get hi
    obtain ⟨dy, hp⟩ := S.ob
    have il : i < D.ru.length := (List.getElem?_eq_some_iff.mp hr').1
    have hw : ∀ x ∈ D.ru.take i, x.1 ∈ D.st ∧ x.2.1 ∈ D.st := fun x hx => by
      obtain ⟨j, hj⟩ := List.mem_iff_getElem?.mp hx
      have jl : j < i := by
        have := (List.getElem?_eq_some_iff.mp hj).1
        rw [List.length_take] at this
        omega
      rw [List.getElem?_take_of_lt jl] at hj
      exact Vf.okRule_in (D := ⟨D.st, D.ins, D.ld, D.ru.take j, D.ou⟩) (ok j jl x hj)
    refine ⟨_, rfl, p, dy, _, rfl, hp, rfl, _, rfl, p, a, _, t, r, rfl, S, s _ _ ht, Z.ru r (List.mem_of_getElem? hr'), hw, (by have := Z.nru; rw [List.length_take]; omega), fun c H5 S5 k5 => ?_, fun c H5 s5 => q2 (fun v => ?_) H5 (s.trans s5)⟩
    · refine ⟨_, rfl, Vf.Same.but s k5 fr0, ?_, fun j hj x e1 => ?_⟩
      · rw [Vf.take_snoc hr']
        exact S5
      · by_cases e : j = i
        · subst e
          rw [hr'] at e1
          cases e1
          exact c
        · exact ok j (by omega) x e1
    · rw [v.ru i r hr'] at c
      cases c
  rintro σ H5 ⟨v10, rfl, s5, S5, ok4⟩
  have S5 : Vf.DraftAt A.c_Draft H5 p a D := by
    rw [tr.1, List.take_length] at S5
    exact S5
  have ok4 : ∀ i x, D.ru[i]? = some x → Vf.DD.okRule ⟨D.st, D.ins, D.ld, D.ru.take i, D.ou⟩ x = true := fun i x e1 => ok4 i (by rw [tr.1]; exact (List.getElem?_eq_some_iff.mp e1).1) x e1
  exact ⟨_, rfl, q1 ⟨c1, ok1, ok2, ok3, ok4⟩ p a H5 S5 s5 np fr0⟩
end

def sp__partners (K : PySem.W.Frag) (A : Ad) : Sp := fun vs H Q _ => ∃ (d : Addr) (m : Nat) (kvs : List (List Key × V)) (ks vl : List (Int × Int)), vs = [.ref d, .int (m : Int)] ∧ H d = some (.dT kvs) ∧ Vf.PP H kvs ks vl ∧ m ≤ 1000000 ∧ ks.length ≤ 1000000 ∧ (∀ k ∈ ks, 0 ≤ k.1 ∧ k.1 < (m : Int)) ∧
  ∀ (p : Addr) (H' : Hp) (xs : List V) (rows : Nat → List Int), H p = none → Same H H' → H' p = some (.tup xs) → xs.length = m → (∀ i x, xs[i]? = some x → ∃ t, x = .ref t ∧ H' t = some (.tup ((rows i).map V.int))) →
    (∀ i, (rows i).Pairwise (· < ·)) → (∀ (i : Nat) (j : Int), j ∈ rows i ↔ ∃ (n : Nat) (v : Int × Int), ks[n]? = some ((i : Int), j) ∧ vl[n]? = some v ∧ v ≠ ((i : Int), j)) → Q (.ref p) H'
theorem len__partners {K : PySem.W.Frag} {A : Ad} (vs : List V) (H : Hp) (Q : VK) (E : XK) (h : sp__partners K A vs H Q E) : vs.length = ["results", "many"].length := by
  obtain ⟨a, b, c, d, e, rfl, _⟩ := h
  rfl
/-- the lists of the rows, behind some pairs -/
structure RowsAt (H : Hp) (R : Addr) (m : Nat) (as : List Addr) (rows : Nat → List Int) : Prop where
  at_ : H R = some (.lst (as.map V.ref))
  len : as.length = m
  nd : as.Nodup
  row : ∀ i a, as[i]? = some a → H a = some (.lst ((rows i).map V.int)) ∧ a ≠ R

section
variable {P : Program} {w : World} {K : PySem.W.Frag} {mg : Str → Option Value} {base : Heap}
set_option maxHeartbeats 4000000 in
theorem ok__partners {A : Ad} (T : Txt P K mg A) : FnOk P w K mg base CX0 1 A.f__partners A.d__partners ["results", "many"] (sp__partners K A) := by
  refine T.F__partners.ok sc__partners len__partners (fun cdv Ar outer s H vs Q E hr h => ?_)
  have hu := hu_of hr
  obtain ⟨d, m, kvs, ks, vl, rfl, hd, pp, hm, hk, hb, q⟩ := h
  refine ⟨_, (pss_cons (ps_setLc (i := 2) (own := [("_", 4)]) (g := (gName 4)) (tt := tYes) rfl sc__partners.nd rfl rfl (sw_true rfl rfl rfl (by decide +kernel)) (pi_range1 rfl T.N_range (pa_cons (pv 1) pa_nil)) (blkOk_by (N := ["results", "many", "rows", "pair", "_", "row"]) (sc := defScope s__partners) (by decide +kernel)) (fun _ _ _ _ _ => (pg_name (i := 4) sc__partners.nd rfl (Or.inl rfl))) (fun _ _ _ _ _ => pts_nil) (fun _ _ _ _ _ => (pe_lst pa_nil)))
      (pss_cons (ps_for PassesOwn.never rfl (pi_list (pe_callB (Vf.cr_sortedDT rfl) (by rfl) T.N_sorted (by decide +kernel) (pa_cons (pv 0) pa_nil))) (pg_name (i := 3) sc__partners.nd rfl (Or.inl rfl))
        (pss_one (ps_if (pt_cmpR (Vf.op_neIs hr.units) (pe_dget (by exact hu) (pv 0) (pv 3) (fun _ _ => rfl)) (pv 3) (nomark _)) (pss_one (ps_expr (pe_bm PySem.F.plainAttrs_list PySem.F.slot_list_append PySem.F.type_list_append mt_append (pe_ix ix_list (pv 2) (pe_ix ix_tup (pv 3) pe_int (fun _ _ => rfl)) (fun _ _ => rfl)) (pa_cons (pe_ix ix_tup (pv 3) pe_int (fun _ _ => rfl)) pa_nil)))) pss_nil)))
      (pss_one (ps_ret (pe_callTy call_tuple_of (by rfl) T.N_tuple (by decide +kernel) (pa_cons (pe_lc (own := [("row", 5)]) (g := (gName 5)) (tt := tYes) rfl sc__partners.nd (pi_list (pv 2)) (blkOk_by (N := ["results", "many", "rows", "pair", "_", "row"]) (sc := defScope s__partners) (by decide +kernel)) (fun _ _ _ _ _ => (pg_name (i := 5) sc__partners.nd rfl (Or.inl rfl))) (fun _ _ _ _ _ => pts_nil) (fun _ _ _ _ _ => (pe_callTy (Vf.call_tuple_ofK (K := K) rfl) (by rfl) T.N_tuple (by decide +kernel) (pa_cons (pv 5) pa_nil)))) pa_nil)))))), ?_⟩
  -- rows = [[] for _ in range(many)]
  refine ⟨_, rfl, _, rfl, by omega, by omega, fun R hR => ?_⟩
  refine lc_it (walk_range (lo := 0) (n := ((m : Int)).toNat)) (fun i H' => Same H H' ∧ ∃ as, RowsAt H' R i as (fun _ => []) ∧ ∀ a ∈ as, H a = none) ⟨Vf.Same.new (Same.refl H) hR, [], ⟨upd_same, rfl, List.nodup_nil, fun i a h => by simp at h⟩, fun a h => nomatch h⟩ (fun _ _ _ _ => trivial) ?_ ?_
  · rintro i x H1 H2 hi ⟨s, as, W, fr⟩ ⟨rfl, rfl⟩
    refine ⟨rfl, ?_⟩
    refine Vf.tyes ?_
    refine ⟨(by show 0 ≤ sizeLine; decide), fun b hb' => ?_⟩
    have nb : R ≠ b := ne_of_none W.at_ hb'
    refine ⟨as.map V.ref, (by rw [upd_ne nb]; exact W.at_), (by rw [List.length_map, W.len]; exact Nat.lt_of_lt_of_le (show i < 1000000 by omega) (by decide)), Vf.Same.chg (Vf.Same.new s hb') hR, as ++ [b], ⟨(by rw [upd_same, List.map_append]; rfl), (by simp [W.len]), ?_, ?_⟩, ?_⟩
    · rw [List.nodup_append]
      refine ⟨W.nd, by simp, fun a ha c hc => ?_⟩
      rw [List.mem_singleton] at hc
      subst hc
      obtain ⟨n, hn⟩ := List.mem_iff_getElem?.mp ha
      exact ne_of_none (W.row n a hn).1 hb'
    · intro n a hn
      by_cases hl : n < as.length
      · rw [List.getElem?_append_left hl] at hn
        obtain ⟨h1, h2⟩ := W.row n a hn
        exact ⟨by rw [upd_ne h2, upd_ne (ne_of_none h1 hb')]; exact h1, h2⟩
      · rw [List.getElem?_append_right (by omega)] at hn
        have e0 : n - as.length = 0 := by
          cases q' : n - as.length with
          | zero => rfl
          | succ k => rw [q'] at hn; simp at hn
        rw [e0] at hn
        have e : b = a := Option.some.inj hn
        subst e
        exact ⟨by rw [upd_ne (Ne.symm nb), upd_same]; rfl, Ne.symm nb⟩
    · intro a ha
      rw [List.mem_append, List.mem_singleton] at ha
      rcases ha with ha | rfl
      · exact fr a ha
      · exact s.free hb'
  rintro H1 ⟨s1, as, W1, fr1⟩
  have em : ((m : Int)).toNat = m := by omega
  rw [em] at W1
  -- for pair in sorted(results)
  refine ⟨_, rfl, d, kvs, ks, rfl, .inl (s1 _ _ hd), pp.keys, fun S bs hS pm sd hat => ?_⟩
  have s2 : Same H (upd H1 S (.lst (bs.map V.ref))) := Vf.Same.new s1 hS
  have hin : ∀ b ∈ bs, Vf.prAt H1 b ∈ ks := fun b hb' => pm.mem_iff.mp (List.mem_map.mpr ⟨b, hb', rfl⟩)
  -- what is changed by a key's pair
  have hch : ∀ k ∈ ks, ∃ n v t, ks[n]? = some k ∧ vl[n]? = some v ∧ valV kvs (Vf.keyP k) = some (.ref t) ∧ H t = some (.tup (Vf.encP v)) ∧ Vf.toP kvs H k = v := fun k hk' => by
    obtain ⟨n, hn⟩ := List.mem_iff_getElem?.mp hk'
    obtain ⟨v, t, h1, h2, h3⟩ := pp.at_ hn
    exact ⟨n, v, t, hn, h1, h2, h3, Vf.toP_at pp hn h1⟩
  have nRS : R ≠ S := ne_of_none W1.at_ hS
  have nS : S ∉ R :: as := fun h => by
    rcases List.mem_cons.mp h with h | h
    · exact nRS h.symm
    · obtain ⟨n, hn⟩ := List.mem_iff_getElem?.mp h
      exact ne_of_none (W1.row n S hn).1 hS rfl
  have ntup : ∀ (t : Addr) (ys : List V), H1 t = some (.tup ys) → t ∉ R :: as := fun t ys ht h => by
    rcases List.mem_cons.mp h with h | h
    · rw [h, W1.at_] at ht
      cases ht
    · obtain ⟨n, hn⟩ := List.mem_iff_getElem?.mp h
      rw [(W1.row n t hn).1] at ht
      cases ht
  have old : ∀ {H' : Hp}, Vf.Keep (R :: as) (upd H1 S (.lst (bs.map V.ref))) H' → Same H H' := fun k a o e => k a o (fun h => by
    rcases List.mem_cons.mp h with h | h
    · rw [h, hR] at e
      cases e
    · rw [fr1 a h] at e
      cases e) (s2 a o e)
  refine ⟨S, rfl, ⟨_, SqL.of upd_same⟩, for_list (K := K) (a := S) (xs := bs.map V.ref) (fun i σ H' => (∃ v : Option V, σ = [some (.ref d), some (.int (m : Int)), some (.ref R), v, none, none]) ∧ Vf.Keep (R :: as) (upd H1 S (.lst (bs.map V.ref))) H' ∧
    RowsAt H' R m as (fun j => Vf.rowOf ((bs.take i).map (Vf.prAt H1)) (fun k => decide (Vf.toP kvs H k ≠ k)) (j : Int))) ?_ ?_ ?_ ?_⟩
  · refine ⟨⟨none, rfl⟩, Vf.Keep.refl _, ?_, W1.len, W1.nd, fun i a h => ?_⟩
    · rw [upd_ne nRS]
      exact W1.at_
    · obtain ⟨h1, h2⟩ := W1.row i a h
      exact ⟨by rw [upd_ne (ne_of_none h1 hS)]; exact h1, h2⟩
  · rintro i σ H' _ ⟨_, k, _⟩
    exact SqL.of (k S _ nS upd_same)
  · rintro i x σ H' hi ⟨⟨v, rfl⟩, k, W⟩
    obtain ⟨b, hbi, rfl⟩ := Vf.map_get hi
    have hbm : b ∈ bs := List.mem_of_getElem? hbi
    obtain ⟨i1, j1, hij⟩ := hat b hbm
    have ep : Vf.prAt H1 b = (i1, j1) := Vf.prAt_of hij
    have hkm := hin b hbm
    rw [ep] at hkm
    obtain ⟨n, w, t, hn, hw, hv, ht, hP⟩ := hch _ hkm
    have hb' : H' b = some (.tup (Vf.encP (i1, j1))) := k b _ (ntup b _ hij) (by rw [upd_ne (ne_of_none hij hS)]; exact hij)
    have ht' : H' t = some (.tup (Vf.encP w)) := old k t _ ht
    have hd' := old k d _ hd
    obtain ⟨b0, b1⟩ := hb _ hkm
    refine ⟨_, rfl, _, rfl, d, .ref t, rfl, ?_, _, rfl, [w.1, w.2], [i1, j1], ⟨t, b, rfl, rfl, .inr ⟨SqT.of ht', SqT.of hb'⟩⟩, _, rfl, ?_⟩
    · rw [← hv]
      exact DGet.t (k := Vf.keyP (i1, j1)) hd' hb'
    have et : bs.take (i + 1) = bs.take i ++ [b] := Vf.take_snoc hbi
    have eq1 : (!decide ([w.1, w.2] = [i1, j1])) = decide (Vf.toP kvs H (i1, j1) ≠ (i1, j1)) := by
      rw [hP]
      exact Vf.pair_ne (a := w) (b := (i1, j1))
    rw [eq1]
    have row1 : ∀ c : Int, Vf.rowOf ((bs.take (i + 1)).map (Vf.prAt H1)) (fun k => decide (Vf.toP kvs H k ≠ k)) c = Vf.rowOf ((bs.take i).map (Vf.prAt H1)) (fun k => decide (Vf.toP kvs H k ≠ k)) c ++ if (decide (i1 = c) && decide (Vf.toP kvs H (i1, j1) ≠ (i1, j1))) = true then [j1] else [] := fun c => by
      rw [et, List.map_append]
      show Vf.rowOf (_ ++ [Vf.prAt H1 b]) _ c = _
      rw [ep, Vf.rowOf_snoc]
    refine Vf.ite_b (fun hc => ?_) (fun hc => ?_)
    · -- a row grows
      obtain ⟨r, rfl⟩ : ∃ r : Nat, i1 = (r : Int) := ⟨i1.toNat, by omega⟩
      have hr : r < as.length := by rw [W.len]; omega
      obtain ⟨a, ha⟩ : ∃ a, as[r]? = some a := ⟨as[r], List.getElem?_eq_getElem hr⟩
      obtain ⟨ha1, ha2⟩ := W.row r a ha
      refine ⟨_, rfl, _, rfl, b, _, 0, .int (r : Int), rfl, rfl, SqT.of hb', atI_nat (j := 0) rfl, R, _, _, .ref a, rfl, rfl, SqL.of W.at_, atI_nat (j := r) (by rw [List.getElem?_map, ha]; rfl), Vf.tyL ha1, _, rfl, b, _, 1, .int j1, rfl, rfl, SqT.of hb', atI_nat (j := 1) rfl, a, _, _, rfl, rfl, ha1, ?_, ?_⟩
      · have h1 := Vf.rowOf_len ((bs.take i).map (Vf.prAt H1)) (fun k => decide (Vf.toP kvs H k ≠ k)) (r : Int)
        have h2 := pm.length_eq
        rw [List.length_map] at h2
        rw [List.length_map, List.length_take] at h1
        rw [List.length_map]
        exact Nat.lt_of_le_of_lt (Nat.le_trans h1 (Nat.le_trans (Nat.min_le_right _ _) (by rw [h2]; exact hk))) (by decide)
      refine ⟨⟨_, rfl⟩, k.put (List.mem_cons_of_mem _ (List.mem_of_getElem? ha)), ?_, W.len, W.nd, fun c a' ha' => ?_⟩
      · rw [upd_ne (Ne.symm ha2)]
        exact W.at_
      · obtain ⟨h1, h2⟩ := W.row c a' ha'
        by_cases e : a' = a
        · subst e
          have ec : c = r := Vf.nodup_ix W.nd ha' ha
          subst ec
          refine ⟨?_, h2⟩
          rw [upd_same, row1, if_pos (by rw [hc]; simp), List.map_append]
          rfl
        · refine ⟨?_, h2⟩
          have ec : ¬ (r : Int) = (c : Int) := fun z => by
            have z' : r = c := by omega
            subst z'
            rw [ha] at ha'
            exact e (Option.some.inj ha').symm
          rw [upd_ne e, row1, if_neg (by simp [ec]), List.append_nil]
          exact h1
    · refine ⟨⟨_, rfl⟩, k, W.at_, W.len, W.nd, fun c a' ha' => ?_⟩
      obtain ⟨h1, h2⟩ := W.row c a' ha'
      refine ⟨?_, h2⟩
      rw [row1, if_neg (by rw [hc]; simp), List.append_nil]
      exact h1
  rintro σ H2 ⟨⟨v, rfl⟩, k, W⟩
  have s3 := old k
  rw [List.length_map, List.take_length] at W
  -- the rows as tuples
  refine ⟨_, rfl, R, rfl, ⟨_, SqL.of W.at_⟩, fun L hL => ?_⟩
  refine Vf.lc_rel (walk_list (K := K) (a := R) (xs := as.map V.ref)) (fun i y H' => ∃ t, y = .ref t ∧ H' t = some (.tup ((Vf.rowOf (bs.map (Vf.prAt H1)) (fun k => decide (Vf.toP kvs H k ≠ k)) (i : Int)).map V.int))) hL ?_ (by rw [List.length_map, W.len]; exact hm) (fun H' s => SqL.of (s _ _ W.at_)) ?_ ?_
  · rintro i y Ha Hb acc hacc kk ⟨t, rfl, ht⟩
    exact ⟨t, rfl, kk t _ (fun z => by rw [z, hacc] at ht; cases ht) ht⟩
  · rintro i x Ha Hb acc hi s hacc ⟨rfl, hx⟩ Q' q'
    obtain ⟨a, ha, rfl⟩ := Vf.map_get hx
    obtain ⟨h1, _⟩ := W.row i a ha
    exact ⟨rfl, _, rfl, a, _, rfl, .inl ⟨SqL.of (s _ _ h1), fun t ht => q' _ _ (Vf.Same.new (Same.refl _) ht) ⟨t, rfl, upd_same⟩⟩⟩
  intro xs H3 hxl s4 hL3 hP
  refine ⟨L, _, rfl, .inl ⟨SqL.of hL3, fun p hp => ?_⟩⟩
  have s34 : Same H H3 := s3.trans s4
  refine q p _ xs (fun i => Vf.rowOf (bs.map (Vf.prAt H1)) (fun k => decide (Vf.toP kvs H k ≠ k)) (i : Int)) (s34.free hp) (Vf.Same.new s34 hp) upd_same (by rw [hxl, List.length_map, W.len]) (fun i x hx => ?_) (fun i => ?_) (fun i j => ?_)
  · obtain ⟨t, rfl, ht⟩ := hP i x hx
    exact ⟨t, rfl, (Vf.Same.new (Same.refl _) hp) _ _ ht⟩
  · refine Vf.rowOf_asc (by rw [List.pairwise_map]; exact sd) (pm.nodup_iff.mpr pp.nd)
  · rw [Vf.rowOf_mem, pm.mem_iff]
    constructor
    · rintro ⟨h1, h2⟩
      obtain ⟨n, v, t, hn, hv, _, _, hP⟩ := hch _ h1
      rw [hP] at h2
      exact ⟨n, v, hn, hv, of_decide_eq_true h2⟩
    · rintro ⟨n, v, hn, hv, hne⟩
      refine ⟨List.mem_of_getElem? hn, ?_⟩
      rw [Vf.toP_at pp hn hv]
      exact decide_eq_true hne
end

def sp_Rulebook___init__ (K : PySem.W.Frag) (A : Ad) : Sp := fun vs H Q E => ∃ (p dx ls li ll lr lo : Addr) (D : Vf.DD) (xi xr : List V), vs = [.ref p, .ref ls, .ref li, .ref ll, .ref lr, .ref lo] ∧ H p = some (.ins A.c_Rulebook dx []) ∧
  Vf.TwoE H ls lo (D.st.map V.str) (D.ou.map V.int) ∧ H li = some (.lst xi) ∧ Vf.Tups Vf.enc2 H xi D.ins ∧ Vf.SqE H ll (D.ld.map V.str) ∧ Vf.SqE H lr xr ∧ Vf.Tups Vf.enc4 H xr D.ru ∧ Vf.Short D ∧
  (Vf.Valid D → ∀ (a : Vf.RA) (H' : Hp), Vf.BookP A.c_Rulebook H' p a D → Vf.Keep [p] H H' → Q .non H') ∧ (¬ Vf.Valid D → ∀ H', Same H H' → E (.ref A.c_InvalidRulebook) none H')
theorem len_Rulebook___init__ {K : PySem.W.Frag} {A : Ad} (vs : List V) (H : Hp) (Q : VK) (E : XK) (h : sp_Rulebook___init__ K A vs H Q E) : vs.length = ["self", "states", "inputs", "leaders", "rules", "outputs"].length := by
  obtain ⟨p, a, b, c, d, e, dx, D, x, y, rfl, _⟩ := h
  rfl

section
variable {P : Program} {w : World} {K : PySem.W.Frag} {mg : Str → Option Value} {base : Heap}
set_option maxHeartbeats 4000000 in
theorem ok_Rulebook___init__ {A : Ad} (T : Txt P K mg A) : FnOk P w K mg base (L2.CX P w) 5 A.f_Rulebook___init__ A.d_Rulebook___init__ ["self", "states", "inputs", "leaders", "rules", "outputs"] (sp_Rulebook___init__ K A) := by
  have G__drafted := ok__drafted (P := P) (w := w) (base := base) T
  have G__partners := ok__partners (P := P) (w := w) (base := base) T
  refine T.F_Rulebook___init__.okX sc_Rulebook___init__ len_Rulebook___init__ (fun cdv Ar outer s H vs Q E hr h => ?_)
  have hu := hu_of hr
  obtain ⟨p, dx, ls, li, ll, lr, lo, D, xi, xr, rfl, hp, hlo, hli, ti, hll, hlr, tr, Z, q1, q2⟩ := h
  refine ⟨_, (pss_cons (ps_set (i := 6) sc_Rulebook___init__.nd rfl (Or.inl rfl) (pe_call G__drafted hr (by rfl) T.G__drafted T.F__drafted.kp T.B__drafted .nil (passes_call (takes_of rfl rfl rfl rfl) fun _ _ _ _ h => h) (pa_cons (pv 1) (pa_cons (pv 2) (pa_cons (pv 3) (pa_cons (pv 4) (pa_cons (pv 5) pa_nil)))))))
      (pss_cons (ps_fld (pv 0) (pe_callTy call_tuple_of (by rfl) T.N_tuple (by decide +kernel) (pa_cons (pe_fld (pv 6) (by rfl)) pa_nil)) rfl)
      (pss_cons (ps_fld (pv 0) (pe_callTy Vf.call_tuple_frz (by rfl) T.N_tuple (by decide +kernel) (pa_cons (pe_fld (pv 6) (by rfl)) pa_nil)) rfl)
      (pss_cons (ps_fld (pv 0) (pe_callTy call_tuple_of (by rfl) T.N_tuple (by decide +kernel) (pa_cons (pe_fld (pv 6) (by rfl)) pa_nil)) rfl)
      (pss_cons (ps_fld (pv 0) (pe_callTy call_tuple_of (by rfl) T.N_tuple (by decide +kernel) (pa_cons (pe_fld (pv 6) (by rfl)) pa_nil)) rfl)
      (pss_cons (ps_fld (pv 0) (pe_callTy call_tuple_of (by rfl) T.N_tuple (by decide +kernel) (pa_cons (pe_fld (pv 6) (by rfl)) pa_nil)) rfl)
      (pss_cons (ps_fld (pv 0) (pe_fld (pv 6) (by rfl)) rfl)
      (pss_cons (ps_fld (pv 0) (pe_fld (pv 6) (by rfl)) rfl)
      (pss_one (ps_fld (pv 0) (pe_call G__partners (hr.mono (by decide)) (by rfl) T.G__partners T.F__partners.kp T.B__partners .nil pass0 (pa_cons (pe_fld (pv 6) (by rfl)) (pa_cons (pe_callB call_len_seq (by rfl) T.N_len PySem.boot_len (pa_cons (pe_fld (pv 6) (by rfl)) pa_nil)) pa_nil))) rfl)))))))))), ?_⟩
  refine ⟨_, rfl, _, rfl, _, rfl, _, rfl, _, rfl, ls, li, ll, lr, lo, D, xi, xr, rfl, hlo, hli, ti, hll, hlr, tr, Z, fun v q a0 H1 S s1 nq fr => ?_, fun nv H' s => q2 nv H' s⟩
  obtain ⟨dq, hq⟩ := S.ob
  obtain ⟨x2, h2, T2⟩ := S.li
  obtain ⟨x4, h4, T4⟩ := S.lr
  obtain ⟨kvs, hk, R⟩ := S.dr
  have pin : ∀ {b : Addr}, H b = none → b ∉ [p] := fun hb m => by
    rw [List.mem_singleton] at m
    rw [m, hp] at hb
    cases hb
  have nqp : q ∉ [p] := pin nq
  have n1 : a0.ls ∉ [p] := pin (fr _ (by simp [Vf.DA.foot]))
  have n2 : a0.li ∉ [p] := pin (fr _ (by simp [Vf.DA.foot]))
  have n3 : a0.ll ∉ [p] := pin (fr _ (by simp [Vf.DA.foot]))
  have n4 : a0.lr ∉ [p] := pin (fr _ (by simp [Vf.DA.foot]))
  have n5 : a0.lo ∉ [p] := pin (fr _ (by simp [Vf.DA.foot]))
  have n6 : a0.dn ∉ [p] := pin (fr _ (by simp [Vf.DA.foot]))
  have n7 : a0.dr ∉ [p] := pin (fr _ (by simp [Vf.DA.foot]))
  have pm : p ∈ [p] := List.mem_singleton.mpr rfl
  have hp1 := s1 _ _ hp
  have ntp : ∀ {t : Addr} {ys : List V}, H1 t = some (.tup ys) → t ∉ [p] := fun ht m => by
    rw [List.mem_singleton] at m
    rw [m, hp1] at ht
    cases ht
  -- states
  refine ⟨_, rfl, q, A.c_Draft, dq, _, _, rfl, hq, T.C_Draft, T.A_Draft_states, rfl, a0.ls, _, rfl, .inl ⟨SqL.of S.ls, fun t1 m1 => ?_⟩⟩
  have e1 : p ≠ t1 := ne_of_none hp1 m1
  refine ⟨_, rfl, p, A.c_Rulebook, dx, [], rfl, (by rw [upd_ne e1]; exact hp1), T.C_Rulebook, T.A_Rulebook_states, (by show 0 < 1000; decide), ?_⟩
  have k1 : Vf.Keep [p] H1 (upd (upd H1 t1 (.tup (D.st.map V.str))) p (.ins A.c_Rulebook dx (putF "states" (.ref t1) []))) := ((Vf.Keep.refl H1).new m1).put pm
  have y1 : (upd (upd H1 t1 (.tup (D.st.map V.str))) p (.ins A.c_Rulebook dx (putF "states" (.ref t1) []))) t1 = some (.tup (D.st.map V.str)) := by rw [upd_ne (Ne.symm e1), upd_same]
  have z1 : t1 ∉ [p] := fun m => e1 (List.mem_singleton.mp m).symm
  -- inputs
  refine ⟨_, rfl, q, A.c_Draft, dq, _, _, rfl, k1 q _ nqp hq, T.C_Draft, T.A_Draft_inputs, rfl, a0.li, _, rfl, .inl ⟨SqL.of (k1 _ _ n2 h2), .inr fun t2 its m2 => ?_⟩⟩
  have e2 : p ≠ t2 := ne_of_none upd_same m2
  refine ⟨_, rfl, p, A.c_Rulebook, dx, _, rfl, (by rw [upd_ne e2]; exact upd_same), T.C_Rulebook, T.A_Rulebook_inputs, (by show 1 < 1000; decide), ?_⟩
  have j2 := ((Vf.Keep.refl _).new m2 (o := .frz (Vf.plainT its) (.tup x2))).put pm (o := .ins A.c_Rulebook dx (putF "inputs" (.ref t2) (putF "states" (.ref t1) [])))
  have k2 := k1.trans j2
  have z2 : t2 ∉ [p] := fun m => e2 (List.mem_singleton.mp m).symm
  -- leaders
  refine ⟨_, rfl, q, A.c_Draft, dq, _, _, rfl, k2 q _ nqp hq, T.C_Draft, T.A_Draft_leaders, rfl, a0.ll, _, rfl, .inl ⟨SqL.of (k2 _ _ n3 S.ll), fun t3 m3 => ?_⟩⟩
  have e3 : p ≠ t3 := ne_of_none upd_same m3
  refine ⟨_, rfl, p, A.c_Rulebook, dx, _, rfl, (by rw [upd_ne e3]; exact upd_same), T.C_Rulebook, T.A_Rulebook_leaders, (by show 2 < 1000; decide), ?_⟩
  have j3 := ((Vf.Keep.refl _).new m3 (o := .tup (D.ld.map V.str))).put pm (o := .ins A.c_Rulebook dx (putF "leaders" (.ref t3) (putF "inputs" (.ref t2) (putF "states" (.ref t1) []))))
  have k3 := k2.trans j3
  have z3 : t3 ∉ [p] := fun m => e3 (List.mem_singleton.mp m).symm
  -- rules
  refine ⟨_, rfl, q, A.c_Draft, dq, _, _, rfl, k3 q _ nqp hq, T.C_Draft, T.A_Draft_rules, rfl, a0.lr, _, rfl, .inl ⟨SqL.of (k3 _ _ n4 h4), fun t4 m4 => ?_⟩⟩
  have e4 : p ≠ t4 := ne_of_none upd_same m4
  refine ⟨_, rfl, p, A.c_Rulebook, dx, _, rfl, (by rw [upd_ne e4]; exact upd_same), T.C_Rulebook, T.A_Rulebook_rules, (by show 3 < 1000; decide), ?_⟩
  have j4 := ((Vf.Keep.refl _).new m4 (o := .tup x4)).put pm (o := .ins A.c_Rulebook dx (putF "rules" (.ref t4) (putF "leaders" (.ref t3) (putF "inputs" (.ref t2) (putF "states" (.ref t1) [])))))
  have k4 := k3.trans j4
  have z4 : t4 ∉ [p] := fun m => e4 (List.mem_singleton.mp m).symm
  -- outputs
  refine ⟨_, rfl, q, A.c_Draft, dq, _, _, rfl, k4 q _ nqp hq, T.C_Draft, T.A_Draft_outputs, rfl, a0.lo, _, rfl, .inl ⟨SqL.of (k4 _ _ n5 S.lo), fun t5 m5 => ?_⟩⟩
  have e5 : p ≠ t5 := ne_of_none upd_same m5
  refine ⟨_, rfl, p, A.c_Rulebook, dx, _, rfl, (by rw [upd_ne e5]; exact upd_same), T.C_Rulebook, T.A_Rulebook_outputs, (by show 4 < 1000; decide), ?_⟩
  have j5 := ((Vf.Keep.refl _).new m5 (o := .tup (D.ou.map V.int))).put pm (o := .ins A.c_Rulebook dx (putF "outputs" (.ref t5) (putF "rules" (.ref t4) (putF "leaders" (.ref t3) (putF "inputs" (.ref t2) (putF "states" (.ref t1) []))))))
  have k5 := k4.trans j5
  have z5 : t5 ∉ [p] := fun m => e5 (List.mem_singleton.mp m).symm
  -- numbers, results
  refine ⟨_, rfl, q, A.c_Draft, dq, _, _, rfl, k5 q _ nqp hq, T.C_Draft, T.A_Draft_numbers, rfl, _, rfl, p, A.c_Rulebook, dx, _, rfl, upd_same, T.C_Rulebook, T.A_Rulebook__numbers, (by show 5 < 1000; decide), ?_⟩
  have j6 := k5.self.put pm (o := .ins A.c_Rulebook dx (putF "_numbers" (.ref a0.dn) (putF "outputs" (.ref t5) (putF "rules" (.ref t4) (putF "leaders" (.ref t3) (putF "inputs" (.ref t2) (putF "states" (.ref t1) [])))))))
  have k6 := k5.trans j6
  refine ⟨_, rfl, q, A.c_Draft, dq, _, _, rfl, k6 q _ nqp hq, T.C_Draft, T.A_Draft_results, rfl, _, rfl, p, A.c_Rulebook, dx, _, rfl, upd_same, T.C_Rulebook, T.A_Rulebook__results, (by show 6 < 1000; decide), ?_⟩
  have j7 := k6.self.put pm (o := .ins A.c_Rulebook dx (putF "_results" (.ref a0.dr) (putF "_numbers" (.ref a0.dn) (putF "outputs" (.ref t5) (putF "rules" (.ref t4) (putF "leaders" (.ref t3) (putF "inputs" (.ref t2) (putF "states" (.ref t1) []))))))))
  have k7 := k6.trans j7
  -- the rows
  have lst : D.st.length ≤ 400 := by
    cases e : D.st.length with
    | zero => omega
    | succ n =>
      have hl : n < D.st.length := by omega
      have ho : n < D.ou.length := by rw [v.len]; exact hl
      have h := v.st n _ _ (List.getElem?_eq_getElem hl) (List.getElem?_eq_getElem ho)
      unfold Vf.DD.okState at h
      simp only [Bool.and_eq_true, decide_eq_true_eq, List.length_take] at h
      omega
  refine ⟨_, rfl, q, A.c_Draft, dq, _, _, rfl, k7 q _ nqp hq, T.C_Draft, T.A_Draft_results, rfl, _, rfl, q, A.c_Draft, dq, _, _, rfl, k7 q _ nqp hq, T.C_Draft, T.A_Draft_states, rfl, a0.ls, _, rfl, .inl (SqL.of (k7 _ _ n1 S.ls)), ?_⟩
  have R7 := (R.pp v.nd)
  refine ⟨a0.dr, D.st.length, kvs, Vf.rks D, Vf.rvs D, (by rw [List.length_map]; rfl), k7 _ _ n7 hk, ⟨R7.keys, R7.vals.mono fun t ys ht => k7 t _ (ntp ht) ht, R7.nd⟩, by omega, (by unfold Vf.rks; rw [List.length_map]; exact Z.nru), ?_, ?_⟩
  · intro k hkm
    unfold Vf.rks at hkm
    obtain ⟨r, hr', rfl⟩ := List.mem_map.mp hkm
    exact Vf.ix_bd (v.rule hr').1
  intro t8 H8 xs rows m8 s8 y8 l8 r8 a8 c8
  have hp8 := s8 p _ upd_same
  have e8 : p ≠ t8 := fun e => by
    rw [← e, upd_same] at m8
    cases m8
  refine ⟨_, rfl, p, A.c_Rulebook, dx, _, rfl, hp8, T.C_Rulebook, T.A_Rulebook__rows, (by show 7 < 1000; decide), ?_⟩
  have k8 := (k7.same s8).put pm (o := .ins A.c_Rulebook dx (putF "_rows" (.ref t8) (putF "_results" (.ref a0.dr) (putF "_numbers" (.ref a0.dn) (putF "outputs" (.ref t5) (putF "rules" (.ref t4) (putF "leaders" (.ref t3) (putF "inputs" (.ref t2) (putF "states" (.ref t1) [])))))))))
  have end8 := (k7.self.same s8).put pm (o := .ins A.c_Rulebook dx (putF "_rows" (.ref t8) (putF "_results" (.ref a0.dr) (putF "_numbers" (.ref a0.dn) (putF "outputs" (.ref t5) (putF "rules" (.ref t4) (putF "leaders" (.ref t3) (putF "inputs" (.ref t2) (putF "states" (.ref t1) [])))))))))
  have f7 := j7.trans end8
  have f6 := j6.trans f7
  have f5 := j5.trans f6
  have f4 := j4.trans f5
  have f3 := j3.trans f4
  have f2 := j2.trans f3
  have z8 : t8 ∉ [p] := fun m => e8 (List.mem_singleton.mp m).symm
  refine q1 v ⟨t1, t2, t3, t4, t5, a0.dn, a0.dr, t8⟩ _ ⟨⟨dx, upd_same⟩, f2 t1 _ z1 y1, ⟨x2, ⟨its, f3 t2 _ z2 (by rw [upd_ne (Ne.symm e2), upd_same])⟩, T2.mono fun t ys ht => k8 t _ (ntp ht) ht⟩, f4 t3 _ z3 (by rw [upd_ne (Ne.symm e3), upd_same]), ⟨x4, f5 t4 _ z4 (by rw [upd_ne (Ne.symm e4), upd_same]), T4.mono fun t ys ht => k8 t _ (ntp ht) ht⟩,
    f6 t5 _ z5 (by rw [upd_ne (Ne.symm e5), upd_same]), k8 _ _ n6 S.dn⟩ (Vf.Keep.trans (Vf.Keep.of s1) k8)
end

def sp__law_made (K : PySem.W.Frag) (A : Ad) : Sp := fun vs H Q _ => ∃ (p : Addr) (D : Vf.DD), vs = [.ref p] ∧ Vf.PartsAt H p D ∧ Vf.Valid D ∧ Vf.Short D ∧ ∀ (b : Addr) (a : Vf.RA) (H' : Hp), Vf.BookP A.c_Rulebook H' b a D → Same H H' → H b = none → Q (.ref b) H'
theorem len__law_made {K : PySem.W.Frag} {A : Ad} (vs : List V) (H : Hp) (Q : VK) (E : XK) (h : sp__law_made K A vs H Q E) : vs.length = ["parts"].length := by
  obtain ⟨a, b, rfl, _⟩ := h
  rfl

section
variable {P : Program} {w : World} {K : PySem.W.Frag} {mg : Str → Option Value} {base : Heap}
set_option maxHeartbeats 4000000 in
theorem ok__law_made {A : Ad} (T : Txt P K mg A) : FnOk P w K mg base CX0 7 A.f__law_made A.d__law_made ["parts"] (sp__law_made K A) := by
  have G_Rulebook___init__ := ok_Rulebook___init__ (P := P) (w := w) (base := base) T
  refine T.F__law_made.ok sc__law_made len__law_made (fun cdv Ar outer s H vs Q E hr h => ?_)
  have hu := hu_of hr
  obtain ⟨p, D, rfl, P5, v, Z, q⟩ := h
  obtain ⟨ls, li, ll, lr, lo, xi, xr, hp, hls, hli, ti, hll, hlr, tr, hlo⟩ := P5
  refine ⟨_, (pss_one (ps_ret (pe_make T.K_Rulebook G_Rulebook___init__ hr (by rfl) T.G_Rulebook T.B_Rulebook___init__ .nil passL (pa_cons (pe_callTy call_list_of (by rfl) T.N_list (by decide +kernel) (pa_cons (pe_ix ix_tup (pv 0) pe_int (fun _ _ => rfl)) pa_nil)) (pa_cons (pe_callTy call_list_of (by rfl) T.N_list (by decide +kernel) (pa_cons (pe_ix ix_tup (pv 0) pe_int (fun _ _ => rfl)) pa_nil)) (pa_cons (pe_callTy call_list_of (by rfl) T.N_list (by decide +kernel) (pa_cons (pe_ix ix_tup (pv 0) pe_int (fun _ _ => rfl)) pa_nil)) (pa_cons (pe_callTy call_list_of (by rfl) T.N_list (by decide +kernel) (pa_cons (pe_ix ix_tup (pv 0) pe_int (fun _ _ => rfl)) pa_nil)) (pa_cons (pe_callTy call_list_of (by rfl) T.N_list (by decide +kernel) (pa_cons (pe_ix ix_tup (pv 0) pe_int (fun _ _ => rfl)) pa_nil)) pa_nil)))))))), ?_⟩
  refine ⟨_, rfl, p, _, 0, .ref ls, rfl, rfl, SqT.of hp, atI_nat (j := 0) rfl, ls, _, rfl, .inl (SqL.of hls), fun a1 n1 => ?_⟩
  have s1 := Vf.Same.new (o := .lst (D.st.map V.str)) (Same.refl H) n1
  refine ⟨_, rfl, p, _, 1, .ref li, rfl, rfl, SqT.of (s1 _ _ hp), atI_nat (j := 1) rfl, li, _, rfl, .inl (SqL.of (s1 _ _ hli)), fun a2 n2 => ?_⟩
  have s2 := Vf.Same.new (o := .lst xi) s1 n2
  refine ⟨_, rfl, p, _, 2, .ref ll, rfl, rfl, SqT.of (s2 _ _ hp), atI_nat (j := 2) rfl, ll, _, rfl, .inl (SqL.of (s2 _ _ hll)), fun a3 n3 => ?_⟩
  have s3 := Vf.Same.new (o := .lst (D.ld.map V.str)) s2 n3
  refine ⟨_, rfl, p, _, 3, .ref lr, rfl, rfl, SqT.of (s3 _ _ hp), atI_nat (j := 3) rfl, lr, _, rfl, .inl (SqL.of (s3 _ _ hlr)), fun a4 n4 => ?_⟩
  have s4 := Vf.Same.new (o := .lst xr) s3 n4
  refine ⟨_, rfl, p, _, 4, .ref lo, rfl, rfl, SqT.of (s4 _ _ hp), atI_nat (j := 4) rfl, lo, _, rfl, .inl (SqL.of (s4 _ _ hlo)), fun a5 n5 => ?_⟩
  have s5 := Vf.Same.new (o := .lst (D.ou.map V.int)) s4 n5
  have f4 := Vf.Same.new (o := .lst (D.ou.map V.int)) (Same.refl _) n5
  have f3 := Vf.Same.new (o := .lst (D.ou.map V.int)) (Vf.Same.new (o := .lst xr) (Same.refl _) n4) n5
  have f2 := Vf.Same.new (o := .lst (D.ou.map V.int)) (Vf.Same.new (o := .lst xr) (Vf.Same.new (o := .lst (D.ld.map V.str)) (Same.refl _) n3) n4) n5
  have f1 := Vf.Same.new (o := .lst (D.ou.map V.int)) (Vf.Same.new (o := .lst xr) (Vf.Same.new (o := .lst (D.ld.map V.str)) (Vf.Same.new (o := .lst xi) (Same.refl _) n2) n3) n4) n5
  intro x dx nx nd nex
  have s6 := Vf.Same.new (o := .own x) s5 nd
  have nx6 : (upd (upd (upd (upd (upd (upd H a1 (.lst (D.st.map V.str))) a2 (.lst xi)) a3 (.lst (D.ld.map V.str))) a4 (.lst xr)) a5 (.lst (D.ou.map V.int))) dx (.own x)) x = none := by rw [upd_ne (Ne.symm nex)]; exact nx
  have s7 := Vf.Same.new (o := .ins A.c_Rulebook dx []) s6 nx6
  have g5 := Vf.Same.new (o := .ins A.c_Rulebook dx []) (Vf.Same.new (o := .own x) (Same.refl _) nd) nx6
  refine ⟨x, dx, a1, a2, a3, a4, a5, D, xi, xr, rfl, upd_same, .inl ⟨g5 _ _ (f1 _ _ upd_same), g5 _ _ upd_same⟩, g5 _ _ (f2 _ _ upd_same), ti.same s7, .inl (g5 _ _ (f3 _ _ upd_same)), .inl (g5 _ _ (f4 _ _ upd_same)), tr.same s7, Z, fun _ a H' B k => ⟨rfl, ?_⟩, fun nv => absurd v nv⟩
  have nxH : H x = none := s5.free nx
  refine q x a H' B (fun b o e => k b o (fun m => ?_) (s7 b o e)) nxH
  rw [List.mem_singleton] at m
  rw [m, nxH] at e
  cases e
end

def sp__law_pick (K : PySem.W.Frag) (A : Ad) : Sp := fun vs H Q _ => ∃ (p d : Addr) (ds : List Int) (n many : Int), vs = [.ref p, .int many] ∧ Vf.PoolX H p d ds n ∧ 0 ≤ n ∧ n ≤ 1000000 ∧ 0 < many ∧ many ≤ 1000000000 ∧ ∀ (r : Int) (H' : Hp), 0 ≤ r → r < many → Vf.PoolX H' p d ds (n + 1) → Vf.Keep [p] H H' → Q (.int r) H'
theorem len__law_pick {K : PySem.W.Frag} {A : Ad} (vs : List V) (H : Hp) (Q : VK) (E : XK) (h : sp__law_pick K A vs H Q E) : vs.length = ["pool", "many"].length := by
  obtain ⟨a, b, c, d, e, rfl, _⟩ := h
  rfl

section
variable {P : Program} {w : World} {K : PySem.W.Frag} {mg : Str → Option Value} {base : Heap}
set_option maxHeartbeats 4000000 in
theorem ok__law_pick {A : Ad} (T : Txt P K mg A) : FnOk P w K mg base CX0 1 A.f__law_pick A.d__law_pick ["pool", "many"] (sp__law_pick K A) := by
  refine T.F__law_pick.ok sc__law_pick len__law_pick (fun cdv Ar outer s H vs Q E hr h => ?_)
  have hu := hu_of hr
  obtain ⟨p, d, ds, n, many, rfl, P1, n0, n1, m0, m1, q⟩ := h
  obtain ⟨h1, h2, h3, h4, h5⟩ := P1
  refine ⟨_, (pss_cons (ps_set (i := 2) sc__law_pick.nd rfl (Or.inl rfl) (pe_ix ix_list (pv 0) pe_int (fun _ _ => rfl)))
      (pss_cons (ps_asg (pe_op op_add (pv 2) pe_int) (pg_sub (pv 0) pe_int set_list))
      (pss_cons (ps_set (i := 3) sc__law_pick.nd rfl (Or.inl rfl) (pe_op op_fdiv (pv 2) (pe_callB call_len_seq (by rfl) T.N_len PySem.boot_len (pa_cons (pe_ix ix_list (pv 0) pe_int (fun _ _ => rfl)) pa_nil))))
      (pss_one (ps_ret (pe_op op_mod (pe_op op_add (pe_op op_add (pe_ix ix_list (pe_ix ix_list (pv 0) pe_int (fun _ _ => rfl)) (pe_op op_mod (pv 2) (pe_callB call_len_seq (by rfl) T.N_len PySem.boot_len (pa_cons (pe_ix ix_list (pv 0) pe_int (fun _ _ => rfl)) pa_nil))) (fun _ _ => rfl)) (pe_op op_mul (pv 3) pe_int)) (pe_op op_mul (pv 3) (pv 2))) (pv 1))))))), ?_⟩
  have lenM : ((ds.map V.int).length : Int) = 160 := by rw [List.length_map, h4]; rfl
  have d0 : 0 ≤ n / 160 := Int.ediv_nonneg n0 (by decide)
  have d1 : n / 160 ≤ 10000 := by omega
  have g0 : 0 ≤ n % 160 := Int.emod_nonneg n (by decide)
  have g1 : n % 160 < 160 := Int.emod_lt_of_pos n (by decide)
  refine ⟨_, rfl, p, _, 1, .int n, rfl, rfl, SqL.of h1, atI_nat (j := 1) rfl, ?_⟩
  refine ⟨_, rfl, _, _, rfl, rfl, ?_⟩
  refine ⟨_, rfl, p, _, 1, 1, rfl, rfl, h1, rfl, ?_⟩
  have h1' : (upd H p (.lst [.ref d, .int (n + 1)])) p = some (.lst [.ref d, .int (n + 1)]) := upd_same
  have h2' : (upd H p (.lst [.ref d, .int (n + 1)])) d = some (.lst (ds.map V.int)) := by rw [upd_ne h3]; exact h2
  have k' : Vf.Keep [p] H (upd H p (.lst [.ref d, .int (n + 1)])) := (Vf.Keep.refl H).put (List.mem_singleton.mpr rfl)
  show tSeq _ _ _ _ (upd H p (.lst [.ref d, .int (n + 1)]))
  generalize upd H p (.lst [.ref d, .int (n + 1)]) = H' at h1' h2' k'
  refine ⟨_, rfl, _, rfl, p, _, 0, .ref d, rfl, rfl, SqL.of h1', atI_nat (j := 0) rfl, d, _, rfl, .inl (SqL.of h2'), n, _, rfl, rfl, ?_, ?_⟩
  · rw [lenM]
    exact ⟨by decide, by decide⟩
  rw [lenM]
  refine ⟨_, rfl, p, _, 0, .ref d, rfl, rfl, SqL.of h1', atI_nat (j := 0) rfl, _, rfl, _, rfl, p, _, 0, .ref d, rfl, rfl, SqL.of h1', atI_nat (j := 0) rfl, d, _, rfl, .inl (SqL.of h2'), n, _, rfl, rfl, ?_, ?_⟩
  · rw [lenM]
    show (0 : Int) < 160
    decide
  rw [lenM]
  refine ⟨d, _, _, _, rfl, rfl, SqL.of h2', Vf.int_at g0 (by rw [h4]; exact g1), ?_⟩
  refine ⟨_, rfl, _, _, rfl, rfl, .inr ⟨by decide, by decide⟩, _, _, rfl, rfl, ?_⟩
  refine ⟨_, rfl, _, rfl, _, _, rfl, rfl, .inl ⟨by omega, by omega⟩, _, _, rfl, rfl, ?_⟩
  refine ⟨_, rfl, _, _, rfl, rfl, m0, ?_⟩
  exact q _ H' (Int.emod_nonneg _ (by omega)) (Int.emod_lt_of_pos _ m0) ⟨h1', h2', h3, h4, h5⟩ k'
end

def sp__law_parts_of (K : PySem.W.Frag) (A : Ad) : Sp := fun vs H Q _ => ∃ (p : Addr) (a : Vf.RA) (D : Vf.DD), vs = [.ref p] ∧ Vf.BookP A.c_Rulebook H p a D ∧ ∀ (t : Addr) (H' : Hp), Vf.PartsAt H' t D → Same H H' → Q (.ref t) H'
theorem len__law_parts_of {K : PySem.W.Frag} {A : Ad} (vs : List V) (H : Hp) (Q : VK) (E : XK) (h : sp__law_parts_of K A vs H Q E) : vs.length = ["made"].length := by
  obtain ⟨a, b, c, rfl, _⟩ := h
  rfl

section
variable {P : Program} {w : World} {K : PySem.W.Frag} {mg : Str → Option Value} {base : Heap}
set_option maxHeartbeats 4000000 in
theorem ok__law_parts_of {A : Ad} (T : Txt P K mg A) : FnOk P w K mg base CX0 1 A.f__law_parts_of A.d__law_parts_of ["made"] (sp__law_parts_of K A) := by
  refine T.F__law_parts_of.ok sc__law_parts_of len__law_parts_of (fun cdv Ar outer s H vs Q E hr h => ?_)
  have hu := hu_of hr
  obtain ⟨p, a, D, rfl, B, q⟩ := h
  refine ⟨_, (pss_one (ps_ret (pe_tup (pa_cons (pe_callTy call_list_of (by rfl) T.N_list (by decide +kernel) (pa_cons (pe_fld (pv 0) (by rfl)) pa_nil)) (pa_cons (pe_callTy call_list_of (by rfl) T.N_list (by decide +kernel) (pa_cons (pe_fld (pv 0) (by rfl)) pa_nil)) (pa_cons (pe_callTy call_list_of (by rfl) T.N_list (by decide +kernel) (pa_cons (pe_fld (pv 0) (by rfl)) pa_nil)) (pa_cons (pe_callTy call_list_of (by rfl) T.N_list (by decide +kernel) (pa_cons (pe_fld (pv 0) (by rfl)) pa_nil)) (pa_cons (pe_callTy call_list_of (by rfl) T.N_list (by decide +kernel) (pa_cons (pe_fld (pv 0) (by rfl)) pa_nil)) pa_nil)))))))), ?_⟩
  obtain ⟨dx, hp⟩ := B.ob
  obtain ⟨xi, hi0, ti⟩ := B.ins
  obtain ⟨its, hi⟩ := hi0
  obtain ⟨xr, hr, tr⟩ := B.ru
  refine ⟨_, rfl, p, A.c_Rulebook, dx, _, _, rfl, hp, T.C_Rulebook, T.A_Rulebook_states, rfl, a.t1, _, rfl, .inr (SqT.of B.st), fun l1 n1 => ?_⟩
  have s1 := Vf.Same.new (o := .lst (D.st.map V.str)) (Same.refl H) n1
  refine ⟨_, rfl, p, A.c_Rulebook, dx, _, _, rfl, s1 _ _ hp, T.C_Rulebook, T.A_Rulebook_inputs, rfl, a.t2, _, rfl, .inr (Vf.PT.sq ⟨its, s1 _ _ hi⟩), fun l2 n2 => ?_⟩
  have s2 := Vf.Same.new (o := .lst xi) s1 n2
  refine ⟨_, rfl, p, A.c_Rulebook, dx, _, _, rfl, s2 _ _ hp, T.C_Rulebook, T.A_Rulebook_leaders, rfl, a.t3, _, rfl, .inr (SqT.of (s2 _ _ B.ld)), fun l3 n3 => ?_⟩
  have s3 := Vf.Same.new (o := .lst (D.ld.map V.str)) s2 n3
  refine ⟨_, rfl, p, A.c_Rulebook, dx, _, _, rfl, s3 _ _ hp, T.C_Rulebook, T.A_Rulebook_rules, rfl, a.t4, _, rfl, .inr (SqT.of (s3 _ _ hr)), fun l4 n4 => ?_⟩
  have s4 := Vf.Same.new (o := .lst xr) s3 n4
  refine ⟨_, rfl, p, A.c_Rulebook, dx, _, _, rfl, s4 _ _ hp, T.C_Rulebook, T.A_Rulebook_outputs, rfl, a.t5, _, rfl, .inr (SqT.of (s4 _ _ B.ou)), fun l5 n5 => ?_⟩
  have s5 := Vf.Same.new (o := .lst (D.ou.map V.int)) s4 n5
  refine ⟨(by show 5 ≤ sizeLine; decide), fun t nt => ?_⟩
  have s6 := Vf.Same.new (o := .tup [.ref l1, .ref l2, .ref l3, .ref l4, .ref l5]) s5 nt
  have f6 := Vf.Same.new (o := .tup [.ref l1, .ref l2, .ref l3, .ref l4, .ref l5]) (Same.refl _) nt
  have f5 := (Vf.Same.new (o := .lst (D.ou.map V.int)) (Same.refl _) n5).trans f6
  have f4 := (Vf.Same.new (o := .lst xr) (Same.refl _) n4).trans f5
  have f3 := (Vf.Same.new (o := .lst (D.ld.map V.str)) (Same.refl _) n3).trans f4
  have f2 := (Vf.Same.new (o := .lst xi) (Same.refl _) n2).trans f3
  exact q t _ ⟨l1, l2, l3, l4, l5, xi, xr, upd_same, f2 _ _ upd_same, f3 _ _ upd_same, ti.same s6, f4 _ _ upd_same, f5 _ _ upd_same, tr.same s6, f6 _ _ upd_same⟩ s6
end

def sp_UnknownName___init__ (K : PySem.W.Frag) (A : Ad) : Sp := fun vs H Q _ => ∃ (a : Addr) (s : Str), vs = [.ref a, .str s] ∧ s.length ≤ 1000000 ∧ H a = some (exo a A.c_UnknownName none) ∧ ∀ dx, H dx = none → dx ≠ a → Q .non (upd (upd H dx (exd dx [("name", .str s)])) a (exo a A.c_UnknownName (some dx)))
theorem len_UnknownName___init__ {K : PySem.W.Frag} {A : Ad} (vs : List V) (H : Hp) (Q : VK) (E : XK) (h : sp_UnknownName___init__ K A vs H Q E) : vs.length = ["self", "name"].length := by
  obtain ⟨a, b, rfl, _⟩ := h
  rfl

section
variable {P : Program} {w : World} {K : PySem.W.Frag} {mg : Str → Option Value} {base : Heap}
set_option maxHeartbeats 4000000 in
theorem ok_UnknownName___init__ {A : Ad} (T : Txt P K mg A) : FnOk P w K mg base CX0 1 A.f_UnknownName___init__ A.d_UnknownName___init__ ["self", "name"] (sp_UnknownName___init__ K A) := by
  refine Vf.init_of (k := 0) T.D_UnknownName___init__ sc_UnknownName___init__ rfl rfl rfl rfl (by decide +kernel) T.N_super T.O_UnknownName T.S_UnknownName len_UnknownName___init__ fun Ar outer s H vs Q E hr h => ?_
  obtain ⟨a, s1, rfl, hs, ha, q⟩ := h
  refine ⟨a, _, _, ⟨⟨_, rfl⟩, rfl, rfl, rfl, rfl⟩, rfl, ha, (pa_cons (Vf.pe_join (.cons pe_str (.cons (pe_fmt (pv 1)) (.cons pe_str .nil)))) pa_nil), (pss_one (ps_ost (pv 0) (pv 1))), ?_⟩
  refine ⟨_, rfl, (by walk_at "fit"), _, rfl, .inl ⟨_, rfl, Vf.fits hs (by decide), _, rfl, (by walk_at "fit"), _, rfl, (by walk_at "fit"), ?_⟩⟩
  refine ⟨(by show 1 ≤ 1000; decide), ha, ?_⟩
  exact ⟨_, rfl, _, rfl, a, A.c_UnknownName, rfl, T.O_UnknownName, T.N_UnknownName_name, .inl ⟨ha, fun dx n ne => q dx n ne⟩⟩
end

def sp_fixed (K : PySem.W.Frag) (A : Ad) : Sp := fun vs H Q E => ∃ (b : Addr) (ra : Vf.RA) (D : Vf.DD) (nm : Str) (c : Int), vs = [.ref b, .str nm, .int c] ∧ Vf.BookP A.c_Rulebook H b ra D ∧ Vf.ValidN D ∧ D.ru.length ≤ 100000 ∧ nm.length ≤ 1000 ∧ -100 ≤ c ∧ c ≤ 100 ∧
  (nm ∉ D.ins.map (·.1) → ∀ (d : Addr) (H' : Hp), Same H H' → H' d = some (.xd [("name", .str nm)]) → E (.ref A.c_UnknownName) (some d) H') ∧
  (nm ∈ D.ins.map (·.1) → c < 0 → ∀ H', Same H H' → E (.ref A.c_WrongCounts) none H') ∧
  (nm ∈ D.ins.map (·.1) → 0 ≤ c → 10 < (D.ld.length : Int) + c → ∀ H', Same H H' → E (.ref A.c_InvalidRulebook) none H') ∧
  (nm ∈ D.ins.map (·.1) → 0 ≤ c → (D.ld.length : Int) + c ≤ 10 → ∀ (b' : Addr) (a' : Vf.RA) (H' : Hp), Vf.BookP A.c_Rulebook H' b' a' (Vf.fxD D nm c.toNat) → Same H H' → H b' = none → Q (.ref b') H')
theorem len_fixed {K : PySem.W.Frag} {A : Ad} (vs : List V) (H : Hp) (Q : VK) (E : XK) (h : sp_fixed K A vs H Q E) : vs.length = ["protocol", "name", "count"].length := by
  obtain ⟨a, b, c, d, e, rfl, _⟩ := h
  rfl

section
variable {P : Program} {w : World} {K : PySem.W.Frag} {mg : Str → Option Value} {base : Heap}
set_option maxHeartbeats 4000000 in
theorem ok_fixed {A : Ad} (T : Txt P K mg A) : FnOk P w K mg base (L2.CX P w) 7 A.f_fixed A.d_fixed ["protocol", "name", "count"] (sp_fixed K A) := by
  have G_UnknownName___init__ := ok_UnknownName___init__ (P := P) (w := w) (base := base) T
  have G_Rulebook___init__ := ok_Rulebook___init__ (P := P) (w := w) (base := base) T
  obtain ⟨_, v_MOST_LEADERS⟩ := T.V_MOST_LEADERS
  refine T.F_fixed.okX sc_fixed len_fixed (fun cdv Ar outer s H vs Q E hr h => ?_)
  have hu := hu_of hr
  obtain ⟨b, ra, D, nm, c, rfl, B, v, nru, ln, c1, c2, q1, q2, q3, q4⟩ := h
  obtain ⟨dx, h0⟩ := B.ob
  obtain ⟨xi, hi0, ti⟩ := B.ins
  refine ⟨_, (pss_cons (ps_set (i := 3) sc_fixed.nd rfl (Or.inl rfl) (pe_callTy (Vf.call_dictPT rfl) (by rfl) T.N_dict (by decide +kernel) (pa_cons (pe_fld (pv 0) (by rfl)) pa_nil)))
      (pss_cons (ps_if (pt_cmp (pc_dnotin hu (pv 1) (pv 3))) (pss_one (ps_raise rfl (takes_of rfl rfl rfl rfl) (pmk_oex T.O_UnknownName T.I_UnknownName T.Y_UnknownName G_UnknownName___init__ (hr.mono (by decide)) T.B_UnknownName___init__ .nil pass0 (by rfl) T.G_UnknownName (pa_cons (pv 1) pa_nil)))) pss_nil)
      (pss_cons (ps_if (pt_cmpR op_lt (pv 2) pe_int (nomark _)) (pss_one (ps_raise rfl (takes_of rfl rfl rfl rfl) (pmk_own PySem.F.excBase_ValueError T.x_WrongCounts T.G_WrongCounts T.k_WrongCounts (raises_own T.b_WrongCounts T.t_WrongCounts) (by rfl)))) pss_nil)
      (pss_cons (ps_if (pt_cmpR op_gt (pe_op op_add (pe_callB call_len_seq (by rfl) T.N_len PySem.boot_len (pa_cons (pe_fld (pv 0) (by rfl)) pa_nil)) (pv 2)) (pe_glob (v := .int 10) rfl v_MOST_LEADERS ⟨_, rfl⟩) (nomark _)) (pss_one (ps_raise rfl (takes_of rfl rfl rfl rfl) (SkE.pmk_own1 PySem.F.excBase_ValueError T.x_InvalidRulebook T.G_InvalidRulebook T.k_InvalidRulebook (raises_own T.b_InvalidRulebook T.t_InvalidRulebook) (by rfl) (Vf.pe_join (.cons pe_str (.cons (pe_fmt (pe_glob (v := .int 10) rfl v_MOST_LEADERS ⟨_, rfl⟩)) (.cons pe_str .nil))))))) pss_nil)
      (pss_cons (ps_setLc (i := 4) (own := [("pair", 6)]) (g := (gName 6)) (tt := _) rfl sc_fixed.nd rfl rfl (sw_true rfl rfl rfl (by decide +kernel)) (pi_tup (pe_fld (pv 0) (by rfl))) (blkOk_by (N := ["protocol", "name", "count", "states", "inputs", "leaders", "pair"]) (sc := defScope s_fixed) (by decide +kernel)) (fun _ _ _ _ _ => (pg_name (i := 6) sc_fixed.nd rfl (Or.inl rfl))) (fun _ _ _ _ _ => pts_one (pt_cmpR op_ne (pe_ix (Vf.ix_tupK (K := K) rfl) (pv 6) pe_int (fun _ _ => rfl)) (pv 1) (nomark _))) (fun _ _ _ _ _ => (pv 6)))
      (pss_cons (ps_set (i := 5) sc_fixed.nd rfl (Or.inl rfl) (pe_lst (StX.pa_star (pe_fld (pv 0) (by rfl)) (StX.pa_star (pe_op op_rep (pe_lst (pa_cons (pe_dget (by exact hu) (pv 3) (pv 1) (fun _ _ => rfl)) pa_nil)) (pv 2)) pa_nil))))
      (pss_one (ps_ret (pe_make T.K_Rulebook G_Rulebook___init__ hr (by rfl) T.G_Rulebook T.B_Rulebook___init__ .nil (passes_call (takes_of rfl rfl rfl rfl) fun _ _ _ _ h => h) (pa_cons (pe_fld (pv 0) (by rfl)) (pa_cons (pv 4) (pa_cons (pv 5) (pa_cons (pe_fld (pv 0) (by rfl)) (pa_cons (pe_fld (pv 0) (by rfl)) pa_nil)))))))))))))), ?_⟩
  obtain ⟨ps, ex, pr⟩ := Vf.tups_refs (K := K) ti
  subst ex
  refine ⟨_, rfl, b, A.c_Rulebook, dx, _, _, rfl, h0, T.C_Rulebook, T.A_Rulebook_inputs, rfl, ra.t2, ps, Vf.inK D.ins, rfl, hi0, pr, fun sd nsd => ?_⟩
  rw [Vf.inK_merge v.ind]
  have s1 := Vf.Same.new (o := .dK (Vf.inK D.ins)) (Same.refl H) nsd
  have hsd : (upd H sd (.dK (Vf.inK D.ins))) sd = some (.dK (Vf.inK D.ins)) := upd_same
  generalize upd H sd (.dK (Vf.inK D.ins)) = H1 at s1 hsd ⊢
  refine ⟨_, rfl, _, rfl, sd, _, rfl, DGet.k (k := Sum.inr nm) hsd, _, rfl, ?_⟩
  by_cases m : nm ∈ D.ins.map (·.1)
  rotate_left
  · rw [Vf.inK_none m]
    refine Vf.ite_b (fun _ => ?_) (fun x => absurd x (by decide))
    refine ⟨_, rfl, (by show 1 ≤ 1000; decide), fun a nb => ?_⟩
    refine ⟨a, nm, rfl, by omega, upd_same, fun d nd ne => ⟨rfl, d, [("name", .str nm)], upd_same, ?_, ?_, ?_⟩⟩
    · rw [upd_ne ne, upd_same]
    · rw [upd_ne ne] at nd
      exact nd
    · rw [upd_ne ne] at nd
      refine q1 m d _ (fun x o e => ?_) upd_same
      have xe := s1 _ _ e
      have xd : x ≠ d := Vf.neq_none xe nd
      have xa : x ≠ a := Vf.neq_none xe nb
      rw [upd_ne xd, del_ne xa, upd_ne xa, upd_ne xd, upd_ne xa]
      exact xe
  rw [Vf.inK_val m]
  refine Vf.ite_b (fun x => absurd (show false = true from x) (by decide)) fun _ => ?_
  dsimp only
  refine ⟨_, rfl, _, _, rfl, rfl, _, rfl, Vf.ite_d (fun neg => q2 m neg H1 s1) (fun pos => ?_)⟩
  have B1 := B.same s1
  have h1 := s1 _ _ h0
  refine ⟨_, rfl, b, A.c_Rulebook, dx, _, _, rfl, h1, T.C_Rulebook, T.A_Rulebook_leaders, rfl, ra.t3, _, rfl, .inr (SqT.of B1.ld), _, rfl, _, _, rfl, rfl, _, _, rfl, rfl, _, rfl, ?_⟩
  rw [List.length_map]
  refine Vf.ite_d (fun many => ?_) (fun few => ?_)
  · refine ⟨_, rfl, (by walk_at "fit"), .inr ⟨10, rfl, by decide +kernel, _, rfl, (by walk_at "fit"), _, rfl, (by walk_at "fit"), ?_⟩⟩
    exact q3 m (by omega) (by omega) H1 s1
  have pos : 0 ≤ c := by omega
  have few : (D.ld.length : Int) + c ≤ 10 := by omega
  refine ⟨_, rfl, b, A.c_Rulebook, dx, _, _, rfl, h1, T.C_Rulebook, T.A_Rulebook_inputs, rfl, ra.t2, rfl, ⟨_, hi0.same (s1 _) |>.sq⟩, fun L nL => ?_⟩
  refine Vf.lc_one (walk_tup (K := K) (a := ra.t2) (xs := ps.map V.ref)) (fun i H' => ∃ acc, H' L = some (.lst acc) ∧ Same H1 H' ∧ Vf.Tups Vf.enc2 H' acc ((D.ins.take i).filter fun p => decide (p.1 ≠ nm)) ∧ acc.length ≤ i) ⟨[], upd_same, Vf.Same.new (Same.refl H1) nL, Vf.Tups.nil, Nat.le_refl _⟩ (fun i H' _ ⟨_, _, s, _⟩ => (hi0.same (fun o e => s _ _ (s1 _ _ e))).sq) ?_ ?_
  · rintro i x Ha Hb hi ⟨acc, ha, sa, Ta, la⟩ ⟨rfl, hx⟩
    obtain ⟨pr, t, hp, rfl, ht⟩ := ti.get hx
    refine ⟨rfl, ?_⟩
    refine ⟨_, rfl, t, _, 0, .str pr.1, rfl, rfl, SqT.of (sa _ _ (s1 _ _ ht)), atI_nat (j := 0) rfl, _, rfl, rfl, _, rfl, ?_⟩
    by_cases e : pr.1 = nm
    · rw [show (!decide (V.str pr.1 = V.str nm)) = false by simp [e]]
      dsimp only
      rw [if_neg Bool.false_ne_true]
      refine ⟨acc, ha, sa, ?_, by omega⟩
      rw [Vf.take_snoc hp, List.filter_append, List.filter_cons_of_neg (by simp [e]), List.filter_nil, List.append_nil]
      exact Ta
    · rw [show (!decide (V.str pr.1 = V.str nm)) = true by simp [e]]
      dsimp only
      rw [if_pos rfl]
      have hi8 : i < 8 := Nat.lt_of_lt_of_le hi (by rw [ti.1]; exact v.n8)
      have keep : ∀ t ys, Hb t = some (.tup ys) → (upd Hb L (.lst (acc ++ [.ref t]))) t = some (.tup ys) := fun t ys q => by
        rw [upd_ne (fun e => by rw [e, ha] at q; cases q)]
        exact q
      refine ⟨_, rfl, acc, ha, Nat.lt_of_le_of_lt la (Nat.lt_trans hi8 (by decide)), _, upd_same, Vf.Same.chg sa nL, ?_, by rw [List.length_append]; show acc.length + 1 ≤ i + 1; omega⟩
      rw [Vf.take_snoc hp, List.filter_append, List.filter_cons_of_pos (by simp [e]), List.filter_nil]
      refine Vf.Tups.snoc (Ta.mono fun u ys q => ?_) ?_
      · rw [upd_ne (fun e => by rw [e, ha] at q; cases q)]
        exact q
      · have q := sa _ _ (s1 _ _ ht)
        rw [upd_ne (fun e => by rw [e, ha] at q; cases q)]
        exact q
  rintro H2 ⟨acc, ha, sa, Ta, la⟩
  rw [show D.ins.take (ps.map V.ref).length = D.ins by rw [ti.1, List.take_length]] at Ta
  have s2 := s1.trans sa
  have B2 := B.same s2
  refine ⟨_, rfl, b, A.c_Rulebook, dx, _, _, rfl, s2 _ _ h0, T.C_Rulebook, T.A_Rulebook_leaders, rfl, ra.t3, _, rfl, .inl (SqT.of B2.ld), ?_⟩
  refine ⟨_, rfl, _, rfl, sd, .str (Vf.stOf D.ins nm), rfl, (by rw [← Vf.inK_val m]; exact DGet.k (k := Sum.inr nm) (sa _ _ hsd)), ?_⟩
  refine ⟨(by show 1 ≤ sizeLine; decide), fun u nu => ?_⟩
  have s3 := Vf.Same.new (o := .lst [.str (Vf.stOf D.ins nm)]) s2 nu
  refine ⟨_, rfl, u, c, _, rfl, rfl, upd_same, by omega, by omega, ?_, fun p np => ?_⟩
  · exact Nat.le_trans (show [V.str (Vf.stOf D.ins nm)].length * c.toNat ≤ 100 by show 1 * c.toNat ≤ 100; omega) (by decide)
  rw [show (List.replicate c.toNat [V.str (Vf.stOf D.ins nm)]).flatten = (List.replicate c.toNat (Vf.stOf D.ins nm)).map V.str by rw [List.flatten_replicate_singleton, List.map_replicate]]
  have s4 := Vf.Same.new (o := .lst ((List.replicate c.toNat (Vf.stOf D.ins nm)).map V.str)) s3 np
  refine ⟨p, _, rfl, .inr (SqL.of upd_same), ?_⟩
  unfold tNil
  dsimp only
  rw [List.append_nil, ← List.map_append]
  have l10 := v.n10
  refine ⟨Nat.le_trans (show (List.map V.str (D.ld ++ List.replicate c.toNat (Vf.stOf D.ins nm))).length ≤ 200 by rw [List.length_map, List.length_append, List.length_replicate]; omega) (by decide), fun ll nl => ?_⟩
  have s5 := Vf.Same.new (o := .lst ((D.ld ++ List.replicate c.toNat (Vf.stOf D.ins nm)).map V.str)) s4 nl
  have g3 := Vf.Same.new (o := .lst [.str (Vf.stOf D.ins nm)]) (Same.refl H2) nu
  have g4 := Vf.Same.new (o := .lst ((List.replicate c.toNat (Vf.stOf D.ins nm)).map V.str)) g3 np
  have g5 := Vf.Same.new (o := .lst ((D.ld ++ List.replicate c.toNat (Vf.stOf D.ins nm)).map V.str)) g4 nl
  have hl5 := g5 _ _ ha
  have Ta5 := Ta.same g5
  have hll5 := upd_same (H := (upd (upd H2 u (.lst [.str (Vf.stOf D.ins nm)])) p (.lst ((List.replicate c.toNat (Vf.stOf D.ins nm)).map V.str)))) (a := ll) (o := .lst ((D.ld ++ List.replicate c.toNat (Vf.stOf D.ins nm)).map V.str))
  generalize upd (upd (upd H2 u (.lst [.str (Vf.stOf D.ins nm)])) p (.lst ((List.replicate c.toNat (Vf.stOf D.ins nm)).map V.str))) ll (.lst ((D.ld ++ List.replicate c.toNat (Vf.stOf D.ins nm)).map V.str)) = H5 at s5 hl5 Ta5 hll5 ⊢
  have B5 := B.same s5
  have h5 := s5 _ _ h0
  obtain ⟨xr, hr', tr⟩ := B5.ru
  refine ⟨_, rfl, b, A.c_Rulebook, dx, _, _, rfl, h5, T.C_Rulebook, T.A_Rulebook_states, rfl, _, rfl, _, rfl, _, rfl, b, A.c_Rulebook, dx, _, _, rfl, h5, T.C_Rulebook, T.A_Rulebook_rules, rfl, _, rfl, b, A.c_Rulebook, dx, _, _, rfl, h5, T.C_Rulebook, T.A_Rulebook_outputs, rfl, ?_⟩
  intro x dy nx nd nex
  have s6 := Vf.Same.new (o := .own x) (Same.refl H5) nd
  have nx6 : (upd H5 dy (.own x)) x = none := by rw [upd_ne (Ne.symm nex)]; exact nx
  have s7 := Vf.Same.new (o := .ins A.c_Rulebook dy []) s6 nx6
  have vv := Vf.fx_valid (c := c.toNat) v m (by omega)
  have nxH : H x = none := s5.free nx
  refine ⟨x, dy, ra.t1, L, ll, ra.t4, ra.t5, Vf.fxD D nm c.toNat, acc, xr, rfl, upd_same, .inr ⟨s7 _ _ B5.st, s7 _ _ B5.ou⟩, s7 _ _ hl5, Ta5.same s7, .inl (s7 _ _ hll5), .inr (s7 _ _ hr'), tr.same s7, vv.short (by show D.ru.length ≤ 1000000; omega), fun _ a H' B' k => ⟨rfl, ?_⟩, fun nv => absurd vv.valid nv⟩
  exact q4 m pos few x a H' B' (fun c o e => k c o (fun m => by
    rw [List.mem_singleton] at m
    rw [m, nxH] at e
    cases e) (s7 c o (s5 c o e))) nxH
end

def sp__law_told_fixed (K : PySem.W.Frag) (A : Ad) : Sp := fun vs H Q _ => ∃ (b : Addr) (ra : Vf.RA) (D : Vf.DD) (nm : Str) (c : Int), vs = [.ref b, .str nm, .int c] ∧ Vf.BookP A.c_Rulebook H b ra D ∧ Vf.ValidN D ∧ D.ru.length ≤ 100000 ∧ nm.length ≤ 1000 ∧ -100 ≤ c ∧ c ≤ 100 ∧
  (nm ∉ D.ins.map (·.1) → ∀ (t : Addr) (H' : Hp), Same H H' → H' t = some (.tup [.str "unknown", .str nm]) → Q (.ref t) H') ∧
  (nm ∈ D.ins.map (·.1) → c < 0 → ∀ (t : Addr) (H' : Hp), Same H H' → H' t = some (.tup [.str "wrong", .str ""]) → Q (.ref t) H') ∧
  (nm ∈ D.ins.map (·.1) → 0 ≤ c → 10 < (D.ld.length : Int) + c → ∀ (t : Addr) (H' : Hp), Same H H' → H' t = some (.tup [.str "invalid", .str ""]) → Q (.ref t) H') ∧
  (nm ∈ D.ins.map (·.1) → 0 ≤ c → (D.ld.length : Int) + c ≤ 10 → ∀ (t : Addr) (H' : Hp), Same H H' → Vf.PartsAt H' t (Vf.fxD D nm c.toNat) → Q (.ref t) H')
theorem len__law_told_fixed {K : PySem.W.Frag} {A : Ad} (vs : List V) (H : Hp) (Q : VK) (E : XK) (h : sp__law_told_fixed K A vs H Q E) : vs.length = ["made", "name", "count"].length := by
  obtain ⟨a, b, c, d, e, rfl, _⟩ := h
  rfl

section
variable {P : Program} {w : World} {K : PySem.W.Frag} {mg : Str → Option Value} {base : Heap}
set_option maxHeartbeats 4000000 in
theorem ok__law_told_fixed {A : Ad} (T : Txt P K mg A) : FnOk P w K mg base CX0 8 A.f__law_told_fixed A.d__law_told_fixed ["made", "name", "count"] (sp__law_told_fixed K A) := by
  have G__law_parts_of := ok__law_parts_of (P := P) (w := w) (base := base) T
  have G_fixed := ok_fixed (P := P) (w := w) (base := base) T
  refine T.F__law_told_fixed.ok sc__law_told_fixed len__law_told_fixed (fun cdv Ar outer s H vs Q E hr h => ?_)
  have hu := hu_of hr
  obtain ⟨b, ra, D, nm, c, rfl, B, v, nru, ln, c1, c2, q1, q2, q3, q4⟩ := h
  refine ⟨_, (pss_one (Vf.ps_try_mas (Wout := fun _ _ _ _ => False) rfl rfl sc__law_told_fixed.nd Vf.takesN (fun W pn xe tk _ => (pss_one (ps_ret (pe_call G__law_parts_of (hr.mono (by decide)) (by rfl) T.G__law_parts_of T.F__law_parts_of.kp T.B__law_parts_of .nil pass0 (pa_cons (pe_callS G_fixed hr (by rfl) T.G_fixed T.F_fixed.kp T.B_fixed (fun σ => passAt tk σ) (pa_cons (pv 0) (pa_cons (pv 1) (pa_cons (pv 2) pa_nil)))) pa_nil))))) (Vf.HdsAs.consA (i := 3) (c := .ref A.c_UnknownName) rfl rfl ⟨rfl, by decide, .inl T.G_UnknownName⟩ (fun a oe cls d pn hz hf => (pss_one (ps_ret (pe_tup (pa_cons pe_str (pa_cons (pe_xf T.X_UnknownName T.N_UnknownName_name hz hf (pv 3)) pa_nil)))))) (Vf.HdsAs.cons (c := .ref A.c_WrongCounts) ⟨rfl, by decide, .inl T.G_WrongCounts⟩ (fun a oe cls d pn hz hf => (pss_one (ps_ret (pe_tup (pa_cons pe_str (pa_cons pe_str pa_nil)))))) (Vf.HdsAs.cons (c := .ref A.c_InvalidRulebook) ⟨rfl, by decide, .inl T.G_InvalidRulebook⟩ (fun a oe cls d pn hz hf => (pss_one (ps_ret (pe_tup (pa_cons pe_str (pa_cons pe_str pa_nil)))))) Vf.HdsAs.nil))))), ?_⟩
  refine ⟨_, rfl, _, rfl, _, rfl, b, ra, D, nm, c, rfl, B, v, nru, ln, c1, c2, fun m d H1 s hd => ?_, fun m neg H1 s => ?_, fun m pos many H1 s => ?_, fun m pos few b' a' H1 B' s nb => ?_⟩
  · refine ⟨true, T.e_UnknownName, fun _ a na => ?_, (fun h => by cases h)⟩
    refine ⟨_, rfl, rfl, rfl, d, _, .str nm, rfl, hd, rfl, (by show 2 ≤ sizeLine; decide), fun u nu => ?_⟩
    exact q1 m u _ (Vf.Same.new s nu) upd_same
  · refine ⟨false, T.e_WrongCounts_UnknownName, (fun h => by cases h), fun _ => ⟨true, T.e_WrongCounts, fun _ a na => ?_, (fun h => by cases h)⟩⟩
    refine ⟨(by show 2 ≤ sizeLine; decide), fun u nu => ?_⟩
    exact q2 m neg u _ (Vf.Same.new s nu) upd_same
  · refine ⟨false, T.e_InvalidRulebook_UnknownName, (fun h => by cases h), fun _ => ⟨false, T.e_InvalidRulebook_WrongCounts, (fun h => by cases h), fun _ => ⟨true, T.e_InvalidRulebook, fun _ a na => ?_, (fun h => by cases h)⟩⟩⟩
    refine ⟨(by show 2 ≤ sizeLine; decide), fun u nu => ?_⟩
    exact q3 m pos many u _ (Vf.Same.new s nu) upd_same
  · exact ⟨b', a', _, rfl, B', fun t H' P s' => q4 m pos few t H' (s.trans s') P⟩
end

def sp_are_counts (K : PySem.W.Frag) (A : Ad) : Sp := fun vs H Q _ => ∃ (a : Addr) (ns : List Int) (many : Int), vs = [.ref a, .int many] ∧ (SqL K H a (ns.map V.int) ∨ SqT K H a (ns.map V.int)) ∧ Q (.bl (decide ((ns.length : Int) = many ∧ ∀ y ∈ ns, 0 ≤ y))) H
theorem len_are_counts {K : PySem.W.Frag} {A : Ad} (vs : List V) (H : Hp) (Q : VK) (E : XK) (h : sp_are_counts K A vs H Q E) : vs.length = ["counts", "many"].length := by
  obtain ⟨a, b, c, rfl, _⟩ := h
  rfl

section
variable {P : Program} {w : World} {K : PySem.W.Frag} {mg : Str → Option Value} {base : Heap}
set_option maxHeartbeats 4000000 in
theorem ok_are_counts {A : Ad} (T : Txt P K mg A) : FnOk P w K mg base CX0 1 A.f_are_counts A.d_are_counts ["counts", "many"] (sp_are_counts K A) := by
  refine T.F_are_counts.ok sc_are_counts len_are_counts (fun cdv Ar outer s H vs Q E hr h => ?_)
  have hu := hu_of hr
  obtain ⟨a, ns, many, rfl, hs, q⟩ := h
  refine ⟨_, (pss_one (ps_ret (pe_and (pe_cmpR op_eq (pe_callB call_len_seq (by rfl) T.N_len PySem.boot_len (pa_cons (pv 0) pa_nil)) (pv 1) (nomark _)) (pe_one (pe_cmpR op_ge (pe_callBK (Vf.cr_leastD (by exact hr.units)) (by rfl) T.N_min (by decide +kernel) (pa_cons (pv 0) pa_nil) (pk_cons pe_int pk_nil)) pe_int (nomark _)))))), ?_⟩
  refine ⟨_, rfl, a, _, rfl, hs, _, rfl, rfl, ?_⟩
  rw [List.length_map]
  refine ⟨_, rfl, ?_⟩
  by_cases c : (ns.length : Int) = many
  · have e : decide (V.int (ns.length : Int) = V.int many) = true := by rw [c]; exact decide_eq_true rfl
    rw [e]
    refine iteT ⟨_, rfl, _, ns, 0, rfl, rfl, hs, fun m hm => ?_⟩
    refine ⟨m, 0, rfl, rfl, ?_⟩
    have e2 : decide (0 ≤ m) = decide ((ns.length : Int) = many ∧ ∀ y ∈ ns, 0 ≤ y) := by
      refine decide_eq_decide.mpr ⟨fun h => ⟨c, fun y hy => ?_⟩, fun ⟨_, h⟩ => ?_⟩
      · rcases hm with ⟨hm, _⟩ | ⟨_, hm⟩
        · rw [hm] at hy
          cases hy
        · have := hm y hy
          omega
      · rcases hm with ⟨_, hm⟩ | ⟨hm, _⟩
        · omega
        · exact h m hm
    show Q (.bl (decide (0 ≤ m))) H
    rw [e2]
    exact q
  · have e : decide (V.int (ns.length : Int) = V.int many) = false := decide_eq_false fun h => c (V.int.inj h)
    rw [e]
    refine iteF ?_
    have e2 : decide ((ns.length : Int) = many ∧ ∀ y ∈ ns, 0 ≤ y) = false := decide_eq_false fun h => c h.1
    rw [e2] at q
    exact q
end

def sp_Rulebook_first_place (K : PySem.W.Frag) (A : Ad) : Sp := fun vs H Q E => ∃ (b c : Addr) (ra : Vf.RA) (D : Vf.DD) (cs : List Int), vs = [.ref b, .ref c] ∧ Vf.BookP A.c_Rulebook H b ra D ∧ Vf.ValidN D ∧ SqL K H c (cs.map V.int) ∧
  ((cs.length = D.ins.length ∧ ∀ y ∈ cs, 0 ≤ y) → ∀ (p : Addr) (H' : Hp), H p = none → Same H H' → H' p = some (.tup ((Vf.firstPl D cs).map V.int)) → Q (.ref p) H') ∧
  (¬ (cs.length = D.ins.length ∧ ∀ y ∈ cs, 0 ≤ y) → E (.ref A.c_WrongCounts) none H)
theorem len_Rulebook_first_place {K : PySem.W.Frag} {A : Ad} (vs : List V) (H : Hp) (Q : VK) (E : XK) (h : sp_Rulebook_first_place K A vs H Q E) : vs.length = ["self", "counts"].length := by
  obtain ⟨a, b, c, d, e, rfl, _⟩ := h
  rfl

section
variable {P : Program} {w : World} {K : PySem.W.Frag} {mg : Str → Option Value} {base : Heap}
set_option maxHeartbeats 4000000 in
theorem ok_Rulebook_first_place {A : Ad} (T : Txt P K mg A) : FnOk P w K mg base (L2.CX P w) 2 A.f_Rulebook_first_place A.d_Rulebook_first_place ["self", "counts"] (sp_Rulebook_first_place K A) := by
  have G_are_counts := ok_are_counts (P := P) (w := w) (base := base) T
  refine T.F_Rulebook_first_place.okX sc_Rulebook_first_place len_Rulebook_first_place (fun cdv Ar outer s H vs Q E hr h => ?_)
  have hu := hu_of hr
  obtain ⟨b, c, ra, D, cs, rfl, B, vN, hS, q1, q2⟩ := h
  obtain ⟨dx, h0⟩ := B.ob
  obtain ⟨xi, hi0, ti⟩ := B.ins
  obtain ⟨its, hi⟩ := hi0
  have sqi : ∀ {H' : Hp}, Same H H' → SqT K H' ra.t2 xi := fun s => Vf.PT.sq ⟨its, s _ _ hi⟩
  refine ⟨_, (pss_cons (ps_if (pt_not (pt_val (pe_call G_are_counts hr (by rfl) T.G_are_counts T.F_are_counts.kp T.B_are_counts .nil pass0 (pa_cons (pv 1) (pa_cons (pe_callB call_len_seq (by rfl) T.N_len PySem.boot_len (pa_cons (pe_fld (pv 0) (by rfl)) pa_nil)) pa_nil))))) (pss_one (ps_raise rfl (takes_of rfl rfl rfl rfl) (pmk_own PySem.F.excBase_ValueError T.x_WrongCounts T.G_WrongCounts T.k_WrongCounts (raises_own T.b_WrongCounts T.t_WrongCounts) (by rfl)))) pss_nil)
      (pss_cons (ps_set (i := 2) sc_Rulebook_first_place.nd rfl (Or.inl rfl) (pe_op op_rep (pe_lst (pa_cons pe_int pa_nil)) (pe_callB call_len_seq (by rfl) T.N_len PySem.boot_len (pa_cons (pe_fld (pv 0) (by rfl)) pa_nil))))
      (pss_cons (ps_for (passes_of rfl) rfl (Vf.pi_zipM (by rfl) T.N_zip (pa_cons (pe_fld (pv 0) (by rfl)) (pa_cons (pv 1) pa_nil))) (pg_tup (by rfl) (pgs_cons (pg_tup (by rfl) (pgs_cons (pg_name (i := 3) sc_Rulebook_first_place.nd rfl (Or.inl rfl)) (pgs_cons (pg_name (i := 4) sc_Rulebook_first_place.nd rfl (Or.inl rfl)) pgs_nil))) (pgs_cons (pg_name (i := 5) sc_Rulebook_first_place.nd rfl (Or.inl rfl)) pgs_nil)))
        (pss_one (ps_augS (pv 2) (pe_dget (by exact hu) (pe_fld (pv 0) (by rfl)) (pv 4) (fun _ _ => rfl)) Vf.get_listM (pv 5) ip_add set_list)))
      (pss_cons (ps_for (passes_of rfl) rfl (pi_tup (pe_fld (pv 0) (by rfl))) (pg_name (i := 4) sc_Rulebook_first_place.nd rfl (Or.inl rfl))
        (pss_one (ps_augS (pv 2) (pe_dget (by exact hu) (pe_fld (pv 0) (by rfl)) (pv 4) (fun _ _ => rfl)) Vf.get_listM pe_int ip_add set_list)))
      (pss_one (ps_ret (pe_callTy call_tuple_of (by rfl) T.N_tuple (by decide +kernel) (pa_cons (pv 2) pa_nil)))))))), ?_⟩
  refine ⟨_, rfl, _, rfl, b, A.c_Rulebook, dx, _, _, rfl, h0, T.C_Rulebook, T.A_Rulebook_inputs, rfl, ra.t2, _, rfl, .inr (sqi (Same.refl H)), c, cs, _, rfl, .inl hS, ?_⟩
  rw [ti.1]
  refine ⟨_, rfl, Vf.ite_b (fun h => ?_) (fun h => ?_)⟩
  · refine q2 fun h' => ?_
    rw [decide_eq_true ⟨by rw [h'.1], h'.2⟩] at h
    cases h
  have good : cs.length = D.ins.length ∧ ∀ y ∈ cs, 0 ≤ y := by
    by_cases g : ((cs.length : Int) = (D.ins.length : Int) ∧ ∀ y ∈ cs, 0 ≤ y)
    · exact ⟨Int.ofNat.inj g.1, g.2⟩
    · rw [decide_eq_false g] at h
      cases h
  have q := q1 good
  refine ⟨(by show 1 ≤ sizeLine; decide), fun u nu => ?_⟩
  have e0 := Vf.Same.new (o := .lst [.int 0]) (Same.refl H) nu
  have B1 := B.same e0
  refine ⟨_, rfl, b, A.c_Rulebook, dx, _, _, rfl, e0 _ _ h0, T.C_Rulebook, T.A_Rulebook_states, rfl, ra.t1, _, rfl, .inr (SqT.of B1.st), ?_⟩
  rw [List.length_map]
  refine ⟨u, D.st.length, _, rfl, rfl, upd_same, by omega, by have := vN.n400; omega, ?_, fun p np => ?_⟩
  · have := vN.n400
    rw [Int.toNat_natCast]
    exact Nat.le_trans (show [V.int 0].length * D.st.length ≤ 400 by show 1 * D.st.length ≤ 400; omega) (by decide)
  rw [Vf.zeros, Int.toNat_natCast]
  have e1 := Vf.Same.new (o := .lst ((List.replicate D.st.length (0 : Int)).map V.int)) e0 np
  have npH : H p = none := e0.free np
  have lenI : xi.length = (cs.map V.int).length := by rw [ti.1, List.length_map, good.1]
  refine ⟨_, rfl, b, A.c_Rulebook, dx, _, _, rfl, e1 _ _ h0, T.C_Rulebook, T.A_Rulebook_inputs, rfl, _, rfl, ra.t2, c, xi, _, rfl, ⟨sqi e1, e1.seq hS⟩, ?_⟩
  refine Vf.for_zipM lenI (fun i σ H' => (∃ v3 v4 v5 : Option V, σ = [some (.ref b), some (.ref c), some (.ref p), v3, v4, v5]) ∧ Same H H' ∧ H' p = some (.lst ((Vf.inPl D D.st.length (D.ins.take i) (cs.take i)).map V.int))) ⟨⟨none, none, none, rfl⟩, e1, upd_same⟩ (fun i σ H' ⟨_, s, _⟩ => ⟨sqi s, s.seq hS⟩) ?_ ?_
  · rintro i x y t σ H' hx hy ⟨⟨v3, v4, v5, rfl⟩, s, hp⟩ ht
    obtain ⟨pr, tp, hpr, rfl, htp⟩ := ti.get hx
    obtain ⟨cn, hcn, rfl⟩ := Vf.map_get hy
    have st := Vf.Same.new (o := .tup [.ref tp, .int cn]) s ht
    have mem := (vN.inm pr (List.mem_of_getElem? hpr)).2
    have hp' : (upd H' t (.tup [.ref tp, .int cn])) p = some (.lst ((Vf.inPl D D.st.length (D.ins.take i) (cs.take i)).map V.int)) := by rw [upd_ne (Vf.neq_none hp ht)]; exact hp
    have hl := Vf.inPl_len D D.st.length (D.ins.take i) (cs.take i)
    refine ⟨t, _, rfl, SqT.of upd_same, rfl, _, _, rfl, ⟨tp, _, rfl, SqT.of (st _ _ htp), rfl, _, _, rfl, _, _, rfl, rfl, ?_⟩⟩
    refine ⟨_, _, rfl, rfl, ?_⟩
    refine ⟨_, rfl, _, rfl, b, A.c_Rulebook, dx, _, _, rfl, st _ _ h0, T.C_Rulebook, T.A_Rulebook__numbers, rfl, _, rfl, ra.dn, .int (Vf.ix D.st pr.2), rfl, (by rw [← Vf.num_in mem]; exact DGet.k (k := Sum.inr pr.2) (st _ _ B.dn)), p, _, _, _, rfl, rfl, SqL.of hp', Vf.ix_nn, Vf.getPl mem hl, _, rfl, _, _, rfl, rfl, p, _, _, _, rfl, rfl, hp', Vf.ixPl mem hl, ?_⟩
    refine ⟨⟨_, _, _, rfl⟩, Vf.Same.chg st npH, ?_⟩
    rw [upd_same, Vf.inPl_snoc D D.st.length i hpr hcn, ← Vf.putAt_map]
  rintro σ H2 ⟨⟨v3, v4, v5, rfl⟩, s2, hp2⟩
  have hp2 : H2 p = some (.lst ((Vf.inPl D D.st.length D.ins cs).map V.int)) := by
    have x1 : D.ins.take xi.length = D.ins := by rw [ti.1]; exact List.take_length
    have x2 : cs.take xi.length = cs := by rw [ti.1, ← good.1]; exact List.take_length
    rw [x1, x2] at hp2
    exact hp2
  refine ⟨_, rfl, b, A.c_Rulebook, dx, _, _, rfl, s2 _ _ h0, T.C_Rulebook, T.A_Rulebook_leaders, rfl, ra.t3, rfl, ⟨_, SqT.of (s2 _ _ B.ld)⟩, ?_⟩
  refine for_tup (K := K) (a := ra.t3) (xs := D.ld.map V.str) (fun i σ H' => (∃ v3 v4 v5 : Option V, σ = [some (.ref b), some (.ref c), some (.ref p), v3, v4, v5]) ∧ Same H H' ∧ H' p = some (.lst ((Vf.ldPl D (D.ld.take i) (Vf.inPl D D.st.length D.ins cs)).map V.int))) ⟨⟨_, _, _, rfl⟩, s2, hp2⟩ (fun i σ H' _ ⟨_, s, _⟩ => SqT.of (s _ _ B.ld)) ?_ ?_
  · rintro i x σ H' hx ⟨⟨v3, v4, v5, rfl⟩, s, hp'⟩
    obtain ⟨nm, hnm, rfl⟩ := Vf.map_get hx
    have mem := vN.ldm nm (List.mem_of_getElem? hnm)
    have hl : (Vf.ldPl D (D.ld.take i) (Vf.inPl D D.st.length D.ins cs)).length = D.st.length := (Vf.ldPl_len ..).trans (Vf.inPl_len ..)
    refine ⟨_, rfl, _, rfl, b, A.c_Rulebook, dx, _, _, rfl, s _ _ h0, T.C_Rulebook, T.A_Rulebook__numbers, rfl, _, rfl, ra.dn, .int (Vf.ix D.st nm), rfl, (by rw [← Vf.num_in mem]; exact DGet.k (k := Sum.inr nm) (s _ _ B.dn)), p, _, _, _, rfl, rfl, SqL.of hp', Vf.ix_nn, Vf.getPl mem hl, _, _, rfl, rfl, p, _, _, _, rfl, rfl, hp', Vf.ixPl mem hl, ?_⟩
    refine ⟨⟨_, _, _, rfl⟩, Vf.Same.chg s npH, ?_⟩
    rw [upd_same, Vf.ldPl_snoc D i hnm, ← Vf.putAt_map]
  rintro σ H3 ⟨⟨v3, v4, v5, rfl⟩, s3, hp3⟩
  have hp3 : H3 p = some (.lst ((Vf.firstPl D cs).map V.int)) := by
    rw [List.length_map, List.take_length] at hp3
    exact hp3
  refine ⟨_, rfl, p, _, rfl, .inl ⟨SqL.of hp3, fun l nl => ?_⟩⟩
  exact q l _ (s3.free nl) (Vf.Same.new s3 nl) upd_same
end

def sp_with_inputs (K : PySem.W.Frag) (A : Ad) : Sp := fun vs H Q E => ∃ (b li : Addr) (ra : Vf.RA) (D : Vf.DD) (xi : List V) (I : List (Str × Str)), vs = [.ref b, .ref li] ∧ Vf.BookP A.c_Rulebook H b ra D ∧ H li = some (.lst xi) ∧ Vf.Tups Vf.enc2 H xi I ∧ Vf.Short { D with ins := I } ∧
  (Vf.Valid { D with ins := I } → ∀ (b' : Addr) (a' : Vf.RA) (H' : Hp), Vf.BookP A.c_Rulebook H' b' a' { D with ins := I } → Same H H' → H b' = none → Q (.ref b') H') ∧
  (¬ Vf.Valid { D with ins := I } → ∀ H', Same H H' → E (.ref A.c_InvalidRulebook) none H')
theorem len_with_inputs {K : PySem.W.Frag} {A : Ad} (vs : List V) (H : Hp) (Q : VK) (E : XK) (h : sp_with_inputs K A vs H Q E) : vs.length = ["protocol", "inputs"].length := by
  obtain ⟨a, b, c, d, e, f, rfl, _⟩ := h
  rfl

section
variable {P : Program} {w : World} {K : PySem.W.Frag} {mg : Str → Option Value} {base : Heap}
set_option maxHeartbeats 4000000 in
theorem ok_with_inputs {A : Ad} (T : Txt P K mg A) : FnOk P w K mg base (L2.CX P w) 7 A.f_with_inputs A.d_with_inputs ["protocol", "inputs"] (sp_with_inputs K A) := by
  have G_Rulebook___init__ := ok_Rulebook___init__ (P := P) (w := w) (base := base) T
  refine T.F_with_inputs.okX sc_with_inputs len_with_inputs (fun cdv Ar outer s H vs Q E hr h => ?_)
  have hu := hu_of hr
  obtain ⟨b, li, ra, D, xi, I, rfl, B, hli, ti, Z, q1, q2⟩ := h
  obtain ⟨dx, h0⟩ := B.ob
  obtain ⟨xr, hr', tr⟩ := B.ru
  refine ⟨_, (pss_one (ps_ret (pe_make T.K_Rulebook G_Rulebook___init__ hr (by rfl) T.G_Rulebook T.B_Rulebook___init__ .nil (passes_call (takes_of rfl rfl rfl rfl) fun _ _ _ _ h => h) (pa_cons (pe_fld (pv 0) (by rfl)) (pa_cons (pv 1) (pa_cons (pe_fld (pv 0) (by rfl)) (pa_cons (pe_fld (pv 0) (by rfl)) (pa_cons (pe_fld (pv 0) (by rfl)) pa_nil)))))))), ?_⟩
  refine ⟨_, rfl, b, A.c_Rulebook, dx, _, _, rfl, h0, T.C_Rulebook, T.A_Rulebook_states, rfl, _, rfl, _, rfl, b, A.c_Rulebook, dx, _, _, rfl, h0, T.C_Rulebook, T.A_Rulebook_leaders, rfl, _, rfl, b, A.c_Rulebook, dx, _, _, rfl, h0, T.C_Rulebook, T.A_Rulebook_rules, rfl, _, rfl, b, A.c_Rulebook, dx, _, _, rfl, h0, T.C_Rulebook, T.A_Rulebook_outputs, rfl, ?_⟩
  intro x dy nx nd nex
  have s6 := Vf.Same.new (o := .own x) (Same.refl H) nd
  have nx6 : (upd H dy (.own x)) x = none := by rw [upd_ne (Ne.symm nex)]; exact nx
  have s7 := Vf.Same.new (o := .ins A.c_Rulebook dy []) s6 nx6
  refine ⟨x, dy, ra.t1, li, ra.t3, ra.t4, ra.t5, { D with ins := I }, xi, xr, rfl, upd_same, .inr ⟨s7 _ _ B.st, s7 _ _ B.ou⟩, s7 _ _ hli, ti.same s7, .inr (s7 _ _ B.ld), .inr (s7 _ _ hr'), tr.same s7, Z, fun vv a H' B' k => ⟨rfl, ?_⟩, fun nv H' s => ?_⟩
  · exact q1 vv x a H' B' (fun c o e => k c o (fun m => by
      rw [List.mem_singleton] at m
      rw [m, nx] at e
      cases e) (s7 c o e)) nx
  · exact q2 nv H' (s7.trans s)
end

def sp__law_told_inputs (K : PySem.W.Frag) (A : Ad) : Sp := fun vs H Q _ => ∃ (b li : Addr) (ra : Vf.RA) (D : Vf.DD) (xi : List V) (I : List (Str × Str)), vs = [.ref b, .ref li] ∧ Vf.BookP A.c_Rulebook H b ra D ∧ H li = some (.lst xi) ∧ Vf.Tups Vf.enc2 H xi I ∧ Vf.Short { D with ins := I } ∧
  (Vf.Valid { D with ins := I } → ∀ (t : Addr) (H' : Hp), Same H H' → Vf.PartsAt H' t { D with ins := I } → Q (.ref t) H') ∧
  (¬ Vf.Valid { D with ins := I } → ∀ (t : Addr) (H' : Hp), Same H H' → H' t = some (.tup [.str "invalid", .str ""]) → Q (.ref t) H')
theorem len__law_told_inputs {K : PySem.W.Frag} {A : Ad} (vs : List V) (H : Hp) (Q : VK) (E : XK) (h : sp__law_told_inputs K A vs H Q E) : vs.length = ["made", "inputs"].length := by
  obtain ⟨a, b, c, d, e, f, rfl, _⟩ := h
  rfl

section
variable {P : Program} {w : World} {K : PySem.W.Frag} {mg : Str → Option Value} {base : Heap}
set_option maxHeartbeats 4000000 in
theorem ok__law_told_inputs {A : Ad} (T : Txt P K mg A) : FnOk P w K mg base CX0 8 A.f__law_told_inputs A.d__law_told_inputs ["made", "inputs"] (sp__law_told_inputs K A) := by
  have G__law_parts_of := ok__law_parts_of (P := P) (w := w) (base := base) T
  have G_with_inputs := ok_with_inputs (P := P) (w := w) (base := base) T
  refine T.F__law_told_inputs.ok sc__law_told_inputs len__law_told_inputs (fun cdv Ar outer s H vs Q E hr h => ?_)
  have hu := hu_of hr
  obtain ⟨b, li, ra, D, xi, I, rfl, B, hli, ti, Z, q1, q2⟩ := h
  refine ⟨_, (pss_one (ps_try_only (c := .ref A.c_InvalidRulebook) (Wout := fun _ _ _ _ => False) rfl rfl ⟨rfl, by decide, .inl T.G_InvalidRulebook⟩ Vf.takesN (fun W pn xe tk _ => (pss_one (ps_ret (pe_call G__law_parts_of (hr.mono (by decide)) (by rfl) T.G__law_parts_of T.F__law_parts_of.kp T.B__law_parts_of .nil pass0 (pa_cons (pe_call G_with_inputs hr (by rfl) T.G_with_inputs T.F_with_inputs.kp T.B_with_inputs .nil (E := fun cls d H => ∀ σ, W cls d σ H) (passes_call tk fun _ _ σ _ h => h σ) (pa_cons (pv 0) (pa_cons (pv 1) pa_nil))) pa_nil))))) (fun a oe cls d pn hz hf => (pss_one (ps_ret (pe_tup (pa_cons pe_str (pa_cons pe_str pa_nil)))))))), ?_⟩
  refine ⟨_, rfl, _, rfl, b, li, ra, D, xi, I, rfl, B, hli, ti, Z, fun vv b' a' H1 B' s nb => ?_, fun nv H1 s => ?_⟩
  · exact ⟨b', a', _, rfl, B', fun t H' P s' => q1 vv t H' (s.trans s') P⟩
  · intro σ
    refine ⟨true, T.e_InvalidRulebook, fun _ a na => ?_, (fun h => by cases h)⟩
    refine ⟨(by show 2 ≤ sizeLine; decide), fun u nu => ?_⟩
    exact q2 nv u _ (Vf.Same.new s nu) upd_same
end

def sp_law (K : PySem.W.Frag) (_ : Ad) : Sp := Vf.spLaw K
theorem len_law {K : PySem.W.Frag} {A : Ad} (vs : List V) (H : Hp) (Q : VK) (E : XK) (h : sp_law K A vs H Q E) : vs.length = ["script"].length := by
  obtain ⟨a, ns, rfl, _⟩ := h
  rfl

section
variable {P : Program} {w : World} {K : PySem.W.Frag} {mg : Str → Option Value} {base : Heap}
set_option maxHeartbeats 4000000 in
theorem ok_law {A : Ad} (T : Txt P K mg A) : FnOk P w K mg base CX0 9 A.f_law A.d_law ["script"] (sp_law K A) := by
  have G__law_pool := ok__law_pool (P := P) (w := w) (base := base) T
  have G__law_parts := ok__law_parts (P := P) (w := w) (base := base) T
  have G__law_cell := ok__law_cell (P := P) (w := w) (base := base) T
  have G__law_made := ok__law_made (P := P) (w := w) (base := base) T
  have G__law_pick := ok__law_pick (P := P) (w := w) (base := base) T
  have G__law_told_fixed := ok__law_told_fixed (P := P) (w := w) (base := base) T
  have G_Rulebook_first_place := ok_Rulebook_first_place (P := P) (w := w) (base := base) T
  have G_fixed := ok_fixed (P := P) (w := w) (base := base) T
  have G__law_told_inputs := ok__law_told_inputs (P := P) (w := w) (base := base) T
  refine T.F_law.ok sc_law len_law (fun cdv Ar outer s H vs Q E hr h => ?_)
  have hu := hu_of hr
  obtain ⟨a, ns, rfl, hS, hn63, q⟩ := h
  refine ⟨_, (pss_cons (ps_set (i := 1) sc_law.nd rfl (Or.inr rfl) (pe_call G__law_pool (hr.mono (by decide)) (by rfl) T.G__law_pool T.F__law_pool.kp T.B__law_pool .nil pass0 (pa_cons (pv 0) pa_nil)))
      (pss_cons (ps_for PassesOwn.never rfl (pi_range1 rfl T.N_range (pa_cons pe_int pa_nil)) (pg_name (i := 2) sc_law.nd rfl (Or.inl rfl))
        (pss_cons (ps_set (i := 3) sc_law.nd rfl (Or.inr rfl) (pe_call G__law_parts (hr.mono (by decide)) (by rfl) T.G__law_parts T.F__law_parts.kp T.B__law_parts .nil pass0 (pa_cons (pe_call G__law_cell (hr.mono (by decide)) (by rfl) T.G__law_cell T.F__law_cell.kp T.B__law_cell .nil pass0 (pa_cons (pv 0) (pa_cons (pv 2) pa_nil))) (pa_cons pe_int pa_nil))))
      (pss_cons (ps_set (i := 4) sc_law.nd rfl (Or.inl rfl) (pe_call G__law_made (hr.mono (by decide)) (by rfl) T.G__law_made T.F__law_made.kp T.B__law_made .nil pass0 (pa_cons (pv 3) pa_nil)))
      (pss_cons (ps_set (i := 5) sc_law.nd rfl (Or.inl rfl) (pe_op op_sub (pe_call G__law_pick (hr.mono (by decide)) (by rfl) T.G__law_pick T.F__law_pick.kp T.B__law_pick .nil pass0 (pa_cons (pv 1) (pa_cons pe_int pa_nil))) pe_int))
      (pss_cons (ps_if (pt_cmpR (Vf.op_neP hr.units) (pe_call G__law_told_fixed hr (by rfl) T.G__law_told_fixed T.F__law_told_fixed.kp T.B__law_told_fixed .nil pass0 (pa_cons (pv 4) (pa_cons pe_str (pa_cons (pv 5) pa_nil)))) (pe_tup (pa_cons pe_str (pa_cons pe_str pa_nil))) (nomark _)) (pss_one (ps_ret pe_bl)) pss_nil)
      (pss_cons (ps_for PassesOwn.never rfl (pi_range1 rfl T.N_range (pa_cons (pe_callB call_len_seq (by rfl) T.N_len PySem.boot_len (pa_cons (pe_ix ix_tup (pv 3) pe_int (fun _ _ => rfl)) pa_nil)) pa_nil)) (pg_name (i := 6) sc_law.nd rfl (Or.inl rfl))
        (pss_cons (ps_set (i := 7) sc_law.nd rfl (Or.inl rfl) (pe_op op_cat (pe_slice sl_list (pe_ix ix_tup (pv 3) pe_int (fun _ _ => rfl)) po_none (po_some (pv 6))) (pe_slice sl_list (pe_ix ix_tup (pv 3) pe_int (fun _ _ => rfl)) (po_some (pe_op op_add (pv 6) pe_int)) po_none)))
      (pss_cons (ps_if (pt_cmpR op_lt (pv 5) pe_int (nomark _)) (pss_one (ps_set (i := 8) sc_law.nd rfl (Or.inl rfl) (pe_tup (pa_cons pe_str (pa_cons pe_str pa_nil))))) (pss_one (ps_if (pt_cmpR op_gt (pe_op op_add (pv 5) (pe_callB call_len_seq (by rfl) T.N_len PySem.boot_len (pa_cons (pe_ix ix_tup (pv 3) pe_int (fun _ _ => rfl)) pa_nil))) pe_int (nomark _)) (pss_one (ps_set (i := 8) sc_law.nd rfl (Or.inl rfl) (pe_tup (pa_cons pe_str (pa_cons pe_str pa_nil))))) (pss_cons (ps_set (i := 8) sc_law.nd rfl (Or.inl rfl) (pe_tup (pa_cons (pe_ix ix_tup (pv 3) pe_int (fun _ _ => rfl)) (pa_cons (pv 7) (pa_cons (pe_op op_cat (pe_ix ix_tup (pv 3) pe_int (fun _ _ => rfl)) (pe_op op_rep (pe_lst (pa_cons (pe_ix ix_tup (pe_ix ix_list (pe_ix ix_tup (pv 3) pe_int (fun _ _ => rfl)) (pv 6) (fun _ _ => rfl)) pe_int (fun _ _ => rfl)) pa_nil)) (pv 5))) (pa_cons (pe_ix ix_tup (pv 3) pe_int (fun _ _ => rfl)) (pa_cons (pe_ix ix_tup (pv 3) pe_int (fun _ _ => rfl)) pa_nil)))))))
      (pss_cons (ps_setLc (i := 9) (own := [("row", 12)]) (g := (gName 12)) (tt := tYes) rfl sc_law.nd rfl rfl (sw_true rfl rfl rfl (by decide +kernel)) (pi_list (pv 7)) (blkOk_by (N := ["script", "pool", "turn", "parts", "made", "count", "k", "rest", "due", "counts", "inputs", "bad", "row"]) (sc := defScope s_law) (by decide +kernel)) (fun _ _ _ _ _ => (pg_name (i := 12) sc_law.nd rfl (Or.inl rfl))) (fun _ _ _ _ _ => pts_nil) (fun _ _ _ _ _ => (pe_call G__law_pick (hr.mono (by decide)) (by rfl) T.G__law_pick T.F__law_pick.kp T.B__law_pick .nil pass0 (pa_cons (pv 1) (pa_cons pe_int pa_nil)))))
      (pss_one (ps_if (pt_cmpR (Vf.op_neIs hr.units) (pe_meth (pe_call G_fixed (hr.mono (by decide)) (by rfl) T.G_fixed T.F_fixed.kp T.B_fixed .nil passL (pa_cons (pv 4) (pa_cons (pe_ix ix_tup (pe_ix ix_list (pe_ix ix_tup (pv 3) pe_int (fun _ _ => rfl)) (pv 6) (fun _ _ => rfl)) pe_int (fun _ _ => rfl)) (pa_cons (pv 5) pa_nil)))) T.C_Rulebook T.M_Rulebook_first_place G_Rulebook_first_place (hr.mono (by decide)) T.B_Rulebook_first_place .nil passL (pa_cons (pv 9) pa_nil)) (pe_meth (pv 4) T.C_Rulebook T.M_Rulebook_first_place G_Rulebook_first_place (hr.mono (by decide)) T.B_Rulebook_first_place .nil passL (pa_cons (pe_op op_cat (pe_op op_cat (pe_slice sl_list (pv 9) po_none (po_some (pv 6))) (pe_lst (pa_cons (pv 5) pa_nil))) (pe_slice sl_list (pv 9) (po_some (pv 6)) po_none)) pa_nil)) (nomark _)) (pss_one (ps_ret pe_bl)) pss_nil)))))))
      (pss_one (ps_if (pt_cmpR (Vf.op_neP hr.units) (pe_call G__law_told_fixed hr (by rfl) T.G__law_told_fixed T.F__law_told_fixed.kp T.B__law_told_fixed .nil pass0 (pa_cons (pv 4) (pa_cons (pe_ix ix_tup (pe_ix ix_list (pe_ix ix_tup (pv 3) pe_int (fun _ _ => rfl)) (pv 6) (fun _ _ => rfl)) pe_int (fun _ _ => rfl)) (pa_cons (pv 5) pa_nil)))) (pv 8) (nomark _)) (pss_one (ps_ret pe_bl)) pss_nil)))))
      (pss_cons (ps_setLc (i := 10) (own := [("k", 6)]) (g := (gName 6)) (tt := tYes) rfl sc_law.nd rfl rfl (sw_true rfl rfl rfl (by decide +kernel)) (pi_range1 rfl T.N_range (pa_cons (pe_call G__law_pick (hr.mono (by decide)) (by rfl) T.G__law_pick T.F__law_pick.kp T.B__law_pick .nil pass0 (pa_cons (pv 1) (pa_cons pe_int pa_nil))) pa_nil)) (blkOk_by (N := ["script", "pool", "turn", "parts", "made", "count", "k", "rest", "due", "counts", "inputs", "bad", "row"]) (sc := defScope s_law) (by decide +kernel)) (fun _ _ _ _ _ => (pg_name (i := 6) sc_law.nd rfl (Or.inl rfl))) (fun _ _ _ _ _ => pts_nil) (fun _ _ _ _ _ => (pe_tup (pa_cons (pe_op op_add_str pe_str (pe_callTy call_str_int (by rfl) T.N_str (by decide +kernel) (pa_cons (pv 6) pa_nil))) (pa_cons (pe_ix (Vf.ix_listK (K := K) rfl) (pe_ix (Vf.ix_tupK (K := K) rfl) (pv 3) pe_int (fun _ _ => rfl)) (pe_call G__law_pick (hr.mono (by decide)) (by rfl) T.G__law_pick T.F__law_pick.kp T.B__law_pick .nil pass0 (pa_cons (pv 1) (pa_cons (pe_callB (Vf.call_len_seqK (K := K) rfl) (by rfl) T.N_len PySem.boot_len (pa_cons (pe_ix (Vf.ix_tupK (K := K) rfl) (pv 3) pe_int (fun _ _ => rfl)) pa_nil)) pa_nil))) (fun _ _ => rfl)) pa_nil)))))
      (pss_cons (ps_set (i := 8) sc_law.nd rfl (Or.inl rfl) (pe_tup (pa_cons (pe_ix ix_tup (pv 3) pe_int (fun _ _ => rfl)) (pa_cons (pv 10) (pa_cons (pe_ix ix_tup (pv 3) pe_int (fun _ _ => rfl)) (pa_cons (pe_ix ix_tup (pv 3) pe_int (fun _ _ => rfl)) (pa_cons (pe_ix ix_tup (pv 3) pe_int (fun _ _ => rfl)) pa_nil)))))))
      (pss_cons (ps_if (pt_cmpR op_gt (pe_callB call_len_seq (by rfl) T.N_len PySem.boot_len (pa_cons (pv 10) pa_nil)) pe_int (nomark _)) (pss_one (ps_set (i := 8) sc_law.nd rfl (Or.inl rfl) (pe_tup (pa_cons pe_str (pa_cons pe_str pa_nil))))) pss_nil)
      (pss_cons (ps_if (pt_cmpR (Vf.op_neP hr.units) (pe_call G__law_told_inputs hr (by rfl) T.G__law_told_inputs T.F__law_told_inputs.kp T.B__law_told_inputs .nil pass0 (pa_cons (pv 4) (pa_cons (pe_callTy call_list_of (by rfl) T.N_list (by decide +kernel) (pa_cons (pv 10) pa_nil)) pa_nil))) (pv 8) (nomark _)) (pss_one (ps_ret pe_bl)) pss_nil)
      (pss_one (ps_for PassesOwn.never rfl (pi_list (pe_lst (pa_cons (pe_lst (pa_cons (pe_tup (pa_cons pe_str (pa_cons pe_str pa_nil))) pa_nil)) (pa_cons (pe_lst (pa_cons (pe_tup (pa_cons pe_str (pa_cons (pe_ix ix_list (pe_ix ix_tup (pv 3) pe_int (fun _ _ => rfl)) pe_int (fun _ _ => rfl)) pa_nil))) pa_nil)) (pa_cons (pe_lst (pa_cons (pe_tup (pa_cons pe_str (pa_cons (pe_ix ix_list (pe_ix ix_tup (pv 3) pe_int (fun _ _ => rfl)) pe_int (fun _ _ => rfl)) pa_nil))) (pa_cons (pe_tup (pa_cons pe_str (pa_cons (pe_ix ix_list (pe_ix ix_tup (pv 3) pe_int (fun _ _ => rfl)) (pe_un un_neg pe_int) (fun _ _ => rfl)) pa_nil))) pa_nil))) pa_nil))))) (pg_name (i := 11) sc_law.nd rfl (Or.inl rfl))
        (pss_one (ps_if (pt_cmpR (Vf.op_neP hr.units) (pe_call G__law_told_inputs hr (by rfl) T.G__law_told_inputs T.F__law_told_inputs.kp T.B__law_told_inputs .nil pass0 (pa_cons (pv 4) (pa_cons (pv 11) pa_nil))) (pe_tup (pa_cons pe_str (pa_cons pe_str pa_nil))) (nomark _)) (pss_one (ps_ret pe_bl)) pss_nil))))))))))))))
      (pss_one (ps_ret pe_bl)))), ?_⟩
  refine ⟨_, rfl, a, ns, rfl, hS, fun pl H1 npl s1 ⟨dr, ds, P1⟩ => ?_⟩
  refine ⟨4, rfl, by decide, by decide, for_range (lo := 0) (n := ((4 : Int)).toNat) (fun i σ H' => (∃ v2 v3 v4 v5 v6 v7 v8 v9 v10 v11 : Option V, σ = [some (.ref a), some (.ref pl), v2, v3, v4, v5, v6, v7, v8, v9, v10, v11, none]) ∧ Same H H' ∧ ∃ n : Int, Vf.PoolX H' pl dr ds n ∧ 0 ≤ n ∧ n ≤ 100 * i) ⟨⟨none, none, none, none, none, none, none, none, none, none, rfl⟩, s1, 0, P1, by omega, by omega⟩ ?_ ?_⟩
  rotate_left
  · rintro σ H' ⟨⟨v2, v3, v4, v5, v6, v7, v8, v9, v10, v11, rfl⟩, s0, _⟩
    exact q H'
  rintro i σ H' hi ⟨⟨v2, v3, v4, v5, v6, v7, v8, v9, v10, v11, rfl⟩, s0, n, Pn, n0, nle⟩
  have hi4 : i < 4 := hi
  rw [show (0 : Int) + (i : Int) = (i : Int) from Int.zero_add _]
  refine ⟨_, rfl, _, rfl, a, ns, _, rfl, s0.seq hS, by omega, _, 6, rfl, by decide, by decide, fun p H2 D P2 vN ⟨sm, noZ⟩ s2 _ => ?_⟩
  have hru : D.ru.length ≤ 100000 := by have := sm.ru36; omega
  have Z := vN.short (D := D) (by omega)
  refine ⟨_, rfl, p, D, rfl, P2, vN.valid, Z, fun b ra H3 B s3 _ => ?_⟩
  -- what stays: all but the pool
  have Pn3 := Pn.same (s2.trans s3)
  have G_parts := Vf.PoolAt.parts ⟨dr, ds, Pn3⟩ (P2.same s3)
  have G_book := Vf.PoolAt.bookP ⟨dr, ds, Pn3⟩ B
  have G_base : Same H (Vf.Er pl H3) := fun x o h => by
    have ne : x ≠ pl := Vf.neq_none h npl
    exact (if_neg ne).trans (((s0.trans s2).trans s3) x o h)
  have e3 : Same (Vf.Er pl H3) H3 := fun x o h => (Vf.er_some h).2
  obtain ⟨ls, li, ll, lr, lo, xi, xr, g0, gls, gli, gti, gll, glr, gtr, glo⟩ := id G_parts
  have st0 := sm.st0
  have st6 := sm.st6
  have in3 := sm.in3
  have ld2 := sm.ld2
  have nG : Vf.Er pl H3 pl = none := Vf.er_self
  generalize Vf.Er pl H3 = G at G_parts G_book G_base e3 g0 gls gli gti gll glr gtr glo nG
  -- the count
  refine ⟨_, rfl, pl, dr, ds, n, 15, rfl, Pn3, n0, by omega, by decide, by decide, fun r H4 r0 r1 P4 k4 => ⟨_, _, rfl, rfl, ?_⟩⟩
  have s4 := Vf.same_keep e3 nG k4
  dsimp only [gName]
  have zz : ("zz9" : Str) ∉ D.ins.map (·.1) := fun m => by
    obtain ⟨p, hp, e⟩ := List.mem_map.mp m
    exact noZ p hp e
  refine ⟨_, rfl, _, rfl, b, ra, D, "zz9", r - 2, rfl, G_book.same s4, vN, hru, (by decide +kernel), by omega, by omega, fun _ t5 H5 s5 h5 => ?_, fun m => absurd m zz, fun m => absurd m zz, fun m => absurd m zz⟩
  refine ⟨(by show 2 ≤ sizeLine; decide), fun u5 nu5 => ?_⟩
  have s45 := (s4.trans s5).trans (Vf.Same.new (o := .tup [.str "unknown", .str "zz9"]) (Same.refl H5) nu5)
  have P5 := (P4.same s5).same (Vf.Same.new (o := .tup [.str "unknown", .str "zz9"]) (Same.refl H5) nu5)
  have h5' := (Vf.Same.new (o := .tup [.str "unknown", .str "zz9"]) (Same.refl H5) nu5) _ _ h5
  refine Vf.ne_two h5' upd_same ⟨_, rfl, Vf.ite_b (fun c => absurd c (by decide)) fun _ => ?_⟩
  generalize upd H5 u5 (.tup [.str "unknown", .str "zz9"]) = H6 at s45 P5 ⊢
  clear h5' nu5 h5 s5
  have P6 := P5
  -- the inputs, one after the other
  dsimp only
  refine ⟨_, rfl, p, _, 1, .ref li, rfl, rfl, SqT.of (s45 _ _ g0), atI_nat (j := 1) rfl, li, _, rfl, .inl (SqL.of (s45 _ _ gli)), ?_⟩
  rw [gti.1]
  refine ⟨(D.ins.length : Int), rfl, by omega, by omega, for_range (lo := 0) (n := ((D.ins.length : Int)).toNat) (fun k σ H' => (∃ w6 w7 w8 w9 : Option V, σ = [some (.ref a), some (.ref pl), some (.int i), some (.ref p), some (.ref b), some (.int (r - 2)), w6, w7, w8, w9, v10, v11, none]) ∧ Same G H' ∧ ∃ n' : Int, Vf.PoolX H' pl dr ds n' ∧ 0 ≤ n' ∧ n' ≤ n + 1 + 3 * k) ⟨⟨_, _, _, _, rfl⟩, s45, n + 1, P6, by omega, by omega⟩ ?_ ?_⟩
  rotate_left
  · rintro σ H7 ⟨⟨w6, w7, w8, w9, rfl⟩, s7, n7, P7, n70, n7l⟩
    dsimp only
    refine ⟨_, rfl, pl, dr, ds, n7, 10, rfl, P7, n70, by omega, by decide, by decide, fun m H8 m0 m1 P8 k8 => ?_⟩
    have s8 := Vf.same_keep s7 nG k8
    refine ⟨m, rfl, by omega, by omega, fun C nC => ?_⟩
    have nCpl : C ≠ pl := fun e => by
      rw [e, P8.1] at nC
      cases nC
    have nCdr : C ≠ dr := fun e => by
      rw [e, P8.2.1] at nC
      cases nC
    refine Vf.lc_one (walk_range (lo := 0) (n := m.toNat)) (fun j H' => ∃ (acc : List V) (l : List (Str × Str)), H' C = some (.lst acc) ∧ Vf.Tups Vf.enc2 H' acc l ∧ l.length = j ∧ (∀ i p, l[i]? = some p → p.1 = Vf.iN i ∧ p.2 ∈ D.st) ∧ Same G H' ∧ Vf.PoolX H' pl dr ds (n7 + 1 + j)) ⟨[], [], upd_same, Vf.Tups.nil, rfl, fun i p h => by simp at h, s8.trans (Vf.Same.new (Same.refl H8) nC), by rw [Int.natCast_zero, Int.add_zero]; exact P8.same (Vf.Same.new (Same.refl H8) nC)⟩ (fun _ _ _ _ => trivial) ?_ ?_
    · rintro j x Ha Hb hj ⟨acc, l, hac, tac, ll_, bac, sac, Pac⟩ ⟨rfl, rfl⟩
      have hj9 : j < 9 := by omega
      have lacc : acc.length = j := by rw [tac.1, ll_]
      rw [show (fun (i : Nat) => V.int (0 + (i : Int))) j = V.int (j : Int) from congrArg V.int (Int.zero_add _)]
      have lgj : ((j : Nat) : Int).natAbs.log2 < 1920 := Vf.small_log (by omega) (by omega)
      refine ⟨rfl, Vf.tyes ⟨_, rfl, _, rfl, lgj, _, _, rfl, rfl, ?_, ?_⟩⟩
      · exact Nat.le_trans (Nat.add_le_add (show ("i" : Str).length ≤ 1 by decide +kernel) (Vf.num_len lgj)) (by decide)
      refine ⟨_, rfl, p, _, 0, .ref ls, rfl, rfl, SqT.of (sac _ _ g0), atI_nat (j := 0) rfl, _, rfl, _, rfl, p, _, 0, .ref ls, rfl, rfl, SqT.of (sac _ _ g0), atI_nat (j := 0) rfl, ls, _, rfl, .inl (SqL.of (sac _ _ gls)), pl, dr, ds, n7 + 1 + j, ((D.st.map V.str).length : Int), rfl, Pac, by omega, by omega, by rw [List.length_map]; omega, by rw [List.length_map]; omega, fun r' Hc r0' r1' Pc kc => ?_⟩
      rw [List.length_map] at r1'
      have sc := Vf.same_keep sac nG kc
      refine ⟨ls, _, _, .str (D.st.getD r'.toNat Str.empty), rfl, rfl, SqL.of (sc _ _ gls), Vf.map_at (f := V.str) (l := D.st) (i := r') (d := Str.empty) r0' r1', (by show 2 ≤ sizeLine; decide), fun t nt => ?_⟩
      have st1 := Vf.Same.new (o := .tup (Vf.enc2 (Vf.iN j, D.st.getD r'.toNat Str.empty))) (Same.refl Hc) nt
      have hcC := kc C _ (by simpa using nCpl) hac
      have tC : Vf.Tups Vf.enc2 Hc acc l := tac.mono fun u ys hu => kc u _ (fun e => by
        rw [List.mem_singleton] at e
        rw [e, Pac.1] at hu
        cases hu) hu
      have P' := Pc.same st1
      refine ⟨acc, st1 _ _ hcC, by rw [lacc]; exact Nat.lt_trans hj9 (by decide), acc ++ [.ref t], l ++ [(Vf.iN j, D.st.getD r'.toNat Str.empty)], upd_same, ?_, by rw [List.length_append, ll_]; rfl, fun i' p' hp => ?_, Vf.Same.chg (sc.trans st1) (s8.free nC), ?_⟩
      · exact (((tC.same st1).snoc (t := t) (a := (Vf.iN j, D.st.getD r'.toNat Str.empty)) upd_same)).mono (fun u ys hu => by
          rw [upd_ne (fun e => by rw [e, st1 _ _ hcC] at hu; cases hu)]
          exact hu)
      · rw [List.getElem?_append] at hp
        by_cases il : i' < l.length
        · rw [if_pos il] at hp
          exact bac i' p' hp
        · rw [if_neg il] at hp
          have e0 : i' - l.length = 0 := by
            have := (List.getElem?_eq_some_iff.mp hp).1
            simp at this
            omega
          rw [e0] at hp
          have ep : (Vf.iN j, D.st.getD r'.toNat Str.empty) = p' := Option.some.inj hp
          rw [← ep, show i' = j by omega]
          refine ⟨rfl, ?_⟩
          show D.st.getD r'.toNat Str.empty ∈ D.st
          rw [List.getD_eq_getElem?_getD, List.getElem?_eq_getElem (show r'.toNat < D.st.length by omega)]
          exact List.getElem_mem _
      · rw [show n7 + 1 + ((j + 1 : Nat) : Int) = n7 + 1 + j + 1 by omega]
        exact ⟨by rw [upd_ne (Ne.symm nCpl)]; exact P'.1, by rw [upd_ne (Ne.symm nCdr)]; exact P'.2.1, P'.2.2⟩
    rintro H9 ⟨acc, l, hac, tac, ll_, bac, s9, P9⟩
    dsimp only [gName]
    have lacc : acc.length = m.toNat := by rw [tac.1, ll_]
    refine ⟨_, rfl, p, _, 0, .ref ls, rfl, rfl, SqT.of (s9 _ _ g0), atI_nat (j := 0) rfl, _, rfl, _, rfl, p, _, 2, .ref ll, rfl, rfl, SqT.of (s9 _ _ g0), atI_nat (j := 2) rfl, _, rfl, p, _, 3, .ref lr, rfl, rfl, SqT.of (s9 _ _ g0), atI_nat (j := 3) rfl, _, rfl, p, _, 4, .ref lo, rfl, rfl, SqT.of (s9 _ _ g0), atI_nat (j := 4) rfl, (by show 5 ≤ sizeLine; decide), fun d nd => ?_⟩
    have td := Vf.Same.new (o := .tup [.ref ls, .ref C, .ref ll, .ref lr, .ref lo]) (Same.refl H9) nd
    have hd := upd_same (H := H9) (a := d) (o := .tup [.ref ls, .ref C, .ref ll, .ref lr, .ref lo])
    have hac := td _ _ hac
    have tac := tac.same td
    have P9 := P9.same td
    have s9 := s9.trans td
    generalize upd H9 d (.tup [.ref ls, .ref C, .ref ll, .ref lr, .ref lo]) = Hd at td hd hac tac P9 s9 ⊢
    have due : Vf.PartsAt Hd d { D with ins := l } := ⟨ls, C, ll, lr, lo, acc, xr, hd, s9 _ _ gls, hac, tac, s9 _ _ gll, s9 _ _ glr, gtr.same s9, s9 _ _ glo⟩
    dsimp only [gName]
    have nl9 : ∀ s ∈ D.st, s.length ≤ 1000000 := Z.st
    have hsh : ∀ p ∈ l, p.1.length ≤ 1000000 ∧ p.2.length ≤ 1000000 := fun p hp => by
      obtain ⟨j, hj⟩ := List.mem_iff_getElem?.mp hp
      have jl := (List.getElem?_eq_some_iff.mp hj).1
      obtain ⟨e1, e2⟩ := bac j p hj
      rw [e1]
      exact ⟨Nat.le_trans (Vf.iN_len (by omega)) (by decide), nl9 _ e2⟩
    refine Vf.seq_join (fun σ' H' => ∃ d', σ' = [some (.ref a), some (.ref pl), some (.int i), some (.ref p), some (.ref b), some (.int (r - 2)), w6, w7, some (.ref d'), w9, some (.ref C), v11, none] ∧ Same Hd H' ∧ ((acc.length ≤ 8 ∧ Vf.PartsAt H' d' { D with ins := l }) ∨ (8 < acc.length ∧ H' d' = some (.tup [.str "invalid", .str ""])))) (fun nx hn => ?_) ?_
    · refine ⟨_, rfl, C, _, rfl, .inl (SqL.of hac), _, _, rfl, rfl, _, rfl, ?_⟩
      by_cases big : 8 < acc.length
      · refine Vf.ite_d (fun _ => ?_) (fun h => absurd (show (8 : Int) < (acc.length : Int) by omega) h)
        exact ⟨(by show 2 ≤ sizeLine; decide), fun d' nd' => hn _ _ ⟨d', rfl, Vf.Same.new (Same.refl Hd) nd', .inr ⟨big, upd_same⟩⟩⟩
      · exact Vf.ite_d (fun h => absurd h (by omega)) (fun _ => hn _ _ ⟨d, rfl, Same.refl Hd, .inl ⟨by omega, due⟩⟩)
    rintro σ' Hx ⟨d', rfl, sx, hx⟩
    have sxG := s9.trans sx
    have Px := P9.same sx
    refine Vf.seq_join (fun σ' H' => σ' = [some (.ref a), some (.ref pl), some (.int i), some (.ref p), some (.ref b), some (.int (r - 2)), w6, w7, some (.ref d'), w9, some (.ref C), v11, none] ∧ Same G H' ∧ Vf.PoolX H' pl dr ds (n7 + 1 + m.toNat)) (fun nx hn => ?_) ?_
    · refine ⟨_, rfl, _, rfl, C, _, rfl, .inl (SqL.of (sx _ _ hac)), fun l1 nl1 => ?_⟩
      have sl := Vf.Same.new (o := .lst acc) (Same.refl Hx) nl1
      refine ⟨b, l1, ra, D, acc, l, rfl, (G_book.same sxG).same sl, upd_same, (tac.same sx).same sl, Vf.in_short Z hsh, fun v8 t Ht st pt => ?_, fun nv t Ht st ht => ?_⟩
      · rcases hx with ⟨h8, pd⟩ | ⟨h8, _⟩
        · exact ⟨_, rfl, Vf.ne_parts pt ((pd.same sl).same st) ⟨_, rfl, Vf.ite_b (fun c => absurd c (by decide)) fun _ => hn _ _ ⟨rfl, (sxG.trans sl).trans st, (Px.same sl).same st⟩⟩⟩
        · exact absurd v8 (Vf.in_bad8 (by omega))
      · rcases hx with ⟨h8, pd⟩ | ⟨h8, hd'⟩
        · exact absurd (Vf.in_valid vN bac (by omega)).valid nv
        · exact ⟨_, rfl, Vf.ne_two ht (st _ _ (sl _ _ hd')) ⟨_, rfl, Vf.ite_b (fun c => absurd c (by decide)) fun _ => hn _ _ ⟨rfl, (sxG.trans sl).trans st, (Px.same sl).same st⟩⟩⟩
    rintro σ' Hy ⟨rfl, sy, Py⟩
    clear hx Px sxG sx due hd td hac tac P9 s9 bac hsh
    have hs0 : D.st[0]? = some D.st[0] := List.getElem?_eq_getElem (by omega)
    have ms0 : D.st[0] ∈ D.st := List.getElem_mem _
    generalize D.st[0] = z0 at hs0 ms0
    have at0 : atI (D.st.map V.str) 0 = some (.str z0) := atI_nat (j := 0) (by rw [List.getElem?_map, hs0]; rfl)
    obtain ⟨zL, mL, atL⟩ := Vf.last_at st0
    refine ⟨(by show 2 ≤ sizeLine; decide), fun a1 na1 => ⟨(by show 1 ≤ sizeLine; decide), fun b1 nb1 => ?_⟩⟩
    have u1 := Vf.Same.new (o := .lst [.ref a1]) (Vf.Same.new (o := .tup [.str "i0", .str "zz9"]) (Same.refl Hy) na1) nb1
    have ha1 := (Vf.Same.new (o := .lst [.ref a1]) (Same.refl _) nb1) _ _ (upd_same (H := Hy) (a := a1) (o := .tup [.str "i0", .str "zz9"]))
    have hb1 := upd_same (H := upd Hy a1 (.tup [.str "i0", .str "zz9"])) (a := b1) (o := .lst [.ref a1])
    have bad1 := Vf.bad_one (D := D) hb1 ha1 (by decide +kernel) (by decide +kernel) (.inr (Vf.st_zz sm))
    generalize upd (upd Hy a1 (.tup [.str "i0", .str "zz9"])) b1 (.lst [.ref a1]) = I1 at u1 bad1 ⊢
    have w1 := sy.trans u1
    refine ⟨_, rfl, p, _, 0, .ref ls, rfl, rfl, SqT.of (w1 _ _ g0), atI_nat (j := 0) rfl, ls, _, 0, .str z0, rfl, rfl, SqL.of (w1 _ _ gls), at0, (by show 2 ≤ sizeLine; decide), fun a2 na2 => ⟨(by show 1 ≤ sizeLine; decide), fun b2 nb2 => ?_⟩⟩
    have u2 := Vf.Same.new (o := .lst [.ref a2]) (Vf.Same.new (o := .tup [.str "I", .str z0]) (Same.refl I1) na2) nb2
    have ha2 := (Vf.Same.new (o := .lst [.ref a2]) (Same.refl _) nb2) _ _ (upd_same (H := I1) (a := a2) (o := .tup [.str "I", .str z0]))
    have hb2 := upd_same (H := upd I1 a2 (.tup [.str "I", .str z0])) (a := b2) (o := .lst [.ref a2])
    have bad2 := Vf.bad_one (D := D) hb2 ha2 (by decide +kernel) (nl9 _ ms0) (.inl (by decide +kernel))
    have bad1 := bad1.same u2
    generalize upd (upd I1 a2 (.tup [.str "I", .str z0])) b2 (.lst [.ref a2]) = I2 at u2 bad1 bad2 ⊢
    have w2 := w1.trans u2
    refine ⟨_, rfl, p, _, 0, .ref ls, rfl, rfl, SqT.of (w2 _ _ g0), atI_nat (j := 0) rfl, ls, _, 0, .str z0, rfl, rfl, SqL.of (w2 _ _ gls), at0, (by show 2 ≤ sizeLine; decide), fun a3 na3 => ?_⟩
    have u3 := Vf.Same.new (o := .tup [.str "i0", .str z0]) (Same.refl I2) na3
    have ha3 := upd_same (H := I2) (a := a3) (o := .tup [.str "i0", .str z0])
    have bad1 := bad1.same u3
    have bad2 := bad2.same u3
    generalize upd I2 a3 (.tup [.str "i0", .str z0]) = I3 at u3 ha3 bad1 bad2 ⊢
    have w3 := w2.trans u3
    refine ⟨_, rfl, p, _, 0, .ref ls, rfl, rfl, SqT.of (w3 _ _ g0), atI_nat (j := 0) rfl, 1, rfl, ls, _, -1, .str zL, rfl, rfl, SqL.of (w3 _ _ gls), atL, (by show 2 ≤ sizeLine; decide), fun a4 na4 => ⟨(by show 2 ≤ sizeLine; decide), fun b3 nb3 => ⟨(by show 3 ≤ sizeLine; decide), fun c3 nc3 => ?_⟩⟩⟩
    have f4 := Vf.Same.new (o := .tup [.str "i0", .str zL]) (Same.refl I3) na4
    have ha4 := upd_same (H := I3) (a := a4) (o := .tup [.str "i0", .str zL])
    have f5 := Vf.Same.new (o := .lst [.ref a3, .ref a4]) (Same.refl _) nb3
    have hb3 := upd_same (H := upd I3 a4 (.tup [.str "i0", .str zL])) (a := b3) (o := .lst [.ref a3, .ref a4])
    have bad3 := Vf.bad_two (D := D) hb3 (f5 _ _ (f4 _ _ ha3)) (f5 _ _ ha4) (by decide +kernel) (nl9 _ ms0) (nl9 _ mL)
    have f6 := Vf.Same.new (o := .lst [.ref b1, .ref b2, .ref b3]) (Same.refl _) nc3
    have hc3 := upd_same (H := upd (upd I3 a4 (.tup [.str "i0", .str zL])) b3 (.lst [.ref a3, .ref a4])) (a := c3) (o := .lst [.ref b1, .ref b2, .ref b3])
    have u4 := (f4.trans f5).trans f6
    have bad1 := bad1.same u4
    have bad2 := bad2.same u4
    have bad3 := bad3.same f6
    generalize upd (upd (upd I3 a4 (.tup [.str "i0", .str zL])) b3 (.lst [.ref a3, .ref a4])) c3 (.lst [.ref b1, .ref b2, .ref b3]) = I4 at u4 bad1 bad2 bad3 hc3 ⊢
    have w4 := w3.trans u4
    have P4' := Py.same (((u1.trans u2).trans u3).trans u4)
    have bads : ∀ x ∈ [V.ref b1, V.ref b2, V.ref b3], Vf.BadIn I4 D x := fun x hx => by
      rcases List.mem_cons.mp hx with e | hx
      · rw [e]; exact bad1
      rcases List.mem_cons.mp hx with e | hx
      · rw [e]; exact bad2
      · rw [List.mem_singleton] at hx
        rw [hx]; exact bad3
    refine ⟨c3, rfl, ⟨_, SqL.of hc3⟩, for_list (K := K) (a := c3) (xs := [V.ref b1, V.ref b2, V.ref b3]) (fun j σ H' => (∃ x11 : Option V, σ = [some (.ref a), some (.ref pl), some (.int i), some (.ref p), some (.ref b), some (.int (r - 2)), w6, w7, some (.ref d'), w9, some (.ref C), x11, none]) ∧ Same I4 H') ⟨⟨_, rfl⟩, Same.refl I4⟩ (fun j σ H' _ ⟨_, s⟩ => SqL.of (s _ _ hc3)) ?_ ?_⟩
    · rintro j x σ H' hx ⟨⟨x11, rfl⟩, s⟩
      obtain ⟨lj, xj, Ij, rfl, hj, tj, lnj, nvj⟩ := (bads x (List.mem_of_getElem? hx)).same s
      dsimp only [gName]
      refine ⟨_, rfl, _, rfl, b, lj, ra, D, xj, Ij, rfl, G_book.same (w4.trans s), hj, tj, Vf.in_short Z lnj, fun v => absurd v nvj, fun _ t Ht st ht => ?_⟩
      refine ⟨(by show 2 ≤ sizeLine; decide), fun z nz => ?_⟩
      have sz := Vf.Same.new (o := .tup [.str "invalid", .str ""]) (Same.refl Ht) nz
      exact Vf.ne_two (sz _ _ ht) upd_same ⟨_, rfl, Vf.ite_b (fun c => absurd c (by decide)) fun _ => ⟨⟨_, rfl⟩, (s.trans st).trans sz⟩⟩
    · rintro σ H' ⟨⟨x11, rfl⟩, s⟩
      exact ⟨⟨_, _, _, _, _, _, _, _, _, _, rfl⟩, G_base.trans (w4.trans s), _, P4'.same s, by omega, by omega⟩
  rintro k σ H7 hk ⟨⟨w6, w7, w8, w9, rfl⟩, s7, n7, P7, n70, n7l⟩
  have hk3 : k < D.ins.length := by omega
  have hk : D.ins[k]? = some D.ins[k] := List.getElem?_eq_getElem hk3
  generalize D.ins[k] = pr at hk
  obtain ⟨tk, hxk, htk⟩ := gti.2 k pr hk
  have xl : k < xi.length := by rw [gti.1]; exact hk3
  rw [show (0 : Int) + (k : Int) = (k : Int) from Int.zero_add _]
  dsimp only [gName]
  refine ⟨_, rfl, p, _, 1, .ref li, rfl, rfl, SqT.of (s7 _ _ g0), atI_nat (j := 1) rfl, ?_⟩
  refine ⟨_, rfl, (k : Int), rfl, li, _, rfl, SqL.of (s7 _ _ gli), fun x1 nx1 => ?_⟩
  rw [Vf.cut_hi]
  have t1 := Vf.Same.new (o := .lst (xi.take k)) (Same.refl H7) nx1
  have hx1 := upd_same (H := H7) (a := x1) (o := .lst (xi.take k))
  generalize upd H7 x1 (.lst (xi.take k)) = H8 at t1 hx1 ⊢
  have s8 := s7.trans t1
  refine ⟨_, rfl, p, _, 1, .ref li, rfl, rfl, SqT.of (s8 _ _ g0), atI_nat (j := 1) rfl, ?_⟩
  refine ⟨_, rfl, _, _, rfl, rfl, (k : Int) + 1, rfl, li, _, rfl, SqL.of (s8 _ _ gli), fun x2 nx2 => ?_⟩
  rw [show (k : Int) + 1 = ((k + 1 : Nat) : Int) by omega, Vf.cut_lo]
  have t2 := Vf.Same.new (o := .lst (xi.drop (k + 1))) (Same.refl H8) nx2
  refine ⟨x1, x2, _, _, rfl, rfl, t2 _ _ hx1, upd_same, Nat.le_trans (show (xi.take k).length + (xi.drop (k + 1)).length ≤ 3 by rw [List.length_take, List.length_drop, gti.1]; omega) (by decide), fun rs nrs => ?_⟩
  have t3 := Vf.Same.new (o := .lst (xi.take k ++ xi.drop (k + 1))) t2 nrs
  have hrs := upd_same (H := upd H8 x2 (.lst (xi.drop (k + 1)))) (a := rs) (o := .lst (xi.take k ++ xi.drop (k + 1)))
  generalize upd (upd H8 x2 (.lst (xi.drop (k + 1)))) rs (.lst (xi.take k ++ xi.drop (k + 1))) = H9 at t3 hrs ⊢
  have s9 := s8.trans t3
  have P9 := (P7.same t1).same t3
  have nrspl : rs ≠ pl := fun e => by
    have h := t2 _ _ (t1 _ _ P7.1)
    rw [← e, nrs] at h
    cases h
  have ft : Vf.Tups Vf.enc2 G (xi.take k ++ xi.drop (k + 1)) (D.ins.filter fun q => decide (q.1 ≠ pr.1)) := by
    rw [Vf.filter_cut vN.ind hk]
    exact (gti.takeT k).join (gti.dropT (k + 1))
  have memk : pr.1 ∈ D.ins.map (·.1) := List.mem_map.mpr ⟨pr, List.mem_of_getElem? hk, rfl⟩
  have lnk : pr.1.length ≤ 1000 := Nat.le_trans (Vf.name_len (vN.inm pr (List.mem_of_getElem? hk)).1) (by decide)
  have atk : atI xi (k : Int) = some (.ref tk) := atI_nat hxk
  clear t1 t2 t3 s8 hx1 nx1 nx2 nrs P7 s7
  dsimp only [gName]
  by_cases neg : r - 2 < 0
  · refine ⟨_, rfl, _, _, rfl, rfl, _, rfl, Vf.ite_d (fun _ => ?_) (fun h => absurd neg h)⟩
    refine ⟨(by show 2 ≤ sizeLine; decide), fun d nd => ?_⟩
    have td := Vf.Same.new (o := .tup [.str "wrong", .str ""]) (Same.refl H9) nd
    have hd := upd_same (H := H9) (a := d) (o := .tup [.str "wrong", .str ""])
    generalize upd H9 d (.tup [.str "wrong", .str ""]) = Hd at td hd ⊢
    have sd := s9.trans td
    refine ⟨_, rfl, _, rfl, p, _, 1, .ref li, rfl, rfl, SqT.of (sd _ _ g0), atI_nat (j := 1) rfl, _, rfl, li, _, _, .ref tk, rfl, rfl, SqL.of (sd _ _ gli), atk, tk, _, 0, .str pr.1, rfl, rfl, SqT.of (sd _ _ htk), atI_nat (j := 0) rfl, _, rfl, b, ra, D, pr.1, r - 2, rfl, G_book.same sd, vN, hru, lnk, by omega, by omega, fun m => absurd memk m, fun _ _ t He se ht => ?_, fun _ h => absurd neg (by omega), fun _ h => absurd neg (by omega)⟩
    refine ⟨_, rfl, Vf.ne_two ht (se _ _ hd) ⟨_, rfl, Vf.ite_b (fun c => absurd c (by decide)) fun _ => ?_⟩⟩
    exact ⟨⟨_, _, _, _, rfl⟩, sd.trans se, n7, (P9.same td).same se, n70, by omega⟩
  refine ⟨_, rfl, _, _, rfl, rfl, _, rfl, Vf.ite_d (fun h => absurd h neg) (fun _ => ?_)⟩
  refine ⟨_, rfl, _, rfl, p, _, 2, .ref ll, rfl, rfl, SqT.of (s9 _ _ g0), atI_nat (j := 2) rfl, ll, _, rfl, .inl (SqL.of (s9 _ _ gll)), _, _, rfl, rfl, _, _, rfl, rfl, _, rfl, ?_⟩
  rw [List.length_map]
  by_cases many : 10 < r - 2 + (D.ld.length : Int)
  · refine Vf.ite_d (fun _ => ?_) (fun h => absurd many h)
    refine ⟨(by show 2 ≤ sizeLine; decide), fun d nd => ?_⟩
    have td := Vf.Same.new (o := .tup [.str "invalid", .str ""]) (Same.refl H9) nd
    have hd := upd_same (H := H9) (a := d) (o := .tup [.str "invalid", .str ""])
    generalize upd H9 d (.tup [.str "invalid", .str ""]) = Hd at td hd ⊢
    have sd := s9.trans td
    refine ⟨_, rfl, _, rfl, p, _, 1, .ref li, rfl, rfl, SqT.of (sd _ _ g0), atI_nat (j := 1) rfl, _, rfl, li, _, _, .ref tk, rfl, rfl, SqL.of (sd _ _ gli), atk, tk, _, 0, .str pr.1, rfl, rfl, SqT.of (sd _ _ htk), atI_nat (j := 0) rfl, _, rfl, b, ra, D, pr.1, r - 2, rfl, G_book.same sd, vN, hru, lnk, by omega, by omega, fun m => absurd memk m, fun _ h => absurd h neg, fun _ _ _ t He se ht => ?_, fun _ _ h => absurd many (by omega)⟩
    refine ⟨_, rfl, Vf.ne_two ht (se _ _ hd) ⟨_, rfl, Vf.ite_b (fun c => absurd c (by decide)) fun _ => ?_⟩⟩
    exact ⟨⟨_, _, _, _, rfl⟩, sd.trans se, n7, (P9.same td).same se, n70, by omega⟩
  refine Vf.ite_d (fun h => absurd h many) (fun _ => ?_)
  obtain ⟨c, hc⟩ : ∃ c : Nat, r - 2 = (c : Int) := ⟨(r - 2).toNat, by omega⟩
  rw [hc] at neg many ⊢
  have c10 : D.ld.length + c ≤ 10 := by omega
  have fv := Vf.fx_valid (c := c) vN memk c10
  -- what is due
  refine ⟨_, rfl, p, _, 0, .ref ls, rfl, rfl, SqT.of (s9 _ _ g0), atI_nat (j := 0) rfl, _, rfl, _, rfl, p, _, 2, .ref ll, rfl, rfl, SqT.of (s9 _ _ g0), atI_nat (j := 2) rfl, _, rfl, p, _, 1, .ref li, rfl, rfl, SqT.of (s9 _ _ g0), atI_nat (j := 1) rfl, _, rfl, li, _, _, .ref tk, rfl, rfl, SqL.of (s9 _ _ gli), atk, tk, _, 1, .str pr.2, rfl, rfl, SqT.of (s9 _ _ htk), atI_nat (j := 1) rfl, (by show 1 ≤ sizeLine; decide), fun y1 ny1 => ?_⟩
  have t1 := Vf.Same.new (o := .lst [.str pr.2]) (Same.refl H9) ny1
  refine ⟨_, rfl, y1, (c : Int), _, rfl, rfl, upd_same, by omega, by omega, Nat.le_trans (show [V.str pr.2].length * ((c : Int)).toNat ≤ 10 by show 1 * ((c : Int)).toNat ≤ 10; omega) (by decide), fun y2 ny2 => ?_⟩
  rw [show (List.replicate ((c : Int)).toNat [V.str pr.2]).flatten = (List.replicate c pr.2).map V.str by rw [List.flatten_replicate_singleton, List.map_replicate, Int.toNat_natCast]]
  have t2 := Vf.Same.new (o := .lst ((List.replicate c pr.2).map V.str)) t1 ny2
  refine ⟨ll, y2, _, _, rfl, rfl, (s9.trans t2) _ _ gll, upd_same, Nat.le_trans (show (D.ld.map V.str).length + ((List.replicate c pr.2).map V.str).length ≤ 10 by rw [List.length_map, List.length_map, List.length_replicate]; omega) (by decide), fun y3 ny3 => ?_⟩
  rw [← List.map_append]
  have t3 := Vf.Same.new (o := .lst ((D.ld ++ List.replicate c pr.2).map V.str)) t2 ny3
  have hy3 := upd_same (H := upd (upd H9 y1 (.lst [.str pr.2])) y2 (.lst ((List.replicate c pr.2).map V.str))) (a := y3) (o := .lst ((D.ld ++ List.replicate c pr.2).map V.str))
  generalize upd (upd (upd H9 y1 (.lst [.str pr.2])) y2 (.lst ((List.replicate c pr.2).map V.str))) y3 (.lst ((D.ld ++ List.replicate c pr.2).map V.str)) = Hy at t3 hy3 ⊢
  have sy := s9.trans t3
  refine ⟨_, rfl, p, _, 3, .ref lr, rfl, rfl, SqT.of (sy _ _ g0), atI_nat (j := 3) rfl, _, rfl, p, _, 4, .ref lo, rfl, rfl, SqT.of (sy _ _ g0), atI_nat (j := 4) rfl, (by show 5 ≤ sizeLine; decide), fun d nd => ?_⟩
  have td := Vf.Same.new (o := .tup [.ref ls, .ref rs, .ref y3, .ref lr, .ref lo]) (Same.refl Hy) nd
  have hd := upd_same (H := Hy) (a := d) (o := .tup [.ref ls, .ref rs, .ref y3, .ref lr, .ref lo])
  have hrs := (t3.trans td) _ _ hrs
  have Pd := (P9.same t3).same td
  have sd := sy.trans td
  have hy3 := td _ _ hy3
  generalize upd Hy d (.tup [.ref ls, .ref rs, .ref y3, .ref lr, .ref lo]) = Hd at td hd hrs Pd sd hy3 ⊢
  have due : Vf.PartsAt Hd d (Vf.fxD D pr.1 c) := ⟨ls, rs, y3, lr, lo, _, _, hd, sd _ _ gls, hrs, ft.same sd, by show Hd y3 = some (.lst ((D.ld ++ List.replicate c (Vf.stOf D.ins pr.1)).map V.str)); rw [Vf.stOf_at vN.ind hk]; exact hy3, sd _ _ glr, gtr.same sd, sd _ _ glo⟩
  clear t1 t2 t3 td hd hy3 sy ny1 ny2 ny3 nd
  have dueE := Vf.PoolAt.parts ⟨dr, ds, Pd⟩ due
  have hrsE : Vf.Er pl Hd rs = some (.lst (xi.take k ++ xi.drop (k + 1))) := (if_neg nrspl).trans hrs
  have sGE : Same G (Vf.Er pl Hd) := fun x o h => by
    have ne : x ≠ pl := fun e => by rw [e, nG] at h; cases h
    exact (if_neg ne).trans (sd x o h)
  have eE : Same (Vf.Er pl Hd) Hd := fun x o h => (Vf.er_some h).2
  have nE : Vf.Er pl Hd pl = none := Vf.er_self
  generalize Vf.Er pl Hd = GE at dueE hrsE sGE eE nE
  have lrest : (xi.take k ++ xi.drop (k + 1)).length = D.ins.length - 1 := by
    rw [List.length_append, List.length_take, List.length_drop, gti.1]
    omega
  dsimp only [gName]
  refine ⟨_, rfl, rs, rfl, ⟨_, SqL.of hrs⟩, fun C nC => Vf.lc_one (walk_list (K := K) (a := rs) (xs := xi.take k ++ xi.drop (k + 1))) (fun j H' => ∃ acc : List Int, H' C = some (.lst (acc.map V.int)) ∧ acc.length = j ∧ (∀ y ∈ acc, 0 ≤ y ∧ y < 4) ∧ Same GE H' ∧ Vf.PoolX H' pl dr ds (n7 + j)) ⟨[], upd_same, rfl, fun y hy => absurd hy List.not_mem_nil, eE.trans (Vf.Same.new (Same.refl Hd) nC), by rw [Int.natCast_zero, Int.add_zero]; exact Pd.same (Vf.Same.new (Same.refl Hd) nC)⟩ (fun j H' _ ⟨_, _, _, _, s, _⟩ => SqL.of (s _ _ hrsE)) ?_ ?_⟩
  · rintro j x Ha Hb hj ⟨acc, hac, lac, bac, sac, Pac⟩ ⟨rfl, hx⟩
    have nCpl : C ≠ pl := fun e => by
      rw [e, Pd.1] at nC
      cases nC
    have nCdr : C ≠ dr := fun e => by
      rw [e, Pd.2.1] at nC
      cases nC
    have hj3 : j < 3 := by omega
    refine ⟨rfl, Vf.tyes ⟨_, rfl, pl, dr, ds, n7 + j, 4, rfl, Pac, by omega, by omega, by decide, by decide, fun r' Hc r0' r1' Pc kc => ?_⟩⟩
    have hcC := kc C _ (by simpa using nCpl) hac
    refine ⟨_, hcC, by rw [List.length_map, lac]; exact Nat.lt_trans hj3 (by decide), acc ++ [r'], ?_, by rw [List.length_append, lac]; rfl, fun y hy => ?_, Vf.Same.chg (Vf.same_keep sac nE kc) (eE.free nC), ?_⟩
    · rw [upd_same, List.map_append]
      rfl
    · rcases List.mem_append.mp hy with hy | hy
      · exact bac y hy
      · rw [List.mem_singleton] at hy
        rw [hy]
        exact ⟨r0', r1'⟩
    · have P' : Vf.PoolX (upd Hc C (.lst (acc.map V.int ++ [V.int r']))) pl dr ds (n7 + j + 1) := ⟨by rw [upd_ne (Ne.symm nCpl)]; exact Pc.1, by rw [upd_ne (Ne.symm nCdr)]; exact Pc.2.1, Pc.2.2⟩
      rw [show n7 + ((j + 1 : Nat) : Int) = n7 + j + 1 by omega]
      exact P'
  rintro He ⟨cs, hcs, lcs, bcs, se, Pe⟩
  rw [lrest] at lcs
  have s_ := sGE.trans se
  dsimp only [gName]
  have Be := G_book.same s_
  refine ⟨_, rfl, _, rfl, p, _, 1, .ref li, rfl, rfl, SqT.of (s_ _ _ g0), atI_nat (j := 1) rfl, _, rfl, li, _, _, .ref tk, rfl, rfl, SqL.of (s_ _ _ gli), atk, tk, _, 0, .str pr.1, rfl, rfl, SqT.of (s_ _ _ htk), atI_nat (j := 0) rfl, _, rfl, b, ra, D, pr.1, (c : Int), rfl, Be, vN, hru, lnk, by omega, by omega, fun m => absurd memk m, fun _ h => absurd h neg, fun _ _ h => absurd h (by omega), fun _ _ _ b' a' Hf Bf sf nb' => ?_⟩
  rw [Int.toNat_natCast] at Bf
  obtain ⟨dxf, hbf⟩ := Bf.ob
  have hcsf := sf _ _ hcs
  have lfx : cs.length = (Vf.fxD D pr.1 c).ins.length := by
    show cs.length = (D.ins.filter fun q => decide (q.1 ≠ pr.1)).length
    rw [Vf.filter_cut vN.ind hk, lcs, List.length_append, List.length_take, List.length_drop]
    omega
  refine ⟨b', dxf, _, rfl, hbf, rfl, _, rfl, b', C, a', Vf.fxD D pr.1 c, cs, rfl, Bf, fv, SqL.of hcsf, fun _ z1 Hg nz1 sg hz1 => ?_, fun bad => absurd ⟨lfx, fun y hy => (bcs y hy).1⟩ bad⟩
  have s0g := (s_.trans sf).trans sg
  have Bg := G_book.same s0g
  obtain ⟨dxg, hbg⟩ := Bg.ob
  have hcsg := sg _ _ hcsf
  refine ⟨_, rfl, b, dxg, _, rfl, hbg, rfl, _, rfl, _, rfl, (k : Int), rfl, C, _, rfl, SqL.of hcsg, fun q1 nq1 => ?_⟩
  rw [Vf.cut_hi]
  have r1 := Vf.Same.new (o := .lst ((cs.map V.int).take k)) (Same.refl Hg) nq1
  have hq1 := upd_same (H := Hg) (a := q1) (o := .lst ((cs.map V.int).take k))
  refine ⟨_, rfl, (by show 1 ≤ sizeLine; decide), fun q2 nq2 => ?_⟩
  have r2 := Vf.Same.new (o := .lst [.int (c : Int)]) r1 nq2
  have hq1 := (Vf.Same.new (o := .lst [.int (c : Int)]) (Same.refl _) nq2) _ _ hq1
  have lcs3 : cs.length ≤ 2 := by omega
  refine ⟨q1, q2, _, _, rfl, rfl, hq1, upd_same, Nat.le_trans (show ((cs.map V.int).take k).length + [V.int (c : Int)].length ≤ 3 by rw [List.length_take, List.length_map]; show _ + 1 ≤ 3; omega) (by decide), fun q3 nq3 => ?_⟩
  have r3 := Vf.Same.new (o := .lst ((cs.map V.int).take k ++ [.int (c : Int)])) r2 nq3
  have hq3 := upd_same (H := upd (upd Hg q1 (.lst ((cs.map V.int).take k))) q2 (.lst [.int (c : Int)])) (a := q3) (o := .lst ((cs.map V.int).take k ++ [.int (c : Int)]))
  generalize upd (upd (upd Hg q1 (.lst ((cs.map V.int).take k))) q2 (.lst [.int (c : Int)])) q3 (.lst ((cs.map V.int).take k ++ [.int (c : Int)])) = Hh at r3 hq3 ⊢
  refine ⟨_, rfl, _, rfl, (k : Int), rfl, C, _, rfl, SqL.of (r3 _ _ hcsg), fun q4 nq4 => ?_⟩
  rw [Vf.cut_lo]
  have r4 := Vf.Same.new (o := .lst ((cs.map V.int).drop k)) (Same.refl Hh) nq4
  refine ⟨q3, q4, _, _, rfl, rfl, r4 _ _ hq3, upd_same, Nat.le_trans (show ((cs.map V.int).take k ++ [V.int (c : Int)]).length + ((cs.map V.int).drop k).length ≤ 10 by rw [List.length_append, List.length_take, List.length_drop, List.length_map]; show _ + 1 + _ ≤ 10; omega) (by decide), fun q5 nq5 => ?_⟩
  have r5 := Vf.Same.new (o := .lst ((cs.map V.int).take k ++ [.int (c : Int)] ++ (cs.map V.int).drop k)) r4 nq5
  have hq5 := upd_same (H := upd Hh q4 (.lst ((cs.map V.int).drop k))) (a := q5) (o := .lst ((cs.map V.int).take k ++ [.int (c : Int)] ++ (cs.map V.int).drop k))
  generalize upd (upd Hh q4 (.lst ((cs.map V.int).drop k))) q5 (.lst ((cs.map V.int).take k ++ [.int (c : Int)] ++ (cs.map V.int).drop k)) = Hi at r5 hq5 ⊢
  have sgi := r3.trans r5
  have el : (cs.map V.int).take k ++ [.int (c : Int)] ++ (cs.map V.int).drop k = (cs.take k ++ [(c : Int)] ++ cs.drop k).map V.int := by
    rw [List.map_append, List.map_append, List.map_take, List.map_drop]
    rfl
  rw [el] at hq5
  refine ⟨b, q5, ra, D, cs.take k ++ [(c : Int)] ++ cs.drop k, rfl, Bg.same sgi, vN, SqL.of hq5, fun _ z2 Hj nz2 sj hz2 => ?_, fun bad => absurd ⟨?_, fun y hy => ?_⟩ bad⟩
  rotate_left
  · rw [List.length_append, List.length_append, List.length_take, List.length_drop]
    show _ + 1 + _ = _
    omega
  · rcases List.mem_append.mp hy with hy | hy
    · rcases List.mem_append.mp hy with hy | hy
      · exact (bcs y (List.mem_of_mem_take hy)).1
      · rw [List.mem_singleton] at hy
        omega
    · exact (bcs y (List.mem_of_mem_drop hy)).1
  rw [Vf.first_fix vN.ind hk (by omega)] at hz1
  refine ⟨_, _, ⟨z1, z2, rfl, rfl, .inr ⟨SqT.of ((sgi.trans sj) _ _ hz1), SqT.of hz2⟩⟩, _, rfl, ?_⟩
  rw [decide_eq_true rfl]
  refine Vf.ite_b (fun c => absurd c (by decide)) fun _ => ?_
  have sEj := ((sf.trans sg).trans sgi).trans sj
  have sj0 := s_.trans sEj
  have dueJ := dueE.same (se.trans sEj)
  have Pj := Pe.same sEj
  rw [lrest] at Pj
  unfold tNext
  dsimp only
  refine ⟨_, rfl, _, rfl, p, _, 1, .ref li, rfl, rfl, SqT.of (sj0 _ _ g0), atI_nat (j := 1) rfl, _, rfl, li, _, _, .ref tk, rfl, rfl, SqL.of (sj0 _ _ gli), atk, tk, _, 0, .str pr.1, rfl, rfl, SqT.of (sj0 _ _ htk), atI_nat (j := 0) rfl, _, rfl, b, ra, D, pr.1, (c : Int), rfl, G_book.same sj0, vN, hru, lnk, by omega, by omega, fun m => absurd memk m, fun _ h => absurd h neg, fun _ _ h => absurd h (by omega), fun _ _ _ t Hl sl pt => ?_⟩
  rw [Int.toNat_natCast] at pt
  refine ⟨_, rfl, Vf.ne_parts pt (dueJ.same sl) ⟨_, rfl, Vf.ite_b (fun c => absurd c (by decide)) fun _ => ?_⟩⟩
  exact ⟨⟨_, _, _, _, rfl⟩, sj0.trans sl, _, Pj.same sl, by omega, by omega⟩
end

theorem all_mk {P : Program} {w : World} {K : PySem.W.Frag} {h : Heap} {mg : Str → Option Value} {fa : Addr} (X : K.In h) (G : h.Ns mainGlobals mg) (hfa : mg "law" = some (.ref fa))
    {f__law_draws f__law_cell f__law_pool f__law_parts f__demand f_Draft___init__ f_is_name f_Draft_add_state f_Draft__demand_state f_Draft_add_input f_Draft_add_leader f_Draft_add_rule f__drafted f__partners f_Rulebook___init__ f__law_made f__law_pick f__law_parts_of f_UnknownName___init__ f_fixed f__law_told_fixed f_are_counts f_Rulebook_first_place f_with_inputs f__law_told_inputs f_law cc_UnknownName___init__ cda_UnknownName___init__ c_Draft c_Rulebook c_InvalidRulebook c_WrongCounts c_UnknownName : Addr}
    {tv_DIGITS tv_GREATEST_OUTPUT tv_LETTERS tv_LONGEST_NAME tv_MOST_INPUTS tv_MOST_LEADERS tv_MOST_STATES : Tok}
    (ac_Draft : PySem.W.nsIn K mainGlobals "Draft" = some (some (.ref c_Draft)))
    (ac_Rulebook : PySem.W.nsIn K mainGlobals "Rulebook" = some (some (.ref c_Rulebook)))
    (ac_InvalidRulebook : PySem.W.nsIn K mainGlobals "InvalidRulebook" = some (some (.ref c_InvalidRulebook)))
    (ac_WrongCounts : PySem.W.nsIn K mainGlobals "WrongCounts" = some (some (.ref c_WrongCounts)))
    (ac_UnknownName : PySem.W.nsIn K mainGlobals "UnknownName" = some (some (.ref c_UnknownName)))
    (a__law_draws : PySem.W.nsIn K mainGlobals "_law_draws" = some (some (.ref f__law_draws)))
    (l__law_draws : Vf.FunAt K "_law_draws" "_law_draws" s__law_draws f__law_draws)
    (a__law_cell : PySem.W.nsIn K mainGlobals "_law_cell" = some (some (.ref f__law_cell)))
    (l__law_cell : Vf.FunAt K "_law_cell" "_law_cell" s__law_cell f__law_cell)
    (a__law_pool : PySem.W.nsIn K mainGlobals "_law_pool" = some (some (.ref f__law_pool)))
    (l__law_pool : Vf.FunAt K "_law_pool" "_law_pool" s__law_pool f__law_pool)
    (a__law_parts : PySem.W.nsIn K mainGlobals "_law_parts" = some (some (.ref f__law_parts)))
    (l__law_parts : Vf.FunAt K "_law_parts" "_law_parts" s__law_parts f__law_parts)
    (a__demand : PySem.W.nsIn K mainGlobals "_demand" = some (some (.ref f__demand)))
    (l__demand : Vf.FunAt K "_demand" "_demand" s__demand f__demand)
    (a_Draft___init__ : PySem.W.findIn K (.ref c_Draft) "__init__" = some (some (.ref f_Draft___init__)))
    (i_Draft___init__ : PySem.W.isFn K (.ref f_Draft___init__) = true)
    (l_Draft___init__ : Vf.FunAt K "__init__" "Draft.__init__" s_Draft___init__ f_Draft___init__)
    (a_is_name : PySem.W.nsIn K mainGlobals "is_name" = some (some (.ref f_is_name)))
    (l_is_name : Vf.FunAt K "is_name" "is_name" s_is_name f_is_name)
    (a_Draft_add_state : PySem.W.findIn K (.ref c_Draft) "add_state" = some (some (.ref f_Draft_add_state)))
    (i_Draft_add_state : PySem.W.isFn K (.ref f_Draft_add_state) = true)
    (l_Draft_add_state : Vf.FunAt K "add_state" "Draft.add_state" s_Draft_add_state f_Draft_add_state)
    (a_Draft__demand_state : PySem.W.findIn K (.ref c_Draft) "_demand_state" = some (some (.ref f_Draft__demand_state)))
    (i_Draft__demand_state : PySem.W.isFn K (.ref f_Draft__demand_state) = true)
    (l_Draft__demand_state : Vf.FunAt K "_demand_state" "Draft._demand_state" s_Draft__demand_state f_Draft__demand_state)
    (a_Draft_add_input : PySem.W.findIn K (.ref c_Draft) "add_input" = some (some (.ref f_Draft_add_input)))
    (i_Draft_add_input : PySem.W.isFn K (.ref f_Draft_add_input) = true)
    (l_Draft_add_input : Vf.FunAt K "add_input" "Draft.add_input" s_Draft_add_input f_Draft_add_input)
    (a_Draft_add_leader : PySem.W.findIn K (.ref c_Draft) "add_leader" = some (some (.ref f_Draft_add_leader)))
    (i_Draft_add_leader : PySem.W.isFn K (.ref f_Draft_add_leader) = true)
    (l_Draft_add_leader : Vf.FunAt K "add_leader" "Draft.add_leader" s_Draft_add_leader f_Draft_add_leader)
    (a_Draft_add_rule : PySem.W.findIn K (.ref c_Draft) "add_rule" = some (some (.ref f_Draft_add_rule)))
    (i_Draft_add_rule : PySem.W.isFn K (.ref f_Draft_add_rule) = true)
    (l_Draft_add_rule : Vf.FunAt K "add_rule" "Draft.add_rule" s_Draft_add_rule f_Draft_add_rule)
    (a__drafted : PySem.W.nsIn K mainGlobals "_drafted" = some (some (.ref f__drafted)))
    (l__drafted : Vf.FunAt K "_drafted" "_drafted" s__drafted f__drafted)
    (a__partners : PySem.W.nsIn K mainGlobals "_partners" = some (some (.ref f__partners)))
    (l__partners : Vf.FunAt K "_partners" "_partners" s__partners f__partners)
    (a_Rulebook___init__ : PySem.W.findIn K (.ref c_Rulebook) "__init__" = some (some (.ref f_Rulebook___init__)))
    (i_Rulebook___init__ : PySem.W.isFn K (.ref f_Rulebook___init__) = true)
    (l_Rulebook___init__ : Vf.FunAt K "__init__" "Rulebook.__init__" s_Rulebook___init__ f_Rulebook___init__)
    (a__law_made : PySem.W.nsIn K mainGlobals "_law_made" = some (some (.ref f__law_made)))
    (l__law_made : Vf.FunAt K "_law_made" "_law_made" s__law_made f__law_made)
    (a__law_pick : PySem.W.nsIn K mainGlobals "_law_pick" = some (some (.ref f__law_pick)))
    (l__law_pick : Vf.FunAt K "_law_pick" "_law_pick" s__law_pick f__law_pick)
    (a__law_parts_of : PySem.W.nsIn K mainGlobals "_law_parts_of" = some (some (.ref f__law_parts_of)))
    (l__law_parts_of : Vf.FunAt K "_law_parts_of" "_law_parts_of" s__law_parts_of f__law_parts_of)
    (I_UnknownName : PySem.W.findIn K (.ref c_UnknownName) "__init__" = some (some (.ref f_UnknownName___init__)))
    (Y_UnknownName : PySem.W.typeIn K (.ref f_UnknownName___init__) = some (.type "function"))
    (l_UnknownName___init__ : ∃ fd, Vf.InitAt P K "UnknownName.__init__" s_UnknownName___init__ c_UnknownName f_UnknownName___init__ cc_UnknownName___init__ cda_UnknownName___init__ fd)
    (O_UnknownName : OexC K c_UnknownName)
    (S_UnknownName : Vf.SupCls K c_UnknownName)
    (X_UnknownName : XfC K c_UnknownName)
    (N_UnknownName_name : PySem.W.findIn K (.ref c_UnknownName) "name" = some none)
    (a_fixed : PySem.W.nsIn K mainGlobals "fixed" = some (some (.ref f_fixed)))
    (l_fixed : Vf.FunAt K "fixed" "fixed" s_fixed f_fixed)
    (a__law_told_fixed : PySem.W.nsIn K mainGlobals "_law_told_fixed" = some (some (.ref f__law_told_fixed)))
    (l__law_told_fixed : Vf.FunAt K "_law_told_fixed" "_law_told_fixed" s__law_told_fixed f__law_told_fixed)
    (a_are_counts : PySem.W.nsIn K mainGlobals "are_counts" = some (some (.ref f_are_counts)))
    (l_are_counts : Vf.FunAt K "are_counts" "are_counts" s_are_counts f_are_counts)
    (a_Rulebook_first_place : PySem.W.findIn K (.ref c_Rulebook) "first_place" = some (some (.ref f_Rulebook_first_place)))
    (i_Rulebook_first_place : PySem.W.isFn K (.ref f_Rulebook_first_place) = true)
    (l_Rulebook_first_place : Vf.FunAt K "first_place" "Rulebook.first_place" s_Rulebook_first_place f_Rulebook_first_place)
    (a_with_inputs : PySem.W.nsIn K mainGlobals "with_inputs" = some (some (.ref f_with_inputs)))
    (l_with_inputs : Vf.FunAt K "with_inputs" "with_inputs" s_with_inputs f_with_inputs)
    (a__law_told_inputs : PySem.W.nsIn K mainGlobals "_law_told_inputs" = some (some (.ref f__law_told_inputs)))
    (l__law_told_inputs : Vf.FunAt K "_law_told_inputs" "_law_told_inputs" s__law_told_inputs f__law_told_inputs)
    (a_law : PySem.W.nsIn K mainGlobals "law" = some (some (.ref f_law)))
    (l_law : Vf.FunAt K "law" "law" s_law f_law)
    (pg_Draft : PySem.W.plainGet K c_Draft Str.empty = true)
    (hd_Draft : PySem.W.hasDictIn K c_Draft = true)
    (po_Draft : PySem.W.plainOver K c_Draft = true)
    (sa_Draft : PySem.W.findIn K (.ref c_Draft) "__setattr__" = some (some (.builtin "object.__setattr__")))
    (mk_Draft : PySem.W.makesIn K c_Draft = true)
    (kc_Draft : PySem.W.keepIn K (.ref c_Draft) = true)
    (n_Draft_inputs : PySem.W.findIn K (.ref c_Draft) "inputs" = some none)
    (n_Draft_leaders : PySem.W.findIn K (.ref c_Draft) "leaders" = some none)
    (n_Draft_numbers : PySem.W.findIn K (.ref c_Draft) "numbers" = some none)
    (n_Draft_outputs : PySem.W.findIn K (.ref c_Draft) "outputs" = some none)
    (n_Draft_results : PySem.W.findIn K (.ref c_Draft) "results" = some none)
    (n_Draft_rules : PySem.W.findIn K (.ref c_Draft) "rules" = some none)
    (n_Draft_states : PySem.W.findIn K (.ref c_Draft) "states" = some none)
    (pg_Rulebook : PySem.W.plainGet K c_Rulebook Str.empty = true)
    (hd_Rulebook : PySem.W.hasDictIn K c_Rulebook = true)
    (po_Rulebook : PySem.W.plainOver K c_Rulebook = true)
    (sa_Rulebook : PySem.W.findIn K (.ref c_Rulebook) "__setattr__" = some (some (.builtin "object.__setattr__")))
    (mk_Rulebook : PySem.W.makesIn K c_Rulebook = true)
    (kc_Rulebook : PySem.W.keepIn K (.ref c_Rulebook) = true)
    (n_Rulebook__numbers : PySem.W.findIn K (.ref c_Rulebook) "_numbers" = some none)
    (n_Rulebook__results : PySem.W.findIn K (.ref c_Rulebook) "_results" = some none)
    (n_Rulebook__rows : PySem.W.findIn K (.ref c_Rulebook) "_rows" = some none)
    (n_Rulebook_inputs : PySem.W.findIn K (.ref c_Rulebook) "inputs" = some none)
    (n_Rulebook_leaders : PySem.W.findIn K (.ref c_Rulebook) "leaders" = some none)
    (n_Rulebook_outputs : PySem.W.findIn K (.ref c_Rulebook) "outputs" = some none)
    (n_Rulebook_rules : PySem.W.findIn K (.ref c_Rulebook) "rules" = some none)
    (n_Rulebook_states : PySem.W.findIn K (.ref c_Rulebook) "states" = some none)
    (x_InvalidRulebook : PySem.W.excIn K c_InvalidRulebook [.type "ValueError", .type "Exception", .type "BaseException", .type "object"] "ValueError.__new__" = true)
    (k_InvalidRulebook : PySem.W.keepIn K (.ref c_InvalidRulebook) = true)
    (b_InvalidRulebook : PySem.W.subIn K (.ref c_InvalidRulebook) (.type "BaseException") = some true)
    (t_InvalidRulebook : PySem.W.typeIn K (.ref c_InvalidRulebook) = some (.type "type"))
    (ic_InvalidRulebook : PySem.W.isClsIn K c_InvalidRulebook = true)
    (s_InvalidRulebook : PySem.W.subIn K (.ref c_InvalidRulebook) (.ref c_InvalidRulebook) = some true)
    (x_WrongCounts : PySem.W.excIn K c_WrongCounts [.type "ValueError", .type "Exception", .type "BaseException", .type "object"] "ValueError.__new__" = true)
    (k_WrongCounts : PySem.W.keepIn K (.ref c_WrongCounts) = true)
    (b_WrongCounts : PySem.W.subIn K (.ref c_WrongCounts) (.type "BaseException") = some true)
    (t_WrongCounts : PySem.W.typeIn K (.ref c_WrongCounts) = some (.type "type"))
    (ic_WrongCounts : PySem.W.isClsIn K c_WrongCounts = true)
    (s_WrongCounts : PySem.W.subIn K (.ref c_WrongCounts) (.ref c_WrongCounts) = some true)
    (k_UnknownName : PySem.W.keepIn K (.ref c_UnknownName) = true)
    (b_UnknownName : PySem.W.subIn K (.ref c_UnknownName) (.type "BaseException") = some true)
    (t_UnknownName : PySem.W.typeIn K (.ref c_UnknownName) = some (.type "type"))
    (ic_UnknownName : PySem.W.isClsIn K c_UnknownName = true)
    (s_UnknownName : PySem.W.subIn K (.ref c_UnknownName) (.ref c_UnknownName) = some true)
    (s_WrongCounts_UnknownName : PySem.W.subIn K (.ref c_WrongCounts) (.ref c_UnknownName) = some false)
    (ne_WrongCounts_UnknownName : c_WrongCounts ≠ c_UnknownName)
    (s_InvalidRulebook_UnknownName : PySem.W.subIn K (.ref c_InvalidRulebook) (.ref c_UnknownName) = some false)
    (ne_InvalidRulebook_UnknownName : c_InvalidRulebook ≠ c_UnknownName)
    (s_InvalidRulebook_WrongCounts : PySem.W.subIn K (.ref c_InvalidRulebook) (.ref c_WrongCounts) = some false)
    (ne_InvalidRulebook_WrongCounts : c_InvalidRulebook ≠ c_WrongCounts)
    (z_all : PySem.W.nsIn K mainGlobals "all" = some none)
    (z_dict : PySem.W.nsIn K mainGlobals "dict" = some none)
    (z_int : PySem.W.nsIn K mainGlobals "int" = some none)
    (z_isinstance : PySem.W.nsIn K mainGlobals "isinstance" = some none)
    (z_len : PySem.W.nsIn K mainGlobals "len" = some none)
    (z_list : PySem.W.nsIn K mainGlobals "list" = some none)
    (z_min : PySem.W.nsIn K mainGlobals "min" = some none)
    (z_range : PySem.W.nsIn K mainGlobals "range" = some none)
    (z_sorted : PySem.W.nsIn K mainGlobals "sorted" = some none)
    (z_str : PySem.W.nsIn K mainGlobals "str" = some none)
    (z_super : PySem.W.nsIn K mainGlobals "super" = some none)
    (z_tuple : PySem.W.nsIn K mainGlobals "tuple" = some none)
    (z_zip : PySem.W.nsIn K mainGlobals "zip" = some none)
    (v_DIGITS : PySem.W.nsIn K mainGlobals "DIGITS" = some (some (.str "0123456789" tv_DIGITS)))
    (v_GREATEST_OUTPUT : PySem.W.nsIn K mainGlobals "GREATEST_OUTPUT" = some (some (.int 9 tv_GREATEST_OUTPUT)))
    (v_LETTERS : PySem.W.nsIn K mainGlobals "LETTERS" = some (some (.str "abcdefghijklmnopqrstuvwxyz" tv_LETTERS)))
    (v_LONGEST_NAME : PySem.W.nsIn K mainGlobals "LONGEST_NAME" = some (some (.int 12 tv_LONGEST_NAME)))
    (v_MOST_INPUTS : PySem.W.nsIn K mainGlobals "MOST_INPUTS" = some (some (.int 8 tv_MOST_INPUTS)))
    (v_MOST_LEADERS : PySem.W.nsIn K mainGlobals "MOST_LEADERS" = some (some (.int 10 tv_MOST_LEADERS)))
    (v_MOST_STATES : PySem.W.nsIn K mainGlobals "MOST_STATES" = some (some (.int 400 tv_MOST_STATES))) :
    ∃ fd : FuncData, (∀ (s : Shared) (u : Value), BindsTo s fd ⟨[u], []⟩ [("script", u)]) ∧ ∀ base : Heap, K.In base → base.Ns mainGlobals mg → FnOk P w K mg base CX0 9 fa fd ["script"] (Vf.spLaw K) := by
  have e := hfa.symm.trans (PySem.W.mg_of X G a_law)
  cases e
  obtain ⟨d__law_draws, F__law_draws⟩ := l__law_draws.get
  have B__law_draws := F__law_draws.binds (ps := ["cell", "count"]) fun _ _ _ _ _ _ us hl => match us, hl with | [_, _], _ => rfl
  obtain ⟨d__law_cell, F__law_cell⟩ := l__law_cell.get
  have B__law_cell := F__law_cell.binds (ps := ["script", "k"]) fun _ _ _ _ _ _ us hl => match us, hl with | [_, _], _ => rfl
  obtain ⟨d__law_pool, F__law_pool⟩ := l__law_pool.get
  have B__law_pool := F__law_pool.binds (ps := ["script"]) fun _ _ _ _ _ _ us hl => match us, hl with | [_], _ => rfl
  obtain ⟨d__law_parts, F__law_parts⟩ := l__law_parts.get
  have B__law_parts := F__law_parts.binds (ps := ["cell", "most"]) fun _ _ _ _ _ _ us hl => match us, hl with | [_, _], _ => rfl
  obtain ⟨d__demand, F__demand⟩ := l__demand.get
  have B__demand := F__demand.binds (ps := ["holds", "why"]) fun _ _ _ _ _ _ us hl => match us, hl with | [_, _], _ => rfl
  obtain ⟨d_Draft___init__, F_Draft___init__⟩ := l_Draft___init__.get
  have B_Draft___init__ := F_Draft___init__.binds (ps := ["self"]) fun _ _ _ _ _ _ us hl => match us, hl with | [_], _ => rfl
  obtain ⟨d_is_name, F_is_name⟩ := l_is_name.get
  have B_is_name := F_is_name.binds (ps := ["name"]) fun _ _ _ _ _ _ us hl => match us, hl with | [_], _ => rfl
  obtain ⟨d_Draft_add_state, F_Draft_add_state⟩ := l_Draft_add_state.get
  have B_Draft_add_state := F_Draft_add_state.binds (ps := ["self", "name", "output"]) fun _ _ _ _ _ _ us hl => match us, hl with | [_, _, _], _ => rfl
  obtain ⟨d_Draft__demand_state, F_Draft__demand_state⟩ := l_Draft__demand_state.get
  have B_Draft__demand_state := F_Draft__demand_state.binds (ps := ["self", "name"]) fun _ _ _ _ _ _ us hl => match us, hl with | [_, _], _ => rfl
  obtain ⟨d_Draft_add_input, F_Draft_add_input⟩ := l_Draft_add_input.get
  have B_Draft_add_input := F_Draft_add_input.binds (ps := ["self", "pair"]) fun _ _ _ _ _ _ us hl => match us, hl with | [_, _], _ => rfl
  obtain ⟨d_Draft_add_leader, F_Draft_add_leader⟩ := l_Draft_add_leader.get
  have B_Draft_add_leader := F_Draft_add_leader.binds (ps := ["self", "state"]) fun _ _ _ _ _ _ us hl => match us, hl with | [_, _], _ => rfl
  obtain ⟨d_Draft_add_rule, F_Draft_add_rule⟩ := l_Draft_add_rule.get
  have B_Draft_add_rule := F_Draft_add_rule.binds (ps := ["self", "rule"]) fun _ _ _ _ _ _ us hl => match us, hl with | [_, _], _ => rfl
  obtain ⟨d__drafted, F__drafted⟩ := l__drafted.get
  have B__drafted := F__drafted.binds (ps := ["states", "inputs", "leaders", "rules", "outputs"]) fun _ _ _ _ _ _ us hl => match us, hl with | [_, _, _, _, _], _ => rfl
  obtain ⟨d__partners, F__partners⟩ := l__partners.get
  have B__partners := F__partners.binds (ps := ["results", "many"]) fun _ _ _ _ _ _ us hl => match us, hl with | [_, _], _ => rfl
  obtain ⟨d_Rulebook___init__, F_Rulebook___init__⟩ := l_Rulebook___init__.get
  have B_Rulebook___init__ := F_Rulebook___init__.binds (ps := ["self", "states", "inputs", "leaders", "rules", "outputs"]) fun _ _ _ _ _ _ us hl => match us, hl with | [_, _, _, _, _, _], _ => rfl
  obtain ⟨d__law_made, F__law_made⟩ := l__law_made.get
  have B__law_made := F__law_made.binds (ps := ["parts"]) fun _ _ _ _ _ _ us hl => match us, hl with | [_], _ => rfl
  obtain ⟨d__law_pick, F__law_pick⟩ := l__law_pick.get
  have B__law_pick := F__law_pick.binds (ps := ["pool", "many"]) fun _ _ _ _ _ _ us hl => match us, hl with | [_, _], _ => rfl
  obtain ⟨d__law_parts_of, F__law_parts_of⟩ := l__law_parts_of.get
  have B__law_parts_of := F__law_parts_of.binds (ps := ["made"]) fun _ _ _ _ _ _ us hl => match us, hl with | [_], _ => rfl
  obtain ⟨d_UnknownName___init__, D_UnknownName___init__⟩ := l_UnknownName___init__
  have B_UnknownName___init__ := D_UnknownName___init__.binds (ps := ["self", "name"]) fun _ _ _ _ _ us hl => match us, hl with | [_, _], _ => rfl
  obtain ⟨d_fixed, F_fixed⟩ := l_fixed.get
  have B_fixed := F_fixed.binds (ps := ["protocol", "name", "count"]) fun _ _ _ _ _ _ us hl => match us, hl with | [_, _, _], _ => rfl
  obtain ⟨d__law_told_fixed, F__law_told_fixed⟩ := l__law_told_fixed.get
  have B__law_told_fixed := F__law_told_fixed.binds (ps := ["made", "name", "count"]) fun _ _ _ _ _ _ us hl => match us, hl with | [_, _, _], _ => rfl
  obtain ⟨d_are_counts, F_are_counts⟩ := l_are_counts.get
  have B_are_counts := F_are_counts.binds (ps := ["counts", "many"]) fun _ _ _ _ _ _ us hl => match us, hl with | [_, _], _ => rfl
  obtain ⟨d_Rulebook_first_place, F_Rulebook_first_place⟩ := l_Rulebook_first_place.get
  have B_Rulebook_first_place := F_Rulebook_first_place.binds (ps := ["self", "counts"]) fun _ _ _ _ _ _ us hl => match us, hl with | [_, _], _ => rfl
  obtain ⟨d_with_inputs, F_with_inputs⟩ := l_with_inputs.get
  have B_with_inputs := F_with_inputs.binds (ps := ["protocol", "inputs"]) fun _ _ _ _ _ _ us hl => match us, hl with | [_, _], _ => rfl
  obtain ⟨d__law_told_inputs, F__law_told_inputs⟩ := l__law_told_inputs.get
  have B__law_told_inputs := F__law_told_inputs.binds (ps := ["made", "inputs"]) fun _ _ _ _ _ _ us hl => match us, hl with | [_, _], _ => rfl
  obtain ⟨oc, od, kV, doc, pm, an, cdv, ct, osl, q1, q2, q3⟩ := l_law
  have F_law := fun_mk (st := s_law) q1 q2 q3
  have T : Txt P K mg ⟨f__law_draws, d__law_draws, f__law_cell, d__law_cell, f__law_pool, d__law_pool, f__law_parts, d__law_parts, f__demand, d__demand, f_Draft___init__, d_Draft___init__, f_is_name, d_is_name, f_Draft_add_state, d_Draft_add_state, f_Draft__demand_state, d_Draft__demand_state, f_Draft_add_input, d_Draft_add_input, f_Draft_add_leader, d_Draft_add_leader, f_Draft_add_rule, d_Draft_add_rule, f__drafted, d__drafted, f__partners, d__partners, f_Rulebook___init__, d_Rulebook___init__, f__law_made, d__law_made, f__law_pick, d__law_pick, f__law_parts_of, d__law_parts_of, f_UnknownName___init__, d_UnknownName___init__, cc_UnknownName___init__, cda_UnknownName___init__, f_fixed, d_fixed, f__law_told_fixed, d__law_told_fixed, f_are_counts, d_are_counts, f_Rulebook_first_place, d_Rulebook_first_place, f_with_inputs, d_with_inputs, f__law_told_inputs, d__law_told_inputs, _, _, c_Draft, c_Rulebook, c_InvalidRulebook, c_WrongCounts, c_UnknownName⟩ := {
    F__law_draws := F__law_draws,
    B__law_draws := B__law_draws,
    G__law_draws := PySem.W.mg_of X G a__law_draws,
    F__law_cell := F__law_cell,
    B__law_cell := B__law_cell,
    G__law_cell := PySem.W.mg_of X G a__law_cell,
    F__law_pool := F__law_pool,
    B__law_pool := B__law_pool,
    G__law_pool := PySem.W.mg_of X G a__law_pool,
    F__law_parts := F__law_parts,
    B__law_parts := B__law_parts,
    G__law_parts := PySem.W.mg_of X G a__law_parts,
    F__demand := F__demand,
    B__demand := B__demand,
    G__demand := PySem.W.mg_of X G a__demand,
    F_Draft___init__ := F_Draft___init__,
    B_Draft___init__ := B_Draft___init__,
    F_is_name := F_is_name,
    B_is_name := B_is_name,
    G_is_name := PySem.W.mg_of X G a_is_name,
    F_Draft_add_state := F_Draft_add_state,
    B_Draft_add_state := B_Draft_add_state,
    M_Draft_add_state := ⟨a_Draft_add_state, i_Draft_add_state, F_Draft_add_state.kp⟩,
    F_Draft__demand_state := F_Draft__demand_state,
    B_Draft__demand_state := B_Draft__demand_state,
    M_Draft__demand_state := ⟨a_Draft__demand_state, i_Draft__demand_state, F_Draft__demand_state.kp⟩,
    F_Draft_add_input := F_Draft_add_input,
    B_Draft_add_input := B_Draft_add_input,
    M_Draft_add_input := ⟨a_Draft_add_input, i_Draft_add_input, F_Draft_add_input.kp⟩,
    F_Draft_add_leader := F_Draft_add_leader,
    B_Draft_add_leader := B_Draft_add_leader,
    M_Draft_add_leader := ⟨a_Draft_add_leader, i_Draft_add_leader, F_Draft_add_leader.kp⟩,
    F_Draft_add_rule := F_Draft_add_rule,
    B_Draft_add_rule := B_Draft_add_rule,
    M_Draft_add_rule := ⟨a_Draft_add_rule, i_Draft_add_rule, F_Draft_add_rule.kp⟩,
    F__drafted := F__drafted,
    B__drafted := B__drafted,
    G__drafted := PySem.W.mg_of X G a__drafted,
    F__partners := F__partners,
    B__partners := B__partners,
    G__partners := PySem.W.mg_of X G a__partners,
    F_Rulebook___init__ := F_Rulebook___init__,
    B_Rulebook___init__ := B_Rulebook___init__,
    F__law_made := F__law_made,
    B__law_made := B__law_made,
    G__law_made := PySem.W.mg_of X G a__law_made,
    F__law_pick := F__law_pick,
    B__law_pick := B__law_pick,
    G__law_pick := PySem.W.mg_of X G a__law_pick,
    F__law_parts_of := F__law_parts_of,
    B__law_parts_of := B__law_parts_of,
    G__law_parts_of := PySem.W.mg_of X G a__law_parts_of,
    D_UnknownName___init__ := D_UnknownName___init__,
    B_UnknownName___init__ := B_UnknownName___init__,
    O_UnknownName := O_UnknownName,
    S_UnknownName := S_UnknownName,
    X_UnknownName := X_UnknownName,
    I_UnknownName := I_UnknownName,
    Y_UnknownName := Y_UnknownName,
    N_UnknownName_name := N_UnknownName_name,
    F_fixed := F_fixed,
    B_fixed := B_fixed,
    G_fixed := PySem.W.mg_of X G a_fixed,
    F__law_told_fixed := F__law_told_fixed,
    B__law_told_fixed := B__law_told_fixed,
    G__law_told_fixed := PySem.W.mg_of X G a__law_told_fixed,
    F_are_counts := F_are_counts,
    B_are_counts := B_are_counts,
    G_are_counts := PySem.W.mg_of X G a_are_counts,
    F_Rulebook_first_place := F_Rulebook_first_place,
    B_Rulebook_first_place := B_Rulebook_first_place,
    M_Rulebook_first_place := ⟨a_Rulebook_first_place, i_Rulebook_first_place, F_Rulebook_first_place.kp⟩,
    F_with_inputs := F_with_inputs,
    B_with_inputs := B_with_inputs,
    G_with_inputs := PySem.W.mg_of X G a_with_inputs,
    F__law_told_inputs := F__law_told_inputs,
    B__law_told_inputs := B__law_told_inputs,
    G__law_told_inputs := PySem.W.mg_of X G a__law_told_inputs,
    F_law := F_law,
    G_law := PySem.W.mg_of X G a_law,
    C_Draft := ⟨pg_Draft, hd_Draft, po_Draft, sa_Draft⟩,
    G_Draft := PySem.W.mg_of X G ac_Draft,
    K_Draft := ⟨mk_Draft, a_Draft___init__, i_Draft___init__, kc_Draft⟩,
    A_Draft_inputs := n_Draft_inputs,
    A_Draft_leaders := n_Draft_leaders,
    A_Draft_numbers := n_Draft_numbers,
    A_Draft_outputs := n_Draft_outputs,
    A_Draft_results := n_Draft_results,
    A_Draft_rules := n_Draft_rules,
    A_Draft_states := n_Draft_states,
    C_Rulebook := ⟨pg_Rulebook, hd_Rulebook, po_Rulebook, sa_Rulebook⟩,
    G_Rulebook := PySem.W.mg_of X G ac_Rulebook,
    K_Rulebook := ⟨mk_Rulebook, a_Rulebook___init__, i_Rulebook___init__, kc_Rulebook⟩,
    A_Rulebook__numbers := n_Rulebook__numbers,
    A_Rulebook__results := n_Rulebook__results,
    A_Rulebook__rows := n_Rulebook__rows,
    A_Rulebook_inputs := n_Rulebook_inputs,
    A_Rulebook_leaders := n_Rulebook_leaders,
    A_Rulebook_outputs := n_Rulebook_outputs,
    A_Rulebook_rules := n_Rulebook_rules,
    A_Rulebook_states := n_Rulebook_states,
    G_InvalidRulebook := PySem.W.mg_of X G ac_InvalidRulebook,
    x_InvalidRulebook := x_InvalidRulebook,
    k_InvalidRulebook := k_InvalidRulebook,
    b_InvalidRulebook := b_InvalidRulebook,
    t_InvalidRulebook := t_InvalidRulebook,
    e_InvalidRulebook := Vf.exm_self b_InvalidRulebook ic_InvalidRulebook t_InvalidRulebook s_InvalidRulebook,
    G_WrongCounts := PySem.W.mg_of X G ac_WrongCounts,
    x_WrongCounts := x_WrongCounts,
    k_WrongCounts := k_WrongCounts,
    b_WrongCounts := b_WrongCounts,
    t_WrongCounts := t_WrongCounts,
    e_WrongCounts := Vf.exm_self b_WrongCounts ic_WrongCounts t_WrongCounts s_WrongCounts,
    G_UnknownName := PySem.W.mg_of X G ac_UnknownName,
    k_UnknownName := k_UnknownName,
    b_UnknownName := b_UnknownName,
    t_UnknownName := t_UnknownName,
    e_UnknownName := Vf.exm_self b_UnknownName ic_UnknownName t_UnknownName s_UnknownName,
    e_WrongCounts_UnknownName := Vf.exm_other b_UnknownName ic_UnknownName t_UnknownName s_WrongCounts_UnknownName ne_WrongCounts_UnknownName,
    e_InvalidRulebook_UnknownName := Vf.exm_other b_UnknownName ic_UnknownName t_UnknownName s_InvalidRulebook_UnknownName ne_InvalidRulebook_UnknownName,
    e_InvalidRulebook_WrongCounts := Vf.exm_other b_WrongCounts ic_WrongCounts t_WrongCounts s_InvalidRulebook_WrongCounts ne_InvalidRulebook_WrongCounts,
    N_all := PySem.W.mg_none_of X G z_all,
    N_dict := PySem.W.mg_none_of X G z_dict,
    N_int := PySem.W.mg_none_of X G z_int,
    N_isinstance := PySem.W.mg_none_of X G z_isinstance,
    N_len := PySem.W.mg_none_of X G z_len,
    N_list := PySem.W.mg_none_of X G z_list,
    N_min := PySem.W.mg_none_of X G z_min,
    N_range := PySem.W.mg_none_of X G z_range,
    N_sorted := PySem.W.mg_none_of X G z_sorted,
    N_str := PySem.W.mg_none_of X G z_str,
    N_super := PySem.W.mg_none_of X G z_super,
    N_tuple := PySem.W.mg_none_of X G z_tuple,
    N_zip := PySem.W.mg_none_of X G z_zip,
    V_DIGITS := ⟨_, PySem.W.mg_of X G v_DIGITS⟩,
    V_GREATEST_OUTPUT := ⟨_, PySem.W.mg_of X G v_GREATEST_OUTPUT⟩,
    V_LETTERS := ⟨_, PySem.W.mg_of X G v_LETTERS⟩,
    V_LONGEST_NAME := ⟨_, PySem.W.mg_of X G v_LONGEST_NAME⟩,
    V_MOST_INPUTS := ⟨_, PySem.W.mg_of X G v_MOST_INPUTS⟩,
    V_MOST_LEADERS := ⟨_, PySem.W.mg_of X G v_MOST_LEADERS⟩,
    V_MOST_STATES := ⟨_, PySem.W.mg_of X G v_MOST_STATES⟩ }
  exact ⟨_, fun s u => .of_eq rfl, fun base _ _ => ok_law T⟩
theorem walk {l : PySem.W.OpenLaw} {q : Program} {loose : List Str} {XP : (Str → Option Value) → Heap → Prop} {YP : World → Heap → Prop} {d : DefRec} {K : Params → PySem.W.Frag} (hn : l.most = some 63) (hdf : d.params.defaults = [])
    (hY : ∀ (w : World) (h : Heap), YP w h → (K w.params).In h)
    (F : ∀ (w : World) (mg : Str → Option Value) (fa : Addr) (h : Heap), (K w.params).In h → h.Ns mainGlobals mg → mg d.name = some (.ref fa) →
      ∃ fd : FuncData, (∀ (s : Shared) (u : Value), BindsTo s fd ⟨[u], []⟩ [("script", u)]) ∧ ∀ base : Heap, (K w.params).In base → base.Ns mainGlobals mg → FnOk l.prog w (K w.params) mg base CX0 9 fa fd ["script"] (Vf.spLaw (K w.params))) :
    PySem.W.WalkO q loose XP YP l.row.toRowW d [] (fun f vs => PySem.call f vs) :=
  L2.walk_of (n := 63) (k := 9) (x := "script") (CX := fun _ => CX0) (sp := fun w => Vf.spLaw (K w.params)) hn (by decide) hdf ⟨rfl, by decide, by decide⟩ hY F (fun _ _ a ns hl _ hS => ⟨a, ns, rfl, hS, hl, fun _ => rfl⟩) fun _ _ _ _ _ z => z
end Pf
open PySem PySem.W PyProof.Rows
set_option maxRecDepth 100000 in
set_option maxHeartbeats 0 in
theorem PySem.Challenge.cw_mingle_k72_fixed_and_other_inputs_holds : PySem.Challenge.rw_mingle_k72_fixed_and_other_inputs.Holds := by
  w_on; o_law; k_head; (case hw => w_witness2)
  k_fill
  refine Pf.walk (l := PySem.Challenge.rw_mingle_k72_fixed_and_other_inputs) rfl rfl (fun w h Y => PySem.W.kIn_of Y) ?F
  case F =>
    intro w mg fa h KX G hmg
    refine' Pf.all_mk KX G hmg ?ac_Draft ?ac_Rulebook ?ac_InvalidRulebook ?ac_WrongCounts ?ac_UnknownName ?a__law_draws ?l__law_draws ?a__law_cell ?l__law_cell ?a__law_pool ?l__law_pool ?a__law_parts ?l__law_parts ?a__demand ?l__demand ?a_Draft___init__ ?i_Draft___init__ ?l_Draft___init__ ?a_is_name ?l_is_name ?a_Draft_add_state ?i_Draft_add_state ?l_Draft_add_state ?a_Draft__demand_state ?i_Draft__demand_state ?l_Draft__demand_state ?a_Draft_add_input ?i_Draft_add_input ?l_Draft_add_input ?a_Draft_add_leader ?i_Draft_add_leader ?l_Draft_add_leader ?a_Draft_add_rule ?i_Draft_add_rule ?l_Draft_add_rule ?a__drafted ?l__drafted ?a__partners ?l__partners ?a_Rulebook___init__ ?i_Rulebook___init__ ?l_Rulebook___init__ ?a__law_made ?l__law_made ?a__law_pick ?l__law_pick ?a__law_parts_of ?l__law_parts_of ?I_UnknownName ?Y_UnknownName ?l_UnknownName___init__ ?O_UnknownName ?S_UnknownName ?X_UnknownName ?N_UnknownName_name ?a_fixed ?l_fixed ?a__law_told_fixed ?l__law_told_fixed ?a_are_counts ?l_are_counts ?a_Rulebook_first_place ?i_Rulebook_first_place ?l_Rulebook_first_place ?a_with_inputs ?l_with_inputs ?a__law_told_inputs ?l__law_told_inputs ?a_law ?l_law ?pg_Draft ?hd_Draft ?po_Draft ?sa_Draft ?mk_Draft ?kc_Draft ?n_Draft_inputs ?n_Draft_leaders ?n_Draft_numbers ?n_Draft_outputs ?n_Draft_results ?n_Draft_rules ?n_Draft_states ?pg_Rulebook ?hd_Rulebook ?po_Rulebook ?sa_Rulebook ?mk_Rulebook ?kc_Rulebook ?n_Rulebook__numbers ?n_Rulebook__results ?n_Rulebook__rows ?n_Rulebook_inputs ?n_Rulebook_leaders ?n_Rulebook_outputs ?n_Rulebook_rules ?n_Rulebook_states ?x_InvalidRulebook ?k_InvalidRulebook ?b_InvalidRulebook ?t_InvalidRulebook ?ic_InvalidRulebook ?s_InvalidRulebook ?x_WrongCounts ?k_WrongCounts ?b_WrongCounts ?t_WrongCounts ?ic_WrongCounts ?s_WrongCounts ?k_UnknownName ?b_UnknownName ?t_UnknownName ?ic_UnknownName ?s_UnknownName ?s_WrongCounts_UnknownName ?ne_WrongCounts_UnknownName ?s_InvalidRulebook_UnknownName ?ne_InvalidRulebook_UnknownName ?s_InvalidRulebook_WrongCounts ?ne_InvalidRulebook_WrongCounts ?z_all ?z_dict ?z_int ?z_isinstance ?z_len ?z_list ?z_min ?z_range ?z_sorted ?z_str ?z_super ?z_tuple ?z_zip ?v_DIGITS ?v_GREATEST_OUTPUT ?v_LETTERS ?v_LONGEST_NAME ?v_MOST_INPUTS ?v_MOST_LEADERS ?v_MOST_STATES
    (case ac_Draft => k_is)
    (case ac_Rulebook => k_is)
    (case ac_InvalidRulebook => k_is)
    (case ac_WrongCounts => k_is)
    (case ac_UnknownName => k_is)
    (case a__law_draws => k_is)
    (case l__law_draws => exact ⟨_, _, _, _, _, _, _, _, _, by k_is, by k_is, by k_is⟩)
    (case a__law_cell => k_is)
    (case l__law_cell => exact ⟨_, _, _, _, _, _, _, _, _, by k_is, by k_is, by k_is⟩)
    (case a__law_pool => k_is)
    (case l__law_pool => exact ⟨_, _, _, _, _, _, _, _, _, by k_is, by k_is, by k_is⟩)
    (case a__law_parts => k_is)
    (case l__law_parts => exact ⟨_, _, _, _, _, _, _, _, _, by k_is, by k_is, by k_is⟩)
    (case a__demand => k_is)
    (case l__demand => exact ⟨_, _, _, _, _, _, _, _, _, by k_is, by k_is, by k_is⟩)
    (case a_Draft___init__ => k_is)
    (case i_Draft___init__ => k_is)
    (case l_Draft___init__ => exact ⟨_, _, _, _, _, _, _, _, _, by k_is, by k_is, by k_is⟩)
    (case a_is_name => k_is)
    (case l_is_name => exact ⟨_, _, _, _, _, _, _, _, _, by k_is, by k_is, by k_is⟩)
    (case a_Draft_add_state => k_is)
    (case i_Draft_add_state => k_is)
    (case l_Draft_add_state => exact ⟨_, _, _, _, _, _, _, _, _, by k_is, by k_is, by k_is⟩)
    (case a_Draft__demand_state => k_is)
    (case i_Draft__demand_state => k_is)
    (case l_Draft__demand_state => exact ⟨_, _, _, _, _, _, _, _, _, by k_is, by k_is, by k_is⟩)
    (case a_Draft_add_input => k_is)
    (case i_Draft_add_input => k_is)
    (case l_Draft_add_input => exact ⟨_, _, _, _, _, _, _, _, _, by k_is, by k_is, by k_is⟩)
    (case a_Draft_add_leader => k_is)
    (case i_Draft_add_leader => k_is)
    (case l_Draft_add_leader => exact ⟨_, _, _, _, _, _, _, _, _, by k_is, by k_is, by k_is⟩)
    (case a_Draft_add_rule => k_is)
    (case i_Draft_add_rule => k_is)
    (case l_Draft_add_rule => exact ⟨_, _, _, _, _, _, _, _, _, by k_is, by k_is, by k_is⟩)
    (case a__drafted => k_is)
    (case l__drafted => exact ⟨_, _, _, _, _, _, _, _, _, by k_is, by k_is, by k_is⟩)
    (case a__partners => k_is)
    (case l__partners => exact ⟨_, _, _, _, _, _, _, _, _, by k_is, by k_is, by k_is⟩)
    (case a_Rulebook___init__ => k_is)
    (case i_Rulebook___init__ => k_is)
    (case l_Rulebook___init__ => exact ⟨_, _, _, _, _, _, _, _, _, by k_is, by k_is, by k_is⟩)
    (case a__law_made => k_is)
    (case l__law_made => exact ⟨_, _, _, _, _, _, _, _, _, by k_is, by k_is, by k_is⟩)
    (case a__law_pick => k_is)
    (case l__law_pick => exact ⟨_, _, _, _, _, _, _, _, _, by k_is, by k_is, by k_is⟩)
    (case a__law_parts_of => k_is)
    (case l__law_parts_of => exact ⟨_, _, _, _, _, _, _, _, _, by k_is, by k_is, by k_is⟩)
    (case I_UnknownName => k_is)
    (case Y_UnknownName => k_is)
    (case l_UnknownName___init__ => exact ⟨_, _, _, _, _, _, _, _, _, _, _, _, _, _, _, _, _, _, rfl, by k_is, by k_is, by k_is, by k_is, by rfl, by decide +kernel, by decide +kernel⟩)
    (case O_UnknownName => exact ⟨⟨_, _, _, _, _, _, _, _, _, _, _, _, _, _, _, by k_is, by rfl⟩, by k_is, by k_is, by k_is, by k_is⟩)
    (case S_UnknownName => exact ⟨by k_is, by first | rfl | (unfold PySem.W.ks_superIn; rfl) | decide +kernel, by k_is, by k_is⟩)
    (case X_UnknownName => exact ⟨by k_is, by k_is, by k_is, by k_is⟩)
    (case N_UnknownName_name => k_is)
    (case a_fixed => k_is)
    (case l_fixed => exact ⟨_, _, _, _, _, _, _, _, _, by k_is, by k_is, by k_is⟩)
    (case a__law_told_fixed => k_is)
    (case l__law_told_fixed => exact ⟨_, _, _, _, _, _, _, _, _, by k_is, by k_is, by k_is⟩)
    (case a_are_counts => k_is)
    (case l_are_counts => exact ⟨_, _, _, _, _, _, _, _, _, by k_is, by k_is, by k_is⟩)
    (case a_Rulebook_first_place => k_is)
    (case i_Rulebook_first_place => k_is)
    (case l_Rulebook_first_place => exact ⟨_, _, _, _, _, _, _, _, _, by k_is, by k_is, by k_is⟩)
    (case a_with_inputs => k_is)
    (case l_with_inputs => exact ⟨_, _, _, _, _, _, _, _, _, by k_is, by k_is, by k_is⟩)
    (case a__law_told_inputs => k_is)
    (case l__law_told_inputs => exact ⟨_, _, _, _, _, _, _, _, _, by k_is, by k_is, by k_is⟩)
    (case a_law => k_is)
    (case l_law => exact ⟨_, _, _, _, _, _, _, _, _, by k_is, by k_is, by k_is⟩)
    (case pg_Draft => k_is)
    (case hd_Draft => k_is)
    (case po_Draft => k_is)
    (case sa_Draft => k_is)
    (case mk_Draft => k_is)
    (case kc_Draft => k_is)
    (case n_Draft_inputs => k_is)
    (case n_Draft_leaders => k_is)
    (case n_Draft_numbers => k_is)
    (case n_Draft_outputs => k_is)
    (case n_Draft_results => k_is)
    (case n_Draft_rules => k_is)
    (case n_Draft_states => k_is)
    (case pg_Rulebook => k_is)
    (case hd_Rulebook => k_is)
    (case po_Rulebook => k_is)
    (case sa_Rulebook => k_is)
    (case mk_Rulebook => k_is)
    (case kc_Rulebook => k_is)
    (case n_Rulebook__numbers => k_is)
    (case n_Rulebook__results => k_is)
    (case n_Rulebook__rows => k_is)
    (case n_Rulebook_inputs => k_is)
    (case n_Rulebook_leaders => k_is)
    (case n_Rulebook_outputs => k_is)
    (case n_Rulebook_rules => k_is)
    (case n_Rulebook_states => k_is)
    (case x_InvalidRulebook => k_exc)
    (case k_InvalidRulebook => k_is)
    (case b_InvalidRulebook => k_is)
    (case t_InvalidRulebook => k_is)
    (case ic_InvalidRulebook => k_is)
    (case s_InvalidRulebook => first | rfl | k_is)
    (case x_WrongCounts => k_exc)
    (case k_WrongCounts => k_is)
    (case b_WrongCounts => k_is)
    (case t_WrongCounts => k_is)
    (case ic_WrongCounts => k_is)
    (case s_WrongCounts => first | rfl | k_is)
    (case k_UnknownName => k_is)
    (case b_UnknownName => k_is)
    (case t_UnknownName => k_is)
    (case ic_UnknownName => k_is)
    (case s_UnknownName => first | rfl | k_is)
    (case s_WrongCounts_UnknownName => first | rfl | k_is)
    (case ne_WrongCounts_UnknownName => decide)
    (case s_InvalidRulebook_UnknownName => first | rfl | k_is)
    (case ne_InvalidRulebook_UnknownName => decide)
    (case s_InvalidRulebook_WrongCounts => first | rfl | k_is)
    (case ne_InvalidRulebook_WrongCounts => decide)
    (case z_all => k_is)
    (case z_dict => k_is)
    (case z_int => k_is)
    (case z_isinstance => k_is)
    (case z_len => k_is)
    (case z_list => k_is)
    (case z_min => k_is)
    (case z_range => k_is)
    (case z_sorted => k_is)
    (case z_str => k_is)
    (case z_super => k_is)
    (case z_tuple => k_is)
    (case z_zip => k_is)
    (case v_DIGITS => k_is)
    (case v_GREATEST_OUTPUT => k_is)
    (case v_LETTERS => k_is)
    (case v_LONGEST_NAME => k_is)
    (case v_MOST_INPUTS => k_is)
    (case v_MOST_LEADERS => k_is)
    (case v_MOST_STATES => k_is)
