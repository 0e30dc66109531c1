import PyProof.Rows.All
import Wide.All
import OpenK.AllK
import Wide.FinOn
import HandS.ForMost
import HandS.ForExc
import HandS.Wide
import HandS.DictTup
import HandS.Conv
import HandS.SortRule
import HandS.TupLe
import HandS.FStr
import HandS.RaiseMore
import HandS.IsInst
import HandS.NoneIn
import HandS.Style
import HandS.Zip
import HandS.Steps
import HandS.Evl
import HandS.TupLen
import HandS.Walk
import HandS.SortKw
import HandS.TryOnly
import HandS.WordsExc
import KE.DatumOrd
import KE.GoesZip
import KE.GoesMore
import KE.KTupSum
import OpenK.KOps
import HandS.TryMany
import HandS.Deep
import HandS.SortInts
import HandS.Codes
import HandS.SetBool
import HandS.Strs
import KE.DatumMore
import KE.DataEq
import KE.GoesEnumKw
import PyProof.Rows.CallKwBuiltin
import PyProof.StrLawsTight
import HandS.TupAny
import HandS.DictComp
import HandS.Defaults
import HandS.MakeKwOnly
import PyProof.TupleOfSeq
import KE.KExcSuper
import HandS.ExcInit
import HandS.Nested
import HandS.ExcField
import HandS.HotCalls
import HandS.TupSets
import PySem.Challenge.RW_mingle_k90_first_maps
set_option Elab.async false
set_option linter.all false
set_option maxRecDepth 100000
set_option maxHeartbeats 2000000
namespace Vf
open PySem L2
/-- a def of the text as it stands behind the top -/
def FunAt (K : PySem.W.Frag) (x qual : Str) (st : Stmt) (f : Addr) : Prop :=
  ∃ (oc : Value) (od : Option Addr) (kV doc pm : Value) (an : Option Addr) (cdv ct : Value) (osl : Array (Option Value)),
    K.lookup f = some ⟨oc, od, .func (PySem.W.fnOf x qual (defArgs st) (defBody st) (defScope st) .none kV doc pm an cdv ct), osl⟩ ∧ PySem.W.codeIn K cdv qual = true ∧ PySem.W.keepIn K (.ref f) = true
theorem FunAt.get {K : PySem.W.Frag} {x qual : Str} {st : Stmt} {f : Addr} (h : FunAt K x qual st f) : ∃ fd, Fun K x qual st f fd := by
  obtain ⟨oc, od, kV, doc, pm, an, cdv, ct, osl, q1, q2, q3⟩ := h
  exact ⟨_, fun_mk q1 q2 q3⟩
/-- what a law promises -/
def spLaw (K : PySem.W.Frag) : Sp := fun vs H Q _ => ∃ (a : Addr) (ns : List Int), vs = [.ref a] ∧ SqL K H a (ns.map V.int) ∧ ns.length ≤ 63 ∧ ∀ H', Q (.bl true) H'
end Vf
namespace Vf
open PySem L2
/-- an own exception class is met by its own clause -/
theorem exm_self {K : PySem.W.Frag} {c : Addr} (b : PySem.W.subIn K (.ref c) (.type "BaseException") = some true) (i : PySem.W.isClsIn K c = true) (t : PySem.W.typeIn K (.ref c) = some (.type "type")) (s : PySem.W.subIn K (.ref c) (.ref c) = some true) :
    PySem.W.exmOne K (.ref c) (.ref c) = some true := by
  unfold PySem.W.isClsIn at i
  simp [PySem.W.exmOne, PySem.W.kitCls, b, i, t, s]
end Vf
namespace Vf
open PySem L2
theorem ite_b {b : Bool} {A B : Prop} (h1 : b = true → A) (h2 : b = false → B) : if b = true then A else B := by
  cases b with
  | true => rw [if_pos rfl]; exact h1 rfl
  | false => rw [if_neg Bool.false_ne_true]; exact h2 rfl
/-- one way after a comparison's answer -/
theorem ite_d {c A B : Prop} [Decidable c] (h1 : c → A) (h2 : ¬ c → B) : if decide c = true then A else B :=
  ite_b (fun h => h1 (of_decide_eq_true h)) (fun h => h2 (of_decide_eq_false h))
theorem Same.new {H H' : Hp} {p : Addr} {o : HO} (e : Same H H') (h : H' p = none) : Same H (upd H' p o) := fun a u q => by
  have q' := e a u q
  rw [upd_ne (ne_of_none q' h)]
  exact q'
theorem Same.chg {H H' : Hp} {p : Addr} {o : HO} (e : Same H H') (h : H p = none) : Same H (upd H' p o) := fun a u q => by
  rw [upd_ne (ne_of_none q h)]
  exact e a u q
theorem Same.seqT {K : PySem.W.Frag} {H H' : Hp} {a : Addr} {xs : List V} (e : Same H H') (h : SqT K H a xs) : SqT K H' a xs := by
  rcases h with (h | ⟨o, h⟩) | h
  · exact .inl (.inl (e _ _ h))
  · exact .inl (.inr ⟨o, e _ _ h⟩)
  · exact .inr h
/-- the i-th of a list of ints -/
theorem int_at {ns : List Int} {i : Int} (h0 : 0 ≤ i) (h1 : i < ns.length) : atI (ns.map V.int) i = some (V.int (ns.getD i.toNat 0)) := by
  obtain ⟨j, rfl⟩ : ∃ j : Nat, i = (j : Int) := ⟨i.toNat, by omega⟩
  have hj : j < ns.length := by omega
  refine atI_nat ?_
  rw [List.getElem?_map, List.getElem?_eq_getElem hj]
  simp [List.getD, List.getElem?_eq_getElem hj]
theorem getD_mem {α : Type} {xs : List α} {j : Nat} {d : α} (h : j < xs.length) : xs.getD j d ∈ xs := by
  rw [List.getD_eq_getElem?_getD, List.getElem?_eq_getElem h]
  exact List.getElem_mem h
/-- a new list of ints -/
def NewInts (H : Hp) (Q : VK) (ok : List Int → Prop) : Prop := ∀ (p : Addr) (H' : Hp) (ds : List Int), H p = none → Same H H' → H' p = some (.lst (ds.map V.int)) → ok ds → Q (.ref p) H'
end Vf
namespace Vf
open PySem L2
section
variable {c : TT} {t1 t2 : TS} {D : Ends} {σ : L2.St} {H : Hp}
theorem st_if {b : Bool} (h : Ans c σ H b) (h1 : b = true → t1 D σ H) (h2 : b = false → t2 D σ H) : tIfS c t1 t2 D σ H := h _ (ite_b h1 h2)
end
end Vf
namespace Vf
theorem mod_w {x m : Int} (h : 0 < m) (h2 : m ≤ 2 ^ 64) : -(2 ^ 64) < x % m ∧ x % m < 2 ^ 64 := by
  have a := Int.emod_nonneg x (show m ≠ 0 by omega)
  have b := Int.emod_lt_of_pos x h
  exact ⟨by omega, by omega⟩
end Vf
namespace Vf
open PySem L2
section
variable {J : It} {n : Nat} {G : Hp → Prop} {Y : Nat → Hp → V → Hp → Prop} {g : TG} {te : TE} {vs : List Nat} {σ : L2.St} {H1 : Hp} {D : Addr} {Qd : Hp → Prop}
/-- a comprehension without tests: P of each made item, not of the list itself -/
theorem lc_rel (w : Walk J n G Y) (P : Nat → V → Hp → Prop) (hD : H1 D = none) (hP : ∀ i y H H' acc, H D = some (.lst acc) → (∀ a o, a ≠ D → H a = some o → H' a = some o) → P i y H → P i y H') (hn : n ≤ 1000000)
    (hG : ∀ H, Same H1 H → G H)
    (hs : ∀ i x H H' acc, i < n → Same H1 H → H D = some (.lst acc) → Y i H x H' → ∀ Q' : VK, (∀ y H4, Same H H4 → P i y H4 → Q' y H4) → g x (wipe σ vs) H' fun σ2 H2 => wipe σ2 vs = wipe σ vs ∧ te σ2 H2 Q')
    (hd : ∀ xs H, xs.length = n → Same H1 H → H D = some (.lst xs) → (∀ i y, xs[i]? = some y → P i y H) → Qd H) :
    ∃ W : Nat → Nat → Hp → Prop, (∃ m, W 0 m (upd H1 D (.lst []))) ∧ ∀ i m H, W i m H →
      (J.stop i H ∧ Qd H) ∨ (J.go i H ∧ ∃ Nx : Hp → Prop, (∀ H', Nx H' → ∃ m', m' < m ∧ W (i + 1) m' H') ∧ ∀ x H', J.yld i H x H' → g x (wipe σ vs) H' fun σ2 H2 => wipe σ2 vs = wipe σ vs ∧ tYes σ2 H2 fun b H3 =>
        if b = true then te σ2 H3 fun y H4 => ∃ acc, H4 D = some (.lst acc) ∧ acc.length < sizeLine ∧ Nx (upd H4 D (.lst (acc ++ [y]))) else Nx H3) := by
  refine lc_it w (fun i H => ∃ acc, H D = some (.lst acc) ∧ acc.length = i ∧ Same H1 H ∧ ∀ j y, acc[j]? = some y → P j y H) ⟨[], upd_same, rfl, Vf.Same.new (Same.refl H1) hD, fun j y h => by simp at h⟩ (fun i H _ ⟨_, _, _, s, _⟩ => hG H s) ?_ ?_
  · rintro i x H H' hi ⟨acc, hl, rfl, s, hp⟩ hy
    have key := hs acc.length x H H' acc hi s hl hy (fun y H4 => ∃ acc', H4 D = some (.lst acc') ∧ acc'.length < sizeLine ∧ ∃ a', (upd H4 D (.lst (acc' ++ [y]))) D = some (.lst a') ∧ a'.length = acc.length + 1 ∧ Same H1 (upd H4 D (.lst (acc' ++ [y]))) ∧ ∀ j z, a'[j]? = some z → P j z (upd H4 D (.lst (acc' ++ [y])))) fun y H4 s4 py => ?_
    · exact key
    · have h4 := s4 _ _ hl
      refine ⟨acc, h4, Nat.lt_of_le_of_lt (show acc.length ≤ 1000000 by omega) (by decide), acc ++ [y], upd_same, by simp, Vf.Same.chg (s.trans s4) hD, fun j z hz => ?_⟩
      have up : ∀ a o, a ≠ D → H4 a = some o → (upd H4 D (.lst (acc ++ [y]))) a = some o := fun a o ne e => by rw [upd_ne ne]; exact e
      by_cases hj : j < acc.length
      · rw [List.getElem?_append_left hj] at hz
        exact hP j z _ _ _ h4 up (hP j z _ _ _ hl (fun a o _ e => s4 a o e) (hp j z hz))
      · rw [List.getElem?_append_right (by omega)] at hz
        have e0 : j - acc.length = 0 := by
          cases q : j - acc.length with
          | zero => rfl
          | succ m => rw [q] at hz; simp at hz
        rw [e0] at hz
        have ez : y = z := Option.some.inj hz
        subst ez
        have ej : j = acc.length := by omega
        subst ej
        exact hP _ _ _ _ _ h4 up py
  · rintro H ⟨acc, hl, hn', s, hp⟩
    exact hd acc H hn' s hl hp
/-- .. the items plain values -/
theorem lc_val (w : Walk J n G Y) (f : Nat → V) (hD : H1 D = none) (hn : n ≤ 1000000) (hG : ∀ H, Same H1 H → G H)
    (hs : ∀ i x H H', i < n → Same H1 H → Y i H x H' → ∀ Q' : VK, (∀ H4, Same H H4 → Q' (f i) H4) → g x (wipe σ vs) H' fun σ2 H2 => wipe σ2 vs = wipe σ vs ∧ te σ2 H2 Q')
    (hd : ∀ H, Same H1 H → H D = some (.lst ((List.range n).map f)) → Qd H) :
    ∃ W : Nat → Nat → Hp → Prop, (∃ m, W 0 m (upd H1 D (.lst []))) ∧ ∀ i m H, W i m H →
      (J.stop i H ∧ Qd H) ∨ (J.go i H ∧ ∃ Nx : Hp → Prop, (∀ H', Nx H' → ∃ m', m' < m ∧ W (i + 1) m' H') ∧ ∀ x H', J.yld i H x H' → g x (wipe σ vs) H' fun σ2 H2 => wipe σ2 vs = wipe σ vs ∧ tYes σ2 H2 fun b H3 =>
        if b = true then te σ2 H3 fun y H4 => ∃ acc, H4 D = some (.lst acc) ∧ acc.length < sizeLine ∧ Nx (upd H4 D (.lst (acc ++ [y]))) else Nx H3) := by
  refine lc_rel w (fun i y _ => y = f i) hD (fun i y H H' acc _ _ h => h) hn hG (fun i x H H' acc hi s _ hy Q' q => hs i x H H' hi s hy Q' fun H4 s4 => q _ H4 s4 rfl) fun xs H hl s hx hp => hd H s ?_
  rw [hx]
  congr 2
  apply List.ext_getElem?
  intro i
  cases e : xs[i]? with
  | none =>
    have := List.getElem?_eq_none_iff.mp e
    rw [List.getElem?_eq_none (by simp; omega)]
  | some y =>
    have hi := (List.getElem?_eq_some_iff.mp e).1
    rw [List.getElem?_map, List.getElem?_range (by omega)]
    rw [hp i y e]
    rfl
end
end Vf
namespace Vf
open PySem L2
theorem upd_none {H : Hp} {a b : Addr} {o : HO} (h : upd H a o b = none) : b ≠ a ∧ H b = none := by
  by_cases e : b = a
  · subst e
    rw [upd_same] at h
    cases h
  · rw [upd_ne e] at h
    exact ⟨e, h⟩
end Vf
namespace Vf
open PySem L2
theorem chain_le {tc : TE} {σ : L2.St} {H : Hp} {Q : VK} {lo x hi : Int} (hc : ∀ R : VK, R (.int hi) H → tc σ H R) (h : Q (.bl (decide (lo ≤ x ∧ x ≤ hi))) H) :
    (rI0 fun i j => .bl (decide (i ≤ j))) (.int lo) (.int x) H (fun z H3 => ∃ k, z = .bl k ∧ (if k = true then tc σ H3 fun w' H4 => (rI0 fun i j => .bl (decide (i ≤ j))) (.int x) w' H4 Q else Q (.bl false) H3)) := by
  refine ⟨_, _, rfl, rfl, _, rfl, ?_⟩
  by_cases h1 : lo ≤ x
  · rw [decide_eq_true h1]
    refine iteT (hc _ ⟨_, _, rfl, rfl, ?_⟩)
    have e : decide (lo ≤ x ∧ x ≤ hi) = decide (x ≤ hi) := by simp [h1]
    rw [e] at h
    exact h
  · rw [decide_eq_false h1]
    have e : decide (lo ≤ x ∧ x ≤ hi) = false := by simp [h1]
    rw [e] at h
    exact iteF h
end Vf
namespace Vf
open PySem L2
theorem tyL {K : PySem.W.Frag} {H : Hp} {a : Addr} {xs : List V} (h : H a = some (.lst xs)) : tyV K "list" (.ref a) H := .inl ⟨rfl, _, SqL.of h⟩
end Vf
namespace Vf
open PySem L2
/-! rules whose readings name the written part by a letter (within a comprehension) -/
section
variable {X : Cx} {K : PySem.W.Frag}
theorem ix_listK (h : X.K = K) : IxR X (rIxL K) := by
  subst h
  exact ix_list
theorem ix_tupK (h : X.K = K) : IxR X (rIxT K) := by
  subst h
  exact ix_tup
theorem pe_fldK {e : Expr} {ta : TE} {f : Str} {pos : Pos} (h : X.K = K) (he : PE X e ta) (hb : attributeBase e f X.env (eval e X.env) = eval e X.env) : PE X (.Attribute e f pos) (tFld K ta f) := by
  subst h
  exact pe_fld he hb
theorem call_len_seqK (h : X.K = K) : CallR X (.builtin "len") (fun xs H Q => ∃ p ys, xs = [.ref p] ∧ (SqL K H p ys ∨ SqT K H p ys) ∧ Q (.int ys.length) H) := by
  subst h
  exact call_len_seq
theorem call_tuple_ofK (h : X.K = K) : CallR X (.type "tuple") (fun xs H Q => ∃ p ys, xs = [.ref p] ∧ ((SqL K H p ys ∧ ∀ l, H l = none → Q (.ref l) (upd H l (.tup ys))) ∨ (SqT K H p ys ∧ Q (.ref p) H))) := by
  subst h
  exact call_tuple_of
end
end Vf
namespace Vf
open PySem L2
/-- an f-string's reading, by a name -/
def tJoin (ts : List TE) : TE := fun σ H Q => tJs ts Str.empty σ H fun out H1 => Q (.str out) H1
theorem pe_join {X : Cx} {v1 v2 : Expr} {rest : List Expr} {ts : List TE} {pos : Pos} (h : PJ X (v1 :: v2 :: rest) ts) : PE X (.JoinedStr (v1 :: v2 :: rest) pos) (tJoin ts) := pe_joined h
end Vf

namespace Vf
open PySem L2
/-! ### texts -/
theorem num_len {i : Int} (h : i.natAbs.log2 < 1920) : (Str.ofString (toString i)).length ≤ 2000 := by
  have e := int_text_length_le (k := 1920) (by decide) h
  rw [ofString_length]
  omega
theorem len2 {a b : Str} {m n k : Nat} (ha : a.length ≤ m) (hb : b.length ≤ n) (h : m + n ≤ k) : (a ++ b).length ≤ k := by
  rw [Str.length_append]
  omega
theorem len0 : Str.empty.length ≤ 0 := Nat.le_refl _
theorem line {n : Nat} (h : n ≤ 10000000) : n ≤ sizeLine := Nat.le_trans h (by decide)
theorem fits {s : Str} {n : Nat} (h : s.length ≤ n) (hn : n ≤ 10000000) : s.length ≤ sizeLine := Nat.le_trans h (line hn)
/-- point 3 -/
def lowC (c : Nat) : Bool := decide (97 ≤ c ∧ c ≤ 122)
def digC (c : Nat) : Bool := decide (48 ≤ c ∧ c ≤ 57)
def isNameL (l : List Nat) : Bool := decide (1 ≤ l.length) && decide (l.length ≤ 12) && l.head?.any lowC && l.all fun c => lowC c || digC c
def isName (s : Str) : Bool := isNameL s.cps.toList
theorem isNameL_bad {l : List Nat} (h : (!(decide ((1 : Int) ≤ (l.length : Int)) && decide ((l.length : Int) ≤ 12))) = true) : isNameL l = false := by
  unfold isNameL
  by_cases h1 : 1 ≤ l.length
  · by_cases h2 : l.length ≤ 12
    · exfalso
      rw [decide_eq_true (show (1 : Int) ≤ (l.length : Int) by omega), decide_eq_true (show (l.length : Int) ≤ 12 by omega)] at h
      cases h
    · rw [decide_eq_false h2]
      simp
  · rw [decide_eq_false h1]
    simp
theorem isNameL_ok {l : List Nat} (h : (!(decide ((1 : Int) ≤ (l.length : Int)) && decide ((l.length : Int) ≤ 12))) = false) : ∃ c r, l = c :: r ∧ isNameL l = (lowC c && l.all fun c => lowC c || digC c) := by
  rw [Bool.not_eq_false', Bool.and_eq_true, decide_eq_true_eq, decide_eq_true_eq] at h
  cases l with
  | nil => simp at h
  | cons c r =>
    refine ⟨c, r, rfl, ?_⟩
    unfold isNameL
    rw [decide_eq_true (show 1 ≤ (c :: r).length by simp), decide_eq_true (show (c :: r).length ≤ 12 by omega)]
    simp
theorem name_any (l : List Nat) (n : Nat) (h : n = l.length) : ((List.range n).map fun i => lowC (l.getD i 0) || digC (l.getD i 0)).all id = l.all fun c => lowC c || digC c := by
  subst h
  have e3 : (List.range l.length).map (fun i => l.getD i 0) = l := by
    apply List.ext_getElem?
    intro i
    rw [List.getElem?_map]
    by_cases hi : i < l.length
    · rw [List.getElem?_range hi, List.getElem?_eq_getElem hi]
      simp [List.getD, hi]
    · rw [List.getElem?_eq_none (by simp; omega), List.getElem?_eq_none (by omega)]
      rfl
  rw [show (fun i => lowC (l.getD i 0) || digC (l.getD i 0)) = (fun c => lowC c || digC c) ∘ fun i => l.getD i 0 from rfl, ← List.map_map, e3, List.all_map]
  rfl
def LETTERS : Str := "abcdefghijklmnopqrstuvwxyz"
def DIGITS : Str := "0123456789"
theorem letters_eq : LETTERS.cps.toList = (List.range 26).map (· + 97) := by decide +kernel
theorem digits_eq : DIGITS.cps.toList = (List.range 10).map (· + 48) := by decide +kernel
theorem in_letters (c : Nat) : decide (c ∈ LETTERS.cps.toList) = lowC c := by
  rw [letters_eq, lowC, Bool.eq_iff_iff, decide_eq_true_iff, decide_eq_true_iff, List.mem_map]
  constructor
  · rintro ⟨a, h, rfl⟩
    rw [List.mem_range] at h
    omega
  · intro h
    exact ⟨c - 97, List.mem_range.mpr (by omega), by omega⟩
theorem in_digits (c : Nat) : decide (c ∈ DIGITS.cps.toList) = digC c := by
  rw [digits_eq, digC, Bool.eq_iff_iff, decide_eq_true_iff, decide_eq_true_iff, List.mem_map]
  constructor
  · rintro ⟨a, h, rfl⟩
    rw [List.mem_range] at h
    omega
  · intro h
    exact ⟨c - 48, List.mem_range.mpr (by omega), by omega⟩
theorem name_len {s : Str} (h : isName s = true) : s.length ≤ 12 := by
  unfold isName isNameL at h
  simp only [Bool.and_eq_true, decide_eq_true_eq] at h
  show s.cps.size ≤ 12
  have := h.1.1.2
  simpa using this

/-! ### lists of tuples -/
/-- a list of new tuples of the parts -/
def Tups {α : Type} (enc : α → List V) (H : Hp) (xs : List V) (l : List α) : Prop := xs.length = l.length ∧ ∀ (i : Nat) (a : α), l[i]? = some a → ∃ t, xs[i]? = some (.ref t) ∧ H t = some (.tup (enc a))
section
variable {α : Type} {enc : α → List V} {H H' : Hp} {xs : List V} {l : List α}
theorem Tups.nil : Tups enc H [] [] := ⟨rfl, fun i a h => by simp at h⟩
theorem Tups.mono (h : Tups enc H xs l) (k : ∀ t ys, H t = some (.tup ys) → H' t = some (.tup ys)) : Tups enc H' xs l := ⟨h.1, fun i a e => by
  obtain ⟨t, h1, h2⟩ := h.2 i a e
  exact ⟨t, h1, k _ _ h2⟩⟩
theorem Tups.same (h : Tups enc H xs l) (e : Same H H') : Tups enc H' xs l := h.mono fun t ys => e t _
theorem Tups.snoc (h : Tups enc H xs l) {t : Addr} {a : α} (ht : H t = some (.tup (enc a))) : Tups enc H (xs ++ [.ref t]) (l ++ [a]) := by
  refine ⟨by simp [h.1], fun i b e => ?_⟩
  by_cases hi : i < l.length
  · rw [List.getElem?_append_left hi] at e
    obtain ⟨u, h1, h2⟩ := h.2 i b e
    exact ⟨u, by rw [List.getElem?_append_left (by rw [h.1]; exact hi)]; exact h1, h2⟩
  · rw [List.getElem?_append_right (by omega)] at e
    have z : i - l.length = 0 := by
      cases q : i - l.length with
      | zero => rfl
      | succ n => rw [q] at e; simp at e
    rw [z] at e
    have ea : a = b := Option.some.inj e
    subst ea
    exact ⟨t, by rw [List.getElem?_append_right (by rw [h.1]; omega), h.1, z]; rfl, ht⟩
theorem Tups.get (h : Tups enc H xs l) {i : Nat} {x : V} (e : xs[i]? = some x) : ∃ a t, l[i]? = some a ∧ x = .ref t ∧ H t = some (.tup (enc a)) := by
  have hi := (List.getElem?_eq_some_iff.mp e).1
  have hl : i < l.length := by rw [← h.1]; exact hi
  obtain ⟨t, h1, h2⟩ := h.2 i l[i] (List.getElem?_eq_getElem hl)
  rw [e] at h1
  exact ⟨l[i], t, List.getElem?_eq_getElem hl, Option.some.inj h1, h2⟩
end
abbrev S4 := Str × Str × Str × Str
def enc2 (p : Str × Str) : List V := [.str p.1, .str p.2]
def enc4 (r : S4) : List V := [.str r.1, .str r.2.1, .str r.2.2.1, .str r.2.2.2]

/-! ### names numbered -/
/-- the pairs of the dict of numbers -/
def numK (st : List Str) : List (Key × V) := st.zipIdx.map fun p => (Sum.inr p.1, V.int (p.2 : Int))
theorem numK_snoc (st : List Str) (s : Str) : numK (st ++ [s]) = numK st ++ [(Sum.inr s, V.int (st.length : Int))] := by
  unfold numK
  rw [List.zipIdx_append, List.map_append]
  simp
theorem numK_len (st : List Str) : (numK st).length = st.length := by
  unfold numK
  simp
theorem valV_app {κ : Type} [DecidableEq κ] (k : κ) (b : List (κ × V)) : ∀ a : List (κ × V), valV (a ++ b) k = (valV a k).or (valV b k)
  | [] => by simp [valV]
  | p :: r => by
    by_cases e : p.1 = k
    · rw [List.cons_append, valV_pos e, valV_pos e]
      rfl
    · rw [List.cons_append, valV_neg e, valV_neg e, valV_app k b r]
theorem num_val_from : ∀ (st : List Str) (n : Nat) (s : Str), valV ((st.zipIdx n).map fun p => ((Sum.inr p.1 : Key), V.int (p.2 : Int))) (Sum.inr s) = if s ∈ st then some (V.int ((n + st.idxOf s : Nat) : Int)) else none
  | [], n, s => rfl
  | t :: st, n, s => by
    rw [List.zipIdx_cons, List.map_cons]
    by_cases e : t = s
    · subst e
      rw [valV_pos rfl, if_pos List.mem_cons_self, List.idxOf_cons_self]
      rfl
    · rw [valV_neg (by intro z; exact e (Sum.inr.inj z)), num_val_from st (n + 1) s]
      have e' : (t == s) = false := by simpa using e
      by_cases hm : s ∈ st
      · rw [if_pos hm, if_pos (List.mem_cons_of_mem _ hm), List.idxOf_cons, e']
        simp only [cond_false]
        congr 3
        omega
      · rw [if_neg hm, if_neg (by simp [hm, Ne.symm e])]
theorem num_val (st : List Str) (s : Str) : valV (numK st) (Sum.inr s) = if s ∈ st then some (V.int (st.idxOf s : Int)) else none := by
  have h := num_val_from st 0 s
  simpa [numK] using h
end Vf
namespace Vf
open PySem L2
/-! ### a draft of a protocol -/
structure DA where
  ls : Addr
  li : Addr
  ll : Addr
  lr : Addr
  lo : Addr
  dn : Addr
  dr : Addr
structure DD where
  st : List Str
  ins : List (Str × Str)
  ld : List Str
  ru : List S4
  ou : List Int
def DD.nil : DD := ⟨[], [], [], [], []⟩
def DA.foot (a : DA) : List Addr := [a.ls, a.li, a.ll, a.lr, a.lo, a.dn, a.dr]
def dFs (a : DA) : List (Str × V) := [("states", .ref a.ls), ("inputs", .ref a.li), ("leaders", .ref a.ll), ("rules", .ref a.lr), ("outputs", .ref a.lo), ("numbers", .ref a.dn), ("results", .ref a.dr)]
theorem dFs_new (a : DA) : putF "results" (.ref a.dr) (putF "numbers" (.ref a.dn) (putF "outputs" (.ref a.lo) (putF "rules" (.ref a.lr) (putF "leaders" (.ref a.ll) (putF "inputs" (.ref a.li) (putF "states" (.ref a.ls) [])))))) = dFs a := by rfl
def ix (st : List Str) (s : Str) : Int := (st.idxOf s : Int)
def ruKey (st : List Str) (r : S4) : List Key := [Sum.inl (ix st r.1), Sum.inl (ix st r.2.1)]
def encR (st : List Str) (r : S4) : List V := [.int (ix st r.2.2.1), .int (ix st r.2.2.2)]
/-- the dict of the results of rules -/
structure Res (H : Hp) (st : List Str) (ru : List S4) (kvs : List (List Key × V)) : Prop where
  keys : kvs.map (·.1) = ru.map (ruKey st)
  vals : Tups (encR st) H (kvs.map (·.2)) ru
structure DraftAt (C : Addr) (H : Hp) (p : Addr) (a : DA) (D : DD) : Prop where
  ob : ∃ dx, H p = some (.ins C dx (dFs a))
  ls : H a.ls = some (.lst (D.st.map V.str))
  li : ∃ xs, H a.li = some (.lst xs) ∧ Tups enc2 H xs D.ins
  ll : H a.ll = some (.lst (D.ld.map V.str))
  lr : ∃ xs, H a.lr = some (.lst xs) ∧ Tups enc4 H xs D.ru
  lo : H a.lo = some (.lst (D.ou.map V.int))
  dn : H a.dn = some (.dK (numK D.st))
  dr : ∃ kvs, H a.dr = some (.dT kvs) ∧ Res H D.st D.ru kvs
  nd : [a.ls, a.li, a.ll, a.lr, a.lo].Nodup
/-- all but these objects are as they were -/
def Keep (S : List Addr) (H H' : Hp) : Prop := ∀ b o, b ∉ S → H b = some o → H' b = some o
theorem Keep.refl {S : List Addr} (H : Hp) : Keep S H H := fun _ _ _ h => h
theorem Keep.trans {S : List Addr} {H H1 H2 : Hp} (a : Keep S H H1) (b : Keep S H1 H2) : Keep S H H2 := fun c o n h => b c o n (a c o n h)
theorem Keep.of {S : List Addr} {H H' : Hp} (e : Same H H') : Keep S H H' := fun b o _ h => e b o h
theorem Keep.put {S : List Addr} {H H' : Hp} {p : Addr} {o : HO} (e : Keep S H H') (h : p ∈ S) : Keep S H (upd H' p o) := fun b u n q => by
  have ne : b ≠ p := fun z => n (by rw [z]; exact h)
  rw [upd_ne ne]
  exact e b u n q
theorem Tups.keep {α : Type} {enc : α → List V} {S : List Addr} {H H' : Hp} {xs : List V} {l : List α} (h : Tups enc H xs l) (k : Keep S H H') (n : ∀ t ys, H t = some (.tup ys) → t ∉ S) : Tups enc H' xs l := h.mono fun t ys e => k t _ (n t ys e) e
section
variable {C : Addr} {H H' : Hp} {p : Addr} {a : DA} {D : DD}
theorem DraftAt.notup (S : DraftAt C H p a D) (t : Addr) (ys : List V) (h : H t = some (.tup ys)) : t ∉ a.foot := by
  obtain ⟨_, h1, _⟩ := S.li
  obtain ⟨_, h2, _⟩ := S.lr
  obtain ⟨_, h3, _⟩ := S.dr
  intro m
  simp only [DA.foot, List.mem_cons, List.not_mem_nil, or_false] at m
  rcases m with rfl | rfl | rfl | rfl | rfl | rfl | rfl
  · rw [S.ls] at h; cases h
  · rw [h1] at h; cases h
  · rw [S.ll] at h; cases h
  · rw [h2] at h; cases h
  · rw [S.lo] at h; cases h
  · rw [S.dn] at h; cases h
  · rw [h3] at h; cases h
theorem Res.same {st : List Str} {ru : List S4} {kvs : List (List Key × V)} (h : Res H st ru kvs) (k : ∀ t ys, H t = some (.tup ys) → H' t = some (.tup ys)) : Res H' st ru kvs := ⟨h.keys, h.vals.mono k⟩
theorem DraftAt.same (S : DraftAt C H p a D) (e : Same H H') : DraftAt C H' p a D := by
  obtain ⟨dx, h0⟩ := S.ob
  obtain ⟨_, h1, t1⟩ := S.li
  obtain ⟨_, h2, t2⟩ := S.lr
  obtain ⟨_, h3, t3⟩ := S.dr
  exact ⟨⟨dx, e _ _ h0⟩, e _ _ S.ls, ⟨_, e _ _ h1, t1.same e⟩, e _ _ S.ll, ⟨_, e _ _ h2, t2.same e⟩, e _ _ S.lo, e _ _ S.dn, ⟨_, e _ _ h3, t3.same fun t ys => e t _⟩, S.nd⟩
end
end Vf
namespace Vf
open PySem L2
section
variable {C : Addr} {H H' : Hp} {p : Addr} {a : DA} {D D' : DD}
/-- all of its objects are different ones -/
structure Dist (p : Addr) (a : DA) : Prop where
  pa : p ≠ a.ls
  pb : p ≠ a.li
  pc : p ≠ a.ll
  pd : p ≠ a.lr
  pe : p ≠ a.lo
  pf : p ≠ a.dn
  pg : p ≠ a.dr
  ab : a.ls ≠ a.li
  ac : a.ls ≠ a.ll
  ad : a.ls ≠ a.lr
  ae : a.ls ≠ a.lo
  af : a.ls ≠ a.dn
  ag : a.ls ≠ a.dr
  bc : a.li ≠ a.ll
  bd : a.li ≠ a.lr
  be : a.li ≠ a.lo
  bf : a.li ≠ a.dn
  bg : a.li ≠ a.dr
  cd : a.ll ≠ a.lr
  ce : a.ll ≠ a.lo
  cf : a.ll ≠ a.dn
  cg : a.ll ≠ a.dr
  de : a.lr ≠ a.lo
  df : a.lr ≠ a.dn
  dg : a.lr ≠ a.dr
  ef : a.lo ≠ a.dn
  eg : a.lo ≠ a.dr
  fg : a.dn ≠ a.dr
theorem DraftAt.dist (S : DraftAt C H p a D) : Dist p a := by
  obtain ⟨_, h0⟩ := S.ob
  obtain ⟨_, h1, _⟩ := S.li
  obtain ⟨_, h2, _⟩ := S.lr
  obtain ⟨_, h3, _⟩ := S.dr
  have n := S.nd
  simp only [List.nodup_cons, List.mem_cons, List.not_mem_nil, or_false, not_or, not_false_eq_true, List.nodup_nil, and_true] at n
  obtain ⟨⟨n1, n2, n3, n4⟩, ⟨n5, n6, n7⟩, ⟨n8, n9⟩, n10⟩ := n
  refine ⟨ne_of h0 S.ls ?_, ne_of h0 h1 ?_, ne_of h0 S.ll ?_, ne_of h0 h2 ?_, ne_of h0 S.lo ?_, ne_of h0 S.dn ?_, ne_of h0 h3 ?_, n1, n2, n3, n4, ne_of S.ls S.dn ?_, ne_of S.ls h3 ?_, n5, n6, n7, ne_of h1 S.dn ?_, ne_of h1 h3 ?_, n8, n9, ne_of S.ll S.dn ?_, ne_of S.ll h3 ?_, n10, ne_of h2 S.dn ?_, ne_of h2 h3 ?_, ne_of S.lo S.dn ?_, ne_of S.lo h3 ?_, ne_of S.dn h3 ?_⟩ <;> (intro z; cases z)
theorem Dist.pn (d : Dist p a) : p ∉ a.foot := by
  intro m
  simp only [DA.foot, List.mem_cons, List.not_mem_nil, or_false] at m
  rcases m with m | m | m | m | m | m | m
  · exact d.pa m
  · exact d.pb m
  · exact d.pc m
  · exact d.pd m
  · exact d.pe m
  · exact d.pf m
  · exact d.pg m
theorem DraftAt.next (S : DraftAt C H p a D) (k : Keep a.foot H H') (ls : H' a.ls = some (.lst (D'.st.map V.str))) (li : ∃ xs, H' a.li = some (.lst xs) ∧ Tups enc2 H' xs D'.ins) (ll : H' a.ll = some (.lst (D'.ld.map V.str)))
    (lr : ∃ xs, H' a.lr = some (.lst xs) ∧ Tups enc4 H' xs D'.ru) (lo : H' a.lo = some (.lst (D'.ou.map V.int))) (dn : H' a.dn = some (.dK (numK D'.st))) (dr : ∃ kvs, H' a.dr = some (.dT kvs) ∧ Res H' D'.st D'.ru kvs) : DraftAt C H' p a D' := by
  obtain ⟨dx, h0⟩ := S.ob
  exact ⟨⟨dx, k p _ S.dist.pn h0⟩, ls, li, ll, lr, lo, dn, dr, S.nd⟩
theorem DraftAt.li' (S : DraftAt C H p a D) (k : Keep a.foot H H') (e : H' a.li = H a.li) : ∃ xs, H' a.li = some (.lst xs) ∧ Tups enc2 H' xs D.ins := by
  obtain ⟨xs, h, t⟩ := S.li
  exact ⟨xs, e.trans h, t.keep k S.notup⟩
theorem DraftAt.lr' (S : DraftAt C H p a D) (k : Keep a.foot H H') (e : H' a.lr = H a.lr) : ∃ xs, H' a.lr = some (.lst xs) ∧ Tups enc4 H' xs D.ru := by
  obtain ⟨xs, h, t⟩ := S.lr
  exact ⟨xs, e.trans h, t.keep k S.notup⟩
theorem DraftAt.dr' (S : DraftAt C H p a D) (k : Keep a.foot H H') (e : H' a.dr = H a.dr) : ∃ kvs, H' a.dr = some (.dT kvs) ∧ Res H' D.st D.ru kvs := by
  obtain ⟨xs, h, t⟩ := S.dr
  exact ⟨xs, e.trans h, t.same fun u ys z => k u _ (S.notup u ys z) z⟩
end
theorem cat {a b : Str} {m n : Nat} (ha : a.length ≤ m) (hb : b.length ≤ n) : (a ++ b).length ≤ m + n := len2 ha hb (Nat.le_refl _)
theorem lit {a : Str} (h : decide (a.length ≤ 200) = true) : a.length ≤ 200 := of_decide_eq_true h
/-! ### what may be added (point 4) -/
def DD.okState (D : DD) (name : Str) (output : Int) : Bool := decide (D.st.length < 400) && isName name && decide (name ∉ D.st) && decide (0 ≤ output ∧ output ≤ 9)
def DD.addState (D : DD) (name : Str) (output : Int) : DD := { D with st := D.st ++ [name], ou := D.ou ++ [output] }
def DD.okInput (D : DD) (p : Str × Str) : Bool := decide (D.ins.length < 8) && isName p.1 && decide (p.1 ∉ D.ins.map (·.1)) && decide (p.2 ∈ D.st)
def DD.addInput (D : DD) (p : Str × Str) : DD := { D with ins := D.ins ++ [p] }
def DD.okLeader (D : DD) (s : Str) : Bool := decide (D.ld.length < 10) && decide (s ∈ D.st)
def DD.addLeader (D : DD) (s : Str) : DD := { D with ld := D.ld ++ [s] }
def DD.okRule (D : DD) (r : S4) : Bool := decide (r.1 ∈ D.st) && decide (r.2.1 ∈ D.st) && decide (r.2.2.1 ∈ D.st) && decide (r.2.2.2 ∈ D.st) && decide ((r.1, r.2.1) ∉ D.ru.map fun x => (x.1, x.2.1))
def DD.addRule (D : DD) (r : S4) : DD := { D with ru := D.ru ++ [r] }
end Vf
namespace Vf
open PySem L2
abbrev Sm (s : Str) : Prop := s.length ≤ 1000000
theorem sm_lit {a : Str} (h : decide (a.length ≤ 200) = true) : Sm a := Nat.le_trans (of_decide_eq_true h) (by decide)
theorem sm_num {i : Int} (h : i.natAbs.log2 < 1920) : Sm (Str.ofString (toString i)) := Nat.le_trans (num_len h) (by decide)
theorem fit0 {k : Nat} {s : Str} (h : s.length ≤ k * 1000000) (hk : k ≤ 16) : s.length ≤ sizeLine := Nat.le_trans h (by rw [sizeLine_eq]; omega)
theorem fit1 {a : Str} (ha : Sm a) : (Str.empty ++ a).length ≤ sizeLine := by
  refine fit0 (k := 1) ?_ (by decide)
  simp only [Str.length_append, Sm] at *
  have h0 : Str.empty.length = 0 := rfl
  omega
theorem fit2 {a b : Str} (ha : Sm a) (hb : Sm b) : ((Str.empty ++ a) ++ b).length ≤ sizeLine := by
  refine fit0 (k := 2) ?_ (by decide)
  simp only [Str.length_append, Sm] at *
  have h0 : Str.empty.length = 0 := rfl
  omega
theorem fit3 {a b c : Str} (ha : Sm a) (hb : Sm b) (hc : Sm c) : (((Str.empty ++ a) ++ b) ++ c).length ≤ sizeLine := by
  refine fit0 (k := 3) ?_ (by decide)
  simp only [Str.length_append, Sm] at *
  have h0 : Str.empty.length = 0 := rfl
  omega
theorem fit4 {a b c d : Str} (ha : Sm a) (hb : Sm b) (hc : Sm c) (hd : Sm d) : ((((Str.empty ++ a) ++ b) ++ c) ++ d).length ≤ sizeLine := by
  refine fit0 (k := 4) ?_ (by decide)
  simp only [Str.length_append, Sm] at *
  have h0 : Str.empty.length = 0 := rfl
  omega
theorem fit5 {a b c d e : Str} (ha : Sm a) (hb : Sm b) (hc : Sm c) (hd : Sm d) (he : Sm e) : (((((Str.empty ++ a) ++ b) ++ c) ++ d) ++ e).length ≤ sizeLine := by
  refine fit0 (k := 5) ?_ (by decide)
  simp only [Str.length_append, Sm] at *
  have h0 : Str.empty.length = 0 := rfl
  omega
theorem fit6 {a b c d e f : Str} (ha : Sm a) (hb : Sm b) (hc : Sm c) (hd : Sm d) (he : Sm e) (hf : Sm f) : ((((((Str.empty ++ a) ++ b) ++ c) ++ d) ++ e) ++ f).length ≤ sizeLine := by
  refine fit0 (k := 6) ?_ (by decide)
  simp only [Str.length_append, Sm] at *
  have h0 : Str.empty.length = 0 := rfl
  omega
theorem fit7 {a b c d e f g : Str} (ha : Sm a) (hb : Sm b) (hc : Sm c) (hd : Sm d) (he : Sm e) (hf : Sm f) (hg : Sm g) : (((((((Str.empty ++ a) ++ b) ++ c) ++ d) ++ e) ++ f) ++ g).length ≤ sizeLine := by
  refine fit0 (k := 7) ?_ (by decide)
  simp only [Str.length_append, Sm] at *
  have h0 : Str.empty.length = 0 := rfl
  omega
theorem fit8 {a b c d e f g h : Str} (ha : Sm a) (hb : Sm b) (hc : Sm c) (hd : Sm d) (he : Sm e) (hf : Sm f) (hg : Sm g) (hh : Sm h) : ((((((((Str.empty ++ a) ++ b) ++ c) ++ d) ++ e) ++ f) ++ g) ++ h).length ≤ sizeLine := by
  refine fit0 (k := 8) ?_ (by decide)
  simp only [Str.length_append, Sm] at *
  have h0 : Str.empty.length = 0 := rfl
  omega
theorem fit9 {a b c d e f g h i : Str} (ha : Sm a) (hb : Sm b) (hc : Sm c) (hd : Sm d) (he : Sm e) (hf : Sm f) (hg : Sm g) (hh : Sm h) (hi : Sm i) : (((((((((Str.empty ++ a) ++ b) ++ c) ++ d) ++ e) ++ f) ++ g) ++ h) ++ i).length ≤ sizeLine := by
  refine fit0 (k := 9) ?_ (by decide)
  simp only [Str.length_append, Sm] at *
  have h0 : Str.empty.length = 0 := rfl
  omega
theorem fit10 {a b c d e f g h i j : Str} (ha : Sm a) (hb : Sm b) (hc : Sm c) (hd : Sm d) (he : Sm e) (hf : Sm f) (hg : Sm g) (hh : Sm h) (hi : Sm i) (hj : Sm j) : ((((((((((Str.empty ++ a) ++ b) ++ c) ++ d) ++ e) ++ f) ++ g) ++ h) ++ i) ++ j).length ≤ sizeLine := by
  refine fit0 (k := 10) ?_ (by decide)
  simp only [Str.length_append, Sm] at *
  have h0 : Str.empty.length = 0 := rfl
  omega
end Vf
namespace Vf
open PySem L2
theorem inV_str (s : Str) (l : List Str) : inV (.str s) (l.map V.str) = decide (s ∈ l) := by
  unfold inV
  rw [Bool.eq_iff_iff, List.any_eq_true, decide_eq_true_iff]
  constructor
  · rintro ⟨y, hy, h⟩
    obtain ⟨t, ht, rfl⟩ := List.mem_map.mp hy
    have e : (t == s) = true := h
    rw [beq_iff_eq] at e
    rw [← e]
    exact ht
  · intro h
    exact ⟨.str s, List.mem_map.mpr ⟨s, h, rfl⟩, (beq_self_eq_true s : (s == s) = true)⟩
theorem flat_str (l : List Str) : (l.map V.str).all flatV = true := by
  rw [List.all_eq_true]
  intro x hx
  obtain ⟨t, _, rfl⟩ := List.mem_map.mp hx
  rfl
theorem range_map {α : Type} (l : List α) (f : α → V) (d : α) (n : Nat) (h : n = l.length) : ((List.range n).map fun i => f (l.getD i d)) = l.map f := by
  subst h
  apply List.ext_getElem?
  intro i
  rw [List.getElem?_map, List.getElem?_map]
  by_cases hi : i < l.length
  · rw [List.getElem?_range hi, List.getElem?_eq_getElem hi]
    simp [List.getD, hi]
  · rw [List.getElem?_eq_none (by simp; omega), List.getElem?_eq_none (by omega)]
    rfl
theorem ix_inj {st : List Str} {s t : Str} (hs : s ∈ st) (ht : t ∈ st) (h : ix st s = ix st t) : s = t := by
  have e : st.idxOf s = st.idxOf t := by
    unfold ix at h
    omega
  have a := List.getElem_idxOf (List.idxOf_lt_length_of_mem hs)
  have b := List.getElem_idxOf (List.idxOf_lt_length_of_mem ht)
  rw [← a, ← b]
  congr 1
/-- the four names of a rule -/
def r4 (r : S4) : List Str := [r.1, r.2.1, r.2.2.1, r.2.2.2]
theorem enc4_eq (r : S4) : enc4 r = (r4 r).map V.str := rfl
theorem num_in {st : List Str} {s : Str} (h : s ∈ st) : valV (numK st) (Sum.inr s) = some (V.int (ix st s)) := by
  rw [num_val, if_pos h]
  rfl
theorem key_none {H : Hp} {D : DD} {kvs : List (List Key × V)} (R : Res H D.st D.ru kvs) {r : S4} (h1 : r.1 ∈ D.st) (h2 : r.2.1 ∈ D.st) (hw : ∀ x ∈ D.ru, x.1 ∈ D.st ∧ x.2.1 ∈ D.st) :
    (!(valV kvs (ruKey D.st r)).isSome) = decide ((r.1, r.2.1) ∉ D.ru.map fun x => (x.1, x.2.1)) := by
  have e : (valV kvs (ruKey D.st r)).isSome = true ↔ ruKey D.st r ∈ D.ru.map (ruKey D.st) := by
    rw [← R.keys, ← valV_any, List.any_eq_true, List.mem_map]
    constructor
    · rintro ⟨x, hx, h⟩
      exact ⟨x, hx, of_decide_eq_true h⟩
    · rintro ⟨x, hx, h⟩
      exact ⟨x, hx, decide_eq_true h⟩
  by_cases hm : (r.1, r.2.1) ∈ D.ru.map fun x => (x.1, x.2.1)
  · have hm2 : ruKey D.st r ∈ D.ru.map (ruKey D.st) := by
      obtain ⟨x, hx, ex⟩ := List.mem_map.mp hm
      have e1 : x.1 = r.1 := (Prod.mk.inj ex).1
      have e2 : x.2.1 = r.2.1 := (Prod.mk.inj ex).2
      refine List.mem_map.mpr ⟨x, hx, ?_⟩
      unfold ruKey
      rw [e1, e2]
    rw [e.mpr hm2, decide_eq_false (fun z => z hm)]
    rfl
  · have hm2 : ruKey D.st r ∉ D.ru.map (ruKey D.st) := by
      intro h
      obtain ⟨x, hx, ex⟩ := List.mem_map.mp h
      unfold ruKey at ex
      simp only [List.cons.injEq, Sum.inl.injEq, and_true] at ex
      obtain ⟨w1, w2⟩ := hw x hx
      exact hm (List.mem_map.mpr ⟨x, hx, by rw [ix_inj w1 h1 ex.1, ix_inj w2 h2 ex.2]⟩)
    have e3 : (valV kvs (ruKey D.st r)).isSome = false := by
      cases q : (valV kvs (ruKey D.st r)).isSome with
      | false => rfl
      | true => exact absurd (e.mp q) hm2
    rw [e3, decide_eq_true hm]
    rfl
theorem key_new {H : Hp} {D : DD} {kvs : List (List Key × V)} (R : Res H D.st D.ru kvs) {r : S4} (h1 : r.1 ∈ D.st) (h2 : r.2.1 ∈ D.st) (hw : ∀ x ∈ D.ru, x.1 ∈ D.st ∧ x.2.1 ∈ D.st) (hn : (r.1, r.2.1) ∉ D.ru.map fun x => (x.1, x.2.1)) : valV kvs (ruKey D.st r) = none := by
  have h := key_none R h1 h2 hw
  rw [decide_eq_true hn] at h
  cases e : valV kvs (ruKey D.st r) with
  | none => rfl
  | some v => rw [e] at h; cases h
theorem Res.snoc {H H' : Hp} {st : List Str} {ru : List S4} {kvs : List (List Key × V)} (R : Res H st ru kvs) (k : ∀ t ys, H t = some (.tup ys) → H' t = some (.tup ys)) {r : S4} {t : Addr} (ht : H' t = some (.tup (encR st r))) : Res H' st (ru ++ [r]) (kvs ++ [(ruKey st r, .ref t)]) := by
  have R' := R.same k
  refine ⟨by rw [List.map_append, List.map_append, R'.keys]; rfl, ?_⟩
  rw [List.map_append]
  exact R'.vals.snoc ht
theorem Res.len {H : Hp} {st : List Str} {ru : List S4} {kvs : List (List Key × V)} (R : Res H st ru kvs) : kvs.length = ru.length := by
  have := congrArg List.length R.keys
  simpa using this
end Vf
namespace Vf
open PySem L2
/-- point 4 -/
structure Valid (D : DD) : Prop where
  len : D.ou.length = D.st.length
  st : ∀ i s o, D.st[i]? = some s → D.ou[i]? = some o → DD.okState ⟨D.st.take i, [], [], [], D.ou.take i⟩ s o = true
  ins : ∀ i x, D.ins[i]? = some x → DD.okInput ⟨D.st, D.ins.take i, [], [], D.ou⟩ x = true
  ld : ∀ i x, D.ld[i]? = some x → DD.okLeader ⟨D.st, D.ins, D.ld.take i, [], D.ou⟩ x = true
  ru : ∀ i x, D.ru[i]? = some x → DD.okRule ⟨D.st, D.ins, D.ld, D.ru.take i, D.ou⟩ x = true
/-- texts of a draft are not too long for messages -/
structure Short (D : DD) : Prop where
  st : ∀ s ∈ D.st, s.length ≤ 1000000
  ou : ∀ o ∈ D.ou, o.natAbs.log2 < 1920
  ins : ∀ p ∈ D.ins, p.1.length ≤ 1000000 ∧ p.2.length ≤ 1000000
  ld : ∀ s ∈ D.ld, s.length ≤ 1000000
  ru : ∀ r ∈ D.ru, ∀ x ∈ r4 r, x.length ≤ 1000000
  nru : D.ru.length ≤ 1000000
theorem Same.but {S : List Addr} {H H1 H2 : Hp} (e : Same H H1) (k : Keep S H1 H2) (f : ∀ b ∈ S, H b = none) : Same H H2 := fun b o h => k b o (fun m => by rw [f b m] at h; cases h) (e b o h)
theorem take_snoc {α : Type} : ∀ {l : List α} {i : Nat} {x : α}, l[i]? = some x → l.take (i + 1) = l.take i ++ [x]
  | [], i, x, h => by simp at h
  | a :: l, 0, x, h => by
    have e : a = x := Option.some.inj h
    subst e
    rfl
  | a :: l, i + 1, x, h => by
    have e : l[i]? = some x := h
    rw [List.take_succ_cons, take_snoc e]
    rfl
theorem okRule_in {D : DD} {r : S4} (h : D.okRule r = true) : r.1 ∈ D.st ∧ r.2.1 ∈ D.st := by
  unfold DD.okRule at h
  simp only [Bool.and_eq_true, decide_eq_true_eq] at h
  exact ⟨h.1.1.1.1, h.1.1.1.2⟩
end Vf
namespace Vf
theorem map_get {α β : Type} {f : α → β} {l : List α} {i : Nat} {x : β} (h : (l.map f)[i]? = some x) : ∃ a, l[i]? = some a ∧ x = f a := by
  rw [List.getElem?_map] at h
  cases e : l[i]? with
  | none => rw [e] at h; cases h
  | some a => rw [e] at h; exact ⟨a, rfl, (Option.some.inj h).symm⟩
end Vf
namespace Vf
theorem nodup_ix {α : Type} : ∀ {l : List α} {i j : Nat} {a : α}, l.Nodup → l[i]? = some a → l[j]? = some a → i = j
  | [], i, j, a, _, h, _ => by simp at h
  | x :: l, 0, 0, a, _, _, _ => rfl
  | x :: l, 0, j + 1, a, n, h, h' => by
    have e : x = a := Option.some.inj h
    subst e
    have h2 : l[j]? = some x := h'
    exact absurd (List.mem_of_getElem? h2) (List.nodup_cons.mp n).1
  | x :: l, i + 1, 0, a, n, h, h' => by
    have e : x = a := Option.some.inj h'
    subst e
    have h2 : l[i]? = some x := h
    exact absurd (List.mem_of_getElem? h2) (List.nodup_cons.mp n).1
  | x :: l, i + 1, j + 1, a, n, h, h' => by
    have h1 : l[i]? = some a := h
    have h2 : l[j]? = some a := h'
    rw [nodup_ix (List.nodup_cons.mp n).2 h1 h2]
end Vf
namespace Vf
open PySem L2
theorem tyes {σ : L2.St} {H : Hp} {A B : Hp → Prop} (h : A H) : tYes σ H (fun b H3 => if b = true then A H3 else B H3) := by
  show (if true = true then A H else B H)
  rw [if_pos rfl]
  exact h
end Vf
namespace Vf
theorem Keep.self {S : List PySem.Addr} {H H' : L2.Hp} (_ : Keep S H H') : Keep S H' H' := Keep.refl H'
end Vf
namespace Vf
open PySem L2
theorem list_choose {α β : Type} : ∀ {xs : List α} {R : Nat → α → β → Prop}, (∀ i y, xs[i]? = some y → ∃ a, R i y a) → ∃ l : List β, l.length = xs.length ∧ ∀ i y a, xs[i]? = some y → l[i]? = some a → R i y a
  | [], R, _ => ⟨[], rfl, fun i y a h => by simp at h⟩
  | x :: xs, R, h => by
    obtain ⟨a, ha⟩ := h 0 x rfl
    obtain ⟨l, hl, hr⟩ := list_choose (xs := xs) (R := fun i => R (i + 1)) fun i y e => h (i + 1) y e
    refine ⟨a :: l, by simp [hl], fun i y b e1 e2 => ?_⟩
    cases i with
    | zero =>
      have z1 : x = y := Option.some.inj e1
      have z2 : a = b := Option.some.inj e2
      subst z1
      subst z2
      exact ha
    | succ i => exact hr i y b e1 e2
section
variable {J : It} {n : Nat} {G : Hp → Prop} {Y : Nat → Hp → V → Hp → Prop} {g : TG} {te : TE} {vs : List Nat} {σ : L2.St} {H1 : Hp} {D : Addr} {Qd : Hp → Prop} {α : Type}
/-- a comprehension whose items are values of a kind, each with a property -/
theorem lc_enc (w : Walk J n G Y) (e : α → V) (good : Nat → α → Prop) (hD : H1 D = none) (hn : n ≤ 1000000) (hG : ∀ H, Same H1 H → G H)
    (hs : ∀ i x H H', i < n → Same H1 H → Y i H x H' → ∀ Q' : VK, (∀ a H4, Same H H4 → good i a → Q' (e a) H4) → g x (wipe σ vs) H' fun σ2 H2 => wipe σ2 vs = wipe σ vs ∧ te σ2 H2 Q')
    (hd : ∀ (l : List α) H, l.length = n → Same H1 H → H D = some (.lst (l.map e)) → (∀ i a, l[i]? = some a → good i a) → Qd H) :
    ∃ W : Nat → Nat → Hp → Prop, (∃ m, W 0 m (upd H1 D (.lst []))) ∧ ∀ i m H, W i m H →
      (J.stop i H ∧ Qd H) ∨ (J.go i H ∧ ∃ Nx : Hp → Prop, (∀ H', Nx H' → ∃ m', m' < m ∧ W (i + 1) m' H') ∧ ∀ x H', J.yld i H x H' → g x (wipe σ vs) H' fun σ2 H2 => wipe σ2 vs = wipe σ vs ∧ tYes σ2 H2 fun b H3 =>
        if b = true then te σ2 H3 fun y H4 => ∃ acc, H4 D = some (.lst acc) ∧ acc.length < sizeLine ∧ Nx (upd H4 D (.lst (acc ++ [y]))) else Nx H3) := by
  refine lc_rel w (fun i y _ => ∃ a, y = e a ∧ good i a) hD (fun i y H H' acc _ _ h => h) hn hG (fun i x H H' acc hi s _ hy Q' q => hs i x H H' hi s hy Q' fun a H4 s4 ga => q _ H4 s4 ⟨a, rfl, ga⟩) fun xs H hl s hx hp => ?_
  obtain ⟨l, h1, h2⟩ := list_choose (R := fun i y a => y = e a ∧ good i a) hp
  have ex : xs = l.map e := by
    apply List.ext_getElem?
    intro i
    rw [List.getElem?_map]
    cases h : xs[i]? with
    | none =>
      have := List.getElem?_eq_none_iff.mp h
      rw [List.getElem?_eq_none (by omega)]
      rfl
    | some y =>
      have hi := (List.getElem?_eq_some_iff.mp h).1
      have e1 : l[i]? = some l[i] := List.getElem?_eq_getElem (by omega)
      rw [e1]
      exact congrArg some (h2 i y _ h e1).1
  subst ex
  refine hd l H (by rw [h1]; exact hl) s hx fun i a ha => ?_
  have e2 : (l.map e)[i]? = some (e a) := by rw [List.getElem?_map, ha]; rfl
  exact (h2 i _ a e2 ha).2
/-- .. whose items are new tuples -/
theorem lc_tups (w : Walk J n G Y) (enc : α → List V) (good : Nat → α → Prop) (hD : H1 D = none) (hn : n ≤ 1000000) (hG : ∀ H, Same H1 H → G H)
    (hs : ∀ i x H H', i < n → Same H1 H → Y i H x H' → ∀ Q' : VK, (∀ a t H4, Same H H4 → H4 t = some (.tup (enc a)) → good i a → Q' (.ref t) H4) → g x (wipe σ vs) H' fun σ2 H2 => wipe σ2 vs = wipe σ vs ∧ te σ2 H2 Q')
    (hd : ∀ (l : List α) xs H, l.length = n → Same H1 H → H D = some (.lst xs) → Tups enc H xs l → (∀ i a, l[i]? = some a → good i a) → Qd H) :
    ∃ W : Nat → Nat → Hp → Prop, (∃ m, W 0 m (upd H1 D (.lst []))) ∧ ∀ i m H, W i m H →
      (J.stop i H ∧ Qd H) ∨ (J.go i H ∧ ∃ Nx : Hp → Prop, (∀ H', Nx H' → ∃ m', m' < m ∧ W (i + 1) m' H') ∧ ∀ x H', J.yld i H x H' → g x (wipe σ vs) H' fun σ2 H2 => wipe σ2 vs = wipe σ vs ∧ tYes σ2 H2 fun b H3 =>
        if b = true then te σ2 H3 fun y H4 => ∃ acc, H4 D = some (.lst acc) ∧ acc.length < sizeLine ∧ Nx (upd H4 D (.lst (acc ++ [y]))) else Nx H3) := by
  refine lc_rel w (fun i y H => ∃ a t, y = .ref t ∧ H t = some (.tup (enc a)) ∧ good i a) hD (fun i y H H' acc hacc k ⟨a, t, e1, e2, e3⟩ => ⟨a, t, e1, k t _ (fun z => by rw [z, hacc] at e2; cases e2) e2, e3⟩) hn hG
    (fun i x H H' acc hi s _ hy Q' q => hs i x H H' hi s hy Q' fun a t H4 s4 ht ga => q _ H4 s4 ⟨a, t, rfl, ht, ga⟩) fun xs H hl s hx hp => ?_
  obtain ⟨l, h1, h2⟩ := list_choose (R := fun i y a => ∃ t, y = V.ref t ∧ H t = some (.tup (enc a)) ∧ good i a) hp
  refine hd l xs H (by rw [h1]; exact hl) s hx ⟨h1.symm, fun i a ha => ?_⟩ fun i a ha => ?_
  · have hi := (List.getElem?_eq_some_iff.mp ha).1
    have e1 : xs[i]? = some xs[i] := List.getElem?_eq_getElem (by omega)
    obtain ⟨t, e2, e3, _⟩ := h2 i _ a e1 ha
    exact ⟨t, by rw [e1, e2], e3⟩
  · have hi := (List.getElem?_eq_some_iff.mp ha).1
    have e1 : xs[i]? = some xs[i] := List.getElem?_eq_getElem (by omega)
    obtain ⟨t, _, _, e4⟩ := h2 i _ a e1 ha
    exact e4
end
theorem map_at {α : Type} {f : α → V} {l : List α} {i : Int} {d : α} (h0 : 0 ≤ i) (h1 : i < l.length) : atI (l.map f) i = some (f (l.getD i.toNat d)) := by
  obtain ⟨j, rfl⟩ : ∃ j : Nat, i = (j : Int) := ⟨i.toNat, by omega⟩
  have hj : j < l.length := by omega
  refine atI_nat ?_
  rw [List.getElem?_map, List.getElem?_eq_getElem hj]
  simp [List.getD, List.getElem?_eq_getElem hj]
/-! ### point 4 without an order -/
structure ValidN (D : DD) : Prop where
  len : D.ou.length = D.st.length
  n400 : D.st.length ≤ 400
  nm : ∀ s ∈ D.st, isName s = true
  nd : D.st.Nodup
  ou : ∀ o ∈ D.ou, 0 ≤ o ∧ o ≤ 9
  n8 : D.ins.length ≤ 8
  inm : ∀ p ∈ D.ins, isName p.1 = true ∧ p.2 ∈ D.st
  ind : (D.ins.map (·.1)).Nodup
  n10 : D.ld.length ≤ 10
  ldm : ∀ s ∈ D.ld, s ∈ D.st
  rum : ∀ r ∈ D.ru, r.1 ∈ D.st ∧ r.2.1 ∈ D.st ∧ r.2.2.1 ∈ D.st ∧ r.2.2.2 ∈ D.st
  rnd : (D.ru.map fun x => (x.1, x.2.1)).Nodup
theorem nodup_take {α : Type} {l : List α} (h : l.Nodup) {i : Nat} {x : α} (e : l[i]? = some x) : x ∉ l.take i := by
  intro m
  obtain ⟨j, hj⟩ := List.mem_iff_getElem?.mp m
  have jl : j < i := by
    have := (List.getElem?_eq_some_iff.mp hj).1
    rw [List.length_take] at this
    omega
  rw [List.getElem?_take_of_lt jl] at hj
  have := nodup_ix h hj e
  omega
theorem take_len {α : Type} {l : List α} {i : Nat} {x : α} (e : l[i]? = some x) : (l.take i).length = i := by
  have := (List.getElem?_eq_some_iff.mp e).1
  rw [List.length_take]
  omega
theorem ValidN.valid {D : DD} (v : ValidN D) : Valid D := by
  refine ⟨v.len, fun i s o hs ho => ?_, fun i x hx => ?_, fun i x hx => ?_, fun i x hx => ?_⟩
  · have hi := (List.getElem?_eq_some_iff.mp hs).1
    have n4 := v.n400
    have om := v.ou o (List.mem_of_getElem? ho)
    unfold DD.okState
    simp only [take_len hs, v.nm s (List.mem_of_getElem? hs), Bool.and_true, Bool.and_eq_true, decide_eq_true_eq]
    exact ⟨⟨by omega, nodup_take v.nd hs⟩, om⟩
  · have hi := (List.getElem?_eq_some_iff.mp hx).1
    have n8 := v.n8
    obtain ⟨m1, m2⟩ := v.inm x (List.mem_of_getElem? hx)
    unfold DD.okInput
    simp only [take_len hx, m1, Bool.and_true, Bool.and_eq_true, decide_eq_true_eq]
    refine ⟨⟨by omega, ?_⟩, m2⟩
    rw [List.map_take]
    exact nodup_take v.ind (by rw [List.getElem?_map, hx]; rfl)
  · have hi := (List.getElem?_eq_some_iff.mp hx).1
    have n10 := v.n10
    unfold DD.okLeader
    simp only [take_len hx, Bool.and_eq_true, decide_eq_true_eq]
    exact ⟨by omega, v.ldm x (List.mem_of_getElem? hx)⟩
  · obtain ⟨m1, m2, m3, m4⟩ := v.rum x (List.mem_of_getElem? hx)
    unfold DD.okRule
    simp only [Bool.and_eq_true, decide_eq_true_eq]
    refine ⟨⟨⟨⟨m1, m2⟩, m3⟩, m4⟩, ?_⟩
    rw [List.map_take]
    exact nodup_take v.rnd (by rw [List.getElem?_map, hx]; rfl)
end Vf
namespace Vf
open PySem L2
section
variable {α : Type} {enc : α → List V} {H : Hp} {xs ys : List V} {l m : List α}
theorem Tups.append (h : Tups enc H xs l) (k : Tups enc H ys m) : Tups enc H (xs ++ ys) (l ++ m) := by
  refine ⟨by simp [h.1, k.1], fun i a e => ?_⟩
  by_cases hi : i < l.length
  · rw [List.getElem?_append_left hi] at e
    rw [List.getElem?_append_left (by rw [h.1]; exact hi)]
    exact h.2 i a e
  · rw [List.getElem?_append_right (by omega)] at e
    rw [List.getElem?_append_right (by rw [h.1]; omega), h.1]
    exact k.2 _ a e
theorem Tups.drop (h : Tups enc H xs l) (n : Nat) : Tups enc H (xs.drop n) (l.drop n) := by
  refine ⟨by simp [h.1], fun i a e => ?_⟩
  rw [List.getElem?_drop] at e ⊢
  exact h.2 _ a e
theorem Tups.take (h : Tups enc H xs l) (n : Nat) : Tups enc H (xs.take n) (l.take n) := by
  refine ⟨by simp [h.1], fun i a e => ?_⟩
  by_cases hi : i < n
  · rw [List.getElem?_take_of_lt hi] at e ⊢
    exact h.2 _ a e
  · have := (List.getElem?_eq_some_iff.mp e).1
    rw [List.length_take] at this
    omega
theorem Tups.reverse (h : Tups enc H xs l) : Tups enc H xs.reverse l.reverse := by
  refine ⟨by simp [h.1], fun i a e => ?_⟩
  have hi := (List.getElem?_eq_some_iff.mp e).1
  rw [List.length_reverse] at hi
  rw [List.getElem?_reverse (by omega)] at e
  rw [List.getElem?_reverse (by rw [h.1]; exact hi), h.1]
  exact h.2 _ a e
end
theorem cut_from (xs : List V) (t : Nat) (h : t ≤ xs.length) : cutV xs (some (t : Int)) none = xs.drop t := by
  have e1 : HT.sIx xs.length 0 (some (t : Int)) = t := by rw [HT.sIx_nat, Nat.min_eq_left h]
  have e2 : HT.sIx xs.length xs.length none = xs.length := rfl
  unfold cutV
  rw [e1, e2, List.take_of_length_le (by rw [List.length_drop]; exact Nat.le_refl _)]
theorem cut_to (xs : List V) (t : Nat) (h : t ≤ xs.length) : cutV xs none (some (t : Int)) = xs.take t := by
  have e1 : HT.sIx xs.length xs.length (some (t : Int)) = t := by rw [HT.sIx_nat, Nat.min_eq_left h]
  have e2 : HT.sIx xs.length 0 none = 0 := rfl
  unfold cutV
  rw [e1, e2]
  rfl
end Vf
namespace Vf
open PySem L2
/-! ### drawn parts -/
/-- the tuple of five lists -/
def PartsAt (H : Hp) (p : Addr) (D : DD) : Prop := ∃ (ls li ll lr lo : Addr) (xi xr : List V), H p = some (.tup [.ref ls, .ref li, .ref ll, .ref lr, .ref lo]) ∧ H ls = some (.lst (D.st.map V.str)) ∧ H li = some (.lst xi) ∧ Tups enc2 H xi D.ins ∧
  H ll = some (.lst (D.ld.map V.str)) ∧ H lr = some (.lst xr) ∧ Tups enc4 H xr D.ru ∧ H lo = some (.lst (D.ou.map V.int))
theorem PartsAt.same {H H' : Hp} {p : Addr} {D : DD} (h : PartsAt H p D) (e : Same H H') : PartsAt H' p D := by
  obtain ⟨ls, li, ll, lr, lo, xi, xr, h0, h1, h2, t2, h3, h4, t4, h5⟩ := h
  exact ⟨ls, li, ll, lr, lo, xi, xr, e _ _ h0, e _ _ h1, e _ _ h2, t2.same e, e _ _ h3, e _ _ h4, t4.same e, e _ _ h5⟩
def nmB : List Str := ["a", "b", "c", "d1", "e", "f"]
def nmS : List Str := ["", "x", "q7"]
def goodName (i : Nat) (s : Str) : Prop := ∃ j, j < 3 ∧ s = nmB.getD i Str.empty ++ nmS.getD j Str.empty
structure Small (D : DD) : Prop where
  st0 : 1 ≤ D.st.length
  st6 : D.st.length ≤ 6
  in3 : D.ins.length ≤ 3
  ld2 : D.ld.length ≤ 2
  ru36 : D.ru.length ≤ 36
  gn : ∀ (i : Nat) (s : Str), D.st[i]? = some s → goodName i s
theorem ValidN.short {D : DD} (v : ValidN D) (h : D.ru.length ≤ 1000000) : Short D := by
  have nl : ∀ s, isName s = true → s.length ≤ 1000000 := fun s hs => Nat.le_trans (name_len hs) (by decide)
  refine ⟨fun s hs => nl s (v.nm s hs), fun o ho => ?_, fun p hp => ?_, fun s hs => nl s (v.nm s (v.ldm s hs)), fun r hr x hx => ?_, h⟩
  · obtain ⟨h0, h9⟩ := v.ou o ho
    have hb : o.natAbs < 2 ^ 1920 := Nat.lt_of_le_of_lt (show o.natAbs ≤ 9 by omega) (by decide)
    by_cases hz : o.natAbs = 0
    · rw [hz]
      decide
    · exact (Nat.log2_lt hz).mpr hb
  · obtain ⟨m1, m2⟩ := v.inm p hp
    exact ⟨nl _ m1, nl _ (v.nm _ m2)⟩
  · obtain ⟨m1, m2, m3, m4⟩ := v.rum r hr
    simp only [r4, List.mem_cons, List.not_mem_nil, or_false] at hx
    rcases hx with rfl | rfl | rfl | rfl
    · exact nl _ (v.nm _ m1)
    · exact nl _ (v.nm _ m2)
    · exact nl _ (v.nm _ m3)
    · exact nl _ (v.nm _ m4)
theorem names_all : ((List.range 6).all fun i => (List.range 3).all fun j => isName (nmB.getD i Str.empty ++ nmS.getD j Str.empty) && ((nmB.getD i Str.empty ++ nmS.getD j Str.empty).cps.toList.head? == some (97 + i))) = true := by decide +kernel
theorem goodName_of {i : Nat} {s : Str} (hi : i < 6) (h : goodName i s) : isName s = true ∧ s.cps.toList.head? = some (97 + i) := by
  obtain ⟨j, hj, rfl⟩ := h
  have a := List.all_eq_true.mp names_all i (List.mem_range.mpr hi)
  have b := List.all_eq_true.mp a j (List.mem_range.mpr hj)
  rw [Bool.and_eq_true, beq_iff_eq] at b
  exact b
theorem nodup_by {α β : Type} {l : List α} (f : α → β) (g : Nat → β) (h : ∀ i a, l[i]? = some a → f a = g i) (inj : ∀ i j, i < l.length → j < l.length → g i = g j → i = j) : l.Nodup := by
  rw [List.Nodup, List.pairwise_iff_getElem]
  intro i j hi hj hij e
  have e1 := h i _ (List.getElem?_eq_getElem hi)
  have e2 := h j _ (List.getElem?_eq_getElem hj)
  rw [e, e2] at e1
  have := inj j i hj hi e1
  omega
theorem goodNames_nodup {l : List Str} (h6 : l.length ≤ 6) (h : ∀ i a, l[i]? = some a → goodName i a) : l.Nodup :=
  nodup_by (fun s : Str => s.cps.toList.head?) (fun i => some (97 + i)) (fun i a e => (goodName_of (by have := (List.getElem?_eq_some_iff.mp e).1; omega) (h i a e)).2) fun i j _ _ e => by
    have := Option.some.inj e
    omega
def inB : List Str := ["u", "v", "w"]
theorem inB_all : ((List.range 3).all fun i => isName (inB.getD i Str.empty) && ((inB.getD i Str.empty).cps.toList.head? == some (117 + i))) = true := by decide +kernel
theorem inB_of {i : Nat} (hi : i < 3) : isName (inB.getD i Str.empty) = true ∧ (inB.getD i Str.empty).cps.toList.head? = some (117 + i) := by
  have a := List.all_eq_true.mp inB_all i (List.mem_range.mpr hi)
  rw [Bool.and_eq_true, beq_iff_eq] at a
  exact a
end Vf
namespace Vf
open PySem L2
theorem gN {i : Nat} {v : V} {σ : L2.St} {H : Hp} {nx : L2.St → Hp → Prop} (h : nx (σ.set i (some v)) H) : gName i v σ H nx := h
end Vf
namespace Vf
open PySem L2
theorem names_end : ((List.range 6).all fun i => (List.range 3).all fun j => (nmB.getD i Str.empty ++ nmS.getD j Str.empty).cps.toList.getLast? != some 122) = true := by decide +kernel
/-- no drawn name ends so -/
theorem Small.noName {D : DD} (sm : Small D) {s : Str} (h : s.cps.toList.getLast? = some 122) : s ∉ D.st := fun m => by
  obtain ⟨i, hi⟩ := List.mem_iff_getElem?.mp m
  have il := (List.getElem?_eq_some_iff.mp hi).1
  have := sm.st6
  obtain ⟨j, hj, rfl⟩ := sm.gn i s hi
  have a := List.all_eq_true.mp names_end i (List.mem_range.mpr (by omega))
  have b := List.all_eq_true.mp a j (List.mem_range.mpr hj)
  rw [h] at b
  cases b
theorem end_zz (w : Str) : (w ++ ("9zz" : Str)).cps.toList.getLast? = some 122 := by
  have e : (w ++ ("9zz" : Str)).cps.toList = w.cps.toList ++ [57, 122, 122] := by
    show (w.cps ++ ("9zz" : Str).cps).toList = _
    rw [Array.toList_append]
    rfl
  rw [e, List.getLast?_append]
  rfl
end Vf

namespace Vf
open PySem PySem.Spec PyProof.Rows L2
/-- the pair of ints at an address -/
def prAt (H : Hp) (a : Addr) : Int × Int := match H a with
  | some (.tup [.int i, .int j]) => (i, j)
  | _ => (0, 0)
def prV (H : Hp) : Value → Int × Int
  | .ref a => prAt H a
  | _ => (0, 0)
theorem prAt_of {H : Hp} {a : Addr} {i j : Int} (h : H a = some (.tup [.int i, .int j])) : prAt H a = (i, j) := by
  unfold prAt
  rw [h]
def keyP (k : Int × Int) : List Key := [Sum.inl k.1, Sum.inl k.2]
/-- sorted(d), d a dict whose keys are pairs of ints -/
def rSortedDT : List V → Hp → VK → Prop := fun xs H Q => ∃ (d : Addr) (kvs : List (List Key × V)) (ks : List (Int × Int)), xs = [.ref d] ∧ Rd H d (.dT kvs) ∧ kvs.map (·.1) = ks.map keyP ∧
  ∀ (p : Addr) (bs : List Addr), H p = none → (bs.map (prAt H)).Perm ks → bs.Pairwise (fun x y => SrtO.lexB (prAt H y) (prAt H x) = false) → (∀ b ∈ bs, ∃ i j, H b = some (.tup [.int i, .int j])) → Q (.ref p) (upd H p (.lst (bs.map V.ref)))
theorem refs_out : ∀ (l : List Value), (∀ u ∈ l, ∃ a, u = Value.ref a) → ∃ bs : List Addr, l = bs.map Value.ref
  | [], _ => ⟨[], rfl⟩
  | u :: l, h => by
    obtain ⟨a, rfl⟩ := h u List.mem_cons_self
    obtain ⟨bs, e⟩ := refs_out l fun v hv => h v (List.mem_cons_of_mem _ hv)
    exact ⟨a :: bs, by rw [e]; rfl⟩
theorem pair_get {α β : Type} {R : α → β → Prop} : ∀ {l₁ : List α} {l₂ : List β}, Paired R l₁ l₂ → ∀ {n : Nat} {b : β}, l₂[n]? = some b → ∃ a, l₁[n]? = some a ∧ R a b
  | _, _, .nil, n, b, h => by simp at h
  | _, _, .cons h t, 0, b, e => by
    have e' := Option.some.inj e
    subst e'
    exact ⟨_, rfl, h⟩
  | _, _, .cons h t, n + 1, b, e => pair_get t (n := n) (b := b) e
theorem cr_sortedDT {X : Cx} (hcalm : X.calm = true) : CallR X (.builtin "sorted") rSortedDT := by
  intro pins s σ H xs us Q I r h
  obtain ⟨d, kvs, ks, rfl, hd, hks, q⟩ := h
  obtain ⟨u, rfl, rx⟩ := vals1 r
  cases rx
  obtain ⟨z, hs, xs, pr, o, es, ep, ho, hx, hdt, he, hn⟩ := (show ObjOk X.prog X.w H s.heap d (.dT kvs) from hd.ok I.hok)
  have l1 : es.size = xs.length := size_of_entries he
  have l2 : kvs.length = xs.length := Paired.length pr
  have h16 : es.size ≤ sizeLine := by omega
  refine Calls.call_function_entry PyProof.Rows.kind_sorted PyProof.Rows.plain_sorted PyProof.Rows.entry_sorted (PyProof.Rows.args_sorted1 _) ?_
  unfold Builtin.«sorted»
  refine wpAny_bind (m := checkCount "sorted" 1 1 _) (wpAny_pure ?_)
  refine wpAny_bind (PySem.W.kdu_collect (A := X.A.in1) (kdl_raw hs hx hdt) (I.ok.hd hcalm) ho h16 fun h' tk acc hk hacc => ?_)
  -- what was collected: the tuples of the keys
  have ea : acc.toList = (xs.map fun x => x.2.1).map Value.ref := by
    have hl : acc.toList.length = xs.length := by rw [Array.length_toList, hacc.1, l1]
    apply List.ext_getElem?
    intro j
    rw [List.map_map, List.getElem?_map]
    cases hj : acc.toList[j]? with
    | none =>
      have h1 := List.getElem?_eq_none_iff.mp hj
      rw [List.getElem?_eq_none (by omega)]
      rfl
    | some v =>
      obtain ⟨en, hen, hv⟩ := hacc.2 j v (by rw [← Array.getElem?_toList]; exact hj)
      have qe := entry_at he j
      rw [hen] at qe
      cases hb : xs[j]? with
      | none =>
        rw [hb] at qe
        exact nomatch (show some en = none from qe)
      | some b =>
        rw [hb] at qe
        have e2 : en = entryOfKey (tupleKind (mixKind X.prog X.w)) b := Option.some.inj qe
        rw [hv, e2]
        rfl
  have I1 : Inv X pins σ H { s with heap := h', toks := tk } := I.kept hk
  -- each of them is a pair
  have hat : ∀ a ∈ xs.map (fun x => x.2.1), ∃ i j, H a = some (.tup [.int i, .int j]) := by
    intro a ha
    obtain ⟨x, hxm, rfl⟩ := List.mem_map.mp ha
    obtain ⟨n, hn'⟩ := List.mem_iff_getElem?.mp hxm
    have hnl : n < kvs.length := by rw [l2]; exact (List.getElem?_eq_some_iff.mp hn').1
    obtain ⟨y, hy, p1, p2, _⟩ := pair_get pr hn'
    have hk1 : (kvs.map (·.1))[n]? = some y.1 := by rw [List.getElem?_map, hy]; rfl
    rw [hks] at hk1
    obtain ⟨k, _, ek⟩ : ∃ k, ks[n]? = some k ∧ y.1 = keyP k := by
      rw [List.getElem?_map] at hk1
      cases e : ks[n]? with
      | none => rw [e] at hk1; cases hk1
      | some k => rw [e] at hk1; exact ⟨k, rfl, (Option.some.inj hk1).symm⟩
    rw [ek] at p2
    exact ⟨k.1, k.2, p2⟩
  have hpr : (xs.map fun x => x.2.1).map (prAt H) = ks := by
    apply List.ext_getElem?
    intro n
    rw [List.getElem?_map, List.getElem?_map]
    cases hn' : xs[n]? with
    | none =>
      have h1 := List.getElem?_eq_none_iff.mp hn'
      have h2 := congrArg List.length hks
      rw [List.length_map, List.length_map] at h2
      rw [List.getElem?_eq_none (show ks.length ≤ n by omega)]
      rfl
    | some x =>
      obtain ⟨y, hy, p1, p2, _⟩ := pair_get pr hn'
      have hk1 : (kvs.map (·.1))[n]? = some y.1 := by rw [List.getElem?_map, hy]; rfl
      rw [hks] at hk1
      rw [List.getElem?_map] at hk1
      cases e : ks[n]? with
      | none => rw [e] at hk1; cases hk1
      | some k =>
        rw [e] at hk1
        have ek : y.1 = keyP k := (Option.some.inj hk1).symm
        rw [ek] at p2
        show some (prAt H x.2.1) = some k
        rw [prAt_of p2]
  have hal : acc.toList.length ≤ sizeLine := by
    rw [ea, List.length_map, List.length_map]
    omega
  refine wpAny_bind (wpAny_newList ?_ hal)
  have hoL : (h'.push (seqObj "list" acc.toList.toArray 0)).get? h'.objs.size = some (seqObj "list" acc.toList.toArray 0) := Heap.get?_push_size _ rfl
  show wpAny _ _ _ _ _ { s with heap := h'.push (seqObj "list" acc.toList.toArray 0), toks := tk }
  have hip : ∀ v ∈ acc.toList, Srt.IsPair h' v (prV H v).1 (prV H v).2 := by
    intro v hv
    rw [ea] at hv
    obtain ⟨a, ha, rfl⟩ := List.mem_map.mp hv
    obtain ⟨i, j, hij⟩ := hat a ha
    obtain ⟨_, its2, r2, ob, hob, hc, n, hd2⟩ := I1.hok _ _ hij
    obtain ⟨u1, u2, rfl, ri, rj⟩ := vals2 r2
    obtain ⟨t1, rfl⟩ := ri
    obtain ⟨t2, rfl⟩ := rj
    have e : prV H (.ref a) = (i, j) := prAt_of hij
    rw [e]
    exact ⟨a, ob, t1, t2, n, rfl, hob, hc, hd2⟩
  refine wpAny_bind (wpAny_holding (wpAny_call_entry PyProof.Rows.slot_list_sort ⟨_, hoL, rfl⟩ PyProof.Rows.entry_list_sort
    (SrtO.list_sort_ord (s := { s with heap := h'.push (seqObj "list" acc.toList.toArray 0), toks := tk }) (SrtO.swo_lex (prV H)) hoL hal (fun h2 => SrtO.pairs_sortableO (by omega) (fun v hv => (hip v hv).keeps fun b o e _ => Heap.get?_push_of_some _ e) fun o e c => ?_) fun out hs' hb' => ⟨_, rfl, ?_⟩) (PyProof.Rows.args_list_sort _)))
  · have e' : some o = some (seqObj "list" acc.toList.toArray 0) := e.symm.trans hoL
    cases e'
    exact absurd (Value.type.inj c) (by decide)
  · obtain ⟨e', he'⟩ := PyProof.Rows.sortedHeap_at (vs := acc.toList) (out := out.toArray) hoL
    have hperm : out.Perm acc.toList := hb'.perm
    obtain ⟨bs, rfl⟩ := refs_out out fun u hu => by
      have hm := hperm.mem_iff.mp hu
      rw [ea] at hm
      obtain ⟨a, _, rfl⟩ := List.mem_map.mp hm
      exact ⟨a, rfl⟩
    rw [ea] at hperm
    have hbp : bs.Perm (xs.map fun x => x.2.1) := by
      have hh := hperm.map (fun v : Value => match v with | .ref a => a | _ => 0)
      rw [List.map_map, List.map_map] at hh
      have e1 : bs.map ((fun v : Value => match v with | .ref a => a | _ => 0) ∘ Value.ref) = bs := List.map_id' bs
      have e2 : (xs.map fun x => x.2.1).map ((fun v : Value => match v with | .ref a => a | _ => 0) ∘ Value.ref) = (xs.map fun x => x.2.1) := List.map_id' _
      rw [e1, e2] at hh
      exact hh
    have hlen : (bs.map V.ref).length ≤ sizeLine := by
      rw [List.length_map, hbp.length_eq, List.length_map]
      omega
    refine wpAny_pure ⟨_, rfl, .ref h'.objs.size, upd H h'.objs.size (.lst (bs.map V.ref)), I1.laid (t' := tk) (fun b u e => ?_) (Nat.le_refl _)
      (show ObjOk X.prog X.w _ _ _ (.lst (bs.map V.ref)) from ⟨hlen, bs.map Value.ref, e', vals_refs bs, by rw [he']⟩), rfl, q _ bs (I1.hok.fresh (Nat.le_refl _)) ?_ ?_ ?_⟩
    · have hb : b < h'.objs.size := Heap.lt_size e
      rw [PyProof.Rows.sortedHeap_old (Nat.ne_of_lt hb) (by rw [size_push']; exact Nat.lt_succ_of_lt hb)]
      exact Heap.get?_push_of_some _ e
    · rw [← hpr]
      exact hbp.map _
    · have h1 : List.Pairwise (fun x y => SrtO.lexB (prV H y) (prV H x) = false) (bs.map Value.ref) := hs'
      rw [List.pairwise_map] at h1
      exact h1
    · intro b hb
      exact hat b (hbp.mem_iff.mp hb)
end Vf
namespace Vf
open PySem L2
/-! ### rows of pairs -/
def rowOf (l : List (Int × Int)) (c : Int × Int → Bool) (i : Int) : List Int := (l.filter fun k => decide (k.1 = i) && c k).map Prod.snd
theorem rowOf_snoc (l : List (Int × Int)) (c : Int × Int → Bool) (i : Int) (k : Int × Int) : rowOf (l ++ [k]) c i = rowOf l c i ++ if (decide (k.1 = i) && c k) = true then [k.2] else [] := by
  unfold rowOf
  rw [List.filter_append, List.map_append]
  congr 1
  by_cases h : (decide (k.1 = i) && c k) = true
  · rw [if_pos h, List.filter_cons, if_pos h]
    rfl
  · rw [if_neg h, List.filter_cons, if_neg h]
    rfl
theorem rowOf_mem {l : List (Int × Int)} {c : Int × Int → Bool} {i j : Int} : j ∈ rowOf l c i ↔ (i, j) ∈ l ∧ c (i, j) = true := by
  unfold rowOf
  rw [List.mem_map]
  constructor
  · rintro ⟨⟨a, b⟩, h, rfl⟩
    rw [List.mem_filter, Bool.and_eq_true, decide_eq_true_eq] at h
    obtain ⟨h1, h2, h3⟩ := h
    have e : a = i := h2
    subst e
    exact ⟨h1, h3⟩
  · rintro ⟨h1, h2⟩
    exact ⟨(i, j), List.mem_filter.mpr ⟨h1, by simp [h2]⟩, rfl⟩
theorem rowOf_asc {l : List (Int × Int)} {c : Int × Int → Bool} {i : Int} (h : l.Pairwise fun x y => SrtO.lexB y x = false) (n : l.Nodup) : (rowOf l c i).Pairwise (· < ·) := by
  have hb : l.Pairwise fun x y => SrtO.lexB y x = false ∧ x ≠ y := h.and n
  unfold rowOf
  rw [List.pairwise_map]
  refine List.Pairwise.imp_of_mem (fun {x y} hx hy hh => ?_) (hb.filter _)
  rw [List.mem_filter, Bool.and_eq_true, decide_eq_true_eq] at hx hy
  obtain ⟨h1, h2⟩ := hh
  have h3 := SrtO.lexB_no.mp h1
  obtain ⟨a, b⟩ := x
  obtain ⟨a', b'⟩ := y
  have e1 : a = i := hx.2.1
  have e2 : a' = i := hy.2.1
  subst e1
  subst e2
  have h4 : b ≠ b' := fun z => h2 (by rw [z])
  have h5 : ¬ b' < b := fun z => h3 (Or.inr ⟨rfl, z⟩)
  show b < b'
  omega
theorem valV_at {κ : Type} [DecidableEq κ] : ∀ {kvs : List (κ × V)} {n : Nat} {k : κ} {v : V}, (kvs.map Prod.fst).Nodup → kvs[n]? = some (k, v) → valV kvs k = some v
  | [], n, k, v, _, h => by simp at h
  | p :: r, 0, k, v, _, h => by
    have e : p = (k, v) := Option.some.inj h
    subst e
    exact valV_pos rfl
  | p :: r, n + 1, k, v, hn, h => by
    rw [List.map_cons, List.nodup_cons] at hn
    have h' : r[n]? = some (k, v) := h
    have ne : ¬ p.1 = k := fun z => hn.1 (List.mem_map.mpr ⟨(k, v), List.mem_of_getElem? h', z.symm⟩)
    rw [valV_neg ne]
    exact valV_at hn.2 h'
def encP (v : Int × Int) : List V := [.int v.1, .int v.2]
theorem keyP_inj {a b : Int × Int} (h : keyP a = keyP b) : a = b := by
  unfold keyP at h
  simp only [List.cons.injEq, Sum.inl.injEq, and_true] at h
  exact Prod.ext h.1 h.2
/-- a dict of pairs of ints by pairs of ints -/
structure PP (H : Hp) (kvs : List (List Key × V)) (ks vl : List (Int × Int)) : Prop where
  keys : kvs.map (·.1) = ks.map keyP
  vals : Tups encP H (kvs.map (·.2)) vl
  nd : ks.Nodup
section
variable {H : Hp} {kvs : List (List Key × V)} {ks vl : List (Int × Int)}
theorem PP.len (p : PP H kvs ks vl) : kvs.length = ks.length ∧ vl.length = ks.length := by
  have h1 := congrArg List.length p.keys
  have h2 := p.vals.1
  rw [List.length_map, List.length_map] at h1
  rw [List.length_map] at h2
  omega
theorem PP.at_ (p : PP H kvs ks vl) {n : Nat} {k : Int × Int} (h : ks[n]? = some k) : ∃ v t, vl[n]? = some v ∧ valV kvs (keyP k) = some (.ref t) ∧ H t = some (.tup (encP v)) := by
  obtain ⟨l1, l2⟩ := p.len
  have hn := (List.getElem?_eq_some_iff.mp h).1
  obtain ⟨v, hv⟩ : ∃ v, vl[n]? = some v := ⟨vl[n], List.getElem?_eq_getElem (by omega)⟩
  obtain ⟨t, ht, hT⟩ := p.vals.2 n v hv
  rw [List.getElem?_map] at ht
  obtain ⟨kv, hkv⟩ : ∃ kv, kvs[n]? = some kv := ⟨kvs[n], List.getElem?_eq_getElem (by omega)⟩
  rw [hkv] at ht
  have e2 : kv.2 = .ref t := Option.some.inj ht
  have h1 : (kvs.map (·.1))[n]? = some kv.1 := by rw [List.getElem?_map, hkv]; rfl
  rw [p.keys, List.getElem?_map, h] at h1
  have e1 : keyP k = kv.1 := Option.some.inj h1
  refine ⟨v, t, hv, ?_, hT⟩
  have hnd : (kvs.map Prod.fst).Nodup := by
    have e : kvs.map Prod.fst = ks.map keyP := p.keys
    rw [e]
    exact List.pairwise_map.mpr (p.nd.imp fun h z => h (keyP_inj z))
  refine valV_at (n := n) hnd ?_
  rw [hkv, ← e2, e1]
end
/-- the value of a key, or the key -/
def toP (kvs : List (List Key × V)) (H : Hp) (k : Int × Int) : Int × Int := match valV kvs (keyP k) with
  | some (.ref t) => prAt H t
  | _ => k
theorem toP_at {H : Hp} {kvs : List (List Key × V)} {ks vl : List (Int × Int)} (p : PP H kvs ks vl) {n : Nat} {k v : Int × Int} (h : ks[n]? = some k) (hv : vl[n]? = some v) : toP kvs H k = v := by
  obtain ⟨v', t, h1, h2, h3⟩ := p.at_ h
  rw [hv] at h1
  cases h1
  unfold toP
  rw [h2]
  exact prAt_of h3
end Vf
namespace Vf
theorem rowOf_len (l : List (Int × Int)) (c : Int × Int → Bool) (i : Int) : (rowOf l c i).length ≤ l.length := by
  unfold rowOf
  rw [List.length_map]
  exact List.length_filter_le _ _
end Vf
namespace Vf
open PySem L2
/-! ### a protocol -/
structure RA where
  t1 : Addr
  t2 : Addr
  t3 : Addr
  t4 : Addr
  t5 : Addr
  dn : Addr
  dr : Addr
  rw : Addr
def bFs (a : RA) : List (Str × V) := [("states", .ref a.t1), ("inputs", .ref a.t2), ("leaders", .ref a.t3), ("rules", .ref a.t4), ("outputs", .ref a.t5), ("_numbers", .ref a.dn), ("_results", .ref a.dr), ("_rows", .ref a.rw)]
theorem bFs_new (a : RA) : putF "_rows" (.ref a.rw) (putF "_results" (.ref a.dr) (putF "_numbers" (.ref a.dn) (putF "outputs" (.ref a.t5) (putF "rules" (.ref a.t4) (putF "leaders" (.ref a.t3) (putF "inputs" (.ref a.t2) (putF "states" (.ref a.t1) []))))))) = bFs a := by rfl
/-- the results of rules, as pairs of numbers -/
def rks (D : DD) : List (Int × Int) := D.ru.map fun r => (ix D.st r.1, ix D.st r.2.1)
def rvs (D : DD) : List (Int × Int) := D.ru.map fun r => (ix D.st r.2.2.1, ix D.st r.2.2.2)
structure BookAt (C : Addr) (H : Hp) (p : Addr) (a : RA) (D : DD) : Prop where
  ob : ∃ dx, H p = some (.ins C dx (bFs a))
  st : H a.t1 = some (.tup (D.st.map V.str))
  ins : ∃ xs, H a.t2 = some (.tup xs) ∧ Tups enc2 H xs D.ins
  ld : H a.t3 = some (.tup (D.ld.map V.str))
  ru : ∃ xs, H a.t4 = some (.tup xs) ∧ Tups enc4 H xs D.ru
  ou : H a.t5 = some (.tup (D.ou.map V.int))
  dn : H a.dn = some (.dK (numK D.st))
  dr : ∃ kvs, H a.dr = some (.dT kvs) ∧ Res H D.st D.ru kvs
  rw : ∃ (xs : List V) (rows : Nat → List Int), H a.rw = some (.tup xs) ∧ xs.length = D.st.length ∧ (∀ i x, xs[i]? = some x → ∃ t, x = .ref t ∧ H t = some (.tup ((rows i).map V.int))) ∧ (∀ i, (rows i).Pairwise (· < ·)) ∧
    ∀ (i : Nat) (j : Int), j ∈ rows i ↔ ∃ (n : Nat) (v : Int × Int), (rks D)[n]? = some ((i : Int), j) ∧ (rvs D)[n]? = some v ∧ v ≠ ((i : Int), j)
theorem BookAt.same {C : Addr} {H H' : Hp} {p : Addr} {a : RA} {D : DD} (S : BookAt C H p a D) (e : Same H H') : BookAt C H' p a D := by
  obtain ⟨dx, h0⟩ := S.ob
  obtain ⟨x2, h2, T2⟩ := S.ins
  obtain ⟨x4, h4, T4⟩ := S.ru
  obtain ⟨kvs, hk, R⟩ := S.dr
  obtain ⟨xs, rows, h8, l8, r8, a8, m8⟩ := S.rw
  exact ⟨⟨dx, e _ _ h0⟩, e _ _ S.st, ⟨x2, e _ _ h2, T2.same e⟩, e _ _ S.ld, ⟨x4, e _ _ h4, T4.same e⟩, e _ _ S.ou, e _ _ S.dn, ⟨kvs, e _ _ hk, R.same fun t ys => e t _⟩,
    ⟨xs, rows, e _ _ h8, l8, fun i x hx => by
      obtain ⟨t, e1, e2⟩ := r8 i x hx
      exact ⟨t, e1, e _ _ e2⟩, a8, m8⟩⟩
theorem Keep.new {S : List Addr} {H H' : Hp} {p : Addr} {o : HO} (e : Keep S H H') (h : H' p = none) : Keep S H (upd H' p o) := fun b u n q => by
  have q' := e b u n q
  rw [upd_ne (ne_of_none q' h)]
  exact q'
theorem Keep.same {S : List Addr} {H H1 H2 : Hp} (e : Keep S H H1) (s : Same H1 H2) : Keep S H H2 := fun b u n q => s b u (e b u n q)
theorem Res.pp {H : Hp} {D : DD} {kvs : List (List Key × V)} (R : Res H D.st D.ru kvs) (nd : (rks D).Nodup) : PP H kvs (rks D) (rvs D) := by
  refine ⟨?_, ?_, nd⟩
  · rw [R.keys]
    unfold rks
    rw [List.map_map]
    rfl
  · refine ⟨by rw [R.vals.1]; simp [rvs], fun i v hv => ?_⟩
    unfold rvs at hv
    obtain ⟨r, hr, rfl⟩ := map_get hv
    exact R.vals.2 i r hr
theorem take_all {α : Type} {l : List α} {P : List α → α → Prop} (h : ∀ i x, l[i]? = some x → P (l.take i) x) (x : α) (hx : x ∈ l) : ∃ i, P (l.take i) x := by
  obtain ⟨i, hi⟩ := List.mem_iff_getElem?.mp hx
  exact ⟨i, h i x hi⟩
theorem Valid.rule {D : DD} (v : Valid D) {r : S4} (hr : r ∈ D.ru) : r.1 ∈ D.st ∧ r.2.1 ∈ D.st ∧ r.2.2.1 ∈ D.st ∧ r.2.2.2 ∈ D.st := by
  obtain ⟨i, hi⟩ := List.mem_iff_getElem?.mp hr
  have h := v.ru i r hi
  unfold DD.okRule at h
  simp only [Bool.and_eq_true, decide_eq_true_eq] at h
  exact ⟨h.1.1.1.1, h.1.1.1.2, h.1.1.2, h.1.2⟩
theorem ix_bd {st : List Str} {s : Str} (h : s ∈ st) : 0 ≤ ix st s ∧ ix st s < (st.length : Int) := by
  have := List.idxOf_lt_length_of_mem h
  unfold ix
  omega
theorem Valid.nd {D : DD} (v : Valid D) : (rks D).Nodup := by
  unfold rks List.Nodup
  rw [List.pairwise_map, List.pairwise_iff_getElem]
  intro i j hi hj hij e
  have e1 : D.ru[i]? = some D.ru[i] := List.getElem?_eq_getElem hi
  have e2 : D.ru[j]? = some D.ru[j] := List.getElem?_eq_getElem hj
  have m1 := v.rule (List.getElem_mem hi)
  have m2 := v.rule (List.getElem_mem hj)
  have x := Prod.mk.inj e
  have y1 := ix_inj m1.1 m2.1 x.1
  have y2 := ix_inj m1.2.1 m2.2.1 x.2
  have h := v.ru j _ e2
  unfold DD.okRule at h
  simp only [Bool.and_eq_true, decide_eq_true_eq] at h
  refine h.2 (List.mem_map.mpr ⟨D.ru[i], ?_, by rw [y1, y2]⟩)
  refine List.mem_iff_getElem?.mpr ⟨i, ?_⟩
  rw [List.getElem?_take_of_lt hij]
  exact e1
end Vf
namespace Vf
open PySem L2
theorem walk_zipT {K : PySem.W.Frag} {a b : Addr} {xs ys : List V} {n : Nat} (hx : xs.length = n) (hy : ys.length = n) : Walk (RZ.ItzT K a b) n (fun H => SqT K H a xs ∧ SqT K H b ys) (YPair (fun i => xs[i]?) (fun i => ys[i]?)) where
  goes := fun i H hi q => ⟨xs, ys, xs[i], ys[i], q.1, q.2, List.getElem?_eq_getElem (by omega), List.getElem?_eq_getElem (by omega)⟩
  stops := fun H q => ⟨xs, ys, q.1, q.2, Or.inl (by omega)⟩
  yields := fun i H v H' _ q y => by
    obtain ⟨u, x, z, h1, h2, h3, h4, h5⟩ := y
    exact ⟨u, x, z, h1, h2, h3, h4 xs q.1, h5 ys q.2⟩
/-! ### written protocols -/
def lnSt (p : Str × Int) : Str := Str.ofString "state " ++ p.1 ++ Str.ofString " " ++ Str.ofString (toString p.2)
def lnIn (p : Str × Str) : Str := Str.ofString "input " ++ p.1 ++ Str.ofString " " ++ p.2
def lnLd (s : Str) : Str := Str.ofString "leader " ++ s
def lnRu (r : S4) : Str := Str.ofString "rule " ++ r.1 ++ Str.ofString " " ++ r.2.1 ++ Str.ofString " to " ++ r.2.2.1 ++ Str.ofString " " ++ r.2.2.2
def linesOf (D : DD) : List Str := (D.st.zip D.ou).map lnSt ++ D.ins.map lnIn ++ D.ld.map lnLd ++ D.ru.map lnRu
def textOf (D : DD) : Str := Txt.join (Str.ofString "\n") (linesOf D)
theorem zip_get {α β : Type} {l : List α} {m : List β} {i : Nat} {a : α} {b : β} (h1 : l[i]? = some a) (h2 : m[i]? = some b) : (l.zip m)[i]? = some (a, b) := by
  rw [List.getElem?_zip_eq_some]
  exact ⟨h1, h2⟩
theorem log_of {o : Int} (h : 0 ≤ o ∧ o ≤ 9) : o.natAbs.log2 < 1920 := by
  by_cases hz : o.natAbs = 0
  · rw [hz]
    decide
  · exact (Nat.log2_lt hz).mpr (Nat.lt_of_le_of_lt (show o.natAbs ≤ 9 by omega) (Nat.lt_of_lt_of_le (show 9 < 2 ^ 4 by decide) (Nat.pow_le_pow_right (by decide) (by decide))))
theorem num_len1 {o : Int} (h : 0 ≤ o ∧ o ≤ 9) : (Str.ofString (toString o)).length ≤ 2 := by
  have e := int_text_length_le10 (a := o) (k := 1) (by decide) (by omega)
  rw [ofString_length]
  omega
theorem lits : (Str.ofString "state ").length = 6 ∧ (Str.ofString " ").length = 1 ∧ (Str.ofString "input ").length = 6 ∧ (Str.ofString "leader ").length = 7 ∧ (Str.ofString "rule ").length = 5 ∧ (Str.ofString " to ").length = 4 ∧ (Str.ofString "\n").length = 1 := by decide +kernel
section
variable {D : DD}
theorem ValidN.nl (v : ValidN D) {s : Str} (h : s ∈ D.st) : s.length ≤ 12 := name_len (v.nm s h)
theorem lnSt_len (v : ValidN D) {p : Str × Int} (h1 : p.1 ∈ D.st) (h2 : p.2 ∈ D.ou) : (lnSt p).length ≤ 64 := by
  have a := v.nl h1
  have b := num_len1 (v.ou _ h2)
  obtain ⟨l1, l2, _⟩ := lits
  unfold lnSt
  simp only [Str.length_append]
  omega
theorem lnIn_len (v : ValidN D) {p : Str × Str} (h : p ∈ D.ins) : (lnIn p).length ≤ 64 := by
  obtain ⟨a, b⟩ := v.inm p h
  have a' := name_len a
  have b' := v.nl b
  obtain ⟨_, l2, l3, _⟩ := lits
  unfold lnIn
  simp only [Str.length_append]
  omega
theorem lnLd_len (v : ValidN D) {s : Str} (h : s ∈ D.ld) : (lnLd s).length ≤ 64 := by
  have b' := v.nl (v.ldm s h)
  obtain ⟨_, _, _, l4, _⟩ := lits
  unfold lnLd
  simp only [Str.length_append]
  omega
theorem lnRu_len (v : ValidN D) {r : S4} (h : r ∈ D.ru) : (lnRu r).length ≤ 64 := by
  obtain ⟨m1, m2, m3, m4⟩ := v.rum r h
  have a1 := v.nl m1
  have a2 := v.nl m2
  have a3 := v.nl m3
  have a4 := v.nl m4
  obtain ⟨_, l2, _, _, l5, l6, _⟩ := lits
  unfold lnRu
  simp only [Str.length_append]
  omega
theorem zip_mem {α β : Type} {l : List α} {m : List β} {p : α × β} (h : p ∈ l.zip m) : p.1 ∈ l ∧ p.2 ∈ m := ⟨(List.of_mem_zip (a := p.1) (b := p.2) h).1, (List.of_mem_zip (a := p.1) (b := p.2) h).2⟩
theorem lines_len (v : ValidN D) {y : Str} (h : y ∈ linesOf D) : y.length ≤ 64 := by
  unfold linesOf at h
  simp only [List.mem_append, List.mem_map] at h
  rcases h with ((⟨p, hp, rfl⟩ | ⟨p, hp, rfl⟩) | ⟨s, hs, rfl⟩) | ⟨r, hr, rfl⟩
  · exact lnSt_len v (zip_mem hp).1 (zip_mem hp).2
  · exact lnIn_len v hp
  · exact lnLd_len v hs
  · exact lnRu_len v hr
theorem lines_n (v : ValidN D) : (linesOf D).length ≤ 418 + D.ru.length := by
  unfold linesOf
  simp only [List.length_append, List.length_map, List.length_zip]
  have a := v.n400
  have b := v.n8
  have c := v.n10
  omega
theorem sum_le (l : List Str) (k : Nat) (h : ∀ y ∈ l, y.length ≤ k) : (l.map (·.length)).sum ≤ k * l.length := by
  induction l with
  | nil => simp
  | cons y l ih =>
    have h1 := h y List.mem_cons_self
    have h2 := ih fun z hz => h z (List.mem_cons_of_mem _ hz)
    rw [List.map_cons, List.sum_cons, List.length_cons, Nat.mul_succ]
    omega
theorem join_fits (v : ValidN D) (hr : D.ru.length ≤ 200000) : ((linesOf D).map (·.length)).sum + (linesOf D).length * (Str.ofString "\n").length ≤ 16777216 := by
  have a := sum_le (linesOf D) 64 fun y hy => lines_len v hy
  have b := lines_n v
  obtain ⟨_, _, _, _, _, _, l7⟩ := lits
  rw [l7]
  omega
end
end Vf
namespace Vf
open PySem L2
def DD.rev (D : DD) : DD := ⟨D.st, D.ins.reverse, D.ld.reverse, D.ru.reverse, D.ou⟩
theorem ValidN.rev {D : DD} (v : ValidN D) : ValidN D.rev where
  len := v.len
  n400 := v.n400
  nm := v.nm
  nd := v.nd
  ou := v.ou
  n8 := by
    show D.ins.reverse.length ≤ 8
    rw [List.length_reverse]
    exact v.n8
  inm := fun p hp => v.inm p (List.mem_reverse.mp hp)
  ind := by
    have pm := ((List.reverse_perm D.ins).map (·.1)).nodup_iff
    exact pm.mpr v.ind
  n10 := by
    show D.ld.reverse.length ≤ 10
    rw [List.length_reverse]
    exact v.n10
  ldm := fun s hs => v.ldm s (List.mem_reverse.mp hs)
  rum := fun r hr => v.rum r (List.mem_reverse.mp hr)
  rnd := by
    have pm := ((List.reverse_perm D.ru).map fun x : S4 => (x.1, x.2.1)).nodup_iff
    exact pm.mpr v.rnd
theorem ValidN.nil : ValidN DD.nil where
  len := rfl
  n400 := Nat.zero_le _
  nm := fun s hs => absurd hs List.not_mem_nil
  nd := List.nodup_nil
  ou := fun s hs => absurd hs List.not_mem_nil
  n8 := Nat.zero_le _
  inm := fun s hs => absurd hs List.not_mem_nil
  ind := List.nodup_nil
  n10 := Nat.zero_le _
  ldm := fun s hs => absurd hs List.not_mem_nil
  rum := fun s hs => absurd hs List.not_mem_nil
  rnd := List.nodup_nil
theorem text_nil : textOf DD.nil = Str.ofString "" := by decide +kernel
end Vf
namespace Vf
open PySem L2
theorem none_put {H : Hp} {a x : Addr} {o : HO} (h : H x = none) (ne : x ≠ a) : upd H a o x = none := by
  rw [upd_ne ne]
  exact h
end Vf

namespace Vf
open PySem PySem.W PySem.Spec PyProof.Rows L2
/-! ### min(xs, default=d) of whole numbers -/
theorem least_ok : ∀ (zs : List Int) (z : Int), PySem.W.minOf z zs ∈ z :: zs ∧ ∀ q ∈ z :: zs, PySem.W.minOf z zs ≤ q
  | [], z => ⟨List.mem_singleton.mpr rfl, fun q hq => by
      have e : q = z := by simpa using hq
      rw [e]
      exact Int.le_refl _⟩
  | y :: r, z => by
    have step : PySem.W.minOf z (y :: r) = PySem.W.minOf (if y < z then y else z) r := by
      unfold PySem.W.minOf
      rw [List.foldl_cons]
      congr 1
      by_cases c : y < z
      · simp [DatumOrd.lt, c]
      · simp [DatumOrd.lt, c]
    obtain ⟨m1, m2⟩ := least_ok r (if y < z then y else z)
    rw [step]
    have low := m2 _ (List.mem_cons_self ..)
    refine ⟨?_, fun q hq => ?_⟩
    · rcases List.mem_cons.mp m1 with e | e
      · rw [e]
        by_cases c : y < z
        · rw [if_pos c]; simp
        · rw [if_neg c]; simp
      · exact List.mem_cons_of_mem _ (List.mem_cons_of_mem _ e)
    · rcases List.mem_cons.mp hq with e | e
      · rw [e]
        by_cases c : y < z
        · rw [if_pos c] at low ⊢; omega
        · rw [if_neg c] at low ⊢; omega
      · rcases List.mem_cons.mp e with e | e
        · rw [e]
          by_cases c : y < z
          · rw [if_pos c] at low ⊢; omega
          · rw [if_neg c] at low ⊢; omega
        · exact m2 q (List.mem_cons_of_mem _ e)
def rLeastD (K : PySem.W.Frag) : List V → List V → Hp → VK → Prop := fun vs zs H Q => ∃ (a : Addr) (ns : List Int) (d : Int), vs = [V.ref a] ∧ zs = [V.int d] ∧ (SqL K H a (ns.map V.int) ∨ SqT K H a (ns.map V.int)) ∧
  ∀ m : Int, (ns = [] ∧ m = d ∨ m ∈ ns ∧ ∀ y ∈ ns, m ≤ y) → Q (.int m) H
theorem ints_at : ∀ {its : List Value} {ns : List Int} {i : Nat} {v : Value}, IntsAre its ns → its[i]? = some v → ∃ (n : Int) (t : Tok), v = .int n t
  | _, _, i, v, .nil, e => by simp at e
  | _, _, 0, v, .cons n t _, e => by
    have e' : Value.int n t = v := by simpa using e
    exact ⟨n, t, e'.symm⟩
  | _, _, i + 1, v, .cons n t r, e => ints_at (i := i) r (by simpa using e)
theorem holds_only {h : Heap} {n m : Int} {t : Tok} (q : PySem.W.Holds h (Value.int n t) m) : n = m := by
  obtain ⟨as, r⟩ := q
  cases r
  rfl
theorem cr_leastD {X : Cx} (hu : X.A.units + 64 < cLine) (hc : X.calm = true := by rfl) : CallRK X (.builtin "min") [Str.ofString "default"] (rLeastD X.K) := by
  intro pins s σ H vs zs us ws Q I r rz h
  obtain ⟨a, ns, d, rfl, rfl, both, q⟩ := h
  obtain rfl := Vals.ref1 r
  obtain ⟨w1, rfl, e1⟩ := vals1 rz
  obtain ⟨tk0, rfl⟩ : ∃ tk, w1 = Value.int d tk := e1
  have room : X.A.units + 1 + Datum.depth Int < cLine := by
    show X.A.units + 1 + 0 < cLine
    omega
  have non : ∀ h' tk, ns = [] → (∀ b o, s.heap.get? b = some o → h'.get? b = some o) → EP X pins σ Q (Value.int d tk0) { s with heap := h', toks := tk } := fun h' tk e k =>
    ⟨.int d, H, I.kept (t' := tk) k, ⟨tk0, rfl⟩, q d (.inl ⟨e, rfl⟩)⟩
  have one : ∀ (its : List Value) (y : Int) (ys : List Int) (i : Nat) v h' tk, IntsAre its ns → ns = y :: ys → its.toArray[i]? = some v → PySem.W.Holds h' v (PySem.W.minOf y ys) → (∀ b o, s.heap.get? b = some o → h'.get? b = some o) →
      EP X pins σ Q v { s with heap := h', toks := tk } := fun its y ys i v h' tk ia e hv hh k => by
    obtain ⟨n, t, rfl⟩ := ints_at (i := i) ia (by simpa using hv)
    have en := holds_only hh
    obtain ⟨f1, f2⟩ := least_ok ys y
    refine ⟨.int n, H, I.kept (t' := tk) k, ⟨t, rfl⟩, q n (.inr ?_)⟩
    rw [en, e]
    exact ⟨f1, f2⟩
  rcases both with hs | hs
  · obtain ⟨its, rv, hl, _⟩ := I.list hs
    exact PySem.W.min_list_datum_default (I.ok.hd hc) hl.isList (.of_ints rv.ints) room (fun e h' tk k => non h' tk e k) fun y ys i v h' tk e hv hh k => one its y ys i v h' tk rv.ints e hv hh k
  · obtain ⟨its, rv, hl, _⟩ := I.tuple hs
    exact PySem.W.min_tuple_datum_default (I.ok.hd hc) hl (.of_ints rv.ints) room (fun e h' tk k => non h' tk e k) fun y ys i v h' tk e hv hh k => one its y ys i v h' tk rv.ints e hv hh k
/-! ### the item of a list, for xs[i] += e -/
def rItemL (K : PySem.W.Frag) : V → V → Hp → VK → Prop := fun x y H Q => ∃ (p : Addr) (xs : List V) (i : Int) (z : V), x = V.ref p ∧ y = V.int i ∧ SqL K H p xs ∧ 0 ≤ i ∧ xs[i.toNat]? = some z ∧ Q z H
theorem get_listM {X : Cx} : PGet X (rItemL X.K) := by
  intro pins s σ H o i ov iv Q I ro ri h
  obtain ⟨p, xs, k, z, rfl, rfl, hs, h0, hz, q⟩ := h
  cases ro
  obtain ⟨t, rfl⟩ := ri
  obtain ⟨its, rv, hl, hb⟩ := I.list hs
  obtain ⟨u, hu, ru⟩ := rv.get hz
  have hlt := (List.getElem?_eq_some_iff.mp hz).1
  have big := line63
  exact wpAny_getItem_list hl.isList h0 (by omega) (by simpa using hu) ⟨z, H, I, ru, q⟩
end Vf

/-! ### zip of a tuple and a list -/
namespace Vf
open PySem PySem.Spec PyProof.Rows L2
def ItzM (K : PySem.W.Frag) (a b : Addr) : It where
  go := fun i H => ∃ (xs ys : List V) (x y : V), (SqT K H a xs ∧ SqL K H b ys) ∧ xs[i]? = some x ∧ ys[i]? = some y
  yld := fun i H v H' => ∃ (T : Addr) (x y : V), (v = .ref T ∧ H T = none ∧ H' = upd H T (.tup [x, y])) ∧ (∀ l, SqT K H a l → l[i]? = some x) ∧ (∀ l, SqL K H b l → l[i]? = some y)
  stop := fun i H => ∃ xs ys : List V, (SqT K H a xs ∧ SqL K H b ys) ∧ i ≤ xs.length ∧ i ≤ ys.length ∧ (i = xs.length ∨ i = ys.length)
/-- the iterator's own state -/
def StM (z TI TO i1 i2 a b : Addr) (i : Nat) (h : Heap) : Prop := IsZip h z TI TO .none ∧ IsPair h TI (.ref i1) (.ref i2) ∧ (∃ u v, IsPair h TO u v) ∧ h.IsTupleIter i1 a i ∧ h.IsListIter i2 b i
theorem five {c z TI TO i1 i2 : Addr} (h : c ∈ [z, TI, TO, i1, i2]) : c = z ∨ c = TI ∨ c = TO ∨ c = i1 ∨ c = i2 := by simpa using h
theorem StM.lt {z TI TO i1 i2 a b c : Addr} {i : Nat} {h : Heap} (S : StM z TI TO i1 i2 a b i h) (hc : c ∈ [z, TI, TO, i1, i2]) : c < h.objs.size := by
  obtain ⟨s1, s2, ⟨u, v, s3⟩, ⟨o1, s4, _⟩, ⟨o2, s5, _⟩⟩ := S
  rcases five hc with e | e | e | e | e <;> subst e
  · exact Heap.lt_size s1
  · exact Heap.lt_size s2
  · exact Heap.lt_size s3
  · exact Heap.lt_size s4
  · exact Heap.lt_size s5
section
variable {P : Program} {w : World} {K : PySem.W.Frag} {a b z TI TO i1 i2 : Addr}
theorem sepM (D : ZipApart z TI TO i1 i2 a b) : ZipSep2 z TI TO i1 i2 [i1, a] [i2, b] where
  TIz := D.TIz
  TOz := D.TOz
  TITO := D.TITO
  TIi1 := D.TIi1
  TIi2 := D.TIi2
  mem1 := List.mem_cons_self ..
  mem2 := List.mem_cons_self ..
  zf1 := by simp [Ne.symm D.i1z, Ne.symm D.l1z]
  zf2 := by simp [Ne.symm D.i2z, Ne.symm D.l2z]
  Tf1 := by simp [D.TOi1, Ne.symm D.l1TO]
  Tf2 := by simp [D.TOi2, Ne.symm D.l2TO]
  sep1_2 := by simp [D.i12, Ne.symm D.l2i1]
  sep2_1 := by simp [Ne.symm D.i12, Ne.symm D.l1i2]
theorem turn_zipM {elts : List Expr} {kk : Nat} {tpos : Pos} (D : ZipApart z TI TO i1 i2 a b) : Turn P w K (.Tuple elts kk tpos) (ItzM K a b) [z, TI, TO, i1, i2] z (StM z TI TO i1 i2 a b) where
  mem := List.mem_cons_self ..
  self := fun A i s Q E S q => wpAny_pyIter_zip S.1 q
  keep := by
    rintro i h h' ⟨s1, s2, ⟨u, v, s3⟩, s4, s5⟩ k
    exact ⟨k _ (by simp) _ s1, k _ (by simp) _ s2, ⟨u, v, k _ (by simp) _ s3⟩, s4.at fun o => k _ (by simp) o, s5.at fun o => k _ (by simp) o⟩
  obj := by
    rintro i h ⟨s1, s2, ⟨u, v, s3⟩, ⟨o1, s4, _, t4⟩, ⟨o2, s5, _, t5⟩⟩ c hc
    rcases five hc with e | e | e | e | e <;> subst e
    · exact ⟨_, s1, nofun⟩
    · exact ⟨_, s2, nofun⟩
    · exact ⟨_, s3, nofun⟩
    · refine ⟨o1, s4, fun v' e => ?_⟩
      rw [t4] at e
      cases e
    · refine ⟨o2, s5, fun v' e => ?_⟩
      rw [t5] at e
      cases e
  item := by
    rintro X rfl rfl rfl hc i pins s σ H E I hf S ⟨xs, ys, x, y, ⟨hqx, hqy⟩, hx, hy⟩
    have hlt := fun c hc => StM.lt (c := c) S hc
    obtain ⟨s1, s2, ⟨u0, v0, s3⟩, s4, s5⟩ := S
    obtain ⟨us, rx, px, _⟩ := I.tuple hqx
    obtain ⟨vs, ry, py, _⟩ := I.list hqy
    obtain ⟨u, hu, ru⟩ := rx.get hx
    obtain ⟨v, hv, rv⟩ := ry.get hy
    have nh : X.A.in1.handled = none := I.ok.hd hc
    have lx := (List.getElem?_eq_some_iff.mp hu).1
    have ly := (List.getElem?_eq_some_iff.mp hv).1
    refine wpAny_pyNext_zipD2_item (sepM D) (Draws.tuple nh i1 a D.l1i1 us.toArray) (Draws.list nh i2 b D.l2i2 vs.toArray) s1 s2 s3 ⟨s4, px⟩ ⟨s5, py.isList⟩ (by simpa using lx) (by simpa using ly)
      fun x1 x2 g tk e1 e2 g1 g2 g3 g4 g5 _ gk => ?_
    obtain rfl : u = x1 := by
      have e := e1
      simp only [List.getElem?_toArray] at e
      rw [hu] at e
      exact Option.some.inj e
    obtain rfl : v = x2 := by
      have e := e2
      simp only [List.getElem?_toArray] at e
      rw [hv] at e
      exact Option.some.inj e
    refine ⟨_, rfl, ?_⟩
    refine wpAny_letOwnedTupleGo_zip (s := { s with heap := g, toks := tk }) g1 fun g' z' sb => ?_
    have zlt := hlt z (by simp)
    have got : g'.get? s.heap.objs.size = some { cls := .type "tuple", data := .seq #[u, v] } := (sb.2 _ (Nat.ne_of_gt zlt)).trans g5
    have fresh : H s.heap.objs.size = none := I.hok.fresh (Nat.le_refl _)
    have made : ObjOk X.prog X.w (upd H s.heap.objs.size (.tup [x, y])) g' s.heap.objs.size (.tup [x, y]) := by
      refine ⟨?_, [u, v], .cons ru (.cons rv .nil), ⟨_, got, rfl, _, rfl⟩⟩
      show 2 ≤ sizeLine
      decide
    have stay : ∀ c o, c ∉ [z, TI, TO, i1, i2] → s.heap.get? c = some o → g'.get? c = some o := fun c o n q => by
      have n1 : c ≠ z := fun e => n (by simp [e])
      have n2 : c ≠ TO := fun e => n (by simp [e])
      have n3 : c ≠ i1 := fun e => n (by simp [e])
      have n4 : c ≠ i2 := fun e => n (by simp [e])
      exact (sb.2 c n1).trans (gk c o n1 n2 n3 n4 q)
    refine ⟨.ref s.heap.objs.size, upd H s.heap.objs.size (.tup [x, y]), I.turnedNew (t' := tk) (ch := [z, TI, TO, i1, i2]) stay hf (Nat.le_refl _) made, rfl, ?_, ?_, ?_⟩
    · refine ⟨_, x, y, ⟨rfl, fresh, rfl⟩, fun l hl => ?_, fun l hl => ?_⟩
      · rw [I.tuple_inj hl hqx]; exact hx
      · rw [I.list_inj hl hqy]; exact hy
    · refine ⟨z', ?_, ⟨u, v, (sb.2 _ D.TOz).trans g2⟩, g3.1.at fun o q => (sb.2 _ D.i1z).trans q, g4.1.at fun o q => (sb.2 _ D.i2z).trans q⟩
      exact (sb.2 _ D.TIz).trans (gk _ _ D.TIz D.TITO D.TIi1 D.TIi2 s2)
    · intro c hcm
      rw [upd_ne (Nat.ne_of_lt (hlt c hcm))]
      exact (hf c hcm).1
  done := by
    rintro X rfl rfl rfl hc i pins s σ H E I hf ⟨s1, s2, ⟨u0, v0, s3⟩, s4, s5⟩ ⟨xs, ys, ⟨hqx, hqy⟩, l1, l2, l3⟩
    obtain ⟨us, rx, px, _⟩ := I.tuple hqx
    obtain ⟨vs, ry, py, _⟩ := I.list hqy
    have nh : X.A.in1.handled = none := I.ok.hd hc
    rw [rx.length] at l1 l3
    rw [ry.length] at l2 l3
    refine wpAny_pyNext_zipD2_end (sepM D) (Draws.tuple nh i1 a D.l1i1 us.toArray) (Draws.list nh i2 b D.l2i2 vs.toArray) s1 s2 s3 ⟨s4, px⟩ ⟨s5, py.isList⟩ (by simpa using l1) (by simpa using l2) (by simpa using l3) fun g tk gk => ⟨rfl, ?_⟩
    refine I.turnedL (t' := tk) (ch := [z, TI, TO, i1, i2]) (fun c o n q => ?_) hf
    exact gk c o (fun e => n (by simp [e])) (fun e => n (by simp [e])) (fun e => n (by simp [e])) (fun e => n (by simp [e])) q
end
/-! the making of it -/
def zm1 (h : Heap) (a : Addr) : Heap := h.push { cls := .type "tuple_iterator", data := .fields #[.ref a, .int 0 0] }
def zm2 (h : Heap) (a b : Addr) : Heap := (zm1 h a).push { cls := .type "list_iterator", data := .fields #[.ref b, .int 0 0] }
def zm3 (h : Heap) (a b : Addr) : Heap := (zm2 h a b).push { cls := .type "tuple", data := .seq #[.ref h.objs.size, .ref (zm1 h a).objs.size] }
def zm4 (h : Heap) (a b : Addr) : Heap := (zm3 h a b).push { cls := .type "tuple", data := .seq #[.none, .none] }
def zm5 (h : Heap) (a b : Addr) : Heap := (zm4 h a b).push { cls := .type "zip", data := .fields #[.none, .bool false, .bool false, .ref (zm2 h a b).objs.size, .ref (zm3 h a b).objs.size] }
theorem meets_zipM (a b : Addr) (xs ys : Array Value) : Meets (Builtin.«zip.__new__» ⟨[.type "zip", .ref a, .ref b], []⟩)
    fun _ R s => s.heap.IsTuple a xs ∧ s.heap.IsList b ys ∧ R (.ok (.ret (.ref (zm4 s.heap a b).objs.size))) { s with heap := zm5 s.heap a b } := by
  refine .of_wp fun prog w A R s h => ?_
  obtain ⟨hp, gs, dr, tk, os⟩ := s
  obtain ⟨ha, hb, h⟩ := h
  have sub := sub_zip
  have ita : Heap.IsTuple (Shared.heap ⟨hp, gs, dr, tk, os⟩) a xs := ha
  have itb : Heap.IsList (Shared.heap ⟨hp.push { cls := .type "tuple_iterator", data := .fields #[.ref a, .int 0 0] }, gs, dr, tk, os⟩) b ys := Heap.IsList.push hb _
  wp_walk using wpAny_pyIter_tuple ita, wpAny_pyIter_list itb
  exact ⟨_, rfl, h⟩
theorem call_zipM {prog : Program} {w : World} {A : Around} {E : Value → Shared → Prop} {s : Shared} {a b : Addr} {xs ys : Array Value} {Q : Value → Shared → Prop} (ha : s.heap.IsTuple a xs) (hb : s.heap.IsList b ys)
    (q : ∀ g, StM (s.heap.objs.size + 4) (s.heap.objs.size + 2) (s.heap.objs.size + 3) s.heap.objs.size (s.heap.objs.size + 1) a b 0 g → (∀ c o, s.heap.get? c = some o → g.get? c = some o) → Q (.ref (s.heap.objs.size + 4)) { s with heap := g }) :
    wpAny (model prog w) A (call (.type "zip") [.ref a, .ref b]) Q E s := by
  have n1 : (zm1 s.heap a).objs.size = s.heap.objs.size + 1 := Heap.size_push ..
  have n2 : (zm2 s.heap a b).objs.size = s.heap.objs.size + 2 := (Heap.size_push ..).trans (by rw [n1])
  have n3 : (zm3 s.heap a b).objs.size = s.heap.objs.size + 3 := (Heap.size_push ..).trans (by rw [n2])
  have n4 : (zm4 s.heap a b).objs.size = s.heap.objs.size + 4 := (Heap.size_push ..).trans (by rw [n3])
  have u1 : ∀ {c o}, s.heap.get? c = some o → (zm1 s.heap a).get? c = some o := fun e => Heap.get?_push_of_some _ e
  have u2 : ∀ {c o}, (zm1 s.heap a).get? c = some o → (zm2 s.heap a b).get? c = some o := fun e => Heap.get?_push_of_some _ e
  have u3 : ∀ {c o}, (zm2 s.heap a b).get? c = some o → (zm3 s.heap a b).get? c = some o := fun e => Heap.get?_push_of_some _ e
  have u4 : ∀ {c o}, (zm3 s.heap a b).get? c = some o → (zm4 s.heap a b).get? c = some o := fun e => Heap.get?_push_of_some _ e
  have u5 : ∀ {c o}, (zm4 s.heap a b).get? c = some o → (zm5 s.heap a b).get? c = some o := fun e => Heap.get?_push_of_some _ e
  have k1 : (zm1 s.heap a).get? s.heap.objs.size = some { cls := .type "tuple_iterator", data := .fields #[.ref a, .int 0 0] } := Heap.get?_push_size _ rfl
  have k2 : (zm2 s.heap a b).get? (s.heap.objs.size + 1) = some { cls := .type "list_iterator", data := .fields #[.ref b, .int 0 0] } := by
    rw [← n1]; exact Heap.get?_push_size _ rfl
  have k3 : (zm3 s.heap a b).get? (s.heap.objs.size + 2) = some { cls := .type "tuple", data := .seq #[.ref s.heap.objs.size, .ref (zm1 s.heap a).objs.size] } := by
    rw [← n2]; exact Heap.get?_push_size _ rfl
  have k4 : (zm4 s.heap a b).get? (s.heap.objs.size + 3) = some { cls := .type "tuple", data := .seq #[.none, .none] } := by
    rw [← n3]; exact Heap.get?_push_size _ rfl
  have k5 : (zm5 s.heap a b).get? (s.heap.objs.size + 4) = some { cls := .type "zip", data := .fields #[.none, .bool false, .bool false, .ref (zm2 s.heap a b).objs.size, .ref (zm3 s.heap a b).objs.size] } := by
    rw [← n4]; exact Heap.get?_push_size _ rfl
  rw [n1] at k3
  rw [n2, n3] at k5
  refine callType_new F.called_zip (by decide) (F.typeCall_zip_2 _ _) (F.newCall_zip_2 _ _) (fun obj => F.args_object_init_3 obj _ _) F.entry_zip_new (meets_zipM a b xs ys) ⟨ha, hb, ?_⟩
  show _ ∧ _
  rw [n4]
  exact ⟨⟨_, k5, rfl⟩, q _ ⟨k5, u5 (u4 k3), ⟨_, _, u5 k4⟩, ⟨_, u5 (u4 (u3 (u2 k1))), rfl, rfl⟩, ⟨_, u5 (u4 (u3 k2)), rfl, rfl⟩⟩ fun c o e => u5 (u4 (u3 (u2 (u1 e))))⟩
def iZipM (K : PySem.W.Frag) (ta : TA) : TI := fun σ H R => ta σ H fun vs H1 => ∃ (a b : Addr) (xs ys : List V), vs = [.ref a, .ref b] ∧ (SqT K H1 a xs ∧ SqL K H1 b ys) ∧ R (ItzM K a b) H1
theorem pi_zipM {X : Cx} {e e2 : Expr} {ta : TA} {p pos tpos : Pos} {elts : List Expr} {kk : Nat} (hg : Gl X "zip") (hm : X.mg "zip" = none) (ha : PA X [e, e2] ta)
    (hs : starEach [e, e2] X.env = (false, eval e X.env) :: starEach [e2] X.env := by rfl) (hpl : (backTo pos (starEach [e2] X.env)).any (·.1) = false := by rfl) :
    PI X (.Tuple elts kk tpos) (.Call (.Name "zip" p) [e, e2] [] pos) (iZipM X.K ta) := by
  constructor
  intro pins s σ H R I h
  refine Call_ (ld_blt I hg hm PyProof.Rows.boot_zip (PyProof.Rows.callWith_type1 (thn (ha.run pos pins s σ H _ I h) fun us s1 got => ?_) hs hpl))
  obtain ⟨vs, H1, I1, r1, a, b, xs, ys, rfl, ⟨hqx, hqy⟩, q⟩ := got
  obtain ⟨u1, r2, rfl, e1, r3⟩ : ∃ u r2, us = u :: r2 ∧ RelV (.ref a) u ∧ Vals [.ref b] r2 := by
    cases r1 with
    | cons x y => exact ⟨_, _, rfl, x, y⟩
  obtain rfl := Vals.ref1 r3
  obtain rfl : u1 = Value.ref a := e1
  obtain ⟨its, _, px, _⟩ := I1.tuple hqx
  obtain ⟨its2, _, py, _⟩ := I1.list hqy
  obtain ⟨o1, w1, _⟩ := id px
  refine call_zipM (xs := its.toArray) (ys := its2.toArray) px py.isList fun g S gk => wpAny_pyIter_zip S.1 ?_
  refine ⟨_, [s1.heap.objs.size + 4, s1.heap.objs.size + 2, s1.heap.objs.size + 3, s1.heap.objs.size, s1.heap.objs.size + 1], StM _ _ _ _ _ a b, ItzM X.K a b, H1, rfl, I1.kept (t' := s1.toks) gk,
    turn_zipM (PySem.W.ktu_apart s1.heap.objs.size a b (Heap.lt_size w1) py.lt), S, fun c hc => ?_, q⟩
  have le : s1.heap.objs.size ≤ c := by
    rcases five hc with e | e | e | e | e <;> rw [e]
    · exact Nat.le_add_right _ 4
    · exact Nat.le_add_right _ 2
    · exact Nat.le_add_right _ 3
    · exact Nat.le_refl _
    · exact Nat.le_add_right _ 1
  exact I1.fpOk le (I1.hok.fresh le)
theorem for_zipM {K : PySem.W.Frag} {a b : Addr} {xs ys : List V} {g : TG} {tb : TS} {D : Ends} {σ : L2.St} {H : Hp} (hl : xs.length = ys.length) (Pv : Nat → L2.St → Hp → Prop) (h0 : Pv 0 σ H) (hq : ∀ i σ H, Pv i σ H → SqT K H a xs ∧ SqL K H b ys)
    (hs : ∀ (i : Nat) (x y : V) (T : Addr) (σ : L2.St) (H : Hp), xs[i]? = some x → ys[i]? = some y → Pv i σ H → H T = none → g (.ref T) σ (upd H T (.tup [x, y])) fun σ2 H2 => tb { D with nx := Pv (i + 1), ct := Pv (i + 1), bk := D.nx } σ2 H2)
    (hd : ∀ σ H, Pv xs.length σ H → D.nx σ H) :
    ∃ W : Nat → Nat → L2.St → Hp → Prop, (∃ m, W 0 m σ H) ∧ ∀ i m σ H, W i m σ H →
      ((ItzM K a b).stop i H ∧ D.nx σ H) ∨ ((ItzM K a b).go i H ∧ ∃ N : L2.St → Hp → Prop, (∀ σ' H', N σ' H' → ∃ m', m' < m ∧ W (i + 1) m' σ' H') ∧ ∀ v H', (ItzM K a b).yld i H v H' → g v σ H' fun σ2 H2 => tb { D with nx := N, ct := N, bk := D.nx } σ2 H2) := by
  refine ⟨fun i m σ H => i + m = xs.length ∧ Pv i σ H, ⟨_, Nat.zero_add _, h0⟩, ?_⟩
  rintro i m σ H ⟨e, p⟩
  have both := hq i σ H p
  cases m with
  | zero =>
    have e' : i = xs.length := e
    subst e'
    exact .inl ⟨⟨xs, ys, both, Nat.le_refl _, Nat.le_of_eq hl, .inl rfl⟩, hd σ H p⟩
  | succ m =>
    have l1 : i < xs.length := by omega
    have l2 : i < ys.length := by omega
    refine .inr ⟨⟨xs, ys, _, _, both, List.getElem?_eq_getElem l1, List.getElem?_eq_getElem l2⟩, Pv (i + 1), fun σ' H' p' => ⟨m, Nat.lt_succ_self m, by omega, p'⟩, ?_⟩
    rintro v H' ⟨T, x, y, ⟨rfl, hT, rfl⟩, f1, f2⟩
    exact hs i x y T σ H (f1 xs both.1) (f2 ys both.2) p hT
end Vf

namespace Vf
open PySem PySem.W PySem.Spec PyProof.Rows L2
/-! ### == of lists of ints, and of tuples of ints -/
theorem dpAll_ints {K : PySem.W.Frag} {H : Hp} : ∀ ns : List Int, DpAll K H (ns.map V.int) (ns.map PyData.int)
  | [] => .nil
  | n :: r => .cons (.int n) (dpAll_ints r)
theorem shapedT_ints (ns : List Int) : SeqAt.shaped (.tuple (ns.map PyData.int)) = true := by
  have e : SeqAt.shaped (.tuple (ns.map PyData.int)) = SeqAt.shaped (.list (ns.map PyData.int)) := by
    unfold SeqAt.shaped
    simp only [PyData.canLay0, PyData.depth]
    rfl
  rw [e]
  exact PySem.W.shaped_ints ns
/-- two lists of ints, or two tuples of ints -/
def TwoInts (K : PySem.W.Frag) (H : Hp) (x y : V) (ns ms : List Int) : Prop := ∃ a b : Addr, x = .ref a ∧ y = .ref b ∧ ((SqL K H a (ns.map V.int) ∧ SqL K H b (ms.map V.int)) ∨ (SqT K H a (ns.map V.int) ∧ SqT K H b (ms.map V.int)))
theorem TwoInts.dp {K : PySem.W.Frag} {H : Hp} {x y : V} {ns ms : List Int} (t : TwoInts K H x y ns ms) : ∃ d e, Dp K H x d ∧ Dp K H y e ∧ SeqAt.shaped d = true ∧ SeqAt.shaped e = true ∧ PyData.eqv d e = decide (ns = ms) := by
  obtain ⟨a, b, rfl, rfl, ⟨h1, h2⟩ | ⟨h1, h2⟩⟩ := t
  · exact ⟨_, _, .lst h1 (dpAll_ints ns), .lst h2 (dpAll_ints ms), PySem.W.shaped_ints ns, PySem.W.shaped_ints ms, PySem.W.Datum.eqv (α := List Int) ns ms⟩
  · refine ⟨_, _, .tup h1 (dpAll_ints ns), .tup h2 (dpAll_ints ms), shapedT_ints ns, shapedT_ints ms, ?_⟩
    refine (PySem.W.Datum.eqv (α := PySem.W.Tup Int) ⟨ns⟩ ⟨ms⟩).trans (decide_eq_decide.mpr ⟨fun e => congrArg PySem.W.Tup.items e, fun e => by rw [e]⟩)
def rEqIs (K : PySem.W.Frag) : R2 := fun x y H Q => ∃ ns ms : List Int, TwoInts K H x y ns ms ∧ Q (.bl (decide (ns = ms))) H
def rNeIs (K : PySem.W.Frag) : R2 := fun x y H Q => ∃ ns ms : List Int, TwoInts K H x y ns ms ∧ Q (.bl (!decide (ns = ms))) H
theorem op_eqIs {X : Cx} (hu : X.A.units + 64 < cLine) : OpR X (compareOp .Eq) (rEqIs X.K) := by
  rintro pins s σ H x y v u Q I rx ry ⟨ns, ms, t, q⟩
  obtain ⟨d, e, h1, h2, h3, h4, h5⟩ := t.dp
  exact op_eqD hu pins s σ H x y v u Q I rx ry ⟨d, e, h1, h2, h3, h4, by rw [h5]; exact q⟩
theorem op_neIs {X : Cx} (hu : X.A.units + 64 < cLine) : OpR X (compareOp .NotEq) (rNeIs X.K) := by
  rintro pins s σ H x y v u Q I rx ry ⟨ns, ms, t, q⟩
  obtain ⟨d, e, h1, h2, h3, h4, h5⟩ := t.dp
  exact op_neD hu pins s σ H x y v u Q I rx ry ⟨d, e, h1, h2, h3, h4, by rw [h5]; exact q⟩
/-! ### an item of a list or of a tuple -/
def rIxS (K : PySem.W.Frag) : R2 := fun x y H Q => ∃ (p : Addr) (xs : List V) (i : Int) (z : V), x = .ref p ∧ y = .int i ∧ (SqL K H p xs ∨ SqT K H p xs) ∧ atI xs i = some z ∧ Q z H
theorem ix_seq {X : Cx} : IxR X (rIxS X.K) := by
  rintro value slice pins s σ H x y v u Q I rx ry ⟨p, xs, i, z, e1, e2, hl | ht, hz, q⟩ hs
  · exact ix_list value slice pins s σ H x y v u Q I rx ry ⟨p, xs, i, z, e1, e2, hl, hz, q⟩ hs
  · exact ix_tup value slice pins s σ H x y v u Q I rx ry ⟨p, xs, i, z, e1, e2, ht, hz, q⟩ hs
/-! ### catching -/
theorem takesN {X : Cx} : Takes X (fun _ _ _ _ => False) := takes0
theorem neq_none {H : Hp} {a b : Addr} {o : HO} (h : H a = some o) (n : H b = none) : a ≠ b := fun e => by
  rw [e, n] at h
  cases h
/-! ### a heap without one object -/
def Er (p : Addr) (H : Hp) : Hp := fun a => if a = p then none else H a
theorem er_self {p : Addr} {H : Hp} : Er p H p = none := if_pos rfl
theorem er_ne {p a : Addr} {H : Hp} {o o' : HO} (h : H a = some o) (hp : H p = some o') (n : o ≠ o') : Er p H a = some o := by
  unfold Er
  rw [if_neg fun e => ?_]
  · exact h
  · subst e
    rw [h] at hp
    exact n (Option.some.inj hp)
theorem er_some {p a : Addr} {H : Hp} {o : HO} (h : Er p H a = some o) : a ≠ p ∧ H a = some o := by
  unfold Er at h
  by_cases e : a = p
  · rw [if_pos e] at h; cases h
  · rw [if_neg e] at h; exact ⟨e, h⟩
theorem er_keep {p : Addr} {H H' : Hp} (k : Keep [p] H H') : Same (Er p H) H' := fun a o h => by
  obtain ⟨n, e⟩ := er_some h
  exact k a o (by simpa using n) e
theorem same_keep {p : Addr} {G H H' : Hp} (s : Same G H) (n : G p = none) (k : Keep [p] H H') : Same G H' := fun a o h => k a o (fun m => by
  rw [List.mem_singleton] at m
  rw [m, n] at h
  cases h) (s a o h)
/-! ### the pool of draws: a list of a list of ints and a place in it -/
def PoolX (H : Hp) (p d : Addr) (ds : List Int) (n : Int) : Prop := H p = some (.lst [.ref d, .int n]) ∧ H d = some (.lst (ds.map V.int)) ∧ d ≠ p ∧ ds.length = 160 ∧ ∀ x ∈ ds, 0 ≤ x ∧ x < 4096
def PoolAt (H : Hp) (p : Addr) (n : Int) : Prop := ∃ (d : Addr) (ds : List Int), PoolX H p d ds n
theorem PoolX.same {H H' : Hp} {p d : Addr} {ds : List Int} {n : Int} (P : PoolX H p d ds n) (e : Same H H') : PoolX H' p d ds n := ⟨e _ _ P.1, e _ _ P.2.1, P.2.2⟩
/-- the pool over what stays -/
theorem PoolX.over {G H H' : Hp} {p d : Addr} {ds : List Int} {n m : Int} (P : PoolX H p d ds n) (e : Same (Er p H) H') (h : H' p = some (.lst [.ref d, .int m])) : PoolX H' p d ds m :=
  ⟨h, e _ _ (show Er p H d = _ from (if_neg P.2.2.1).trans P.2.1), P.2.2⟩
section
variable {H : Hp} {p : Addr} {n : Int}
theorem PoolAt.tups {α : Type} {enc : α → List V} {xs : List V} {l : List α} (P : PoolAt H p n) (t : Tups enc H xs l) : Tups enc (Er p H) xs l := by
  obtain ⟨d, ds, h1, _⟩ := P
  exact t.mono fun a ys e => er_ne e h1 (by intro q; cases q)
theorem PoolAt.parts {q : Addr} {D : DD} (P : PoolAt H p n) (S : PartsAt H q D) : PartsAt (Er p H) q D := by
  obtain ⟨ls, li, ll, lr, lo, xi, xr, s0, s1, s2, t2, s3, s4, t4, s5⟩ := S
  have P' := P
  obtain ⟨d, ds, h1, _⟩ := P
  have nS : ∀ l : List Str, HO.lst (l.map V.str) ≠ .lst [.ref d, .int n] := fun l e => by
    cases l with
    | nil => cases e
    | cons a b => injection e with e; injection e with e _; cases e
  have nI : ∀ l : List Int, HO.lst (l.map V.int) ≠ .lst [.ref d, .int n] := fun l e => by
    cases l with
    | nil => cases e
    | cons a b => injection e with e; injection e with e _; cases e
  have nT : ∀ {α : Type} {enc : α → List V} {xs : List V} {l : List α}, Tups enc H xs l → HO.lst xs ≠ .lst [.ref d, .int n] := fun t e => by
    injection e with e
    subst e
    obtain ⟨_, t', _, q, _⟩ := t.get (i := 1) (x := .int n) rfl
    cases q
  exact ⟨ls, li, ll, lr, lo, xi, xr, er_ne s0 h1 (by intro q; cases q), er_ne s1 h1 (nS _), er_ne s2 h1 (nT t2), P'.tups t2, er_ne s3 h1 (nS _), er_ne s4 h1 (nT t4), P'.tups t4, er_ne s5 h1 (nI _)⟩
theorem PoolAt.book {C q : Addr} {a : RA} {D : DD} (P : PoolAt H p n) (S : BookAt C H q a D) : BookAt C (Er p H) q a D := by
  have P' := P
  obtain ⟨d, ds, h1, _⟩ := P
  have tup : ∀ t ys, H t = some (.tup ys) → Er p H t = some (.tup ys) := fun t ys e => er_ne e h1 (by intro q; cases q)
  obtain ⟨dx, h0⟩ := S.ob
  obtain ⟨x2, h2, T2⟩ := S.ins
  obtain ⟨x4, h4, T4⟩ := S.ru
  obtain ⟨kv, hd, R⟩ := S.dr
  obtain ⟨xs, rows, r1, r2, r3, r4, r5⟩ := S.rw
  refine ⟨⟨dx, er_ne h0 h1 (by intro q; cases q)⟩, tup _ _ S.st, ⟨x2, tup _ _ h2, P'.tups T2⟩, tup _ _ S.ld, ⟨x4, tup _ _ h4, P'.tups T4⟩, tup _ _ S.ou, er_ne S.dn h1 (by intro q; cases q), ⟨kv, er_ne hd h1 (by intro q; cases q), R.same tup⟩, ⟨xs, rows, tup _ _ r1, r2, fun i x e => ?_, r4, r5⟩⟩
  obtain ⟨t, e1, e2⟩ := r3 i x e
  exact ⟨t, e1, tup _ _ e2⟩
end
end Vf
namespace Vf
open PySem L2
/-! ### first places -/
def putAt (pl : List Int) (i : Nat) (c : Int) : List Int := pl.set i (pl.getD i 0 + c)
def inPl (D : DD) (n : Nat) (ps : List (Str × Str)) (cs : List Int) : List Int := (ps.zip cs).foldl (fun pl pc => putAt pl (D.st.idxOf pc.1.2) pc.2) (List.replicate n 0)
def ldPl (D : DD) (ls : List Str) (pl : List Int) : List Int := ls.foldl (fun pl s => putAt pl (D.st.idxOf s) 1) pl
def firstPl (D : DD) (cs : List Int) : List Int := ldPl D D.ld (inPl D D.st.length D.ins cs)
theorem putAt_len (pl : List Int) (i : Nat) (c : Int) : (putAt pl i c).length = pl.length := List.length_set ..
theorem fold_len {α : Type} (f : List Int → α → List Int) (h : ∀ pl a, (f pl a).length = pl.length) : ∀ (l : List α) (pl : List Int), (l.foldl f pl).length = pl.length
  | [], _ => rfl
  | a :: r, pl => (fold_len f h r (f pl a)).trans (h pl a)
theorem inPl_len (D : DD) (n : Nat) (ps : List (Str × Str)) (cs : List Int) : (inPl D n ps cs).length = n := (fold_len _ (fun pl a => putAt_len ..) _ _).trans (List.length_replicate ..)
theorem ldPl_len (D : DD) (ls : List Str) (pl : List Int) : (ldPl D ls pl).length = pl.length := fold_len _ (fun pl a => putAt_len ..) _ _
theorem inPl_snoc (D : DD) (n i : Nat) {ps : List (Str × Str)} {cs : List Int} {p : Str × Str} {c : Int} (h1 : ps[i]? = some p) (h2 : cs[i]? = some c) :
    inPl D n (ps.take (i + 1)) (cs.take (i + 1)) = putAt (inPl D n (ps.take i) (cs.take i)) (D.st.idxOf p.2) c := by
  unfold inPl
  rw [take_snoc h1, take_snoc h2, List.zip_append (by rw [take_len h1, take_len h2]), List.foldl_append]
  rfl
theorem ldPl_snoc (D : DD) (i : Nat) {ls : List Str} {s : Str} {pl : List Int} (h : ls[i]? = some s) : ldPl D (ls.take (i + 1)) pl = putAt (ldPl D (ls.take i) pl) (D.st.idxOf s) 1 := by
  unfold ldPl
  rw [take_snoc h, List.foldl_append]
  rfl
theorem zeros (k : Nat) : (List.replicate k [V.int 0]).flatten = (List.replicate k (0 : Int)).map V.int := by
  induction k with
  | zero => rfl
  | succ k ih =>
    rw [List.replicate_succ, List.flatten_cons, ih]
    rfl
theorem putAt_map (pl : List Int) (i : Nat) (c : Int) : (pl.map V.int).set i (V.int (pl.getD i 0 + c)) = (putAt pl i c).map V.int := by
  unfold putAt
  rw [List.map_set]
theorem idx_lt {st : List Str} {s : Str} (h : s ∈ st) : st.idxOf s < st.length := List.idxOf_lt_length_of_mem h
end Vf
namespace Vf
open PySem L2
section
variable {pl : List Int} {st : List Str} {s : Str}
theorem getPl (h : s ∈ st) (hl : pl.length = st.length) : (pl.map V.int)[(ix st s).toNat]? = some (V.int (pl.getD (st.idxOf s) 0)) := by
  have lt : st.idxOf s < pl.length := by rw [hl]; exact idx_lt h
  unfold ix
  rw [Int.toNat_natCast, List.getElem?_map, List.getElem?_eq_getElem lt, List.getD_eq_getElem?_getD, List.getElem?_eq_getElem lt]
  rfl
theorem ixPl (h : s ∈ st) (hl : pl.length = st.length) : ixN (pl.map V.int).length (ix st s) = some (st.idxOf s) := by
  have lt : st.idxOf s < pl.length := by rw [hl]; exact idx_lt h
  unfold ixN ix
  rw [List.length_map, if_pos (Int.natCast_nonneg _), if_pos (by omega), Int.toNat_natCast]
theorem atPl (h : s ∈ st) (hl : pl.length = st.length) : atI (pl.map V.int) (ix st s) = some (V.int (pl.getD (st.idxOf s) 0)) := by
  unfold atI
  rw [ixPl h hl]
  have g := getPl h hl
  unfold ix at g
  rw [Int.toNat_natCast] at g
  exact g
theorem ix_nn : 0 ≤ ix st s := Int.natCast_nonneg _
end
end Vf
namespace Vf
open PySem L2
theorem at0 {xs : List V} {i : Nat} {x : V} (h : xs[i]? = some x) : atI xs (0 + (i : Int)) = some x := by
  rw [Int.zero_add]
  exact atI_nat h
theorem idx_get : ∀ {st : List Str} {s : Str}, s ∈ st → (st.map V.str)[st.idxOf s]? = some (V.str s) ∧ ∀ (m : Nat) (z : V), m < st.idxOf s → (st.map V.str)[m]? = some z → eqV z (.str s) = false
  | [], s, h => nomatch h
  | a :: r, s, h => by
    by_cases e : a = s
    · subst e
      rw [List.idxOf_cons_self]
      exact ⟨rfl, fun m z hm => absurd hm (Nat.not_lt_zero m)⟩
    · have hr : s ∈ r := by
        rcases List.mem_cons.mp h with h | h
        · exact absurd h.symm e
        · exact h
      obtain ⟨g1, g2⟩ := idx_get hr
      have ei : (a :: r).idxOf s = r.idxOf s + 1 := by
        rw [List.idxOf_cons, beq_false_of_ne e]
        rfl
      rw [ei]
      refine ⟨g1, fun m z hm hz => ?_⟩
      cases m with
      | zero =>
        have hz' : V.str a = z := Option.some.inj hz
        subst hz'
        exact beq_false_of_ne e
      | succ m => exact g2 m z (Nat.lt_of_succ_lt_succ hm) hz
end Vf

/-! ### min, max, sum of tuples of whole numbers; len of an own instance -/
namespace Vf
open PySem PySem.W PySem.Spec PyProof.Rows L2
theorem most_ok : ∀ (zs : List Int) (z : Int), PySem.W.maxOf z zs ∈ z :: zs ∧ ∀ q ∈ z :: zs, q ≤ PySem.W.maxOf z zs
  | [], z => ⟨List.mem_singleton.mpr rfl, fun q hq => by
      have e : q = z := by simpa using hq
      rw [e]
      exact Int.le_refl _⟩
  | y :: r, z => by
    have step : PySem.W.maxOf z (y :: r) = PySem.W.maxOf (if z < y then y else z) r := by
      unfold PySem.W.maxOf
      rw [List.foldl_cons]
      congr 1
      by_cases c : z < y
      · simp [DatumOrd.lt, c]
      · simp [DatumOrd.lt, c]
    obtain ⟨m1, m2⟩ := most_ok r (if z < y then y else z)
    rw [step]
    have low := m2 _ (List.mem_cons_self ..)
    refine ⟨?_, fun q hq => ?_⟩
    · rcases List.mem_cons.mp m1 with e | e
      · rw [e]
        by_cases c : z < y
        · rw [if_pos c]; simp
        · rw [if_neg c]; simp
      · exact List.mem_cons_of_mem _ (List.mem_cons_of_mem _ e)
    · rcases List.mem_cons.mp hq with e | e
      · rw [e]
        by_cases c : z < y
        · rw [if_pos c] at low ⊢; omega
        · rw [if_neg c] at low ⊢; omega
      · rcases List.mem_cons.mp e with e | e
        · rw [e]
          by_cases c : z < y
          · rw [if_pos c] at low ⊢; omega
          · rw [if_neg c] at low ⊢; omega
        · exact m2 q (List.mem_cons_of_mem _ e)
def rMinT (K : PySem.W.Frag) : List V → Hp → VK → Prop := fun vs H Q => ∃ (a : Addr) (ns : List Int), vs = [V.ref a] ∧ SqT K H a (ns.map V.int) ∧ 0 < ns.length ∧ ∀ m : Int, m ∈ ns → (∀ y ∈ ns, m ≤ y) → Q (.int m) H
def rMaxT (K : PySem.W.Frag) : List V → Hp → VK → Prop := fun vs H Q => ∃ (a : Addr) (ns : List Int), vs = [V.ref a] ∧ SqT K H a (ns.map V.int) ∧ 0 < ns.length ∧ ∀ m : Int, m ∈ ns → (∀ y ∈ ns, y ≤ m) → Q (.int m) H
def rSumT (K : PySem.W.Frag) : List V → Hp → VK → Prop := fun vs H Q => ∃ (a : Addr) (ns : List Int), vs = [V.ref a] ∧ SqT K H a (ns.map V.int) ∧ Q (.int ns.sum) H
theorem cr_minT {X : Cx} (hu : X.A.units + 64 < cLine) (hc : X.calm = true := by rfl) : CallR X (.builtin "min") (rMinT X.K) := by
  intro pins s σ H vs us Q I r h
  obtain ⟨a, ns, rfl, hs, hne, q⟩ := h
  obtain rfl := Vals.ref1 r
  obtain ⟨its, rv, hl, _⟩ := I.tuple hs
  have room : X.A.units + 1 + Datum.depth Int < cLine := by
    show X.A.units + 1 + 0 < cLine
    omega
  have ia := rv.ints
  cases ns with
  | nil => simp at hne
  | cons y ys =>
    refine PySem.W.min_tuple_datum (I.ok.hd hc) hl (.of_ints ia) room fun i v h' tk hv hh k => ?_
    obtain ⟨n, t, rfl⟩ := ints_at (i := i) ia (by simpa using hv)
    have en := holds_only hh
    obtain ⟨f1, f2⟩ := least_ok ys y
    rw [← en] at f1 f2
    exact ⟨.int n, H, I.kept (t' := tk) k, ⟨t, rfl⟩, q n f1 f2⟩
theorem cr_maxT {X : Cx} (hu : X.A.units + 64 < cLine) (hc : X.calm = true := by rfl) : CallR X (.builtin "max") (rMaxT X.K) := by
  intro pins s σ H vs us Q I r h
  obtain ⟨a, ns, rfl, hs, hne, q⟩ := h
  obtain rfl := Vals.ref1 r
  obtain ⟨its, rv, hl, _⟩ := I.tuple hs
  have room : X.A.units + 1 + Datum.depth Int < cLine := by
    show X.A.units + 1 + 0 < cLine
    omega
  have ia := rv.ints
  cases ns with
  | nil => simp at hne
  | cons y ys =>
    refine PySem.W.max_tuple_datum (I.ok.hd hc) hl (.of_ints ia) room fun i v h' tk hv hh k => ?_
    obtain ⟨n, t, rfl⟩ := ints_at (i := i) ia (by simpa using hv)
    have en := holds_only hh
    obtain ⟨f1, f2⟩ := most_ok ys y
    rw [← en] at f1 f2
    exact ⟨.int n, H, I.kept (t' := tk) k, ⟨t, rfl⟩, q n f1 f2⟩
theorem sumT_raw {prog : Program} {w : World} {A : Around} {E : Value → Shared → Prop} {s : Shared} {l : Addr} {its : List Value} {ns : List Int} {Q : Value → Shared → Prop} (hh : A.handled = none) (hl : s.heap.IsTuple l its.toArray) (hi : IntsAre its ns)
    (h : ∀ h' tk t', (∀ b o, s.heap.get? b = some o → h'.get? b = some o) → Q (.int ns.sum t') { s with heap := h', toks := tk }) : wpAny (model prog w) A (call (.builtin "sum") [.ref l]) Q E s := by
  obtain ⟨xs, e⟩ := hi.allInts.items
  have hn : numsOf (intItems xs).toList = ns := by rw [← e]; exact hi.numsOf
  rw [nums_intItems] at hn
  rw [e] at hl
  refine PySem.W.ktm_sumG hh hl fun h' tk t' hk => ?_
  have := h h' tk t' hk
  rw [preSum_eq, List.take_of_length_le (by simp), hn]; exact this
theorem cr_sumT {X : Cx} (_ : X.A.units + 64 < cLine) (hc : X.calm = true := by rfl) : CallR X (.builtin "sum") (rSumT X.K) := by
  intro pins s σ H vs us Q I r h
  obtain ⟨a, ns, rfl, hs, q⟩ := h
  obtain ⟨its, rv, hl, _⟩ := I.tuple hs
  rw [Vals.ref1 r]
  exact sumT_raw (I.ok.hd hc) hl rv.ints fun h' tk t' hk => ⟨.int _, H, I.kept hk, ⟨_, rfl⟩, q⟩
/-- len(o) of an instance of an own class with an own __len__ -/
def rLenOwn (C : Addr) (sp : Sp) (E : XK) : List V → Hp → VK → Prop := fun xs H Q => ∃ (a dx : Addr) (fs : List (Str × V)), xs = [.ref a] ∧ H a = some (.ins C dx fs) ∧ sp [.ref a] H (fun v H' => ∃ n : Int, v = .int n ∧ 0 ≤ n ∧ n < 2 ^ 63 ∧ Q (.int n) H') E
theorem call_lenOwn {X : Cx} {CX : CXT} {k : Nat} {C f : Addr} {fd : FuncData} {ps : List Str} {sp : Sp} {E : XK} (F : FnOk X.prog X.w X.K X.mg X.base CX k f fd ps sp) (hr : Room (k + 1) X.A)
    (hs : PySem.W.findIn X.K (.ref C) "__len__" = some (some (.ref f))) (hf : PySem.W.isFn X.K (.ref f) = true) (hb : Binds X.K fd ps []) (hx : Passes CX X E) : CallR X (.builtin "len") (rLenOwn C sp E) := by
  intro pins s σ H xs us Q I r h
  obtain ⟨a, dx, fs, rfl, ha, q⟩ := h
  obtain rfl := Vals.ref1 r
  obtain ⟨mA, J, _⟩ := ins_get I.hok ha
  obtain ⟨od, J, _⟩ := J.look
  obtain ⟨m, hF⟩ := I.fr
  refine PySem.W.len_K hF I.ok.mod.kin J hs hf ?_
  have hl := F.len _ _ _ _ q
  have r2 : Vals [V.ref a] [Value.ref a] := .cons rfl .nil
  refine wpAny_call (codeAny_mono (F.run X.A.in1 X.stack s H ⟨[.ref a], []⟩ [.ref a] [.ref a] _ E hr.in1 I.env0.in1 (by
    have := hb s [.ref a] I.kIn (by simpa using hl)
    simpa using this) r2 q) fun r s' hq => ?_)
  cases r with
  | error e => exact hx pins σ H s e s' I hq
  | ok fl =>
    cases fl with
    | ret w =>
      obtain ⟨z, H', I', rz, n, rfl, n0, n1, q'⟩ := I.after hq
      obtain ⟨t, rfl⟩ := rz
      exact ⟨⟨n0, n1⟩, .int n, H', I'.tok _, ⟨_, rfl⟩, q'⟩
    | next => exact False.elim hq
    | brk => exact False.elim hq
    | cont => exact False.elim hq
end Vf

namespace Vf
open PySem PySem.W PySem.Spec PyProof.Rows L2 PySem.Calls
/-! ### super().__init__(..) in an own error's __init__, over ValueError, classes between allowed -/
/-- what the frame of such an __init__ knows -/
structure SupAt (X : Cx) (C : Addr) (nm : Str) : Prop where
  kind : X.env.scope.kind = .function
  ks : X.env.kindOf "super" = some .globalImplicit
  kc : X.env.kindOf "__class__" = some .free
  ka : X.env.kindOf nm = some .local
  fn : ∃ (f : Addr) (oc : Value) (od : Option Addr) (fd : FuncData) (sl : Array (Option Value)) (ar : Arg), X.env.func = some f ∧ X.K.lookup f = some ⟨oc, od, .func fd, sl⟩ ∧ (fd.params.posonlyargs ++ fd.params.args).head? = some ar ∧ ar.arg = nm
  code : ∃ (cda : Addr) (oc : Value) (od : Option Addr) (vs : Array Value) (sl : Array (Option Value)) (file : Str) (tf : Tok), X.env.code = .ref cda ∧ X.K.lookup cda = some ⟨oc, od, .fields vs, sl⟩ ∧ vs[2]? = some (.str file tf) ∧ ((X.prog.main.file : Str) == file) = true
  top : (X.prog.main.scope.names.lookup ("super" : Str)).isSome = false
  cell : ∃ (cc : Addr) (oc : Value) (od : Option Addr) (sl : Array (Option Value)), X.env.cells.lookup ("__class__" : Str) = some cc ∧ X.K.lookup cc = some ⟨oc, od, .cell (some (.ref C)), sl⟩
  mg : X.mg "super" = none
/-- what the written part says of the class -/
structure SupCls (K : PySem.W.Frag) (C : Addr) : Prop where
  sub : mroIn K C (.ref C) = some true
  al : ks_superIn K C C "__init__" = some (some (.builtin "ValueError.__init__"))
  ve : subIn K (.ref C) (.type "ValueError") = some true
  op : nsIn K cStatics "thirdparty.any" = some none
theorem at_sub {α : Type} {M : Model} {A : Around} {c : Code} {t : Sem α} {Q Q' : α → Shared → Prop} {E : Value → Shared → Prop} {s : Shared} (h : PySem.wpAt M A c t Q E s) (f : ∀ v s', Q v s' → Q' v s') : PySem.wpAt M A c t Q' E s :=
  PySem.wpAt_mono h f fun _ _ x => x
section
variable {X : Cx} {pins : List (Addr × Obj)} {σ : L2.St} {H : Hp} {s : Shared} {a C : Addr}
/-- the bound __init__ is called -/
theorem call_bound {u : Addr} {us : List Value} {Q : Value → Shared → Prop} (T : OexC X.K C) (I : Inv X pins σ H s) (e : H a = some (exo a C none)) (hu : s.heap.get? u = some (kxs_mw "ValueError.__init__" a)) (hl : us.length ≤ sizeLine)
    (h : ∀ s', Inv X pins σ H s' → Q .none s') : wpAny (model X.prog X.w) X.A (call (.ref u) us) Q X.xe s := by
  obtain ⟨nm, q, N, bs, bm, sn, sub, ab, col, dd, k0, k1, k2, k3, k5, hC, hbm⟩ := T.cls
  obtain ⟨t1, ho⟩ := exo_at I.hok e
  obtain ⟨hp, g, d, t, os⟩ := s
  refine wpAny_call (codeAny_of_tree ?_)
  show wpAny _ _ (callAny (.ref u) ⟨us, []⟩) _ _ _
  unfold callAny
  refine wpAny_bind (wpAny_load hu ?_)
  have w1 : (Value.type "method-wrapper" == Value.type "method" || Value.type "method-wrapper" == Value.type "builtin_function_or_method" ||
      Value.type "method-wrapper" == Value.type "method-wrapper") = true := by decide +kernel
  have w2 : (Value.type "method-wrapper" != Value.type "method") = true := by decide +kernel
  refine KFB.if_so w1 (KFB.if_so w2 ?_)
  have FB := PySem.F.excBase_ValueError
  refine wpAny_bind (check_bound_init FB.toExcCallFacts (I.kIn _ _ hC) ho rfl (wpAny_pure ⟨plainId_quiet FB.init.plain _, codeAny_builtin FB.initEntry ?_⟩))
  refine exc_init_tree (cls := .ref C) (t0 := t1) (dv := none) (c2 := .none) (c3 := .none) (b4 := .bool false) ho hl fun h' k e' _ => ?_
  have J := I.write (t' := t) (x := a) (e := a) (o := exo a C none) (by rw [e]; exact True.intro) (.inl rfl) k ⟨_, e'⟩ (exo_ok e')
  have same : upd H a (exo a C none) = H := by
    funext b
    by_cases hb : b = a
    · subst hb
      rw [upd_same, e]
    · rw [upd_ne hb]
  rw [same] at J
  exact h _ J
/-- the whole call -/
theorem super_init {body : List Stmt} {nm : Str} {e : Expr} {es : List Expr} {p0 p1 apos pos : Pos} {ta : TA} {i : Nat} {Q : VK} (T : OexC X.K C) (F : SupAt X C nm) (G : SupCls X.K C) (I : Inv X pins σ H s) (hi : X.N[i]? = some nm) (hσ : σ[i]? = some (some (.ref a)))
    (ha : H a = some (exo a C none)) (hargs : PA X (e :: es) ta) (hq : ta σ H fun vs H1 => vs.length ≤ 1000 ∧ H1 a = some (exo a C none) ∧ Q .non H1) {pl : Sem Bool}
    (hev : eval (.Call (.Attribute (.Call (.Name "super" p0) [] [] p1) "__init__" apos) (e :: es) [] pos) X.env = (do
      let ov ← attributeBase (.Call (.Name "super" p0) [] [] p1) "__init__" X.env (eval (.Call (.Name "super" p0) [] [] p1) X.env)
      standAt apos.atName
      let (f, first) ← holding [ov] (getMethod ov "__init__" pl)
      callWith pos f first (backTo pos (starEach (e :: es) X.env)) []) := by rfl)
    (hst : starEach (e :: es) X.env = (false, eval e X.env) :: starEach es X.env := by rfl) (hpl : (backTo pos (starEach es X.env)).any (·.1) = false := by rfl) :
    PySem.wpAt (model X.prog X.w) X.A (.func body X.env) (eval (.Call (.Attribute (.Call (.Name "super" p0) [] [] p1) "__init__" apos) (e :: es) [] pos) X.env) (EP X pins σ Q) X.xe s := by
  obtain ⟨f, oc1, od1, fd, sl1, ar, f1, f2, f3, f4⟩ := F.fn
  obtain ⟨cda, oc2, od2, vs2, sl2, file, tf, c1, c2, c3, c4⟩ := F.code
  obtain ⟨cc, oc3, od3, sl3, d1, d2⟩ := F.cell
  have kin := I.kIn
  subst f4
  refine ks_wpAt_MethodCall ?_ hev
  refine ks_wpAt_super_base F.ks F.kc (by decide +kernel) f1 (kin _ _ f2) rfl f3 c1 (kin _ _ c2) rfl c3 c4 F.top ?_
  obtain ⟨mb, h1, h2⟩ := I.mod.blt
  refine ks_loadName_global F.kind F.ks (loadGlobal_builtin (by rw [I.ok.glob]; exact I.mod.glob.keeps I.bk) F.mg (by rw [I.ok.blt]; exact h1.keeps I.bk) ((h2 _ (by decide)).trans (show bootBuiltins "super" = some (.type "super") by decide +kernel)) ⟨rfl, ?_⟩)
  refine wpAny_loadName_free F.kind F.kc d1 ⟨_, kin _ _ d2, rfl⟩ ?_
  obtain ⟨m, hns, hloc⟩ := I.loc
  obtain ⟨u, ru, hl⟩ := hloc i ar.arg _ hi hσ (.inl F.ka)
  cases ru
  have hm : m ar.arg = some (.ref a) := by
    rcases hl with ⟨_, hm⟩ | ⟨hk, _⟩
    · exact hm
    · rw [F.ka] at hk
      rcases hk with hk | hk <;> cases hk
  refine wpAny_loadName_local F.kind F.ka hns hm ?_
  obtain ⟨nmC, qC, NC, bs, bm, sn, sub, ab, col, dd, k0, k1, k2, k3, k5, hC, hbm⟩ := T.cls
  have hcl : clsIn X.K C = some { name := nmC, bases := bs, mro := .ref C :: bm, ns := NC, qualname := qC, hasDict := true, slotNames := sn, subclasses := sub, abstract := ab, collection := col, hasDel := false } := by
    unfold clsIn
    rw [hC] <;> rfl
  refine ks_wpAny_isType_cls (kin _ _ hC) rfl ⟨rfl, ?_⟩
  obtain ⟨t1, ho⟩ := exo_at I.hok ha
  obtain ⟨hp, g, d, t, os⟩ := s
  refine ks_wpAny_call_super (kin _ _ hC) rfl ho rfl (fun c => nofun) (looks_mroIn kin G.sub) fun h2 hso k2' => ?_
  have I2 : L2.Inv X pins σ H ⟨h2, g, d, t, os⟩ := I.kept (t' := t) k2'
  have ho2 := k2' _ _ ho
  have at2 : InstAt h2 a { cls := .ref C, dict := none, data := .fields #[.ref t1, .none, .none, .none, .bool false, .none] } C none := ⟨ho2, rfl, rfl, trivial⟩
  have al := G.al
  unfold ks_superIn at al
  rw [hcl] at al
  refine kxs_getMethod kxs_ValueError hso (looks_opaque I2.kIn G.op) (l₀ := .ref C :: bm) (fun A Q E s k q => wpAny_bind ((looks_clsIn I2.kIn hcl) A _ E s k (wpAny_pure q))) rfl I2.kIn al (at2.type.andThen (looks_subIn I2.kIn G.ve)) (ks_ne I2.kIn at2 hcl) (by decide +kernel) ?_
  have sz : h2.objs.size ≤ h2.objs.size := Nat.le_refl _
  have gu : (h2.push (kxs_mw "ValueError.__init__" a)).get? h2.objs.size = some (kxs_mw "ValueError.__init__" a) := Heap.get?_push_at rfl rfl
  have I3 : L2.Inv X pins σ H ⟨h2.push (kxs_mw "ValueError.__init__" a), g, d, t + 1, os⟩ := I2.kept (t' := t + 1) fun b o z => Heap.get?_push_of_some _ z
  have hun : H h2.objs.size = none := I2.hok.fresh sz
  have I4 : L2.Inv X ((h2.objs.size, kxs_mw "ValueError.__init__" a) :: pins) σ H ⟨h2.push (kxs_mw "ValueError.__init__" a), g, d, t + 1, os⟩ := I3.pins_of fun p hp => by
    rcases List.mem_cons.mp hp with e1 | hp
    · subst e1
      exact ⟨gu, hun, fun z => Nat.lt_irrefl _ (by have := I2.lt; rw [← z] at this; exact this), I2.nofs sz, nofun⟩
    · exact I3.pin p (List.mem_append_right _ hp)
  rw [hst]
  refine kxs_callWith (i := "ValueError.__init__") (x := a) (hpl : _) ?_
  have run := hargs.run pos _ _ σ H _ I4 hq
  rw [hst] at run
  refine evalArgs_plain (thn run fun us s4 got => ?_)
  obtain ⟨vs, H1, I5, r1, hlen, ha1, q⟩ := got
  have pin := (I5.pin (h2.objs.size, kxs_mw "ValueError.__init__" a) (List.mem_append_right _ (List.mem_cons_self ..))).1
  refine ⟨pin, ?_⟩
  refine call_bound T I5 ha1 pin (by show us.length ≤ sizeLine; rw [← Paired.length r1, sizeLine_eq]; omega) fun s' J => ⟨.non, H1, ?_, rfl, q⟩
  exact J.pins_of fun p hp => J.pin p (List.mem_append_right _ (List.mem_cons_of_mem _ hp))
end
/-! ### such an __init__ as a def -/
/-- how the call reads, and that nothing is swapped -/
def SupEv (env : Env) (e : Expr) (es : List Expr) (p0 p1 apos pos p2 : Pos) : Prop :=
  (∃ pl : Sem Bool, eval (.Call (.Attribute (.Call (.Name "super" p0) [] [] p1) "__init__" apos) (e :: es) [] pos) env = (do
    let ov ← attributeBase (.Call (.Name "super" p0) [] [] p1) "__init__" env (eval (.Call (.Name "super" p0) [] [] p1) env)
    standAt apos.atName
    let (f, first) ← holding [ov] (getMethod ov "__init__" pl)
    callWith pos f first (backTo pos (starEach (e :: es) env)) [])) ∧ starEach (e :: es) env = (false, eval e env) :: starEach es env ∧ (backTo pos (starEach es env)).any (·.1) = false ∧
    swapsWith (.Call (.Attribute (.Call (.Name "super" p0) [] [] p1) "__init__" apos) (e :: es) [] pos) none p2.line env = pure false ∧ interactive env = false
open NdefX in
/-- the object of an __init__ that says super, its cell, its code object -/
def InitAt (P : Program) (K : PySem.W.Frag) (qual : Str) (st : Stmt) (C f : Addr) (cc cda : Addr) (fd : FuncData) : Prop :=
  ∃ (oc oc2 oc3 : Value) (od od2 od3 : Option Addr) (kV doc pm ct : Value) (an : Option Addr) (osl sl2 sl3 : Array (Option Value)) (vs : Array Value) (file : Str) (tf : Tok),
    fd = fnX "__init__" qual (defArgs st) (defBody st) (defScope st) [("__class__", cc)] .none kV doc pm an (.ref cda) ct ∧ K.lookup f = some ⟨oc, od, .func fd, osl⟩ ∧ codeIn K (.ref cda) qual = true ∧
    K.lookup cc = some ⟨oc3, od3, .cell (some (.ref C)), sl3⟩ ∧ K.lookup cda = some ⟨oc2, od2, .fields vs, sl2⟩ ∧ vs[2]? = some (.str file tf) ∧ ((P.main.file : Str) == file) = true ∧ (P.main.scope.names.lookup ("super" : Str)).isSome = false
def initF (qual : Str) (st : Stmt) (cc cda : Addr) : NdefX.NF := ⟨"__init__", qual, defArgs st, defBody st, defScope st, [("__class__", cc)], cda⟩
section
variable {CX : CXT} {P : Program} {w : World} {K : PySem.W.Frag} {mg : Str → Option Value} {base : Heap} {k : Nat} {f C cc cda : Addr} {fd : FuncData} {qual : Str} {st : Stmt} {N ps : List Str} {sp : Sp}
theorem init_of {e : Expr} {es : List Expr} {p0 p1 apos pos p2 : Pos} {rest : List Stmt} {ar : Arg} (D : InitAt P K qual st C f cc cda fd) (S : NdefX.NScope N ps ["__class__"] (defScope st)) (hbd : defBody st = .Expr (.Call (.Attribute (.Call (.Name "super" p0) [] [] p1) "__init__" apos) (e :: es) [] pos) p2 :: rest)
    (hps : ps.head? = some (Str.ofString "self")) (har : ((defArgs st).posonlyargs ++ (defArgs st).args).head? = some ar) (hargn : ar.arg = Str.ofString "self") (hks : (defScope st).names.lookup ("super" : Str) = some .globalImplicit) (hmg : mg "super" = none) (T : OexC K C) (G : SupCls K C)
    (len : ∀ vs H Q E, sp vs H Q E → vs.length = ps.length)
    (hbody : ∀ (A : Around) (outer : List Env) (s : Shared) (H : Hp) (vs : List V) (Q : VK) (E : XK), Room k (A.deeper (NdefX.envF (initF qual st cc cda) f s.heap.objs.size)) → sp vs H Q E →
      ∃ (a : Addr) (ta : TA) (t : TS), SupEv (NdefX.envF (initF qual st cc cda) f s.heap.objs.size) e es p0 p1 apos pos p2 ∧ vs[0]? = some (.ref a) ∧ H a = some (exo a C none) ∧ PA (NdefX.ncx CX P w K mg base N (initF qual st cc cda) f A outer s H E) (e :: es) ta ∧ PSs (NdefX.ncx CX P w K mg base N (initF qual st cc cda) f A outer s H E) rest t ∧
        ta (NdefX.startF N vs [none]) H fun ws H1 => ws.length ≤ 1000 ∧ H1 a = some (exo a C none) ∧ t { nx := fun _ H' => Q .non H', rt := Q } (NdefX.startF N vs [none]) H1) :
    FnOk P w K mg base CX (k + 1) f fd ps sp := by
  obtain ⟨oc, oc2, oc3, od, od2, od3, kV, doc, pm, ct, an, osl, sl2, sl3, vsc, file, tf, rfl, lk, hcd, lc, lcode, hv2, hfile, htop⟩ := D
  refine ⟨len, fun A outer s H args us vs Q E hr e0 hb r hsp => ?_⟩
  have hl := len _ _ _ _ hsp
  have KX : K.In s.heap := e0.mod.kin.keeps fun b o e => (e0.bs b o e).1
  have lim : s.heap.NoLimit := e0.mod.nolimit.keeps fun b o e => (e0.bs b o e).1
  have cells : NdefX.CellsAt [("__class__", cc)] ["__class__"] [none] s.heap H := by
    refine ⟨rfl, fun y c e => ?_, fun x y c e1 e2 => ?_, fun i y e => ?_⟩
    · have ec : c = cc := by
        have := PySem.mem_of_lookup e
        simp at this
        exact this.2
      subst ec
      exact ⟨(e0.bs _ _ (e0.mod.kin _ _ lc)).2, _, ⟨_, KX _ _ lc, rfl⟩⟩
    · have h1 := PySem.mem_of_lookup e1
      have h2 := PySem.mem_of_lookup e2
      simp at h1 h2
      rw [h1.1, h2.1]
    · cases i with
      | zero =>
        have e' : ("__class__" : Str) = y := by simpa using e
        subst e'
        exact ⟨cc, rfl, fun v hv => by simp at hv⟩
      | succ i => simp at e
  refine ks_codeAny_call_defAt hr.depth (KX _ _ lk) rfl lim (codeRec_of KX hcd) rfl hb S.nocell (fun ⟨n, _⟩ hy => S.par n (List.of_mem_zip hy).1) (fun h1 hns kp => ?_) S.co S.gen S.kind
  obtain ⟨a, ta, t, ⟨⟨pl, g1⟩, g2, g3, g4, g5⟩, hv0, ha, PAx, PSx, hq⟩ := hbody A outer s H vs Q E (hr.deeper _) hsp
  have I := NdefX.inv_startN (F := initF qual st cc cda) (f := f) (CX := CX) (E := E) (tk := s.toks + (ps.zip us).length) S hr.hd e0 hl r cells hns kp
  have n0 : N[0]? = some (Str.ofString "self") := by
    have q := congrArg (fun l : List Str => l[0]?) S.pre
    have q2 : (N.take (ps.length + 1))[0]? = (ps ++ [Str.ofString "__class__"])[0]? := q
    rw [List.getElem?_take_of_lt (Nat.succ_pos _)] at q2
    rw [q2]
    cases ps with
    | nil => cases hps
    | cons x y => exact hps
  have s0 : (NdefX.startF N vs [none])[0]? = some (some (.ref a)) := by
    unfold NdefX.startF
    cases vs with
    | nil => cases hv0
    | cons x y =>
      have e' : x = .ref a := Option.some.inj hv0
      subst e'
      rfl
  have self : Str.ofString "self" ∈ ps := by
    cases ps with
    | nil => cases hps
    | cons x y =>
      have e' : x = Str.ofString "self" := Option.some.inj hps
      subst e'
      exact List.mem_cons_self ..
  have sup : SupAt (NdefX.ncx CX P w K mg base N (initF qual st cc cda) f A outer s H E) C "self" := {
    kind := S.kind
    ks := hks
    kc := S.frk _ (List.mem_cons_self ..)
    ka := S.par _ self
    fn := ⟨f, _, _, _, _, ar, rfl, lk, har, hargn⟩
    code := ⟨cda, _, _, _, _, file, tf, rfl, lcode, hv2, hfile⟩
    top := htop
    cell := ⟨cc, _, _, _, rfl, lc⟩
    mg := hmg }
  show PySem.wpAt (model P w) (NdefX.ncx CX P w K mg base N (initF qual st cc cda) f A outer s H E).A (.func (defBody st) (NdefX.ncx CX P w K mg base N (initF qual st cc cda) f A outer s H E).env) (execs (defBody st) (NdefX.ncx CX P w K mg base N (initF qual st cc cda) f A outer s H E).env) _ _ _
  rw [hbd]
  refine ks_wpAt_execs_cons (ks_wpAt_Expr_any (at_sub (super_init (X := NdefX.ncx CX P w K mg base N (initF qual st cc cda) f A outer s H E) (Q := fun _ H1 => t { nx := fun _ H' => Q .non H', rt := Q } (NdefX.startF N vs [none]) H1) T sup G I n0 s0 ha PAx hq (pl := pl) g1 g2 g3) ?_) g5 g4)
  rintro v s' ⟨x, H1, I1, _, q⟩
  show PySem.wpAt _ _ _ (execs rest _) _ _ s'
  refine PySem.wpAt_of_wpAny (wpAny_mono (PSx.run [] s' (NdefX.startF N vs [none]) H1 _ I1 q) (fun fl s2 hs => ?_) fun e s2 hs => hs)
  have fin : ∀ {σ' : L2.St} {H' : Hp} {v : V} {u : Value}, L2.Inv (NdefX.ncx CX P w K mg base N (initF qual st cc cda) f A outer s H E) [] σ' H' s2 → L2.RelV v u → Q v H' → CE outer P w H s Q u s2 :=
    fun {σ' H' v u} J rv q => ⟨v, H', J.os, J.bare, J.base, J.hok, rv, q⟩
  cases fl with
  | brk =>
    obtain ⟨_, _, _, z⟩ := hs
    cases z
  | cont =>
    obtain ⟨_, _, _, z⟩ := hs
    cases z
  | next =>
    obtain ⟨σ', H', J, z⟩ := hs
    exact fin (v := V.non) (u := Value.none) J rfl z
  | ret u =>
    obtain ⟨v, σ', H', J, rv, z⟩ := hs
    exact fin J rv z
end
theorem InitAt.binds {P : Program} {K : PySem.W.Frag} {qual : Str} {st : Stmt} {C f cc cda : Addr} {fd : FuncData} {ps : List Str} (D : InitAt P K qual st C f cc cda fd)
    (h : ∀ (kV doc pm : Value) (an : Option Addr) (ct : Value) (us : List Value), us.length = ps.length → bindArgs (fnX "__init__" qual (defArgs st) (defBody st) (defScope st) [("__class__", cc)] .none kV doc pm an (.ref cda) ct) ⟨us, []⟩ = pure (ps.zip us)) : Binds K fd ps [] := by
  obtain ⟨_, _, _, _, _, _, kV, doc, pm, ct, an, _, _, _, _, _, _, rfl, _⟩ := D
  exact .all (h kV doc pm an ct)
/-! ### a method called in a try, what its errors meet by the slots -/
def tMethW (C : Addr) (m : Str) (sp : Sp) (E : L2.St → XK) (ta : TE) (t : TA) : TE := fun σ H Q => ta σ H fun x H1 => ∃ (a dx : Addr) (fs : List (Str × V)), x = .ref a ∧ H1 a = some (.ins C dx fs) ∧ fs.lookup m = none ∧
  t σ H1 fun vs H2 => sp (x :: vs) H2 Q (E σ)
section
variable {X : Cx} {CX : CXT} {k : Nat} {f C : Addr} {fd : FuncData} {ps : List Str} {sp : Sp} {E : L2.St → XK} {m : Str} {apos pos : Pos} {e o : Expr} {es : List Expr} {ta : TE} {t : TA}
theorem pe_methW {pl : Sem Bool} (he : PE X o ta) (c : Cls X.K C) (hm : Meth X.K C m f) (F : FnOk X.prog X.w X.K X.mg X.base CX k f fd ps sp) (hr : Room k X.A) (hb : Binds X.K fd ps []) (hx : ∀ σ, PassesAt CX X σ (E σ)) (ha : PA X (e :: es) t)
    (hst : starEach (e :: es) X.env = (false, eval e X.env) :: starEach es X.env := by rfl) (hpl : (backTo pos (starEach es X.env)).any (·.1) = false := by rfl)
    (ht : eval (.Call (.Attribute o m apos) (e :: es) [] pos) X.env = (do
      let ov ← eval o X.env
      standAt apos.atName
      let (f, first) ← holding [ov] (getMethod ov m pl)
      callWith pos f first (backTo pos (starEach (e :: es) X.env)) (backToKw pos (keywordEach [] X.env))) := by rfl) :
    PE X (.Call (.Attribute o m apos) (e :: es) [] pos) (tMethW C m sp E ta t) := by
  constructor
  intro pins s σ H Q I h
  refine PySem.W.methodCall_KW (pl := pl) (thn (he.run pins s σ H _ I h) fun u s1 got => ?_) ht
  obtain ⟨x, H1, I1, rx, a, dx, fs, rfl, ea, l, q⟩ := got
  cases rx
  refine getmeth_ok I1 ea c hm l (PySem.W.callWith_K (first := [.ref a]) (h₀ := X.base) I.ok.mod.kin hm.kp (thn (ha.run pos pins s1 σ H1 _ I1 q) fun us s2 got2 => ?_) hst hpl)
  obtain ⟨vs, H2, I2, r, q2⟩ := got2
  exact ⟨I2.kIn, run_fnS (us := .ref a :: us) (vs := .ref a :: vs) F hr hb (hx σ) I2 (.cons rfl r) q2⟩
end
/-! ### a look into a dict of pairs -/
def meetOf (ks vl : List (Int × Int)) (k : Int × Int) : Int × Int := if k ∈ ks then vl.getD (ks.idxOf k) k else k
theorem valV_none {κ : Type} [DecidableEq κ] {k : κ} : ∀ {kvs : List (κ × V)}, k ∉ kvs.map Prod.fst → valV kvs k = none
  | [], _ => rfl
  | p :: r, h => by
    rw [List.map_cons, List.mem_cons, not_or] at h
    rw [valV_neg (fun e => h.1 e.symm)]
    exact valV_none h.2
theorem PP.get {H : Hp} {kvs : List (List Key × V)} {ks vl : List (Int × Int)} (p : PP H kvs ks vl) (k : Int × Int) : (valV kvs (keyP k) = none ∧ meetOf ks vl k = k) ∨ ∃ t, valV kvs (keyP k) = some (.ref t) ∧ H t = some (.tup (encP (meetOf ks vl k))) := by
  unfold meetOf
  by_cases h : k ∈ ks
  · rw [if_pos h]
    have lt := List.idxOf_lt_length_of_mem h
    have hk : ks[ks.idxOf k]? = some k := by
      rw [List.getElem?_eq_getElem lt, List.getElem_idxOf lt]
    obtain ⟨v, t, h1, h2, h3⟩ := p.at_ hk
    refine .inr ⟨t, h2, ?_⟩
    rw [List.getD_eq_getElem?_getD, h1]
    exact h3
  · rw [if_neg h]
    refine .inl ⟨valV_none fun m => ?_, rfl⟩
    have e : kvs.map Prod.fst = ks.map keyP := p.keys
    rw [e] at m
    obtain ⟨k', m1, m2⟩ := List.mem_map.mp m
    exact h (keyP_inj m2 ▸ m1)
theorem PP.snoc {H H' : Hp} {kvs : List (List Key × V)} {ks vl : List (Int × Int)} {k v : Int × Int} {t : Addr} (p : PP H kvs ks vl) (n : k ∉ ks) (e : ∀ t ys, H t = some (.tup ys) → H' t = some (.tup ys)) (h : H' t = some (.tup (encP v))) :
    PP H' (kvs ++ [(keyP k, .ref t)]) (ks ++ [k]) (vl ++ [v]) := by
  refine ⟨by rw [List.map_append, List.map_append, p.keys]; rfl, ?_, ?_⟩
  · rw [List.map_append]
    exact (p.vals.mono e).snoc h
  · refine List.nodup_append.mpr ⟨p.nd, by simp, fun a ha b hb e => ?_⟩
    rw [List.mem_singleton] at hb
    subst hb
    subst e
    exact n ha
theorem PP.same {H H' : Hp} {kvs : List (List Key × V)} {ks vl : List (Int × Int)} (p : PP H kvs ks vl) (e : Same H H') : PP H' kvs ks vl := ⟨p.keys, p.vals.same e, p.nd⟩
end Vf
namespace Vf
open PySem L2
theorem idx_do {K : PySem.W.Frag} {H : Hp} {ls : Addr} {st : List Str} {nm : Str} {Q : VK} (h : H ls = some (.lst (st.map V.str))) (m : nm ∈ st) (q : Q (.int (ix st nm)) H) : rIndex K (.ref ls) [.str nm] H Q := by
  obtain ⟨g1, g2⟩ := idx_get m
  exact ⟨ls, _, .str nm, st.idxOf nm, .str nm, rfl, rfl, SqL.of h, rfl, flat_str _, g1, beq_self_eq_true _, g2, q⟩
theorem rks_take {D : DD} {i : Nat} {r : S4} (h : D.ru[i]? = some r) : (rks D).take (i + 1) = (rks D).take i ++ [(ix D.st r.1, ix D.st r.2.1)] ∧ (rvs D).take (i + 1) = (rvs D).take i ++ [(ix D.st r.2.2.1, ix D.st r.2.2.2)] ∧ (rks D)[i]? = some (ix D.st r.1, ix D.st r.2.1) := by
  have h1 : (rks D)[i]? = some (ix D.st r.1, ix D.st r.2.1) := by
    unfold rks
    rw [List.getElem?_map, h]
    rfl
  have h2 : (rvs D)[i]? = some (ix D.st r.2.2.1, ix D.st r.2.2.2) := by
    unfold rvs
    rw [List.getElem?_map, h]
    rfl
  exact ⟨take_snoc h1, take_snoc h2, h1⟩
theorem rks_all {D : DD} : (rks D).take D.ru.length = rks D ∧ (rvs D).take D.ru.length = rvs D := by
  constructor
  · rw [show D.ru.length = (rks D).length by simp [rks]]
    exact List.take_length
  · rw [show D.ru.length = (rvs D).length by simp [rvs]]
    exact List.take_length
end Vf
namespace Vf
open PySem L2
theorem atI_in {α : Type} {xs : List α} {i : Int} (h0 : 0 ≤ i) (h1 : i < xs.length) : ∃ c, atI xs i = some c := by
  obtain ⟨j, rfl⟩ : ∃ j : Nat, i = (j : Int) := ⟨i.toNat, by omega⟩
  have hj : j < xs.length := by omega
  exact ⟨xs[j], atI_nat (List.getElem?_eq_getElem hj)⟩
theorem one_len (w : Str) (c : Nat) : (w ++ (⟨#[c]⟩ : Str)).length = w.length + 1 := by
  show (w.cps ++ #[c]).size = w.cps.size + 1
  rw [Array.size_append]
  rfl
end Vf
namespace Vf
open PySem PySem.Spec PyProof.Rows L2
/-! ### a def that may run while an error is handled: it neither raises nor loops -/
structure FnW (P : Program) (w : World) (K : PySem.W.Frag) (mg : Str → Option Value) (base : Heap) (k : Nat) (f : Addr) (fd : FuncData) (ps : List Str) (sp : Sp) : Prop where
  len : ∀ vs H Q E, sp vs H Q E → vs.length = ps.length
  run : ∀ (A : Around) (outer : List Env) (s : Shared) (H : Hp) (args : Args) (us : List Value) (vs : List V) (Q : VK) (E : XK), L2H.RoomH k A → Env0 P w K mg base A outer s H → BindsTo s fd args (ps.zip us) → Vals vs us → sp vs H Q E →
    codeAny (model P w) A (.call (.ref f) args) (CR CX0 outer P w H s Q E) s
def cxW (P : Program) (w : World) (K : PySem.W.Frag) (mg : Str → Option Value) (base : Heap) (N : List Str) (qual : Str) (scope : Scope) (f : Addr) (cd : Value) (A : Around) (outer : List Env) (s : Shared) (H : Hp) (E : XK) : Cx :=
  { cxOf CX0 P w K mg base N qual scope f cd A outer s H E with calm := false }
theorem fn_ofW {P : Program} {w : World} {K : PySem.W.Frag} {mg : Str → Option Value} {base : Heap} {x qual : Str} {st : Stmt} {f : Addr} {fd : FuncData} {N ps : List Str} {k : Nat} {sp : Sp} (F : Fun K x qual st f fd) (S : FnScope N ps (defScope st)) (len : ∀ vs H Q E, sp vs H Q E → vs.length = ps.length)
    (hbody : ∀ (cdv : Value) (A : Around) (outer : List Env) (s : Shared) (H : Hp) (vs : List V) (Q : VK) (E : XK), L2H.RoomH k (A.deeper (envOfC qual (defScope st) s.heap.objs.size f cdv)) → sp vs H Q E →
      ∃ t, PSs (cxW P w K mg base N qual (defScope st) f cdv A outer s H E) (defBody st) t ∧ t { nx := fun _ H' => Q .non H', rt := Q } (L2.start N vs) H) : FnW P w K mg base (k + 1) f fd ps sp := by
  obtain ⟨oc, od, kV, doc, pm, an, cdv, ct, osl, rfl, lk, hcd⟩ := F.ex
  constructor
  · exact len
  intro A outer s H args us vs Q E hr e0 hb r hsp
  have lv := len _ _ _ _ hsp
  have kin : K.In s.heap := e0.mod.kin.keeps fun b o e => (e0.bs b o e).1
  have lim : s.heap.NoLimit := e0.mod.nolimit.keeps fun b o e => (e0.bs b o e).1
  refine codeAny_call_function hr.depth (kin _ _ lk) rfl S.co S.gen rfl (PySem.W.codeRec_of kin hcd) (hb _ _ _ _ (wpAny_newFunctionEnv_cells S.kind (fun y hy => ?_) fun env he s1 x => ?_))
  · rcases S.par y.1 (List.of_mem_zip hy).1 with q | q
    · exact .inl q
    · exact .inr ⟨q, PySem.W.cellsFrom_some _ _ _ (.inl q)⟩
  subst he
  refine ⟨lim.keeps x.toInCall.keep, codeAny_func ?_⟩
  obtain ⟨t, ht, hq⟩ := hbody cdv A outer s H vs Q E (hr.deeper _) hsp
  have I0 := inv_start (A := { A with handled := none }) (CX := CX0) (E := E) S rfl ⟨e0.frames, e0.mod, e0.bs, e0.bsz, e0.funs, e0.frf, e0.hok, e0.bare⟩ lv r x
  have ok := I0.ok
  have I : L2.Inv (cxW P w K mg base N qual (defScope st) f cdv A outer s H E) [] (L2.start N vs) H s1 :=
    ⟨⟨ok.mod, ok.kind, ok.glob, ok.blt, ok.above, ok.inj, ok.has, ok.cab, fun z => Bool.noConfusion (show false = true from z), Around.frames_deeper e0.frames, ok.stk, ok.exf, ok.bs, ok.bsz, ok.noex, ok.exfs, ok.funs, ok.frf⟩,
      I0.os, I0.bare, I0.base, I0.loc, I0.cell, I0.free, I0.freeC, I0.pin, I0.hok, I0.len⟩
  refine wpAny_mono (ht.run [] s1 (L2.start N vs) H _ I hq) (fun fl s2 hs => ?_) fun e s2 hs => hs
  cases fl with
  | brk =>
    obtain ⟨_, _, _, z⟩ := hs
    cases z
  | cont =>
    obtain ⟨_, _, _, z⟩ := hs
    cases z
  | next =>
    obtain ⟨σ', H', J, z⟩ := hs
    exact ⟨V.non, H', J.os, J.bare, J.base, J.hok, rfl, z⟩
  | ret u =>
    obtain ⟨v, σ', H', J, rv, z⟩ := hs
    exact ⟨v, H', J.os, J.bare, J.base, J.hok, rv, z⟩
theorem pe_callW {X : Cx} {k : Nat} {f : Addr} {fd : FuncData} {ps : List Str} {sp : Sp} {x : Str} {q pos : Pos} {e : Expr} {es : List Expr} {t : TA} (F : FnW X.prog X.w X.K X.mg X.base k f fd ps sp) (hr : L2H.RoomH k X.A) (hg : Gl X x) (hm : X.mg x = some (.ref f)) (hk : PySem.W.keepIn X.K (.ref f) = true) (hb : Binds X.K fd ps [])
    (ha : PA X (e :: es) t) (hdb : (x == ("__debug__" : Str)) = false := by decide) (he : starEach (e :: es) X.env = (false, eval e X.env) :: starEach es X.env := by rfl) (hpl : (backTo pos (starEach es X.env)).any (·.1) = false := by rfl) :
    PE X (.Call (.Name x q) (e :: es) [] pos) (tCall sp [] (fun _ _ _ => False) t) := by
  constructor
  intro pins s σ H Q I h
  refine wpAny_Call_Name_kw (ld_glob I hg hm ?_ hdb)
  refine PySem.W.callWith_K (h₀ := X.base) I.ok.mod.kin hk (thn (ha.run pos pins s σ H _ I h) fun us s1 got => ?_) he hpl
  obtain ⟨vs, H1, I1, r, q1⟩ := got
  rw [List.append_nil] at q1
  refine ⟨I1.kIn, ?_⟩
  have lu : us.length = ps.length := by rw [← r.length]; exact F.len _ _ _ _ q1
  have b := hb s1 us I1.kIn (by rw [List.append_nil]; exact lu)
  rw [List.append_nil] at b
  show wpAny _ _ (call (.ref f) us) _ _ _
  refine wpAny_call (codeAny_mono (F.run X.A X.stack s1 H1 ⟨us, []⟩ us vs Q (fun _ _ _ => False) hr I1.env0 b r q1) fun r s' hq => ?_)
  cases r with
  | error e => exact False.elim hq
  | ok fl =>
    cases fl with
    | ret u => exact I1.after hq
    | next => exact False.elim hq
    | brk => exact False.elim hq
    | cont => exact False.elim hq
end Vf
namespace Vf
open PySem L2
theorem ix_nth {st : List Str} {k : Nat} {s : Str} (nd : st.Nodup) (h : st[k]? = some s) : ix st s = (k : Int) := by
  have m := List.mem_of_getElem? h
  have lt := List.idxOf_lt_length_of_mem m
  have e : st[st.idxOf s]? = some s := by rw [List.getElem?_eq_getElem lt, List.getElem_idxOf lt]
  unfold ix
  rw [nodup_ix nd e h]
theorem unknown_in {D : DD} (vN : ValidN D) (sm : Small D) {w s : Str} (h : s ∈ [("zz9" : Str), ("" : Str), ("A" : Str), w ++ ("9zz" : Str)]) : s ∉ D.st := by
  simp only [List.mem_cons, List.not_mem_nil, or_false] at h
  rcases h with rfl | rfl | rfl | rfl
  · intro m
    obtain ⟨i, hi⟩ := List.mem_iff_getElem?.mp m
    have il := (List.getElem?_eq_some_iff.mp hi).1
    have l6 := sm.st6
    have hd := (goodName_of (by omega) (sm.gn i _ hi)).2
    have e : (Str.ofString "zz9").cps.toList.head? = some 122 := by decide +kernel
    rw [e] at hd
    have := Option.some.inj hd
    omega
  · intro m
    have q := vN.nm _ m
    have e : isName (Str.ofString "") = false := by decide +kernel
    rw [e] at q
    cases q
  · intro m
    have q := vN.nm _ m
    have e : isName (Str.ofString "A") = false := by decide +kernel
    rw [e] at q
    cases q
  · exact sm.noName (end_zz w)
end Vf

/-! ### places and meetings -/
namespace Vf
open PySem L2
def canMeet (ns : List Int) (m : Int × Int) : Bool :=
  if m.1 < 0 ∨ m.2 < 0 ∨ (ns.length : Int) ≤ m.1 ∨ (ns.length : Int) ≤ m.2 then false
  else if m.1 = m.2 then decide (2 ≤ ns.getD m.1.toNat 0) else decide (1 ≤ ns.getD m.1.toNat 0) && decide (1 ≤ ns.getD m.2.toNat 0)
def movePl (ns : List Int) (m r : Int × Int) : List Int := putAt (putAt (putAt (putAt ns m.1.toNat (-1)) m.2.toNat (-1)) r.1.toNat 1) r.2.toNat 1
def Fits (n : Nat) (ns : List Int) : Prop := ns.length = n ∧ ∀ y ∈ ns, 0 ≤ y
def InR (n : Nat) (m : Int × Int) : Prop := 0 ≤ m.1 ∧ m.1 < n ∧ 0 ≤ m.2 ∧ m.2 < n
theorem canMeet_in {ns : List Int} {m : Int × Int} (h : canMeet ns m = true) : InR ns.length m := by
  unfold canMeet at h
  by_cases c : m.1 < 0 ∨ m.2 < 0 ∨ (ns.length : Int) ≤ m.1 ∨ (ns.length : Int) ≤ m.2
  · rw [if_pos c] at h
    cases h
  · simp only [not_or, Int.not_lt, Int.not_le] at c
    exact ⟨c.1, c.2.2.1, c.2.1, c.2.2.2⟩
theorem putAt_get (pl : List Int) (i j : Nat) (c : Int) : (putAt pl i c).getD j 0 = if i = j ∧ j < pl.length then pl.getD j 0 + c else pl.getD j 0 := by
  unfold putAt
  rw [List.getD_eq_getElem?_getD, List.getElem?_set]
  by_cases e : i = j
  · subst e
    by_cases l : i < pl.length
    · simp [l]
    · simp [l]
  · simp [e]
theorem nonneg_of {ns : List Int} (h : ∀ j, j < ns.length → 0 ≤ ns.getD j 0) : ∀ y ∈ ns, 0 ≤ y := fun y hy => by
  obtain ⟨j, hj, rfl⟩ := List.mem_iff_getElem.mp hy
  have := h j hj
  rw [List.getD_eq_getElem?_getD, List.getElem?_eq_getElem hj] at this
  exact this
theorem nonneg_at {ns : List Int} (h : ∀ y ∈ ns, 0 ≤ y) (j : Nat) : 0 ≤ ns.getD j 0 := by
  rw [List.getD_eq_getElem?_getD]
  cases e : ns[j]? with
  | none => exact Int.le_refl _
  | some y => exact h y (List.mem_of_getElem? e)
theorem movePl_len (ns : List Int) (m r : Int × Int) : (movePl ns m r).length = ns.length := by
  unfold movePl
  rw [putAt_len, putAt_len, putAt_len, putAt_len]
theorem move_fits {n : Nat} {ns : List Int} {m r : Int × Int} (h : Fits n ns) (c : canMeet ns m = true) : Fits n (movePl ns m r) := by
  obtain ⟨hl, hn⟩ := h
  refine ⟨(movePl_len ..).trans hl, nonneg_of fun j hj => ?_⟩
  obtain ⟨i0, i1, j0, j1⟩ := canMeet_in c
  have hj0 := nonneg_at hn j
  unfold canMeet at c
  rw [if_neg (by simp only [not_or, Int.not_lt, Int.not_le]; exact ⟨i0, j0, i1, j1⟩)] at c
  unfold movePl
  simp only [putAt_get, putAt_len]
  by_cases e : m.1 = m.2
  · rw [if_pos e, decide_eq_true_eq] at c
    rw [e] at c ⊢
    by_cases e1 : m.2.toNat = j
    · subst e1
      split <;> split <;> split <;> omega
    · simp only [e1, false_and, if_false]
      split <;> split <;> omega
  · rw [if_neg e, Bool.and_eq_true, decide_eq_true_eq, decide_eq_true_eq] at c
    obtain ⟨c1, c2⟩ := c
    by_cases e1 : m.1.toNat = j
    · have e2 : ¬ m.2.toNat = j := fun z => e (by omega)
      subst e1
      simp only [e2, false_and, if_false]
      split <;> split <;> split <;> omega
    · simp only [e1, false_and, if_false]
      by_cases e2 : m.2.toNat = j
      · subst e2
        split <;> split <;> split <;> omega
      · simp only [e2, false_and, if_false]
        split <;> split <;> omega
theorem meetOf_in {D : DD} (v : ValidN D) {m : Int × Int} (h : InR D.st.length m) : InR D.st.length (meetOf (rks D) (rvs D) m) := by
  unfold meetOf
  by_cases c : m ∈ rks D
  · rw [if_pos c]
    have lt := List.idxOf_lt_length_of_mem c
    have l2 : (rvs D).length = (rks D).length := by simp [rvs, rks]
    have mem : (rvs D).getD ((rks D).idxOf m) m ∈ rvs D := getD_mem (by omega)
    obtain ⟨r, hr, er⟩ := List.mem_map.mp mem
    rw [← er]
    obtain ⟨_, _, m3, m4⟩ := v.rum r hr
    have b3 := List.idxOf_lt_length_of_mem m3
    have b4 := List.idxOf_lt_length_of_mem m4
    unfold ix
    refine ⟨?_, ?_, ?_, ?_⟩ <;> dsimp only <;> omega
  · rw [if_neg c]
    exact h
def goPl (f : Int × Int → Int × Int) : Nat → List (Int × Int) → List Int → Nat ⊕ List Int
  | _, [], pl => .inr pl
  | k, m :: r, pl => if canMeet pl m = true then goPl f (k + 1) r (movePl pl m (f m)) else .inl k
theorem goPl_step {f : Int × Int → Int × Int} {ms : List (Int × Int)} {i : Nat} {m : Int × Int} {pl : List Int} (h : ms[i]? = some m) : goPl f i (ms.drop i) pl = if canMeet pl m = true then goPl f (i + 1) (ms.drop (i + 1)) (movePl pl m (f m)) else .inl i := by
  have hi := (List.getElem?_eq_some_iff.mp h).1
  rw [List.drop_eq_getElem_cons hi, (List.getElem?_eq_some_iff.mp h).2]
  rfl
theorem goPl_end {f : Int × Int → Int × Int} {ms : List (Int × Int)} {i : Nat} {pl : List Int} (h : ms.length ≤ i) : goPl f i (ms.drop i) pl = .inr pl := by
  rw [List.drop_eq_nil_iff.mpr h]
  rfl
abbrev fD (D : DD) : Int × Int → Int × Int := meetOf (rks D) (rvs D)
def encI (ns : List Int) : List V := ns.map V.int
theorem refOk : PyData.strOk (Str.ofString "refused") = true := by decide +kernel
/-- what a run tells: the place, or the index of the meeting that is not possible -/
def Told (K : PySem.W.Frag) (H : Hp) (v : V) : Nat ⊕ List Int → Prop
  | .inl k => ∃ q, v = .ref q ∧ SqT K H q [.str "refused", .int (k : Int)]
  | .inr pl => ∃ q, v = .ref q ∧ SqT K H q (pl.map V.int)
theorem Told.same {K : PySem.W.Frag} {H H' : Hp} {v : V} {r : Nat ⊕ List Int} (h : Told K H v r) (e : Same H H') : Told K H' v r := by
  cases r with
  | inl k => exact ⟨h.choose, h.choose_spec.1, Same.seqT e h.choose_spec.2⟩
  | inr pl => exact ⟨h.choose, h.choose_spec.1, Same.seqT e h.choose_spec.2⟩
theorem Told.dp {K : PySem.W.Frag} {H : Hp} {x y : V} {r : Nat ⊕ List Int} (h1 : Told K H x r) (h2 : Told K H y r) : ∃ d e, Dp K H x d ∧ Dp K H y e ∧ SeqAt.shaped d = true ∧ SeqAt.shaped e = true ∧ PyData.eqv d e = true := by
  cases r with
  | inl k =>
    obtain ⟨a, rfl, ha⟩ := h1
    obtain ⟨b, rfl, hb⟩ := h2
    have al : ∀ H, DpAll K H [V.str "refused", V.int (k : Int)] [PyData.str "refused", PyData.int (k : Int)] := fun H => .cons (.str _) (.cons (.int _) .nil)
    have sh : SeqAt.shaped (.tuple [PyData.str "refused", PyData.int (k : Int)]) = true := by
      unfold SeqAt.shaped
      simp [PyData.canLay0, PyData.canLayAll0, PyData.depth, PyData.depthAll, refOk]
    exact ⟨_, _, .tup ha (al H), .tup hb (al H), sh, sh, PySem.SeqAt.eqv_refl _ (by simp [PyData.canLay0, PyData.canLayAll0, refOk])⟩
  | inr pl =>
    obtain ⟨a, rfl, ha⟩ := h1
    obtain ⟨b, rfl, hb⟩ := h2
    obtain ⟨d, e, x1, x2, x3, x4, x5⟩ := TwoInts.dp (K := K) (H := H) (ns := pl) (ms := pl) ⟨a, b, rfl, rfl, .inr ⟨ha, hb⟩⟩
    exact ⟨d, e, x1, x2, x3, x4, by rw [x5]; exact decide_eq_true rfl⟩
/-- a list of pairs as data -/
theorem dpAll_pairs {K : PySem.W.Frag} {H : Hp} : ∀ {xs : List V} {ms : List (Int × Int)}, Tups encP H xs ms → DpAll K H xs (ms.map fun m => PyData.tuple [.int m.1, .int m.2])
  | [], [], _ => .nil
  | [], m :: r, t => by have := t.1; simp at this
  | x :: xs, [], t => by have := t.1; simp at this
  | x :: xs, m :: r, t => by
    obtain ⟨u, e1, e2⟩ := t.2 0 m rfl
    obtain rfl : x = .ref u := Option.some.inj e1
    refine .cons (.tup (SqT.of e2) (.cons (.int _) (.cons (.int _) .nil))) (dpAll_pairs ⟨Nat.succ.inj t.1, fun i a e => ?_⟩)
    exact t.2 (i + 1) a e
end Vf
namespace Vf
open PySem L2
theorem canMeet_bad {ns : List Int} {m : Int × Int} (h : m.1 < 0 ∨ m.2 < 0 ∨ (ns.length : Int) ≤ m.1 ∨ (ns.length : Int) ≤ m.2) : canMeet ns m = false := if_pos h
theorem canMeet_same {ns : List Int} {i j : Int} (h : ¬ (i < 0 ∨ j < 0 ∨ (ns.length : Int) ≤ i ∨ (ns.length : Int) ≤ j)) (e : i = j) : canMeet ns (i, j) = decide (2 ≤ ns.getD i.toNat 0) := by
  unfold canMeet
  rw [if_neg h, if_pos e]
theorem canMeet_diff {ns : List Int} {i j : Int} (h : ¬ (i < 0 ∨ j < 0 ∨ (ns.length : Int) ≤ i ∨ (ns.length : Int) ≤ j)) (e : ¬ i = j) : canMeet ns (i, j) = (decide (1 ≤ ns.getD i.toNat 0) && decide (1 ≤ ns.getD j.toNat 0)) := by
  unfold canMeet
  rw [if_neg h, if_neg e]
end Vf
namespace Vf
open PySem L2
section
variable {pl : List Int} {x : Int}
theorem getI (h0 : 0 ≤ x) (h : x < pl.length) : (pl.map V.int)[x.toNat]? = some (V.int (pl.getD x.toNat 0)) := by
  have lt : x.toNat < pl.length := by omega
  rw [List.getElem?_map, List.getD_eq_getElem?_getD, List.getElem?_eq_getElem lt]
  rfl
theorem ixI (h0 : 0 ≤ x) (h : x < pl.length) : ixN (pl.map V.int).length x = some x.toNat := by
  unfold ixN
  rw [List.length_map, if_pos h0, if_pos (by omega)]
theorem setAdd {H : Hp} {c : Addr} {d : Int} : (upd H c (.lst ((pl.map V.int).set x.toNat (V.int (pl.getD x.toNat 0 + d))))) c = some (.lst ((putAt pl x.toNat d).map V.int)) := by rw [upd_same, ← putAt_map]
theorem setSub {H : Hp} {c : Addr} {d : Int} : (upd H c (.lst ((pl.map V.int).set x.toNat (V.int (pl.getD x.toNat 0 - d))))) c = some (.lst ((putAt pl x.toNat (-d)).map V.int)) := by rw [upd_same, ← putAt_map]; rfl
end
end Vf
namespace Vf
theorem dec2 {x : Int} : decide (2 ≤ x) = decide (1 < x) := decide_eq_decide.mpr (by omega)
theorem dec1 {x : Int} : decide (1 ≤ x) = decide (0 < x) := decide_eq_decide.mpr (by omega)
end Vf
namespace Vf
open PySem L2
theorem PP.got {H : Hp} {kvs : List (List Key × V)} {ks vl : List (Int × Int)} (p : PP H kvs ks vl) {k : Int × Int} {t : Addr} (ht : H t = some (.tup (encP k))) : ∃ t2, (valV kvs (keyP k)).getD (V.ref t) = .ref t2 ∧ H t2 = some (.tup (encP (meetOf ks vl k))) := by
  rcases p.get k with ⟨y1, y2⟩ | ⟨t2, y1, y2⟩
  · rw [y1, y2]
    exact ⟨t, rfl, ht⟩
  · rw [y1]
    exact ⟨t2, rfl, y2⟩
end Vf
namespace Vf
theorem putAt_mem {pl : List Int} {i : Nat} {c y : Int} (h : y ∈ putAt pl i c) : y ∈ pl ∨ (i < pl.length ∧ y = pl.getD i 0 + c) := by
  unfold putAt at h
  have h0 := h
  rcases List.mem_or_eq_of_mem_set h with h | h
  · exact .inl h
  · by_cases l : i < pl.length
    · exact .inr ⟨l, h⟩
    · rw [List.set_eq_of_length_le (by omega)] at h0
      exact .inl h0
theorem putAt_bound {pl : List Int} {i : Nat} {b : Int} (h : ∀ y ∈ pl, 0 ≤ y ∧ y ≤ b) (hi : i < pl.length) : ∀ y ∈ putAt pl i 1, 0 ≤ y ∧ y ≤ b + 1 := fun y hy => by
  rcases putAt_mem hy with m | ⟨_, rfl⟩
  · have := h y m
    omega
  · have := h _ (getD_mem hi (d := 0))
    omega
end Vf
namespace Vf
theorem bits_small {i : Nat} (h : i ≤ 1000000) : (i : Int).natAbs.log2 < 1920 := by
  rw [Int.natAbs_natCast]
  by_cases hz : i = 0
  · subst hz
    decide
  · exact (Nat.log2_lt hz).mpr (Nat.lt_of_le_of_lt h (by decide))
theorem refused_eq {i : Nat} : [L2.V.str "refused", L2.V.int (0 + (i : Int))] = [L2.V.str "refused", L2.V.int (i : Int)] := by rw [Int.zero_add]
end Vf
namespace Vf
open PySem L2
theorem catT {K : PySem.W.Frag} {H : Hp} {a b : Addr} {xs ys : List V} {Q : VK} (hx : H a = some (.tup xs)) (hy : SqT K H b ys) (ne : xs ≠ []) (hs : xs.length + ys.length ≤ sizeLine)
    (k : ∀ (p : Addr) (H' : Hp), Same H H' → H' p = some (.tup (xs ++ ys)) → Q (.ref p) H') : rCatT K (.ref a) (.ref b) H Q := by
  refine ⟨a, b, xs, ys, rfl, rfl, SqT.of hx, hy, ne, hs, fun e => ?_, fun _ p np => k p _ (Vf.Same.new (Same.refl H) np) upd_same⟩
  refine k a H (Same.refl H) ?_
  rw [e, List.append_nil]
  exact hx
theorem slT1 {K : PySem.W.Frag} {H : Hp} {a : Addr} {xs : List V} {Q : VK} (hx : SqT K H a xs) (h0 : 0 < xs.length) (k : ∀ (p : Addr) (H' : Hp), Same H H' → H' p = some (.tup (xs.drop 1)) → Q (.ref p) H') : rSlT K (.ref a) (some 1) none H Q := by
  refine ⟨a, xs, rfl, hx, ?_, fun p np => k p _ (Vf.Same.new (Same.refl H) np) ?_⟩
  · intro e
    have e1 : HT.sIx xs.length 0 (some ((1 : Nat) : Int)) = min 1 xs.length := HT.sIx_nat _ _ _
    have e2 : HT.sIx xs.length 0 (some (1 : Int)) = 0 := e.1
    rw [show ((1 : Nat) : Int) = (1 : Int) from rfl, e2] at e1
    omega
  · rw [upd_same]
    exact congrArg (fun z => some (HO.tup z)) (Vf.cut_from xs 1 h0)
theorem Tups.one {α : Type} {enc : α → List V} {H : Hp} {t : Addr} {a : α} (h : H t = some (.tup (enc a))) : Tups enc H [.ref t] [a] := Tups.snoc (xs := []) (l := []) Tups.nil h
end Vf
namespace Vf
open PySem L2
theorem PoolAt.pp {H : Hp} {p : Addr} {n : Int} {kvs : List (List Key × V)} {ks vl : List (Int × Int)} (P : PoolAt H p n) (q : PP H kvs ks vl) : PP (Er p H) kvs ks vl := ⟨q.keys, P.tups q.vals, q.nd⟩
theorem sum_pos : ∀ {ns : List Int}, 1 < ns.sum → ∃ k, k < ns.length ∧ 0 < ns.getD k 0
  | [], h => by simp at h
  | n :: r, h => by
    by_cases c : 0 < n
    · exact ⟨0, by simp, by simpa using c⟩
    · rw [List.sum_cons] at h
      obtain ⟨k, h1, h2⟩ := sum_pos (ns := r) (by omega)
      exact ⟨k + 1, by simp; omega, by simpa using h2⟩
theorem Keep.tup {p : Addr} {H H' : Hp} {o : HO} (k : Keep [p] H H') (hp : H p = some o) {t : Addr} {ys : List V} (ne : ∀ zs, o ≠ .tup zs) (h : H t = some (.tup ys)) : H' t = some (.tup ys) := k t _ (fun m => by
  rw [List.mem_singleton.mp m, hp] at h
  exact ne ys (Option.some.inj h)) h
end Vf
namespace Vf
open PySem L2
/-- while a run is drawn: the steps' list, the place, the pool -/
structure Stp (G : Hp) (pl dr st at_ : Addr) (xs : List V) (ms : List (Int × Int)) (cur : List Int) (H : Hp) (m : Int) : Prop where
  g : Same G H
  s : H st = some (.lst xs)
  t : Tups encP H xs ms
  a : H at_ = some (.tup (cur.map V.int))
  p : H pl = some (.lst [.ref dr, .int m])
section
variable {G H H' : Hp} {pl dr st at_ : Addr} {xs : List V} {ms : List (Int × Int)} {cur : List Int} {m m' : Int}
theorem Stp.same (S : Stp G pl dr st at_ xs ms cur H m) (e : Same H H') : Stp G pl dr st at_ xs ms cur H' m := ⟨S.g.trans e, e _ _ S.s, S.t.same e, e _ _ S.a, e _ _ S.p⟩
theorem nolst {x y : V} : ∀ zs, HO.lst [x, y] ≠ .tup zs := fun zs e => by cases e
theorem Stp.pick (S : Stp G pl dr st at_ xs ms cur H m) (gn : G pl = none) (ne : st ≠ pl) (h : H' pl = some (.lst [.ref dr, .int m'])) (k : Keep [pl] H H') : Stp G pl dr st at_ xs ms cur H' m' :=
  ⟨same_keep S.g gn k, k st _ (by simpa using ne) S.s, S.t.mono fun t ys e => k.tup S.p nolst e, k.tup S.p nolst S.a, h⟩
theorem Stp.at_ne (S : Stp G pl dr st at_ xs ms cur H m) {t : Addr} {ys : List V} (h : H t = some (.tup ys)) : t ≠ st ∧ t ≠ pl := ⟨fun e => (by rw [e, S.s] at h; cases h), fun e => (by rw [e, S.p] at h; cases h)⟩
/-- a step is put behind -/
theorem Stp.put (S : Stp G pl dr st at_ xs ms cur H m) (gn : G st = none) (ne : st ≠ pl) {t : Addr} {a : Int × Int} (h : H t = some (.tup (encP a))) : Stp G pl dr st at_ (xs ++ [.ref t]) (ms ++ [a]) cur (upd H st (.lst (xs ++ [.ref t]))) m := by
  have up : ∀ {x : Addr} {ys : List V}, H x = some (.tup ys) → (upd H st (.lst (xs ++ [.ref t]))) x = some (.tup ys) := fun {x ys} e => by rw [upd_ne (S.at_ne e).1]; exact e
  exact ⟨Vf.Same.chg S.g gn, upd_same, (S.t.mono fun x ys e => up e).snoc (up h), up S.a, by rw [upd_ne (Ne.symm ne)]; exact S.p⟩
end
theorem canLay_pairs : ∀ ms : List (Int × Int), PyData.canLayAll0 (ms.map fun m => PyData.tuple [.int m.1, .int m.2]) = true
  | [] => by simp [PyData.canLayAll0]
  | m :: r => by simp [PyData.canLayAll0, PyData.canLay0, canLay_pairs r]
theorem depth_pairs : ∀ ms : List (Int × Int), PyData.depthAll (ms.map fun m => PyData.tuple [.int m.1, .int m.2]) ≤ 2
  | [] => by simp [PyData.depthAll]
  | m :: r => by
    have := depth_pairs r
    simp only [List.map_cons, PyData.depthAll, PyData.depth]
    omega
theorem shaped_pairs (ms : List (Int × Int)) : SeqAt.shaped (.list (ms.map fun m => PyData.tuple [.int m.1, .int m.2])) = true := by
  have h1 := depth_pairs ms
  have h2 : PyData.depth (.list (ms.map fun m => PyData.tuple [.int m.1, .int m.2])) ≤ 64 := by
    simp only [PyData.depth]
    omega
  show (PyData.canLay0 (.list (ms.map fun m => PyData.tuple [.int m.1, .int m.2])) && decide (PyData.depth (.list (ms.map fun m => PyData.tuple [.int m.1, .int m.2])) ≤ 64)) = true
  rw [Bool.and_eq_true]
  exact ⟨by simp only [PyData.canLay0]; exact canLay_pairs ms, decide_eq_true h2⟩
theorem eqv_pairs (ms : List (Int × Int)) : PyData.eqv (.list (ms.map fun m => PyData.tuple [.int m.1, .int m.2])) (.list (ms.map fun m => PyData.tuple [.int m.1, .int m.2])) = true :=
  PySem.SeqAt.eqv_refl _ (by simp only [PyData.canLay0]; exact canLay_pairs ms)
theorem cut_to' (xs : List V) (t : Nat) : cutV xs none (some (t : Int)) = xs.take t := by
  have e1 : HT.sIx xs.length xs.length (some (t : Int)) = min t xs.length := HT.sIx_nat _ _ _
  have e2 : HT.sIx xs.length 0 none = 0 := rfl
  unfold cutV
  rw [e1, e2]
  show List.take (min t xs.length - 0) (xs.drop 0) = xs.take t
  rw [List.drop_zero, Nat.sub_zero]
  by_cases h : t ≤ xs.length
  · rw [Nat.min_eq_left h]
  · rw [Nat.min_eq_right (by omega), List.take_length, List.take_of_length_le (by omega)]
/-- places that do not fit -/
theorem bad_fit {n : Nat} {ns x : List Int} (h : ns.length = n) (h0 : 0 < n) (m : x ∈ [ns ++ [0], ns ++ [1], -1 :: ns.drop 1, ns.drop 1]) : ¬ Fits n x := by
  rintro ⟨l, p⟩
  simp only [List.mem_cons, List.not_mem_nil, or_false] at m
  rcases m with rfl | rfl | rfl | rfl
  · simp at l; omega
  · simp at l; omega
  · have := p (-1) (by simp)
    omega
  · simp at l; omega
theorem er_same {pl : Addr} {G H : Hp} (g : G pl = none) (s : Same G H) : Same G (Er pl H) := fun x o h => (if_neg (neq_none h g)).trans (s x o h)
end Vf

/-! ### enumerate(tuple); a list or a tuple walked; sorted of tuples of whole numbers -/
namespace Vf
open PySem PySem.Spec PyProof.Rows L2
def IteT (K : PySem.W.Frag) (a : Addr) : It :=
  ⟨fun i H => ∃ (xs : List V) (x : V), SqT K H a xs ∧ xs[i]? = some x, fun i H v H' => ∃ T x, v = .ref T ∧ H T = none ∧ H' = upd H T (.tup [.int (i : Nat), x]) ∧ ∀ xs, SqT K H a xs → xs[i]? = some x, fun i H => ∃ xs : List V, SqT K H a xs ∧ xs.length = i⟩
theorem turn_enumT {P : Program} {w : World} {K : PySem.W.Frag} {elts : List Expr} {kk : Nat} {tpos : Pos} (a e it : Addr) (hai : a ≠ it) (hae : a ≠ e) :
    Turn P w K (.Tuple elts kk tpos) (IteT K a) [e, it] e (fun i h => (∃ old, IsEnum h e it ((i : Nat) : Int) old) ∧ h.IsTupleIter it a i ∧ e ≠ it) where
  mem := by simp
  obj := fun i h st b hb => by
    obtain ⟨⟨old, he⟩, ⟨o, ho, hc, hd⟩, _⟩ := st
    have e' : b = e ∨ b = it := by simpa using hb
    rcases e' with z | z
    · rw [z]; exact ⟨_, he, fun v q => nomatch q⟩
    · rw [z]; exact ⟨o, ho, fun v q => by rw [hd] at q; cases q⟩
  keep := fun i h h' st k => let ⟨⟨old, he⟩, hi, hne⟩ := st; ⟨⟨old, k e (by simp) _ he⟩, hi.at fun o q => k it (by simp) o q, hne⟩
  item := by
    intro X hP hw hK hc i pins s σ H E I hf st hg
    subst hP hw hK
    obtain ⟨⟨old, he⟩, hit, hne⟩ := st
    obtain ⟨xs, x, hq, hx⟩ := hg
    obtain ⟨its, rv, p, hz⟩ := I.tuple hq
    obtain ⟨u, hu, ru⟩ := rv.get hx
    have hel : e < s.heap.objs.size := Heap.lt_size he
    have hil : it < s.heap.objs.size := by obtain ⟨_, q, _⟩ := hit; exact Heap.lt_size q
    have nh : X.A.in1.handled = none := I.ok.hd hc
    have lx := (List.getElem?_eq_some_iff.mp hu).1
    refine wpAny_pyNext_enum_itemD (Draws.tuple nh it a hai its.toArray) he ⟨hit, p⟩ (by simpa using lx) hne (by simp [hne, Ne.symm hae]) fun x1 h' tk e1 ho hst' hT hsz hk => ?_
    obtain rfl : u = x1 := by
      have e := e1
      simp only [List.getElem?_toArray] at e
      rw [hu] at e
      exact Option.some.inj e
    obtain ⟨hit', _⟩ := hst'
    refine ⟨_, rfl, wpAny_letOwnedTupleGo_enum (s := { s with heap := h', toks := tk + 1 }) ho fun h'' he' sb => ?_⟩
    have hT2 : h''.get? s.heap.objs.size = some { cls := .type "tuple", data := .seq #[.int i tk, u] } := (sb.2 _ (Nat.ne_of_gt hel)).trans hT
    have new : ObjOk X.prog X.w (upd H s.heap.objs.size (.tup [.int (i : Nat), x])) h'' s.heap.objs.size (.tup [.int (i : Nat), x]) :=
      ⟨by show 2 ≤ sizeLine; decide, [.int i tk, u], .cons ⟨_, rfl⟩ (.cons ru .nil), ⟨_, hT2, rfl, _, rfl⟩⟩
    have I1 : Inv X pins σ (upd H s.heap.objs.size (.tup [.int (i : Nat), x])) { s with heap := h'', toks := tk + 1 } :=
      I.turnedNew (ch := [e, it]) (fun b ob hb q => (sb.2 b (fun z => hb (by simp [z]))).trans (hk b ob (fun z => hb (by simp [z])) (fun z => hb (by simp [z])) q)) hf (Nat.le_refl _) new
    refine ⟨.ref s.heap.objs.size, _, I1, rfl, ⟨_, x, rfl, I.hok.fresh (Nat.le_refl _), rfl, fun ys hy => by rw [I.tuple_inj hy hq]; exact hx⟩, ⟨⟨u, ?_⟩, hit'.at fun o q => (sb.2 it (Ne.symm hne)).trans q, hne⟩, fun b hb => ?_⟩
    · have e1 : ((i + 1 : Nat) : Int) = (i : Int) + 1 := by omega
      rw [e1]; exact he'
    · have hb' : b < s.heap.objs.size := by
        have e' : b = e ∨ b = it := by simpa using hb
        rcases e' with z | z
        · rw [z]; exact hel
        · rw [z]; exact hil
      rw [upd_ne (Nat.ne_of_lt hb')]
      exact (hf b hb).1
  done := by
    intro X hP hw hK hc i pins s σ H E I hf st hg
    subst hP hw hK
    obtain ⟨⟨old, he⟩, hit, hne⟩ := st
    obtain ⟨xs, hq, hx⟩ := hg
    obtain ⟨its, rv, p, hz⟩ := I.tuple hq
    obtain ⟨f0, f1, f2, f3, f4, f5⟩ := hf it (by simp)
    have hl := rv.length
    have nh : X.A.in1.handled = none := I.ok.hd hc
    refine wpAny_pyNext_enum_endD (Draws.tuple nh it a hai its.toArray) he ⟨by rw [List.size_toArray, ← hl, hx]; exact hit, p⟩ fun h' eb => ⟨rfl, I.turned (t' := s.toks) (fun b o hb q => eb b o hb q) f0 f1 f3 f4 f5⟩
  self := fun A i s Q E st h => let ⟨⟨_, he⟩, _⟩ := st; wpAny_pyIter_enum he h
theorem meets_enumerate_newT (l : Addr) (items : Array Value) : Meets (Builtin.«enumerate.__new__» ⟨[.type "enumerate", .ref l], []⟩) (fun _ R s => s.heap.IsTuple l items ∧
      R (.ok (.ret (.ref (s.heap.push { cls := .type "tuple_iterator", data := .fields #[.ref l, .int 0 0] }).objs.size)))
        { s with heap := (s.heap.push { cls := .type "tuple_iterator", data := .fields #[.ref l, .int 0 0] }).push { cls := .type "enumerate", data := .fields #[.none, .bool false, .ref s.heap.objs.size, rawInt 0, .none, .none] } }) :=
  .of_wp fun prog w A R s h => by
    obtain ⟨hp, g, d, tk, os⟩ := s
    obtain ⟨hL, h⟩ := h
    have hsub := sub_enumerate
    have hL' : Heap.IsTuple (Shared.heap ⟨hp, g, d, tk, os⟩) l items := hL
    wp_walk
    refine wpAny_stack_any fun st => wpAny_pure ?_
    split
    · rename_i c _ _ _ _ _
      cases (c == Value.type "enumerate")
      · wp_walk using wpAny_pyIter_tuple hL'
        exact ⟨_, rfl, h⟩
      · wp_walk using wpAny_pyIter_tuple hL'
        exact ⟨_, rfl, h⟩
    · wp_walk using wpAny_pyIter_tuple hL'
      exact ⟨_, rfl, h⟩
theorem call_enumerate_tup {prog : Program} {w : World} {A : Around} {E : Value → Shared → Prop} {s : Shared} {l : Addr} {items : Array Value} {Q : Value → Shared → Prop} (hL : s.heap.IsTuple l items)
    (h : ∀ h', IsEnum h' (s.heap.objs.size + 1) s.heap.objs.size 0 .none → h'.IsTupleIter s.heap.objs.size l 0 → h'.objs.size = s.heap.objs.size + 2 →
      (∀ b o, s.heap.get? b = some o → h'.get? b = some o) → Q (.ref (s.heap.objs.size + 1)) { s with heap := h' }) :
    wpAny (model prog w) A (call (.type "enumerate") [.ref l]) Q E s := by
  refine callType_new F.called_enumerate (by decide) (F.typeCall_enumerate_1 _) (F.newCall_enumerate_1 _) (fun obj => F.args_object_init_2 obj _) F.entry_enumerate_new
    (meets_enumerate_newT l items) ⟨hL, ?_⟩
  have hz : (s.heap.push { cls := .type "tuple_iterator", data := .fields #[.ref l, .int 0 0] }).objs.size = s.heap.objs.size + 1 := Heap.size_push ..
  show _ ∧ _
  rw [hz]
  have he : IsEnum ((s.heap.push { cls := .type "tuple_iterator", data := .fields #[.ref l, .int 0 0] }).push
      { cls := .type "enumerate", data := .fields #[.none, .bool false, .ref s.heap.objs.size, rawInt 0, .none, .none] }) (s.heap.objs.size + 1) s.heap.objs.size 0 .none := by
    have := Heap.get?_push_size (s.heap.push { cls := .type "tuple_iterator", data := .fields #[.ref l, .int 0 0] })
      (o := { cls := .type "enumerate", data := .fields #[.none, .bool false, .ref s.heap.objs.size, rawInt 0, .none, .none] }) rfl
    rw [hz] at this; exact this
  refine ⟨⟨_, he, rfl⟩, h _ he ⟨_, Heap.get?_push_of_some _ (Heap.get?_push_size _ rfl), rfl, rfl⟩ (by rw [Heap.size_push, hz]) fun b o x => Heap.get?_push_of_some _ (Heap.get?_push_of_some _ x)⟩
def iEnumT (K : PySem.W.Frag) (ta : TA) : TI := fun σ H R => ta σ H fun vs H1 => ∃ a xs, vs = [.ref a] ∧ SqT K H1 a xs ∧ R (IteT K a) H1
theorem pi_enumT {X : Cx} {e : Expr} {ta : TA} {p pos tpos : Pos} {elts : List Expr} {kk : Nat} (hg : Gl X "enumerate") (hm : X.mg "enumerate" = none) (ha : PA X [e] ta) (hs : starEach [e] X.env = [(false, eval e X.env)] := by rfl) :
    PI X (.Tuple elts kk tpos) (.Call (.Name "enumerate" p) [e] [] pos) (iEnumT X.K ta) := by
  refine ⟨fun pins s σ H R I h => ?_⟩
  refine Call_ (ld_blt I hg hm boot_enumerate (PyProof.Rows.callWith_type1 (thn (ha.run pos pins s σ H _ I h) fun us s1 ⟨vs, H1, I1, r1, q1⟩ => ?_) hs rfl))
  obtain ⟨a, xs, ex, hq, q⟩ := q1
  subst ex
  cases r1 with
  | cons r rr =>
    cases rr
    cases r
    obtain ⟨its, rv, p', hz⟩ := I1.tuple hq
    obtain ⟨o1, w1, _⟩ := id p'
    have al : a < s1.heap.objs.size := Heap.lt_size w1
    refine call_enumerate_tup p' fun h' he hit hsz hk => wpAny_pyIter_enum he ?_
    have I2 : Inv X pins σ H1 { s1 with heap := h' } := I1.kept (t' := s1.toks) hk
    refine ⟨s1.heap.objs.size + 1, [s1.heap.objs.size + 1, s1.heap.objs.size], _, _, H1, rfl, I2, turn_enumT a (s1.heap.objs.size + 1) s1.heap.objs.size (Nat.ne_of_lt al) (Nat.ne_of_lt (Nat.lt_succ_of_lt al)), ⟨⟨.none, he⟩, hit, Nat.succ_ne_self _⟩, fun b hb => ?_, q⟩
    have e' : b = s1.heap.objs.size + 1 ∨ b = s1.heap.objs.size := by simpa using hb
    have hle : s1.heap.objs.size ≤ b := by
      rcases e' with z | z
      · rw [z]; exact Nat.le_add_right _ _
      · rw [z]; exact Nat.le_refl _
    exact I1.fpOk hle (I1.hok.fresh hle)
section
variable {K : PySem.W.Frag} {a : Addr} {xs : List V}
theorem walk_enumT : Walk (IteT K a) xs.length (fun H => SqT K H a xs) (YPair (fun i => some (.int (i : Nat))) (fun i => xs[i]?)) := by
  refine ⟨fun i _ hi q => ⟨xs, xs[i], q, by simp [hi]⟩, fun _ q => ⟨xs, q, rfl⟩, fun i H v H' _ q y => ?_⟩
  obtain ⟨T, x, h1, h2, h3, h4⟩ := y
  exact ⟨T, .int (i : Nat), x, h1, h2, h3, rfl, h4 xs q⟩
end
/-- a list or a tuple walked -/
def iSeq (K : PySem.W.Frag) (tl : TE) : TI := fun σ H R => tl σ H fun x H1 => (∃ a, x = .ref a ∧ (∃ xs, SqL K H1 a xs) ∧ R (Itl K a) H1) ∨ ∃ a, x = .ref a ∧ (∃ xs, SqT K H1 a xs) ∧ R (Itt K a) H1
theorem pi_seq {X : Cx} {tg l : Expr} {tl : TE} (hl : PE X l tl) : PI X tg l (iSeq X.K tl) := by
  refine ⟨fun pins s σ H R I h => ?_⟩
  refine thn (hl.run pins s σ H _ I h) fun v s1 ⟨x, H1, I1, r1, q1⟩ => ?_
  rcases q1 with ⟨a, e, ⟨xs, hq⟩, q⟩ | ⟨a, e, ⟨xs, hq⟩, q⟩
  · subst e
    cases r1
    obtain ⟨its, rv, p, hz⟩ := I1.list hq
    refine wpAny_pyIter_list p.isList ?_
    refine ⟨s1.heap.objs.size, [s1.heap.objs.size], _, _, H1, rfl, I1.kept (t' := s1.toks) fun b o e => Heap.get?_push_of_some _ e, turn_list a _, ⟨_, Heap.get?_push_size _ rfl, rfl, rfl⟩, fun b hb => ?_, q⟩
    have e : b = s1.heap.objs.size := by simpa using hb
    subst e
    exact I1.fpOk (Nat.le_refl _) (I1.hok.fresh (Nat.le_refl _))
  · subst e
    cases r1
    obtain ⟨its, rv, p, hz⟩ := I1.tuple hq
    refine wpAny_pyIter_tuple (show s1.heap.IsTuple a its.toArray from p) ?_
    refine ⟨s1.heap.objs.size, [s1.heap.objs.size], _, _, H1, rfl, I1.kept (t' := s1.toks) fun b o e => Heap.get?_push_of_some _ e, turn_tuple a _, ⟨_, Heap.get?_push_size _ rfl, rfl, rfl⟩, fun b hb => ?_, q⟩
    have e : b = s1.heap.objs.size := by simpa using hb
    subst e
    exact I1.fpOk (Nat.le_refl _) (I1.hok.fresh (Nat.le_refl _))
theorem pi_seqK {X : Cx} {K : PySem.W.Frag} {tg l : Expr} {tl : TE} (h : X.K = K) (hl : PE X l tl) : PI X tg l (iSeq K tl) := by
  subst h
  exact pi_seq hl
end Vf
namespace Vf
open PySem PySem.Spec PyProof.Rows L2
def encIs (ns : List Int) : List V := ns.map V.int
def iV : V → Int
  | .int i => i
  | _ => 0
/-- the ints of the tuple that a value is -/
def nsAt (H : Hp) : V → List Int
  | .ref a => match H a with
    | some (.tup xs) => xs.map iV
    | _ => []
  | _ => []
theorem nsAt_of {H : Hp} {a : Addr} {ns : List Int} (h : H a = some (.tup (encIs ns))) : nsAt H (.ref a) = ns := by
  show (match H a with | some (.tup xs) => xs.map iV | _ => []) = ns
  rw [h]
  show (ns.map V.int).map iV = ns
  rw [List.map_map]
  exact List.map_id' ns
theorem tups_nsAt {H : Hp} {xs : List V} {zs : List (List Int)} (t : Tups encIs H xs zs) : xs.map (nsAt H) = zs := by
  apply List.ext_getElem?
  intro i
  rw [List.getElem?_map]
  cases e : xs[i]? with
  | none =>
    have := List.getElem?_eq_none_iff.mp e
    rw [List.getElem?_eq_none (show zs.length ≤ i by rw [← t.1]; exact this)]
    rfl
  | some x =>
    obtain ⟨a, u, e1, rfl, e2⟩ := t.get e
    rw [e1]
    exact congrArg some (nsAt_of e2)
theorem tups_perm {H : Hp} {xs ys : List V} {zs : List (List Int)} (t : Tups encIs H xs zs) (p : ys.Perm xs) : Tups encIs H ys (ys.map (nsAt H)) := by
  refine ⟨(List.length_map ..).symm, fun i a e => ?_⟩
  rw [List.getElem?_map] at e
  cases e1 : ys[i]? with
  | none => rw [e1] at e; cases e
  | some y =>
    rw [e1] at e
    obtain rfl : nsAt H y = a := Option.some.inj e
    obtain ⟨j, hj⟩ := List.mem_iff_getElem?.mp (p.mem_iff.mp (List.mem_of_getElem? e1))
    obtain ⟨b, u, f1, rfl, f2⟩ := t.get hj
    exact ⟨u, rfl, by rw [nsAt_of f2]; exact f2⟩
def rSortTs (K : PySem.W.Frag) : List V → Hp → VK → Prop := fun vs H Q => ∃ (a : Addr) (xs : List V) (zs : List (List Int)) (d : Nat) (B : Int), vs = [V.ref a] ∧ H a = some (.lst xs) ∧ Tups encIs H xs zs ∧ zs.length < 64 ∧ 1 ≤ d ∧ (∀ z ∈ zs, z.length = d ∧ TS.Bd B z) ∧
  ∀ (p : Addr) (ys : List V) (ws : List (List Int)), H p = none → Tups encIs H ys ws → ws.Perm zs → ws.Pairwise (fun x y => TS.code B x ≤ TS.code B y) → Q (.ref p) (upd H p (.lst ys))
theorem cr_sortTs {X : Cx} : CallR X (.builtin "sorted") (rSortTs X.K) := by
  intro pins s σ H vs us Q I r h
  obtain ⟨a, xs, zs, d, B, rfl, ha, t, h64, hd, hz, q⟩ := h
  refine cr_sortT (d := d) (B := B) hd pins s σ H [V.ref a] us Q I r ⟨a, xs, rfl, SqL.of ha, by rw [t.1]; exact h64, fun x hx => ?_, fun ys p pm pw np => ?_⟩
  · obtain ⟨i, hi⟩ := List.mem_iff_getElem?.mp hx
    obtain ⟨z, u, e1, rfl, e2⟩ := t.get hi
    exact ⟨z, ⟨u, rfl, SqT.of e2⟩, hz z (List.mem_of_getElem? e1)⟩
  · have t2 := tups_perm t pm
    refine q p ys _ np t2 ?_ ?_
    · rw [← tups_nsAt t]
      exact pm.map _
    · rw [List.pairwise_map]
      refine pw.imp_of_mem fun {x y} hx hy hxy => ?_
      obtain ⟨i, hi⟩ := List.mem_iff_getElem?.mp hx
      obtain ⟨j, hj⟩ := List.mem_iff_getElem?.mp hy
      obtain ⟨z, u, e1, rfl, e2⟩ := t2.get hi
      obtain ⟨z', u', e1', rfl, e2'⟩ := t2.get hj
      exact hxy _ _ ⟨u, rfl, SqT.of (by rw [nsAt_of e2]; exact e2)⟩ ⟨u', rfl, SqT.of (by rw [nsAt_of e2']; exact e2')⟩
theorem code_inj {B : Int} : ∀ {x y : List Int}, x.length = y.length → TS.Bd B x → TS.Bd B y → TS.code B x = TS.code B y → x = y
  | [], [], _, _, _, _ => rfl
  | [], _ :: _, h, _, _, _ => by simp at h
  | _ :: _, [], h, _, _, _ => by simp at h
  | a :: r, b :: q, h, h1, h2, e => by
    have hl : r.length = q.length := by simpa using h
    have ab : a = b := by
      rcases Int.lt_trichotomy a b with c | c | c
      · have := TS.code_lt hl h1.tail h2.tail c
        omega
      · exact c
      · have := TS.code_lt hl.symm h2.tail h1.tail c
        omega
    subst ab
    have e2 : a * B ^ r.length + TS.code B r = a * B ^ q.length + TS.code B q := e
    rw [hl] at e2
    rw [code_inj hl h1.tail h2.tail (by omega)]
/-- sorted is one list only -/
theorem sort_one {B : Int} {d : Nat} {ws zs : List (List Int)} (p : ws.Perm zs) (hz : ∀ z ∈ zs, z.length = d ∧ TS.Bd B z) (h1 : ws.Pairwise (fun x y => TS.code B x ≤ TS.code B y)) (h2 : zs.Pairwise (fun x y => TS.code B x ≤ TS.code B y)) : ws = zs := by
  refine p.eq_of_pairwise (fun x y hx hy a b => ?_) h1 h2
  have zx := hz x (p.mem_iff.mp hx)
  have zy := hz y hy
  exact code_inj (zx.1.trans zy.1.symm) zx.2 zy.2 (Int.le_antisymm a b)
/-- sorted(d), d a dict whose keys are tuples of ints -/
def keyI (k : List Int) : List Key := k.map Sum.inl
theorem keyI_inj {a b : List Int} (h : keyI a = keyI b) : a = b := by
  have h2 := congrArg (List.map (fun k : Key => match k with | .inl i => i | .inr _ => 0)) h
  unfold keyI at h2
  rw [List.map_map, List.map_map] at h2
  exact (List.map_id' a).symm.trans (h2.trans (List.map_id' b))
theorem keyI_kV (k : List Int) : (keyI k).map kV = encIs k := by
  unfold keyI encIs
  rw [List.map_map]
  rfl
def rSortDTs : List V → Hp → VK → Prop := fun vs H Q => ∃ (a : Addr) (kvs : List (List Key × V)) (ks : List (List Int)) (d : Nat) (B : Int), vs = [V.ref a] ∧ Rd H a (.dT kvs) ∧ kvs.map (·.1) = ks.map keyI ∧ ks.length < 64 ∧ 1 ≤ d ∧ (∀ z ∈ ks, z.length = d ∧ TS.Bd B z) ∧
  ∀ (p : Addr) (ys : List V) (ws : List (List Int)), H p = none → Tups encIs H ys ws → ws.Perm ks → ws.Pairwise (fun x y => TS.code B x ≤ TS.code B y) → Q (.ref p) (upd H p (.lst ys))
theorem tupInts_of {X : Cx} {pins : List (Addr × Obj)} {σ : L2.St} {H : Hp} {s : Shared} (I : Inv X pins σ H s) {t : Addr} {ns : List Int} (h : H t = some (.tup (encIs ns))) : TS.TupInts s.heap (.ref t) ns := tupI_raw I (SqT.of h)
theorem cr_sortDTs {X : Cx} (hcalm : X.calm = true) : CallR X (.builtin "sorted") rSortDTs := by
  intro pins s σ H xs us Q I r h
  obtain ⟨d, kvs, ks, dd, B, rfl, hd, hks, h64, hd1, hz, q⟩ := h
  obtain ⟨u, rfl, rx⟩ := vals1 r
  cases rx
  obtain ⟨z, hs, xs, pr, o, es, ep, ho, hx, hdt, he, hn⟩ := (show ObjOk X.prog X.w H s.heap d (.dT kvs) from hd.ok I.hok)
  have l1 : es.size = xs.length := size_of_entries he
  have l2 : kvs.length = xs.length := Paired.length pr
  have l3 : kvs.length = ks.length := by
    have := congrArg List.length hks
    simpa using this
  have h16 : es.size ≤ sizeLine := by rw [sizeLine_eq]; omega
  refine Calls.call_function_entry PyProof.Rows.kind_sorted PyProof.Rows.plain_sorted PyProof.Rows.entry_sorted (PyProof.Rows.args_sorted1 _) ?_
  unfold Builtin.«sorted»
  refine wpAny_bind (m := checkCount "sorted" 1 1 _) (wpAny_pure ?_)
  refine wpAny_bind (PySem.W.kdu_collect (A := X.A.in1) (kdl_raw hs hx hdt) (I.ok.hd hcalm) ho h16 fun h' tk acc hk hacc => ?_)
  have ea : acc.toList = (xs.map fun x => x.2.1).map Value.ref := by
    have hl : acc.toList.length = xs.length := by rw [Array.length_toList, hacc.1, l1]
    apply List.ext_getElem?
    intro j
    rw [List.map_map, List.getElem?_map]
    cases hj : acc.toList[j]? with
    | none =>
      have h1 := List.getElem?_eq_none_iff.mp hj
      rw [List.getElem?_eq_none (by omega)]
      rfl
    | some v =>
      obtain ⟨en, hen, hv⟩ := hacc.2 j v (by rw [← Array.getElem?_toList]; exact hj)
      have qe := entry_at he j
      rw [hen] at qe
      cases hb : xs[j]? with
      | none =>
        rw [hb] at qe
        exact nomatch (show some en = none from qe)
      | some b =>
        rw [hb] at qe
        have e2 : en = entryOfKey (tupleKind (mixKind X.prog X.w)) b := Option.some.inj qe
        rw [hv, e2]
        rfl
  have I1 : Inv X pins σ H { s with heap := h', toks := tk } := I.kept hk
  -- the keys' tuples
  have T0 : Tups encIs H ((xs.map fun x => x.2.1).map V.ref) ks := by
    refine ⟨by rw [List.length_map, List.length_map]; omega, fun n k e => ?_⟩
    have hn' : n < xs.length := by
      have := (List.getElem?_eq_some_iff.mp e).1
      omega
    have ex : xs[n]? = some xs[n] := List.getElem?_eq_getElem hn'
    obtain ⟨y, hy, p1, p2, _⟩ := pair_get pr ex
    have hk1 : (kvs.map (·.1))[n]? = some y.1 := by rw [List.getElem?_map, hy]; rfl
    rw [hks, List.getElem?_map, e] at hk1
    have ek : y.1 = keyI k := (Option.some.inj hk1).symm
    rw [ek] at p2
    refine ⟨xs[n].2.1, by rw [List.getElem?_map, List.getElem?_map, ex]; rfl, ?_⟩
    rw [← keyI_kV]
    exact p2
  have hal : acc.toList.length < 64 := by
    rw [ea, List.length_map, List.length_map]
    omega
  refine wpAny_bind (wpAny_newList ?_ (by rw [sizeLine_eq]; omega))
  have hoL : (h'.push (seqObj "list" acc.toList.toArray 0)).get? h'.objs.size = some (seqObj "list" acc.toList.toArray 0) := Heap.get?_push_size _ rfl
  show wpAny _ _ _ _ _ { s with heap := h'.push (seqObj "list" acc.toList.toArray 0), toks := tk }
  have ok : TS.TupsOk (h'.push (seqObj "list" acc.toList.toArray 0)) dd B acc.toList := by
    intro v hv
    rw [ea] at hv
    obtain ⟨a, ha, rfl⟩ := List.mem_map.mp hv
    obtain ⟨n, hn'⟩ := List.mem_iff_getElem?.mp ha
    obtain ⟨k, t, e1, e2, e3⟩ := T0.get (i := n) (x := V.ref a) (by rw [List.getElem?_map, hn']; rfl)
    cases e2
    obtain ⟨z1, z2⟩ := hz k (List.mem_of_getElem? e1)
    exact ⟨k, (tupInts_of I1 e3).keeps fun b o e _ => Heap.get?_push_of_some _ e, z1, z2⟩
  refine wpAny_bind (wpAny_holding (wpAny_call_entry PyProof.Rows.slot_list_sort ⟨_, hoL, rfl⟩ PyProof.Rows.entry_list_sort
    (TS.sort_tups (s := { s with heap := h'.push (seqObj "list" acc.toList.toArray 0), toks := tk }) hoL hal hd1 ok (fun v => TS.code B (TS.intsOf (h'.push (seqObj "list" acc.toList.toArray 0)) v)) (fun v _ ns t => by
      show TS.code B (TS.intsOf _ v) = TS.code B ns
      rw [t.ints]) fun out hperm hs' => ⟨_, rfl, ?_⟩) (args_list_sort _)))
  obtain ⟨e', he'⟩ := PyProof.Rows.sortedHeap_at (vs := acc.toList) (out := out) hoL
  obtain ⟨bs, eb⟩ := refs_out out.toList fun u hu => by
    have hm := hperm.mem_iff.mp hu
    rw [ea] at hm
    obtain ⟨a, _, rfl⟩ := List.mem_map.mp hm
    exact ⟨a, rfl⟩
  rw [ea, eb] at hperm
  have hbp : bs.Perm (xs.map fun x => x.2.1) := by
    have hh := hperm.map (fun v : Value => match v with | .ref a => a | _ => 0)
    rw [List.map_map, List.map_map] at hh
    have e1 : bs.map ((fun v : Value => match v with | .ref a => a | _ => 0) ∘ Value.ref) = bs := List.map_id' bs
    have e2 : (xs.map fun x => x.2.1).map ((fun v : Value => match v with | .ref a => a | _ => 0) ∘ Value.ref) = (xs.map fun x => x.2.1) := List.map_id' _
    rw [e1, e2] at hh
    exact hh
  have vp : (bs.map V.ref).Perm ((xs.map fun x => x.2.1).map V.ref) := hbp.map _
  have t2 := tups_perm T0 vp
  have hlen : (bs.map V.ref).length ≤ sizeLine := by
    rw [List.length_map, hbp.length_eq, List.length_map, sizeLine_eq]
    omega
  refine wpAny_pure ⟨_, rfl, .ref h'.objs.size, upd H h'.objs.size (.lst (bs.map V.ref)), I1.laid (t' := tk) (fun b u e => ?_) (Nat.le_refl _)
    (show ObjOk X.prog X.w _ _ _ (.lst (bs.map V.ref)) from ⟨hlen, bs.map Value.ref, e', vals_refs bs, by rw [he', ← eb]⟩), rfl, q _ _ ((bs.map V.ref).map (nsAt H)) (I1.hok.fresh (Nat.le_refl _)) t2 ?_ ?_⟩
  · have hb : b < h'.objs.size := Heap.lt_size e
    rw [PyProof.Rows.sortedHeap_old (Nat.ne_of_lt hb) (by rw [size_push']; exact Nat.lt_succ_of_lt hb)]
    exact Heap.get?_push_of_some _ e
  · rw [← tups_nsAt T0]
    exact vp.map _
  · rw [eb] at hs'
    rw [List.pairwise_map] at hs'
    rw [List.pairwise_map, List.pairwise_map]
    refine hs'.imp_of_mem fun {x y} hx hy hxy => ?_
    have key : ∀ b ∈ bs, TS.intsOf (h'.push (seqObj "list" acc.toList.toArray 0)) (.ref b) = nsAt H (.ref b) := fun b hb => by
      obtain ⟨i, hi⟩ := List.mem_iff_getElem?.mp hb
      obtain ⟨zz, t, e1, e2, e3⟩ := t2.get (i := i) (x := V.ref b) (by rw [List.getElem?_map, hi]; rfl)
      cases e2
      have e4 := (tupInts_of I1 e3).keeps (h' := h'.push (seqObj "list" acc.toList.toArray 0)) fun b o e _ => Heap.get?_push_of_some _ e
      rw [e4.ints]
      exact (nsAt_of e3).symm
    rw [← key x hx, ← key y hy]
    exact hxy
end Vf
namespace Vf
open PySem PySem.Spec PyProof.Rows L2
theorem op_neIsK {X : Cx} {K : PySem.W.Frag} (h : X.K = K) (hu : X.A.units + 64 < cLine) : OpR X (compareOp .NotEq) (rNeIs K) := by
  subst h
  exact op_neIs hu
theorem op_eqIsK {X : Cx} {K : PySem.W.Frag} (h : X.K = K) (hu : X.A.units + 64 < cLine) : OpR X (compareOp .Eq) (rEqIs K) := by
  subst h
  exact op_eqIs hu
theorem _root_.L2.Room.units65 {k : Nat} {A : Around} (r : Room k A) : A.units + 65 < cLine := by
  have := r.un
  omega
end Vf

/-! ### the meetings of a place, and where they lead -/
namespace Vf
open PySem L2
theorem asc_eq : ∀ {l m : List Int}, l.Pairwise (· < ·) → m.Pairwise (· < ·) → (∀ x, x ∈ l ↔ x ∈ m) → l = m
  | [], [], _, _, _ => rfl
  | [], b :: m, _, _, h => by
    have := (h b).mpr (List.mem_cons_self ..)
    simp at this
  | a :: l, [], _, _, h => by
    have := (h a).mp (List.mem_cons_self ..)
    simp at this
  | a :: l, b :: m, h1, h2, h => by
    obtain ⟨a1, a2⟩ := List.pairwise_cons.mp h1
    obtain ⟨b1, b2⟩ := List.pairwise_cons.mp h2
    have e : a = b := by
      have ha := (h a).mp (List.mem_cons_self ..)
      have hb := (h b).mpr (List.mem_cons_self ..)
      rcases List.mem_cons.mp ha with e | e
      · exact e
      · rcases List.mem_cons.mp hb with e' | e'
        · exact e'.symm
        · have x1 := b1 a e
          have x2 := a1 b e'
          omega
    subst e
    rw [asc_eq a2 b2 fun x => ⟨fun hx => ?_, fun hx => ?_⟩]
    · have q := (h x).mp (List.mem_cons_of_mem _ hx)
      rcases List.mem_cons.mp q with e | e
      · have := a1 x hx
        omega
      · exact e
    · have q := (h x).mpr (List.mem_cons_of_mem _ hx)
      rcases List.mem_cons.mp q with e | e
      · have := b1 x hx
        omega
      · exact e
def nz (i : Nat) : Int := (i : Int)
theorem nz_asc (n : Nat) (p : Nat → Bool) : (((List.range n).filter p).map nz).Pairwise (· < ·) := by
  rw [List.pairwise_map]
  refine (List.pairwise_lt_range.filter p).imp fun {a b} h => ?_
  show (a : Int) < b
  omega
theorem nz_mem {n : Nat} {p : Nat → Bool} {x : Int} : x ∈ ((List.range n).filter p).map nz ↔ 0 ≤ x ∧ x < n ∧ p x.toNat = true := by
  rw [List.mem_map]
  constructor
  · rintro ⟨i, h, rfl⟩
    rw [List.mem_filter, List.mem_range] at h
    exact ⟨Int.natCast_nonneg _, Int.ofNat_lt.mpr h.1, by rw [show (nz i).toNat = i from Int.toNat_natCast i]; exact h.2⟩
  · rintro ⟨h0, h1, h2⟩
    exact ⟨x.toNat, List.mem_filter.mpr ⟨List.mem_range.mpr (by omega), h2⟩, Int.toNat_of_nonneg h0⟩
/-- a meeting that is possible and changes a state -/
def cM (f : Int × Int → Int × Int) (ns : List Int) (m : Int × Int) : Bool := !decide (f m = m) && canMeet ns m
/-- the seconds for a first one -/
def secs (n : Nat) (c : Int × Int → Bool) (a : Int) : List Int := ((List.range n).filter fun j => c (a, nz j)).map nz
/-- all of them, ascending -/
def prs (n : Nat) (c : Int × Int → Bool) : List (Int × Int) := (List.range n).flatMap fun i => (secs n c (nz i)).map fun j => (nz i, j)
theorem secs_len (n : Nat) (c : Int × Int → Bool) (a : Int) : (secs n c a).length ≤ n := by
  unfold secs
  rw [List.length_map]
  exact Nat.le_trans (List.length_filter_le ..) (Nat.le_of_eq List.length_range)
theorem prs_len (n : Nat) (c : Int × Int → Bool) : (prs n c).length ≤ n * n := by
  unfold prs
  have : ∀ k, ((List.range k).flatMap fun i => (secs n c (nz i)).map fun j => (nz i, j)).length ≤ k * n := by
    intro k
    induction k with
    | zero => simp
    | succ k ih =>
      rw [List.range_succ, List.flatMap_append, List.length_append, Nat.succ_mul]
      have h1 : ([k].flatMap fun i => (secs n c (nz i)).map fun j => (nz i, j)).length ≤ n := by
        rw [List.flatMap_singleton, List.length_map]
        exact secs_len n c _
      omega
  exact this n
theorem prs_mem {n : Nat} {c : Int × Int → Bool} {m : Int × Int} (h : m ∈ prs n c) : InR n m ∧ c m = true := by
  unfold prs at h
  rw [List.mem_flatMap] at h
  obtain ⟨i, hi, h⟩ := h
  rw [List.mem_range] at hi
  obtain ⟨j, hj, rfl⟩ := List.mem_map.mp h
  unfold secs at hj
  obtain ⟨h0, h1, h2⟩ := nz_mem.mp hj
  rw [show nz j.toNat = j from Int.toNat_of_nonneg h0] at h2
  refine ⟨⟨Int.natCast_nonneg _, Int.ofNat_lt.mpr hi, h0, h1⟩, h2⟩
/-- what is left of any ascending list that leaves none out -/
theorem secs_of {n : Nat} {f : Int × Int → Int × Int} {ns l : List Int} {a : Int} (hn : ns.length = n) (h1 : l.Pairwise (· < ·)) (h2 : ∀ j ∈ l, f (a, j) ≠ (a, j)) (h3 : ∀ j : Int, 0 ≤ j → j < n → f (a, j) ≠ (a, j) → 0 < ns.getD j.toNat 0 → j ∈ l) :
    l.filter (fun j => canMeet ns (a, j)) = secs n (cM f ns) a := by
  refine asc_eq (h1.filter _) (nz_asc ..) fun x => ?_
  unfold secs
  rw [nz_mem, List.mem_filter]
  constructor
  · rintro ⟨hx, hc⟩
    have r := canMeet_in hc
    rw [hn] at r
    refine ⟨r.2.2.1, r.2.2.2, ?_⟩
    rw [show nz x.toNat = x from Int.toNat_of_nonneg r.2.2.1]
    unfold cM
    rw [decide_eq_false (h2 x hx), hc]
    rfl
  · rintro ⟨h0, hx, hc⟩
    rw [show nz x.toNat = x from Int.toNat_of_nonneg h0] at hc
    unfold cM at hc
    rw [Bool.and_eq_true, Bool.not_eq_true', decide_eq_false_iff_not] at hc
    refine ⟨h3 x h0 hx hc.1 ?_, hc.2⟩
    have cm := hc.2
    unfold canMeet at cm
    split at cm
    · cases cm
    · split at cm
      · rename_i e
        rw [decide_eq_true_eq] at cm
        have : a = x := e
        subst this
        dsimp only at cm
        omega
      · rw [Bool.and_eq_true, decide_eq_true_eq, decide_eq_true_eq] at cm
        dsimp only at cm
        omega
/-- the states in which there are agents -/
def pres (n : Nat) (ns : List Int) : List Int := ((List.range n).filter fun i => decide (0 < ns.getD i 0)).map nz
theorem flat_filter {α β : Type} (p : α → Bool) (g : α → List β) (h : ∀ a, p a = false → g a = []) : ∀ l : List α, (l.filter p).flatMap g = l.flatMap g
  | [] => rfl
  | a :: l => by
    rw [List.flatMap_cons, List.filter_cons]
    by_cases c : p a = true
    · rw [if_pos c, List.flatMap_cons, flat_filter p g h l]
    · rw [if_neg c, flat_filter p g h l, h a (by simpa using c)]
      rfl
theorem secs_none {n : Nat} {f : Int × Int → Int × Int} {ns : List Int} {i : Nat} (h : decide (0 < ns.getD i 0) = false) : secs n (cM f ns) (nz i) = [] := by
  unfold secs
  rw [List.map_eq_nil_iff, List.filter_eq_nil_iff]
  intro j _ c
  unfold cM at c
  rw [Bool.and_eq_true] at c
  have cm := c.2
  have h' := of_decide_eq_false h
  unfold canMeet at cm
  split at cm
  · cases cm
  · have ei : (nz i).toNat = i := Int.toNat_natCast i
    dsimp only at cm
    rw [ei] at cm
    split at cm
    · rw [decide_eq_true_eq] at cm
      omega
    · rw [Bool.and_eq_true, decide_eq_true_eq, decide_eq_true_eq] at cm
      omega
theorem pres_flat (n : Nat) (f : Int × Int → Int × Int) (ns : List Int) : ((pres n ns).flatMap fun a => (secs n (cM f ns) a).map fun j => (a, j)) = prs n (cM f ns) := by
  unfold pres prs
  rw [List.flatMap_map]
  exact flat_filter _ _ (fun i h => by
    show (secs n (cM f ns) (nz i)).map _ = []
    rw [secs_none h]
    rfl) _
/-- the next places, in the order in which they are found -/
def nextS (f : Int × Int → Int × Int) (ns : List Int) (acc : List (List Int × (Int × Int))) (m : Int × Int) : List (List Int × (Int × Int)) :=
  if movePl ns m (f m) = ns ∨ movePl ns m (f m) ∈ acc.map Prod.fst then acc else acc ++ [(movePl ns m (f m), m)]
def nextL (f : Int × Int → Int × Int) (ns : List Int) (ms : List (Int × Int)) : List (List Int × (Int × Int)) := ms.foldl (nextS f ns) []
theorem nextL_snoc (f : Int × Int → Int × Int) (ns : List Int) {ms : List (Int × Int)} {i : Nat} {m : Int × Int} (h : ms[i]? = some m) : nextL f ns (ms.take (i + 1)) = nextS f ns (nextL f ns (ms.take i)) m := by
  unfold nextL
  rw [List.take_add_one, h]
  exact List.foldl_append ..
theorem nextL_len (f : Int × Int → Int × Int) (ns : List Int) (ms : List (Int × Int)) : (nextL f ns ms).length ≤ ms.length := by
  unfold nextL
  have : ∀ (ms : List (Int × Int)) (acc : List (List Int × (Int × Int))), (ms.foldl (nextS f ns) acc).length ≤ acc.length + ms.length := by
    intro ms
    induction ms with
    | nil => intro acc; exact Nat.le_refl _
    | cons m r ih =>
      intro acc
      rw [List.foldl_cons, List.length_cons]
      have h1 := ih (nextS f ns acc m)
      have h2 : (nextS f ns acc m).length ≤ acc.length + 1 := by
        unfold nextS
        split
        · omega
        · rw [List.length_append]; exact Nat.le_refl _
      omega
  simpa using this ms []
theorem nextL_mem {f : Int × Int → Int × Int} {ns : List Int} : ∀ {ms : List (Int × Int)} {z : List Int}, z ∈ (nextL f ns ms).map Prod.fst → ∃ m ∈ ms, z = movePl ns m (f m) := by
  have : ∀ (ms : List (Int × Int)) (acc : List (List Int × (Int × Int))) (z : List Int), z ∈ (ms.foldl (nextS f ns) acc).map Prod.fst → z ∈ acc.map Prod.fst ∨ ∃ m ∈ ms, z = movePl ns m (f m) := by
    intro ms
    induction ms with
    | nil => intro acc z h; exact .inl h
    | cons m r ih =>
      intro acc z h
      rw [List.foldl_cons] at h
      rcases ih _ _ h with h | ⟨m', h1, h2⟩
      · unfold nextS at h
        split at h
        · exact .inl h
        · rw [List.map_append] at h
          rcases List.mem_append.mp h with h | h
          · exact .inl h
          · exact .inr ⟨m, List.mem_cons_self .., by simpa using h⟩
      · exact .inr ⟨m', List.mem_cons_of_mem _ h1, h2⟩
  intro ms z h
  rcases this ms [] z h with h | h
  · simp at h
  · exact h
theorem putAt_le {pl : List Int} {i : Nat} {c b : Int} (h : ∀ y ∈ pl, y ≤ b) (hc : 0 ≤ b) : ∀ y ∈ putAt pl i c, y ≤ b + (if 0 ≤ c then c else 0) := fun y hy => by
  rcases putAt_mem hy with m | ⟨l, rfl⟩
  · have := h y m
    split <;> omega
  · have := h _ (getD_mem l (d := 0))
    split <;> omega
theorem move_le {ns : List Int} {m r : Int × Int} {b : Int} (h : ∀ y ∈ ns, y ≤ b) (hb : 0 ≤ b) : ∀ y ∈ movePl ns m r, y ≤ b + 2 := by
  unfold movePl
  have h1 := putAt_le (i := m.1.toNat) (c := -1) h hb
  have h2 := putAt_le (i := m.2.toNat) (c := -1) h1 (by omega)
  have h3 := putAt_le (i := r.1.toNat) (c := 1) h2 (by omega)
  have h4 := putAt_le (i := r.2.toNat) (c := 1) h3 (by omega)
  intro y hy
  have := h4 y hy
  simp at this
  omega
/-- the next places have the same length, and are bounded -/
theorem next_ok {n : Nat} {f : Int × Int → Int × Int} {ns : List Int} {b : Int} (h : Fits n ns) (hb : ∀ y ∈ ns, y ≤ b) (b0 : 0 ≤ b) : ∀ z ∈ (nextL f ns (prs n (cM f ns))).map Prod.fst, z.length = n ∧ TS.Bd (b + 3) z := by
  intro z hz
  obtain ⟨m, hm, rfl⟩ := nextL_mem hz
  obtain ⟨_, hc⟩ := prs_mem hm
  unfold cM at hc
  rw [Bool.and_eq_true] at hc
  have fm := move_fits (r := f m) h hc.2
  refine ⟨fm.1, fun y hy => ⟨fm.2 y hy, ?_⟩⟩
  have := move_le (m := m) (r := f m) hb b0 y hy
  omega
theorem fD_ch {D : DD} (v : ValidN D) {i : Nat} {j : Int} : (∃ (n : Nat) (w : Int × Int), (rks D)[n]? = some ((i : Int), j) ∧ (rvs D)[n]? = some w ∧ w ≠ ((i : Int), j)) ↔ fD D ((i : Int), j) ≠ ((i : Int), j) := by
  have nd : (rks D).Nodup := by
    have := (v.valid).nd
    exact this
  unfold fD meetOf
  constructor
  · rintro ⟨n, w, h1, h2, h3⟩
    have mem := List.mem_of_getElem? h1
    rw [if_pos mem]
    have e : (rks D).idxOf ((i : Int), j) = n := by
      have lt := List.idxOf_lt_length_of_mem mem
      have g : (rks D)[(rks D).idxOf ((i : Int), j)]? = some ((i : Int), j) := by
        rw [List.getElem?_eq_getElem lt]
        exact congrArg some (List.getElem_idxOf lt)
      exact nodup_ix nd g h1
    rw [e, List.getD_eq_getElem?_getD, h2]
    exact h3
  · intro h
    by_cases mem : ((i : Int), j) ∈ rks D
    · rw [if_pos mem] at h
      have lt := List.idxOf_lt_length_of_mem mem
      have l2 : (rvs D).length = (rks D).length := by simp [rvs, rks]
      refine ⟨(rks D).idxOf ((i : Int), j), (rvs D)[(rks D).idxOf ((i : Int), j)]'(by omega), ?_, List.getElem?_eq_getElem _, ?_⟩
      · rw [List.getElem?_eq_getElem lt]
        exact congrArg some (List.getElem_idxOf lt)
      · rw [List.getD_eq_getElem?_getD, List.getElem?_eq_getElem (by omega)] at h
        exact h
    · rw [if_neg mem] at h
      exact absurd rfl h
end Vf
namespace Vf
open PySem L2
theorem pair_ne {a b : Int × Int} : (!decide ([a.1, a.2] = [b.1, b.2])) = decide (a ≠ b) := by
  have : ([a.1, a.2] = [b.1, b.2]) ↔ a = b := by
    constructor
    · intro h
      simp only [List.cons.injEq, and_true] at h
      exact Prod.ext h.1 h.2
    · intro h
      rw [h]
  by_cases c : a = b
  · rw [decide_eq_true (this.mpr c), decide_eq_false (fun z => z c)]
    rfl
  · rw [decide_eq_false (fun z => c (this.mp z)), decide_eq_true c]
    rfl
theorem filter_take {α : Type} {p : α → Bool} {l : List α} {i : Nat} {x : α} (h : l[i]? = some x) : (l.take (i + 1)).filter p = (l.take i).filter p ++ if p x = true then [x] else [] := by
  rw [List.take_add_one, h, List.filter_append]
  congr 1
  by_cases c : p x = true
  · rw [if_pos c]
    simp [c]
  · rw [if_neg c]
    simp [c]
theorem range_filter {p : Nat → Bool} {i : Nat} : (List.range (i + 1)).filter p = (List.range i).filter p ++ if p i = true then [i] else [] := by
  rw [List.range_succ, List.filter_append]
  congr 1
  by_cases c : p i = true
  · rw [if_pos c]
    simp [c]
  · rw [if_neg c]
    simp [c]
end Vf
namespace Vf
open PySem L2
section
variable {J : It} {n : Nat} {G : Hp → Prop} {Y : Nat → Hp → V → Hp → Prop} {g g1 : TG} {tt tt1 : TT} {te : TE} {wi1 : TI} {vs vs1 : List Nat} {σ : L2.St} {H1 : Hp} {D : Addr} {Qd : Hp → Prop}
/-- the inner walk of a comprehension of two clauses -/
def LcIn (g1 : TG) (tt1 : TT) (te : TE) (vs1 : List Nat) (D : Addr) (σ2 : L2.St) (Nx : Hp → Prop) (J1 : It) (H4 : Hp) : Prop := ∃ W1 : Nat → Nat → Hp → Prop, (∃ m, W1 0 m H4) ∧ ∀ j k H, W1 j k H →
      (J1.stop j H ∧ Nx H) ∨ (J1.go j H ∧ ∃ Nx1 : Hp → Prop, (∀ H', Nx1 H' → ∃ k', k' < k ∧ W1 (j + 1) k' H') ∧ ∀ x H', J1.yld j H x H' → g1 x (wipe σ2 vs1) H' fun σ3 H5 => wipe σ3 vs1 = wipe σ2 vs1 ∧ tt1 σ3 H5 fun b H6 =>
        if b = true then te σ3 H6 fun y H7 => ∃ acc, H7 D = some (.lst acc) ∧ acc.length < sizeLine ∧ Nx1 (upd H7 D (.lst (acc ++ [y]))) else Nx1 H6)
theorem lc_in (w : Walk J n G Y) (Pv : Nat → Hp → Prop) (h0 : Pv 0 H1) (hG : ∀ i H, i ≤ n → Pv i H → G H)
    (hs : ∀ i x H H', i < n → Pv i H → Y i H x H' → g1 x (wipe σ vs1) H' fun σ2 H2 => wipe σ2 vs1 = wipe σ vs1 ∧ tt1 σ2 H2 fun b H3 =>
      if b = true then te σ2 H3 fun y H4 => ∃ acc, H4 D = some (.lst acc) ∧ acc.length < sizeLine ∧ Pv (i + 1) (upd H4 D (.lst (acc ++ [y]))) else Pv (i + 1) H3) (hd : ∀ H, Pv n H → Qd H) : LcIn g1 tt1 te vs1 D σ Qd J H1 := by
  refine ⟨fun i m H => m = n - i ∧ i ≤ n ∧ Pv i H, ⟨n, by simp, Nat.zero_le _, h0⟩, ?_⟩
  rintro i m H ⟨rfl, hi, p⟩
  have q := hG i H hi p
  by_cases hlt : i < n
  · exact .inr ⟨w.goes i H hlt q, Pv (i + 1), fun H' p' => ⟨n - (i + 1), by omega, rfl, hlt, p'⟩, fun x H' y => hs i x H H' hlt p (w.yields i H x H' hlt q y)⟩
  · have e : i = n := by omega
    subst e
    exact .inl ⟨w.stops H q, hd H p⟩
theorem lc2_it (w : Walk J n G Y) (Pv : Nat → Hp → Prop) (h0 : Pv 0 (upd H1 D (.lst []))) (hG : ∀ i H, i ≤ n → Pv i H → G H)
    (hs : ∀ i x H H', i < n → Pv i H → Y i H x H' → g x (wipe σ vs) H' fun σ2 H2 => wipe σ2 vs = wipe σ vs ∧ tt σ2 H2 fun b H3 =>
      if b = true then wi1 σ2 H3 (LcIn g1 tt1 te vs1 D σ2 (Pv (i + 1))) else Pv (i + 1) H3) (hd : ∀ H, Pv n H → Qd H) :
    ∃ W : Nat → Nat → Hp → Prop, (∃ m, W 0 m (upd H1 D (.lst []))) ∧ ∀ i m H, W i m H →
      (J.stop i H ∧ Qd H) ∨ (J.go i H ∧ ∃ Nx : Hp → Prop, (∀ H', Nx H' → ∃ m', m' < m ∧ W (i + 1) m' H') ∧ ∀ x H', J.yld i H x H' → g x (wipe σ vs) H' fun σ2 H2 => wipe σ2 vs = wipe σ vs ∧ tt σ2 H2 fun b H3 =>
        if b = true then wi1 σ2 H3 (LcIn g1 tt1 te vs1 D σ2 Nx) else Nx H3) := by
  refine ⟨fun i m H => m = n - i ∧ i ≤ n ∧ Pv i H, ⟨n, by simp, Nat.zero_le _, h0⟩, ?_⟩
  rintro i m H ⟨rfl, hi, p⟩
  have q := hG i H hi p
  by_cases hlt : i < n
  · exact .inr ⟨w.goes i H hlt q, Pv (i + 1), fun H' p' => ⟨n - (i + 1), by omega, rfl, hlt, p'⟩, fun x H' y => hs i x H H' hlt p (w.yields i H x H' hlt q y)⟩
  · have e : i = n := by omega
    subst e
    exact .inl ⟨w.stops H q, hd H p⟩
end
theorem pres_ok {n : Nat} {ns : List Int} : (pres n ns).Pairwise (· < ·) ∧ (∀ j ∈ pres n ns, 0 ≤ j ∧ j < n ∧ 0 < ns.getD j.toNat 0) ∧ (∀ j : Int, 0 ≤ j → j < n → 0 < ns.getD j.toNat 0 → j ∈ pres n ns) ∧ (pres n ns).length ≤ n := by
  refine ⟨nz_asc .., fun j h => ?_, fun j h0 h1 h2 => nz_mem.mpr ⟨h0, h1, decide_eq_true h2⟩, ?_⟩
  · obtain ⟨h0, h1, h2⟩ := nz_mem.mp h
    exact ⟨h0, h1, of_decide_eq_true h2⟩
  · unfold pres
    rw [List.length_map]
    exact Nat.le_trans (List.length_filter_le ..) (Nat.le_of_eq List.length_range)
theorem secs_le (n : Nat) (c : Int × Int → Bool) (l : List Int) : (l.flatMap fun a => (secs n c a).map fun j => (a, j)).length ≤ l.length * n := by
  induction l with
  | nil => simp
  | cons a r ih =>
    rw [List.flatMap_cons, List.length_append, List.length_map, List.length_cons, Nat.succ_mul]
    have := secs_len n c a
    omega
end Vf
namespace Vf
open PySem L2
theorem valV_in {κ : Type} [DecidableEq κ] {k : κ} : ∀ {kvs : List (κ × V)}, (valV kvs k).isSome = decide (k ∈ kvs.map Prod.fst)
  | [] => by simp [valV]
  | p :: r => by
    by_cases e : p.1 = k
    · rw [valV_pos e, List.map_cons, e]
      simp
    · rw [valV_neg e, valV_in (kvs := r), List.map_cons]
      refine decide_eq_decide.mpr ⟨fun h => List.mem_cons_of_mem _ h, fun h => ?_⟩
      rcases List.mem_cons.mp h with h | h
      · exact absurd h.symm e
      · exact h
/-- a dict from places to meetings -/
structure PPI (H : Hp) (kvs : List (List Key × V)) (nl : List (List Int × (Int × Int))) : Prop where
  keys : kvs.map (·.1) = (nl.map Prod.fst).map keyI
  vals : Tups encP H (kvs.map (·.2)) (nl.map Prod.snd)
section
variable {H H' : Hp} {kvs : List (List Key × V)} {nl : List (List Int × (Int × Int))}
theorem PPI.mono (p : PPI H kvs nl) (e : ∀ t ys, H t = some (.tup ys) → H' t = some (.tup ys)) : PPI H' kvs nl := ⟨p.keys, p.vals.mono e⟩
theorem PPI.same (p : PPI H kvs nl) (e : Same H H') : PPI H' kvs nl := ⟨p.keys, p.vals.same e⟩
theorem PPI.len (p : PPI H kvs nl) : kvs.length = nl.length := by
  have := congrArg List.length p.keys
  simpa using this
theorem PPI.mem (p : PPI H kvs nl) {z : List Int} : keyI z ∈ kvs.map Prod.fst ↔ z ∈ nl.map Prod.fst := by
  have e : kvs.map Prod.fst = (nl.map Prod.fst).map keyI := p.keys
  rw [e, List.mem_map]
  exact ⟨fun ⟨a, h1, h2⟩ => keyI_inj h2 ▸ h1, fun h => ⟨z, h, rfl⟩⟩
theorem PPI.snoc (p : PPI H kvs nl) {z : List Int} {m : Int × Int} {t : Addr} (e : ∀ t ys, H t = some (.tup ys) → H' t = some (.tup ys)) (h : H' t = some (.tup (encP m))) : PPI H' (kvs ++ [(keyI z, .ref t)]) (nl ++ [(z, m)]) := by
  refine ⟨by rw [List.map_append, List.map_append, List.map_append, p.keys]; rfl, ?_⟩
  rw [List.map_append, List.map_append]
  exact (p.vals.mono e).snoc h
end
end Vf
theorem Vf.dec_of {p : Prop} {i : Decidable p} (h : @decide p i = true) : p := by
  cases i with
  | isTrue h' => exact h'
  | isFalse h' => exact absurd h (by simp [decide])
namespace Vf
open PySem L2
def tD (z : List Int) : PyData := .tuple (z.map PyData.int)
theorem dpAll_tups {K : PySem.W.Frag} {H : Hp} : ∀ {xs : List V} {zs : List (List Int)}, Tups encIs H xs zs → DpAll K H xs (zs.map tD)
  | [], [], _ => .nil
  | [], m :: r, t => by have := t.1; simp at this
  | x :: xs, [], t => by have := t.1; simp at this
  | x :: xs, z :: r, t => by
    obtain ⟨u, e1, e2⟩ := t.2 0 z rfl
    obtain rfl : x = .ref u := Option.some.inj e1
    refine .cons (.tup (SqT.of e2) (dpAll_ints z)) (dpAll_tups ⟨Nat.succ.inj t.1, fun i a e => ?_⟩)
    exact t.2 (i + 1) a e
theorem shaped_list_ints (ns : List Int) : PyData.canLayAll0 (ns.map PyData.int) = true ∧ PyData.depthAll (ns.map PyData.int) ≤ 1 := by
  induction ns with
  | nil => simp [PyData.canLayAll0, PyData.depthAll]
  | cons a r ih =>
    constructor
    · simp [PyData.canLayAll0, PyData.canLay0, ih.1]
    · simp only [List.map_cons, PyData.depthAll, PyData.depth]
      have := ih.2
      omega
theorem shaped_list_tups (zs : List (List Int)) : PyData.canLayAll0 (zs.map tD) = true ∧ PyData.depthAll (zs.map tD) ≤ 2 := by
  induction zs with
  | nil => simp [PyData.canLayAll0, PyData.depthAll]
  | cons a r ih =>
    obtain ⟨a1, a2⟩ := shaped_list_ints a
    constructor
    · simp only [List.map_cons, PyData.canLayAll0, tD, PyData.canLay0, a1, Bool.true_and]
      exact ih.1
    · simp only [List.map_cons, PyData.depthAll, tD, PyData.depth]
      have := ih.2
      omega
theorem shaped_tups (zs : List (List Int)) : SeqAt.shaped (.list (zs.map tD)) = true := by
  obtain ⟨h0, h1⟩ := shaped_list_tups zs
  have h2 : PyData.depth (.list (zs.map tD)) ≤ 64 := by
    simp only [PyData.depth]
    omega
  show (PyData.canLay0 (.list (zs.map tD)) && decide (PyData.depth (.list (zs.map tD)) ≤ 64)) = true
  rw [Bool.and_eq_true]
  exact ⟨by simp only [PyData.canLay0]; exact h0, decide_eq_true h2⟩
theorem eqv_tups (zs : List (List Int)) : PyData.eqv (.list (zs.map tD)) (.list (zs.map tD)) = true :=
  PySem.SeqAt.eqv_refl _ (by simp only [PyData.canLay0]; exact (shaped_list_tups zs).1)
theorem eqv_tD (a b : List Int) : PyData.eqv (tD a) (tD b) = decide (a = b) :=
  (PySem.W.Datum.eqv (α := PySem.W.Tup Int) ⟨a⟩ ⟨b⟩).trans (decide_eq_decide.mpr ⟨fun e => congrArg PySem.W.Tup.items e, fun e => by rw [e]⟩)
theorem any_tD (z : List Int) : ∀ zs : List (List Int), ((zs.map tD).any fun x => PyData.eqv x (tD z)) = decide (z ∈ zs)
  | [] => by simp
  | a :: r => by
    rw [List.map_cons, List.any_cons, any_tD z r, eqv_tD]
    by_cases e : a = z
    · rw [e]; simp
    · rw [decide_eq_false e, Bool.false_or]
      refine decide_eq_decide.mpr ⟨fun h => List.mem_cons_of_mem _ h, fun h => ?_⟩
      rcases List.mem_cons.mp h with h | h
      · exact absurd h.symm e
      · exact h
end Vf

/-! ### set comprehensions, by what a set tracks -/
namespace Vf
open PySem PySem.Spec PyProof.Rows L2
/-- an empty set's object -/
abbrev noneIn (w : World) : Obj := { cls := .type "set", dict := none, data := .set #[] 0 (.fresh 0 0 (!w.params.followText "set-order")) }
structure SetLike (P : Program) (w : World) {τ : Type} (SO : Addr → τ → HO) (z : τ) (grow : τ → V → τ → Prop) : Prop where
  fresh : ∀ (H : Hp) (h : Heap), ObjOk P w H (h.push (noneIn w)) h.objs.size (SO h.objs.size z)
  put : ∀ {X : Cx}, X.prog = P → X.w = w → ∀ {pins : List (Addr × Obj)} {σ : L2.St} {H : Hp} {s : Shared} {E : Value → Shared → Prop} {D : Addr} {t t' : τ} {y : V} {u : Value} {Q : Value → Shared → Prop}, Inv X pins σ H s → RelV y u → H D = some (SO D t) → grow t y t' →
    (∀ s', Inv X pins σ (upd H D (SO D t')) s' → Q .none s') → wpAny (model X.prog X.w) X.A (call (.builtin "set.add") [.ref D, u]) Q E s
def tScG {τ : Type} (SO : Addr → τ → HO) (z : τ) (grow : τ → V → τ → Prop) (wi : TI) (g : TG) (tt : TT) (te : TE) (vs : List Nat) : TE := fun σ H Q => wi σ H fun J H1 => ∀ D, H1 D = none → ∃ W : Nat → Nat → Hp → Prop, (∃ m, W 0 m (upd H1 D (SO D z))) ∧ ∀ i m H, W i m H →
  (J.stop i H ∧ Q (.ref D) H) ∨ (J.go i H ∧ ∃ Nx : Hp → Prop, (∀ H', Nx H' → ∃ m', m' < m ∧ W (i + 1) m' H') ∧ ∀ x H', J.yld i H x H' → g x (wipe σ vs) H' fun σ2 H2 => wipe σ2 vs = wipe σ vs ∧ tt σ2 H2 fun b H3 =>
    if b = true then te σ2 H3 fun y H4 => ∃ t t' : τ, H4 D = some (SO D t) ∧ grow t y t' ∧ Nx (upd H4 D (SO D t')) else Nx H3)
section
variable {X : Cx} {τ : Type} {SO : Addr → τ → HO} {z : τ} {grow : τ → V → τ → Prop}
theorem pe_scG (L : SetLike X.prog X.w SO z grow) {elt tg iter : Expr} {ifs : List Expr} {scope : Scope} {own : List (Str × Nat)} {pos : Pos} {wi : TI} {g : TG} {tt : TT} {te : TE} (hc : X.calm = true) (hN : X.N.Nodup) (hi : PI X tg iter wi) (ok : BlkOk X.N X.env.scope scope own)
    (hg : ∀ (s : Shared) (H : Hp) (C : Addr) (cl : List (Str × Addr)) (fp : List Addr), PG (X.blk s H scope (compEnvC scope cl C X.env) fp) tg g)
    (ht : ∀ (s : Shared) (H : Hp) (C : Addr) (cl : List (Str × Addr)) (fp : List Addr), PTs (X.blk s H scope (compEnvC scope cl C X.env) fp) ifs tt)
    (he : ∀ (s : Shared) (H : Hp) (C : Addr) (cl : List (Str × Addr)) (fp : List Addr), PE (X.blk s H scope (compEnvC scope cl C X.env) fp) elt te)
    (hs : ∀ x, foldedSetIterable iter X.env x = pure x := by intro _; rfl) : PE X (.SetComp elt [⟨tg, iter, ifs, 0⟩] scope pos) (tScG SO z grow wi g tt te (own.map (·.2))) := by
  constructor
  intro pins s σ H Q I h
  rw [PpSet.eval_SetComp]
  have free : ∀ y ∈ scope.names, y.2 = .free → ∃ c, X.env.cells.lookup y.1 = some c := fun y hy e => I.ok.has _ (by exact ok.free y hy e)
  refine wpAny_comprehension_free (use := none) rfl hs (closure_ok free) ok.kind (fun y hy e => by rw [ok.uniq y hy, e]) (thn (hi.run pins s σ H _ I h) fun xv s1 hx => thn hx fun itv s2 got => ?_)
  obtain ⟨it, fp, tn, J, H2, rfl, I2, T, st2, f2, q⟩ := got
  refine PpSet.newSet_ok (newEnv_comp ?_)
  obtain ⟨D, hD⟩ : ∃ D, D = s2.heap.objs.size := ⟨_, rfl⟩
  obtain ⟨W, ⟨m0, w0⟩, turn⟩ := q D (I2.hok.fresh (Nat.le_of_eq hD.symm))
  rw [← hD]
  obtain ⟨s3, es3⟩ : ∃ s3 : Shared, s3 = { s2 with heap := s2.heap.push (noneIn X.w) } := ⟨_, rfl⟩
  have h3 : s3.heap = s2.heap.push (noneIn X.w) := by rw [es3]
  have I3 : Inv X pins σ (upd H2 D (SO D z)) s3 := by
    rw [es3]
    refine I2.laid (t' := s2.toks) (fun b o e => Heap.get?_push_of_some _ e) (Nat.le_of_eq hD.symm) ?_
    have fr := L.fresh (upd H2 D (SO D z)) s2.heap
    rw [← hD] at fr
    exact fr
  have below : ∀ b ∈ fp, b < s2.heap.objs.size := fun b hb => Heap.lt_size (T.obj _ _ st2 b hb).choose_spec.1
  have f3 : ∀ b ∈ fp, FpOk X pins (upd H2 D (SO D z)) b ∧ b < s3.heap.objs.size := fun b hb => by
    have lt := below b hb
    have ne : b ≠ D := by rw [hD]; exact Nat.ne_of_lt lt
    refine ⟨⟨?_, (f2 b hb).2⟩, ?_⟩
    · rw [upd_ne ne]
      exact (f2 b hb).1
    · rw [h3, Heap.size_push]
      exact Nat.lt_succ_of_lt lt
  have st3 : tn 0 s3.heap := T.keep _ _ _ st2 fun b _ o e => by rw [h3]; exact Heap.get?_push_of_some _ e
  have I4 := block_start I3 ok hN f3
  have pg := hg s3 (upd H2 D (SO D z)) s3.heap.objs.size (cellsFrom (s3.heap.objs.size + 1) scope.names (cloFrom X.env.cells scope.names [])) fp
  have pt := ht s3 (upd H2 D (SO D z)) s3.heap.objs.size (cellsFrom (s3.heap.objs.size + 1) scope.names (cloFrom X.env.cells scope.names [])) fp
  have pe := he s3 (upd H2 D (SO D z)) s3.heap.objs.size (cellsFrom (s3.heap.objs.size + 1) scope.names (cloFrom X.env.cells scope.names [])) fp
  have done : ∀ (s' : Shared) (m : Str → Option Value) (H' : Hp), Inv X pins σ H' s' → Q (.ref D) H' → s'.heap.Ns s3.heap.objs.size m → FpOk X pins H' s3.heap.objs.size → compPost (model X.prog X.w) X.A X.xe none (EP X pins σ Q) (.ref D) s3.heap.objs.size (.ok .next) s' := fun s' m H' I' qq hn f => ⟨m, hn, fun h'' sb => by
    obtain ⟨a0, a1, a2, a3, a4, a5⟩ := f
    exact ⟨.ref D, H', I'.turned (t' := s'.toks) (fun b o hb e => (sb.2 b hb).trans e) a0 a1 a3 a4 a5, rfl, qq⟩⟩
  have fin0 : ∀ {s4 : Shared} {ce : Env}, ce = compEnvC scope (cellsFrom (s3.heap.objs.size + 1) scope.names (cloFrom X.env.cells scope.names [])) s3.heap.objs.size X.env →
      s4 = { s3 with heap := pushCells (s3.heap.push { cls := .type "dict", data := .dict #[] }) scope.names } → codeAny (model X.prog X.w) X.A (.compStart (.SetComp elt [⟨tg, iter, ifs, 0⟩] scope pos) 0 (.ref it) (.ref D) ce) (compPost (model X.prog X.w) X.A X.xe none (EP X pins σ Q) (.ref D) s3.heap.objs.size) s4 := by
    intro s4 ce ece es4
    rw [← ece] at I4 pg pt pe
    rw [← es4] at I4
    have cL : ce.locals = s3.heap.objs.size := by rw [ece]; rfl
    have st4 : tn 0 s4.heap := T.keep _ _ _ st3 fun b _ o e => by rw [es4]; exact pushCells_keeps _ _ _ _ (Heap.get?_push_of_some _ e)
    have un : ∀ b ∈ fp, (upd H2 D (SO D z)) b = none := fun b hb => (f3 b hb).1.1
    generalize upd H2 D (SO D z) = H3 at I3 I4 pg pt pe w0 un f3
    have stat : ∀ {σ' : L2.St} {H' : Hp} {s' : Shared}, Inv (X.blk s3 H3 scope ce fp) [] σ' H' s' → (∀ b ∈ fp, H' b = none) → ∀ b ∈ fp, FpOk (X.blk s3 H3 scope ce fp) [] H' b := fun {σ' H' s'} I' hn b hb => by
      refine ⟨hn b hb, (I'.ok.exf b hb).1, I'.ok.exfs b hb, .inl hb, fun x c e => (I'.ok.exf b hb).2 x c e, fun p hp => ?_⟩
      simp at hp
    have loop : codeAny (model X.prog X.w) X.A (.compLoop (.SetComp elt [⟨tg, iter, ifs, 0⟩] scope pos) 0 (.ref it) (.ref D) ce) (compPost (model X.prog X.w) X.A X.xe none (EP X pins σ Q) (.ref D) s3.heap.objs.size) s4 := by
      refine PpSet.compLoopS_any (fun n s' => ∃ i H', Inv (X.blk s3 H3 scope ce fp) [] (wipe σ (own.map (·.2))) H' s' ∧ tn i s'.heap ∧ (∀ b ∈ fp, H' b = none) ∧ W i n H') (fun n s5 hI => ?_) m0 ⟨0, H3, I4, st4, un, w0⟩
      obtain ⟨i, H5, I5, st5, n5, w5⟩ := hI
      rcases turn i n H5 w5 with ⟨stop, qq⟩ | ⟨go, Nx, hNx, step⟩
      · refine thnF (T.done (X.blk s3 H3 scope ce fp) rfl rfl rfl hc i [] s5 _ H5 (fun _ _ => False) I5 (stat I5 n5) st5 stop) fun r s6 ⟨hr, I6⟩ => ?_
        subst hr
        have I7 : Inv X pins σ H5 s6 := I3.call' (ch := fp) I6.os I6.base I6.hok I6.bare fun b hb => ⟨(f3 b hb).1.2.2.2.1, (f3 b hb).1.2.1, (f3 b hb).1.2.2.2.2.1, (f3 b hb).1.2.2.2.2.2⟩
        obtain ⟨m, hn, _⟩ := I6.loc
        have fr : H5 ce.locals = none := I6.free
        have hn : s6.heap.Ns ce.locals m := hn
        rw [cL] at hn fr
        exact done s6 m H5 I7 qq hn (I3.fpOk (Nat.le_refl _) fr)
      · refine thnF (T.item (X.blk s3 H3 scope ce fp) rfl rfl rfl hc i [] s5 _ H5 (fun _ _ => False) I5 (stat I5 n5) st5 go) fun r s6 ⟨u, hr, h6⟩ => ?_
        subst hr
        refine thnF h6 fun _ s7 ⟨x, H7, I7, r7, y7, st7, n7⟩ => ?_
        have I8 := I7.pinned (stat I7 n7) (T.obj _ _ st7)
        refine thnF (pg.run _ s7 _ H7 x u _ I8 r7 (step x H7 y7)) fun _ s8 ⟨σ8, H8, I9, hw8, q8⟩ => ?_
        refine thnF (pt.run _ s8 σ8 H8 _ I9 q8) fun b s9 ⟨H9, I10, q9⟩ => ?_
        have next : ∀ {s' : Shared} {H' : Hp}, Inv (X.blk s3 H3 scope ce fp) ([] ++ pinsAt fp s7.heap) σ8 H' s' → Nx H' → ∃ m, m < n ∧ ∃ i H', Inv (X.blk s3 H3 scope ce fp) [] (wipe σ (own.map (·.2))) H' s' ∧ tn i s'.heap ∧ (∀ b ∈ fp, H' b = none) ∧ W i m H' := fun {s' H'} I' nx => by
          obtain ⟨m', hm, w'⟩ := hNx H' nx
          have held : ∀ b ∈ fp, ∀ o, s7.heap.get? b = some o → s'.heap.get? b = some o ∧ H' b = none := fun b hb o e => by
            have zz := I'.pin (b, o) (List.mem_append_right _ (List.mem_append_right _ (mem_pinsAt hb e)))
            exact ⟨zz.1, zz.2.1⟩
          refine ⟨m', hm, i + 1, H', (I'.unpinned (pins := [])).weak (by rw [← hw8, wipe_length]) (fun j v e => ?_), T.keep _ _ _ st7 fun b hb o e => (held b hb o e).1, fun b hb => ?_, w'⟩
          · rw [← hw8] at e
            exact (wipe_some e).1
          · obtain ⟨o, e, _⟩ := T.obj _ _ st7 b hb
            exact (held b hb o e).2
        cases b with
        | false =>
          simp only [Bool.false_eq_true, if_false] at q9 ⊢
          exact next I10 q9
        | true =>
          simp only [if_true] at q9 ⊢
          refine thnF (pe.run _ s9 σ8 H9 _ I10 q9) fun uv s10 ⟨yv, H10, I11, r10, t, t', hD10, gr, nx⟩ => ?_
          exact L.put (X := X.blk s3 H3 scope ce fp) rfl rfl I11 r10 hD10 gr fun s11 I12 => next I12 nx
    exact PpSet.codeAny_compStart_set loop (T.self X.A 0 _ _ _ st4 loop)
  have last := fin0 rfl rfl
  subst es3
  exact last
end
/-- a set of whole numbers -/
def soI (w : World) (a : Addr) (t : (Int → Bool) × Nat) : HO := SetO w a t.1 t.2
def zI : (Int → Bool) × Nat := (fun _ => false, 0)
def growI (t : (Int → Bool) × Nat) (y : V) (t' : (Int → Bool) × Nat) : Prop := ∃ k : Int, y = .int k ∧ t.2 + 1 < scanBound ∧ t' = (fun j => t.1 j || decide (j = k), if t.1 k = true then t.2 else t.2 + 1)
theorem setLikeI (P : Program) (w : World) : SetLike P w (soI w) zI growI where
  fresh H h := setO_new (setR_fresh w)
  put := by
    rintro X rfl rfl pins σ H s E D t t' y u Q I r hD ⟨k, rfl, room, rfl⟩ h
    obtain ⟨tk, rfl⟩ := r
    refine setR_add (setO_get I hD) room fun h' sb new => ?_
    obtain ⟨o, es, ep, tb, ho, _⟩ := id new
    exact h _ (I.write (e := D) (t' := s.toks + 1) (by rw [hD]; trivial) (.inl rfl) (fun b u hb hu => (sb.2 b hb).trans hu) ⟨o, ho⟩ (setO_new new))
theorem pe_scI {X : Cx} {elt tg iter : Expr} {ifs : List Expr} {scope : Scope} {own : List (Str × Nat)} {pos : Pos} {wi : TI} {g : TG} {tt : TT} {te : TE} (hc : X.calm = true) (hN : X.N.Nodup) (hi : PI X tg iter wi) (ok : BlkOk X.N X.env.scope scope own)
    (hg : ∀ (s : Shared) (H : Hp) (C : Addr) (cl : List (Str × Addr)) (fp : List Addr), PG (X.blk s H scope (compEnvC scope cl C X.env) fp) tg g)
    (ht : ∀ (s : Shared) (H : Hp) (C : Addr) (cl : List (Str × Addr)) (fp : List Addr), PTs (X.blk s H scope (compEnvC scope cl C X.env) fp) ifs tt)
    (he : ∀ (s : Shared) (H : Hp) (C : Addr) (cl : List (Str × Addr)) (fp : List Addr), PE (X.blk s H scope (compEnvC scope cl C X.env) fp) elt te)
    (hs : ∀ x, foldedSetIterable iter X.env x = pure x := by intro _; rfl) : PE X (.SetComp elt [⟨tg, iter, ifs, 0⟩] scope pos) (tScG (soI X.w) zI growI wi g tt te (own.map (·.2))) := pe_scG (setLikeI X.prog X.w) hc hN hi ok hg ht he hs
section
variable {τ : Type} {SO : Addr → τ → HO} {z : τ} {grow : τ → V → τ → Prop} {J : It} {n : Nat} {G : Hp → Prop} {Y : Nat → Hp → V → Hp → Prop} {g : TG} {tt : TT} {te : TE} {vs : List Nat} {σ : L2.St} {H1 : Hp} {D : Addr} {Qd : Hp → Prop}
theorem sc_it (w : Walk J n G Y) (Pv : Nat → Hp → Prop) (h0 : Pv 0 (upd H1 D (SO D z))) (hG : ∀ i H, i ≤ n → Pv i H → G H)
    (hs : ∀ i x H H', i < n → Pv i H → Y i H x H' → g x (wipe σ vs) H' fun σ2 H2 => wipe σ2 vs = wipe σ vs ∧ tt σ2 H2 fun b H3 =>
      if b = true then te σ2 H3 fun y H4 => ∃ t t' : τ, H4 D = some (SO D t) ∧ grow t y t' ∧ Pv (i + 1) (upd H4 D (SO D t')) else Pv (i + 1) H3) (hd : ∀ H, Pv n H → Qd H) :
    ∃ W : Nat → Nat → Hp → Prop, (∃ m, W 0 m (upd H1 D (SO D z))) ∧ ∀ i m H, W i m H →
      (J.stop i H ∧ Qd H) ∨ (J.go i H ∧ ∃ Nx : Hp → Prop, (∀ H', Nx H' → ∃ m', m' < m ∧ W (i + 1) m' H') ∧ ∀ x H', J.yld i H x H' → g x (wipe σ vs) H' fun σ2 H2 => wipe σ2 vs = wipe σ vs ∧ tt σ2 H2 fun b H3 =>
        if b = true then te σ2 H3 fun y H4 => ∃ t t' : τ, H4 D = some (SO D t) ∧ grow t y t' ∧ Nx (upd H4 D (SO D t')) else Nx H3) := by
  refine ⟨fun i m H => m = n - i ∧ i ≤ n ∧ Pv i H, ⟨n, by simp, Nat.zero_le _, h0⟩, ?_⟩
  rintro i m H ⟨rfl, hi, p⟩
  have q := hG i H hi p
  by_cases hlt : i < n
  · exact .inr ⟨w.goes i H hlt q, Pv (i + 1), fun H' p' => ⟨n - (i + 1), by omega, rfl, hlt, p'⟩, fun x H' y => hs i x H H' hlt p (w.yields i H x H' hlt q y)⟩
  · have e : i = n := by omega
    subst e
    exact .inl ⟨w.stops H q, hd H p⟩
end
/-- what comes out at a place, up to the i-th state -/
def OutAt (ou ns : List Int) (i : Nat) (k : Int) : Prop := ∃ j : Nat, j < i ∧ ou[j]? = some k ∧ ∃ c, ns[j]? = some c ∧ 0 < c
def totalOf (ou ns : List Int) : Int := ((ou.zip ns).map fun x => x.1 * x.2).sum
theorem OutAt.succ {ou ns : List Int} {i : Nat} {k o c : Int} (ho : ou[i]? = some o) (hc : ns[i]? = some c) : OutAt ou ns (i + 1) k ↔ OutAt ou ns i k ∨ (k = o ∧ 0 < c) := by
  constructor
  · rintro ⟨j, hj, h1, c1, h2, h3⟩
    by_cases e : j = i
    · subst e
      rw [ho] at h1
      rw [hc] at h2
      cases h1
      cases h2
      exact .inr ⟨rfl, h3⟩
    · exact .inl ⟨j, by omega, h1, c1, h2, h3⟩
  · rintro (⟨j, hj, r⟩ | ⟨rfl, h⟩)
    · exact ⟨j, by omega, r⟩
    · exact ⟨i, by omega, ho, c, hc, h⟩
theorem zip_at {α β : Type} {l : List α} {m : List β} {i : Nat} {a : α} {b : β} (h1 : l[i]? = some a) (h2 : m[i]? = some b) : (l.zip m)[i]? = some (a, b) := by
  rw [List.getElem?_zip_eq_some]
  exact ⟨h1, h2⟩
theorem totalOf_succ {ou ns : List Int} {i : Nat} {o c : Int} (ho : ou[i]? = some o) (hc : ns[i]? = some c) : ((((ou.zip ns).map fun x => x.1 * x.2).take (i + 1)).sum) = (((ou.zip ns).map fun x => x.1 * x.2).take i).sum + o * c := by
  have e : ((ou.zip ns).map fun x => x.1 * x.2)[i]? = some (o * c) := by
    rw [List.getElem?_map, zip_at ho hc]
    rfl
  rw [List.take_succ, e, List.sum_append]
  simp
/-- two ways that meet again: what comes behind is shown once -/
theorem seq_join {t u : TS} {D : Ends} {σ : L2.St} {H : Hp} (R : L2.St → Hp → Prop) (h1 : ∀ nx : L2.St → Hp → Prop, (∀ σ' H', R σ' H' → nx σ' H') → t { D with nx := nx } σ H) (h2 : ∀ σ' H', R σ' H' → u D σ' H') : tSeq t u D σ H := h1 (u D) h2
theorem inV_int (s : Int) (l : List Int) : inV (.int s) (l.map V.int) = decide (s ∈ l) := by
  unfold inV
  rw [Bool.eq_iff_iff, List.any_eq_true, decide_eq_true_iff]
  constructor
  · rintro ⟨y, hy, h⟩
    obtain ⟨t, ht, rfl⟩ := List.mem_map.mp hy
    have e : decide (t = s) = true := h
    rw [← of_decide_eq_true e]
    exact ht
  · intro h
    exact ⟨.int s, List.mem_map.mpr ⟨s, h, rfl⟩, (decide_eq_true rfl : decide (s = s) = true)⟩
theorem flat_int (l : List Int) : (l.map V.int).all flatV = true := by
  rw [List.all_eq_true]
  intro x hx
  obtain ⟨t, _, rfl⟩ := List.mem_map.mp hx
  rfl
theorem asc_of {l : List Int} (h : l.Pairwise (· ≤ ·)) (n : l.Nodup) : l.Pairwise (· < ·) := (h.and n).imp fun ⟨a, b⟩ => by omega
end Vf

namespace Vf
open PySem L2
theorem sum_set : ∀ {l : List Int} {i : Nat} {c : Int}, i < l.length → (l.set i (l.getD i 0 + c)).sum = l.sum + c
  | [], i, c, h => by simp at h
  | a :: r, 0, c, _ => by simp; omega
  | a :: r, i + 1, c, h => by
    have h' : i < r.length := by simpa using h
    have e := sum_set (c := c) h'
    rw [show (a :: r).getD (i + 1) 0 = r.getD i 0 from rfl, List.set_cons_succ, List.sum_cons, List.sum_cons, e]
    omega
theorem putAt_sum {l : List Int} {i : Nat} {c : Int} (h : i < l.length) : (putAt l i c).sum = l.sum + c := sum_set h
theorem move_sum {ns : List Int} {m r : Int × Int} (h : InR ns.length m) (h' : InR ns.length r) : (movePl ns m r).sum = ns.sum := by
  obtain ⟨a0, a1, b0, b1⟩ := h
  obtain ⟨c0, c1, d0, d1⟩ := h'
  unfold movePl
  rw [putAt_sum (by rw [putAt_len, putAt_len, putAt_len]; omega), putAt_sum (by rw [putAt_len, putAt_len]; omega), putAt_sum (by rw [putAt_len]; omega), putAt_sum (by omega)]
  omega
theorem in_sum {D : DD} (v : ValidN D) : ∀ (ps : List (Str × Str)) (cs pl : List Int), pl.length = D.st.length → ps.length = cs.length → (∀ p ∈ ps, p.2 ∈ D.st) → ((ps.zip cs).foldl (fun pl pc => putAt pl (D.st.idxOf pc.1.2) pc.2) pl).sum = pl.sum + cs.sum
  | [], [], pl, _, _, _ => by simp
  | [], _ :: _, _, _, h, _ => by simp at h
  | _ :: _, [], _, _, h, _ => by simp at h
  | p :: ps, c :: cs, pl, hl, hh, hm => by
    rw [List.zip_cons_cons, List.foldl_cons, in_sum v ps cs _ ((putAt_len ..).trans hl) (by simpa using hh) fun q hq => hm q (List.mem_cons_of_mem _ hq), List.sum_cons, putAt_sum (by rw [hl]; exact List.idxOf_lt_length_of_mem (hm p (List.mem_cons_self ..)))]
    omega
theorem ld_sum {D : DD} : ∀ (ls : List Str) (pl : List Int), pl.length = D.st.length → (∀ s ∈ ls, s ∈ D.st) → (ldPl D ls pl).sum = pl.sum + ls.length
  | [], pl, _, _ => by simp [ldPl]
  | s :: r, pl, hl, hm => by
    have e : ldPl D (s :: r) pl = ldPl D r (putAt pl (D.st.idxOf s) 1) := rfl
    rw [e, ld_sum r _ ((putAt_len ..).trans hl) fun q hq => hm q (List.mem_cons_of_mem _ hq), putAt_sum (by rw [hl]; exact List.idxOf_lt_length_of_mem (hm s (List.mem_cons_self ..))), List.length_cons]
    omega
theorem zero_sum (n : Nat) : (List.replicate n (0 : Int)).sum = 0 := by
  induction n with
  | zero => rfl
  | succ n ih => rw [List.replicate_succ, List.sum_cons, ih]; rfl
theorem first_sum {D : DD} (v : ValidN D) {cs : List Int} (h : cs.length = D.ins.length) : (firstPl D cs).sum = cs.sum + D.ld.length := by
  unfold firstPl
  rw [ld_sum _ _ (inPl_len ..) v.ldm]
  unfold inPl
  rw [in_sum v _ _ _ (List.length_replicate ..) h.symm fun p hp => (v.inm p hp).2, zero_sum]
  omega
theorem in_nn {D : DD} (n : Nat) : ∀ (ps : List (Str × Str)) (cs pl : List Int), (∀ y ∈ pl, 0 ≤ y) → (∀ y ∈ cs, 0 ≤ y) → ∀ y ∈ (ps.zip cs).foldl (fun pl pc => putAt pl (D.st.idxOf pc.1.2) pc.2) pl, 0 ≤ y
  | [], cs, pl, h, _ => by simpa using h
  | _ :: _, [], pl, h, _ => by simpa using h
  | p :: ps, c :: cs, pl, h, hc => by
    rw [List.zip_cons_cons, List.foldl_cons]
    refine in_nn n ps cs _ (fun y hy => ?_) fun y hy => hc y (List.mem_cons_of_mem _ hy)
    have c0 := hc c (List.mem_cons_self ..)
    rcases putAt_mem hy with m | ⟨l, rfl⟩
    · exact h y m
    · have := h _ (getD_mem l (d := 0))
      dsimp only at l this ⊢
      omega
theorem ld_nn {D : DD} : ∀ (ls : List Str) (pl : List Int), (∀ y ∈ pl, 0 ≤ y) → ∀ y ∈ ldPl D ls pl, 0 ≤ y
  | [], pl, h => h
  | s :: r, pl, h => by
    refine ld_nn r _ fun y hy => ?_
    rcases putAt_mem hy with m | ⟨l, rfl⟩
    · exact h y m
    · have := h _ (getD_mem l (d := 0))
      omega
theorem first_fits {D : DD} {cs : List Int} (h : ∀ y ∈ cs, 0 ≤ y) : Fits D.st.length (firstPl D cs) := by
  refine ⟨(ldPl_len ..).trans (inPl_len ..), ld_nn _ _ (in_nn D.st.length _ _ _ (fun y hy => ?_) h)⟩
  rw [List.eq_of_mem_replicate hy]
  exact Int.le_refl _
theorem le_sum : ∀ {l : List Int}, (∀ y ∈ l, 0 ≤ y) → ∀ i, l.getD i 0 ≤ l.sum ∧ 0 ≤ l.sum
  | [], _, i => by simp
  | a :: r, h, i => by
    have a0 := h a (List.mem_cons_self ..)
    have ih := le_sum (l := r) fun y hy => h y (List.mem_cons_of_mem _ hy)
    rw [List.sum_cons]
    cases i with
    | zero =>
      have := (ih 0).2
      show a ≤ _ ∧ _
      omega
    | succ i =>
      have := ih i
      show r.getD i 0 ≤ _ ∧ _
      omega
theorem le_sum2 : ∀ {l : List Int}, (∀ y ∈ l, 0 ≤ y) → ∀ i j, i ≠ j → l.getD i 0 + l.getD j 0 ≤ l.sum
  | [], _, i, j, _ => by simp
  | a :: r, h, i, j, ne => by
    have a0 := h a (List.mem_cons_self ..)
    have hr : ∀ y ∈ r, 0 ≤ y := fun y hy => h y (List.mem_cons_of_mem _ hy)
    rw [List.sum_cons]
    cases i with
    | zero =>
      cases j with
      | zero => exact absurd rfl ne
      | succ j =>
        have := (le_sum hr j).1
        show a + r.getD j 0 ≤ _
        omega
    | succ i =>
      cases j with
      | zero =>
        have := (le_sum hr i).1
        show r.getD i 0 + a ≤ _
        omega
      | succ j =>
        have := le_sum2 hr i j (fun e => ne (by rw [e]))
        show r.getD i 0 + r.getD j 0 ≤ _
        omega
/-- fewer than two agents do not meet -/
theorem canMeet_two {ns : List Int} {m : Int × Int} (h : ∀ y ∈ ns, 0 ≤ y) (c : canMeet ns m = true) : 2 ≤ ns.sum := by
  have r := canMeet_in c
  unfold canMeet at c
  split at c
  · cases c
  · split at c
    · rw [decide_eq_true_eq] at c
      have := (le_sum h m.1.toNat).1
      omega
    · rename_i ne
      rw [Bool.and_eq_true, decide_eq_true_eq, decide_eq_true_eq] at c
      have := le_sum2 h m.1.toNat m.2.toNat (fun e => ne (by obtain ⟨a, _, b, _⟩ := r; omega))
      omega
theorem nextL_all {f : Int × Int → Int × Int} {ns : List Int} {m : Int × Int} (ne : movePl ns m (f m) ≠ ns) : ∀ {ms : List (Int × Int)}, m ∈ ms → movePl ns m (f m) ∈ (nextL f ns ms).map Prod.fst := by
  have keep : ∀ (ms : List (Int × Int)) (acc : List (List Int × (Int × Int))) (z : List Int), z ∈ acc.map Prod.fst → z ∈ (ms.foldl (nextS f ns) acc).map Prod.fst := by
    intro ms
    induction ms with
    | nil => intro acc z h; exact h
    | cons a r ih =>
      intro acc z h
      rw [List.foldl_cons]
      refine ih _ _ ?_
      unfold nextS
      split
      · exact h
      · rw [List.map_append]
        exact List.mem_append_left _ h
  have go : ∀ (ms : List (Int × Int)) (acc : List (List Int × (Int × Int))), m ∈ ms → movePl ns m (f m) ∈ (ms.foldl (nextS f ns) acc).map Prod.fst := by
    intro ms
    induction ms with
    | nil => intro acc h; simp at h
    | cons a r ih =>
      intro acc h
      rw [List.foldl_cons]
      rcases List.mem_cons.mp h with rfl | h
      · refine keep _ _ _ ?_
        unfold nextS
        split
        · rename_i c
          rcases c with c | c
          · exact absurd c ne
          · exact c
        · rw [List.map_append]
          exact List.mem_append_right _ (by simp)
      · exact ih _ h
  intro ms h
  exact go ms [] h
theorem goPl_snoc {f : Int × Int → Int × Int} {m : Int × Int} {cur : List Int} (c : canMeet cur m = true) : ∀ {ms : List (Int × Int)} {k : Nat} {pl : List Int}, goPl f k ms pl = .inr cur → goPl f k (ms ++ [m]) pl = .inr (movePl cur m (f m))
  | [], k, pl, h => by
    have e : pl = cur := Sum.inr.inj h
    subst e
    show (if canMeet pl m = true then goPl f (k + 1) [] (movePl pl m (f m)) else .inl k) = _
    rw [if_pos c]
    rfl
  | a :: r, k, pl, h => by
    have h' : (if canMeet pl a = true then goPl f (k + 1) r (movePl pl a (f a)) else .inl k) = Sum.inr cur := h
    show (if canMeet pl a = true then goPl f (k + 1) (r ++ [m]) (movePl pl a (f a)) else .inl k) = _
    by_cases ca : canMeet pl a = true
    · rw [if_pos ca] at h' ⊢
      exact goPl_snoc c h'
    · rw [if_neg ca] at h'
      cases h'
theorem pairs_nil {ms : List (Int × Int)} : PyData.eqv (.list (ms.map fun m => PyData.tuple [.int m.1, .int m.2])) (.list []) = decide (ms = []) := by
  cases ms with
  | nil => simp [PyData.eqv, PyData.eqvAll]
  | cons a r => simp [PyData.eqv, PyData.eqvAll]
end Vf

namespace Vf
open PySem L2 PySem.Spec PyProof.Rows
/-- x == y, two objects of a class with an own __eq__ that answers with a truth value -/
def rEqOwn (C : Addr) (sp : Sp) (E : XK) : R2 := fun x y H Q => ∃ (a b dx dy : Addr) (fs gs : List (Str × V)), x = .ref a ∧ y = .ref b ∧ H a = some (.ins C dx fs) ∧ H b = some (.ins C dy gs) ∧ sp [.ref a, .ref b] H (fun v H' => ∃ c : Bool, v = .bl c ∧ Q (.bl c) H') E
theorem op_eqOwn {X : Cx} {CX : CXT} {k : Nat} {C f : Addr} {fd : FuncData} {ps : List Str} {sp : Sp} {E : XK} (F : FnOk X.prog X.w X.K X.mg X.base CX k f fd ps sp) (hr : Room k X.A)
    (fnd : PySem.W.findIn X.K (.ref C) "__eq__" = some (some (.ref f))) (isf : PySem.W.isFn X.K (.ref f) = true) (bd : Binds X.K fd ps []) (px : Passes CX X E) : OpR X (compareOp .Eq) (rEqOwn C sp E) := by
  intro pins s σ H x y v u Q I rx ry h
  obtain ⟨a, b, dx, dy, fs, gs, rfl, rfl, ha, hb, q⟩ := h
  obtain rfl : v = Value.ref a := rx
  obtain rfl : u = Value.ref b := ry
  obtain ⟨_, Ja, _⟩ := ins_get I.hok ha
  obtain ⟨_, Jb, _⟩ := ins_get I.hok hb
  obtain ⟨_, Ja, _⟩ := Ja.look
  obtain ⟨_, Jb, _⟩ := Jb.look
  obtain ⟨_, fr⟩ := I.fr
  have hl := F.len _ _ _ _ q
  have r2 : Vals [V.ref a, V.ref b] [Value.ref a, Value.ref b] := .cons rfl (.cons rfl .nil)
  have hbs : BindsTo s fd ⟨[Value.ref a, Value.ref b], []⟩ (ps.zip [Value.ref a, Value.ref b]) := by
    have := bd s [Value.ref a, Value.ref b] I.kIn (by simpa using hl)
    simpa using this
  show wpAny (model X.prog X.w) X.A (richCompare .Eq (.ref a) (.ref b)) (EP X pins σ Q) X.xe s
  refine PySem.W.cmp_K (op := .Eq) (tb := Value.ref C) hr.units0 fr I.ok.mod.kin Ja Jb.type (by simp [PySem.W.notFirst]) fnd isf (wpAny_call (codeAny_mono (F.run X.A X.stack s H _ _ _ _ E hr I.env0 hbs r2 q) fun r s' hq => ?_))
  cases r with
  | error e => exact px pins σ H s e s' I hq
  | ok fl =>
    cases fl with
    | ret z =>
      obtain ⟨zv, H', I', rz, c, rfl, q'⟩ := I.after hq
      obtain rfl : z = Value.bool c := rz
      exact ⟨.bl c, H', I', rfl, q'⟩
    | next => exact False.elim hq
    | brk => exact False.elim hq
    | cont => exact False.elim hq
end Vf

namespace Vf
open PySem PySem.W L2
/-! ### == of texts, pairs of texts, rules -/
def rEqP (K : PySem.W.Frag) (neg : Bool) : R2 := fun x y H Q => ∃ d e, Dp K H x d ∧ Dp K H y e ∧ (d.plain = true ∧ d.depth ≤ 64) ∧ (e.plain = true ∧ e.depth ≤ 64) ∧ Q (.bl (if neg then !PyData.eqv d e else PyData.eqv d e)) H
theorem op_eqP {X : Cx} (hu : X.A.units + 64 < cLine) : OpR X (compareOp .Eq) (rEqP X.K false) := by
  rintro pins s σ H x y v u Q I rx ry ⟨d, e, hd, he, ⟨pd, dd⟩, ⟨pe, _⟩, q⟩
  obtain ⟨_, r1⟩ := Dp.reads I d x v hd rx
  obtain ⟨_, r2⟩ := Dp.reads I e y u he ry
  exact SeqAt.eq_plain r1 r2 pd pe (by omega) ⟨.bl _, H, I, rfl, q⟩
theorem op_neP {X : Cx} (hu : X.A.units + 64 < cLine) : OpR X (compareOp .NotEq) (rEqP X.K true) := by
  rintro pins s σ H x y v u Q I rx ry ⟨d, e, hd, he, ⟨pd, dd⟩, ⟨pe, _⟩, q⟩
  obtain ⟨_, r1⟩ := Dp.reads I d x v hd rx
  obtain ⟨_, r2⟩ := Dp.reads I e y u he ry
  exact SeqAt.ne_plain r1 r2 pd pe (by omega) ⟨.bl _, H, I, rfl, q⟩
theorem datum_pl {α : Type} [DecidableEq α] [Datum α] (a : α) (h : Datum.depth α ≤ 64) : (Datum.toD a).plain = true ∧ (Datum.toD a).depth ≤ 64 := ⟨Datum.plain a, Nat.le_trans (Datum.depth_le a) h⟩
theorem dpAll_of {α : Type} {K : PySem.W.Frag} {H : Hp} {f : α → V} {g : α → PyData} (h : ∀ a, Dp K H (f a) (g a)) : ∀ l : List α, DpAll K H (l.map f) (l.map g)
  | [] => .nil
  | a :: r => .cons (h a) (dpAll_of h r)
theorem dpAll_strs {K : PySem.W.Frag} {H : Hp} (l : List Str) : DpAll K H (l.map V.str) (l.map Datum.toD) := dpAll_of (fun a => .str a) l
theorem dpAll_tupsG {α : Type} {K : PySem.W.Frag} {H : Hp} {enc : α → List V} {g : α → PyData} (h : ∀ (a : α) (t : Addr), H t = some (.tup (enc a)) → Dp K H (.ref t) (g a)) : ∀ {xs : List V} {l : List α}, Tups enc H xs l → DpAll K H xs (l.map g)
  | [], [], _ => .nil
  | [], _ :: _, t => by have := t.1; simp at this
  | _ :: _, [], t => by have := t.1; simp at this
  | x :: xs, a :: r, t => by
    obtain ⟨u, e1, e2⟩ := t.2 0 a rfl
    obtain rfl : x = .ref u := Option.some.inj e1
    exact .cons (h a u e2) (dpAll_tupsG h ⟨Nat.succ.inj t.1, fun i b e => t.2 (i + 1) b e⟩)
def t4 (r : S4) : T4 Str Str Str Str := ⟨r.1, r.2.1, r.2.2.1, r.2.2.2⟩
theorem t4_inj {a b : List S4} (h : a.map t4 = b.map t4) : a = b := by
  induction a generalizing b with
  | nil => cases b with
    | nil => rfl
    | cons y s => cases h
  | cons x r ih => cases b with
    | nil => cases h
    | cons y s =>
      obtain ⟨e, f⟩ := List.cons.inj h
      rw [ih f]
      obtain ⟨x1, x2, x3, x4⟩ := x
      obtain ⟨y1, y2, y3, y4⟩ := y
      cases e
      rfl
theorem dpAll_ins {K : PySem.W.Frag} {H : Hp} {xs : List V} {l : List (Str × Str)} (t : Tups enc2 H xs l) : DpAll K H xs (l.map Datum.toD) :=
  dpAll_tupsG (fun _ _ h => .tup (SqT.of h) (.cons (.str _) (.cons (.str _) .nil))) t
theorem dpAll_rus {K : PySem.W.Frag} {H : Hp} {xs : List V} {l : List S4} (t : Tups enc4 H xs l) : DpAll K H xs (l.map fun r => Datum.toD (t4 r)) :=
  dpAll_tupsG (fun _ _ h => .tup (SqT.of h) (.cons (.str _) (.cons (.str _) (.cons (.str _) (.cons (.str _) .nil))))) t
/-- the description of a tuple of texts, of pairs, of rules -/
def dStT (l : List Str) : PyData := Datum.toD (⟨l⟩ : Tup Str)
def dInT (l : List (Str × Str)) : PyData := Datum.toD (⟨l⟩ : Tup (Str × Str))
def dRuT (l : List S4) : PyData := Datum.toD (⟨l.map t4⟩ : Tup (T4 Str Str Str Str))
theorem dp_st {K : PySem.W.Frag} {H : Hp} {a : Addr} {l : List Str} (h : H a = some (.tup (l.map V.str))) : Dp K H (.ref a) (dStT l) := .tup (SqT.of h) (dpAll_strs l)
theorem dp_in {K : PySem.W.Frag} {H : Hp} {a : Addr} {xs : List V} {l : List (Str × Str)} (h : H a = some (.tup xs)) (t : Tups enc2 H xs l) : Dp K H (.ref a) (dInT l) := .tup (SqT.of h) (dpAll_ins t)
theorem dp_ru {K : PySem.W.Frag} {H : Hp} {a : Addr} {xs : List V} {l : List S4} (h : H a = some (.tup xs)) (t : Tups enc4 H xs l) : Dp K H (.ref a) (dRuT l) := .tup (SqT.of h) (by
  have := dpAll_rus (K := K) t
  show DpAll K H xs ((l.map t4).map Datum.toD)
  rw [List.map_map]
  exact this)
theorem eqv_st (a b : List Str) : PyData.eqv (dStT a) (dStT b) = decide (a = b) := (Datum.eqv (α := Tup Str) ⟨a⟩ ⟨b⟩).trans (decide_eq_decide.mpr ⟨fun e => congrArg Tup.items e, fun e => by rw [e]⟩)
theorem eqv_in (a b : List (Str × Str)) : PyData.eqv (dInT a) (dInT b) = decide (a = b) := (Datum.eqv (α := Tup (Str × Str)) ⟨a⟩ ⟨b⟩).trans (decide_eq_decide.mpr ⟨fun e => congrArg Tup.items e, fun e => by rw [e]⟩)
theorem eqv_ru (a b : List S4) : PyData.eqv (dRuT a) (dRuT b) = decide (a = b) := (Datum.eqv (α := Tup (T4 Str Str Str Str)) ⟨a.map t4⟩ ⟨b.map t4⟩).trans (decide_eq_decide.mpr ⟨fun e => t4_inj (congrArg Tup.items e), fun e => by rw [e]⟩)
theorem sh_st (l : List Str) : ((dStT l) : PyData).plain = true ∧ PyData.depth (dStT l) ≤ 64 := datum_pl _ (by decide)
theorem sh_in (l : List (Str × Str)) : ((dInT l) : PyData).plain = true ∧ PyData.depth (dInT l) ≤ 64 := datum_pl _ (by decide)
theorem sh_ru (l : List S4) : ((dRuT l) : PyData).plain = true ∧ PyData.depth (dRuT l) ≤ 64 := datum_pl _ (by decide)
end Vf
namespace Vf
open PySem L2
/-! ### what breaks point 4 -/
theorem nodup_seen {α : Type} {l : List α} (h : ∀ i x, l[i]? = some x → x ∉ l.take i) : l.Nodup := by
  rw [List.nodup_iff_pairwise_ne, List.pairwise_iff_getElem]
  intro i j hi hj ij e
  refine h j l[j] (List.getElem?_eq_getElem hj) ?_
  rw [← e]
  exact List.mem_iff_getElem?.mpr ⟨i, by rw [List.getElem?_take_of_lt ij]; exact List.getElem?_eq_getElem hi⟩
theorem last_in {α : Type} {l : List α} {n : Nat} (h : n < l.length) : ∃ x, l[n]? = some x := ⟨l[n], List.getElem?_eq_getElem h⟩
theorem Valid.stp {D : DD} (v : Valid D) {i : Nat} {s : Str} (h : D.st[i]? = some s) : (i < 400 ∧ isName s = true) ∧ s ∉ D.st.take i := by
  have hi := (List.getElem?_eq_some_iff.mp h).1
  obtain ⟨o, ho⟩ := last_in (l := D.ou) (n := i) (by rw [v.len]; exact hi)
  have g := v.st i s o h ho
  unfold DD.okState at g
  simp only [take_len h, Bool.and_eq_true, decide_eq_true_eq] at g
  exact ⟨⟨g.1.1.1, g.1.1.2⟩, g.1.2⟩
theorem Valid.n400 {D : DD} (v : Valid D) : D.st.length ≤ 400 := by
  by_cases h : D.st.length ≤ 400
  · exact h
  · obtain ⟨x, hx⟩ := last_in (l := D.st) (n := 400) (by omega)
    have := (v.stp hx).1.1
    omega
theorem Valid.nm {D : DD} (v : Valid D) {s : Str} (h : s ∈ D.st) : isName s = true := by
  obtain ⟨i, hi⟩ := List.mem_iff_getElem?.mp h
  exact (v.stp hi).1.2
theorem Valid.snd {D : DD} (v : Valid D) : D.st.Nodup := nodup_seen fun _ _ h => (v.stp h).2
theorem Valid.oup {D : DD} (v : Valid D) {o : Int} (h : o ∈ D.ou) : 0 ≤ o ∧ o ≤ 9 := by
  obtain ⟨i, hi⟩ := List.mem_iff_getElem?.mp h
  obtain ⟨s, hs⟩ := last_in (l := D.st) (n := i) (by rw [← v.len]; exact (List.getElem?_eq_some_iff.mp hi).1)
  have g := v.st i s o hs hi
  unfold DD.okState at g
  simp only [Bool.and_eq_true, decide_eq_true_eq] at g
  exact g.2
theorem Valid.inp {D : DD} (v : Valid D) {i : Nat} {x : Str × Str} (h : D.ins[i]? = some x) : ((i < 8 ∧ isName x.1 = true) ∧ x.1 ∉ (D.ins.take i).map (·.1)) ∧ x.2 ∈ D.st := by
  have g := v.ins i x h
  unfold DD.okInput at g
  simp only [take_len h, Bool.and_eq_true, decide_eq_true_eq] at g
  exact g
theorem Valid.n8 {D : DD} (v : Valid D) : D.ins.length ≤ 8 := by
  by_cases h : D.ins.length ≤ 8
  · exact h
  · obtain ⟨x, hx⟩ := last_in (l := D.ins) (n := 8) (by omega)
    have := (v.inp hx).1.1.1
    omega
theorem Valid.inm {D : DD} (v : Valid D) {x : Str × Str} (h : x ∈ D.ins) : isName x.1 = true ∧ x.2 ∈ D.st := by
  obtain ⟨i, hi⟩ := List.mem_iff_getElem?.mp h
  exact ⟨(v.inp hi).1.1.2, (v.inp hi).2⟩
theorem Valid.ind {D : DD} (v : Valid D) : (D.ins.map (·.1)).Nodup := nodup_seen fun i y h => by
  rw [List.getElem?_map] at h
  cases e : D.ins[i]? with
  | none => rw [e] at h; cases h
  | some x =>
    rw [e] at h
    cases h
    have := (v.inp e).1.2
    rwa [List.map_take] at this
theorem Valid.ldp {D : DD} (v : Valid D) {i : Nat} {s : Str} (h : D.ld[i]? = some s) : i < 10 ∧ s ∈ D.st := by
  have g := v.ld i s h
  unfold DD.okLeader at g
  simp only [take_len h, Bool.and_eq_true, decide_eq_true_eq] at g
  exact g
theorem Valid.n10 {D : DD} (v : Valid D) : D.ld.length ≤ 10 := by
  by_cases h : D.ld.length ≤ 10
  · exact h
  · obtain ⟨x, hx⟩ := last_in (l := D.ld) (n := 10) (by omega)
    have := (v.ldp hx).1
    omega
theorem Valid.ldm {D : DD} (v : Valid D) {s : Str} (h : s ∈ D.ld) : s ∈ D.st := by
  obtain ⟨i, hi⟩ := List.mem_iff_getElem?.mp h
  exact (v.ldp hi).2
def badNames : List Str := ["", "A", "1a", "a_b", "abcdefghijklm", "a b", "aB", "a-"]
theorem bad_all : (badNames.all fun s => decide (s.length ≤ 20) && !isName s) = true := by decide +kernel
theorem bad_at {r : Int} (h0 : 0 ≤ r) (h1 : r < 8) : ∃ s : Str, atI (badNames.map V.str) r = some (.str s) ∧ s.length ≤ 20 ∧ isName s = false := by
  have hl : r.toNat < badNames.length := by show r.toNat < 8; omega
  refine ⟨badNames.getD r.toNat Str.empty, map_at (f := V.str) (l := badNames) h0 (by show r < 8; exact h1), ?_⟩
  have := List.all_eq_true.mp bad_all _ (getD_mem (d := Str.empty) hl)
  simp only [Bool.and_eq_true, decide_eq_true_eq, Bool.not_eq_true'] at this
  exact this
def sameDD (D E : DD) : Bool := decide (D.st = E.st) && (decide (D.ins = E.ins) && (decide (D.ld = E.ld) && (decide (D.ru = E.ru) && decide (D.ou = E.ou))))
def rCopy (K : PySem.W.Frag) : List V → Hp → VK → Prop := fun vs H Q => ∃ a its, vs = [.ref a] ∧ (SqL K H a its ∨ SqT K H a its) ∧ ∀ u, H u = none → Q (.ref u) (upd H u (.lst its))
theorem call_list_ofK {X : Cx} {K : PySem.W.Frag} (h : X.K = K) : CallR X (.type "list") (rCopy K) := by
  subst h
  exact call_list_of
/-- five lists, the parts of a protocol -/
structure Five (H : Hp) (a b c d e : Addr) (D : DD) : Prop where
  st : H a = some (.lst (D.st.map V.str))
  ins : ∃ xi, H b = some (.lst xi) ∧ Tups enc2 H xi D.ins
  ld : H c = some (.lst (D.ld.map V.str))
  ru : ∃ xr, H d = some (.lst xr) ∧ Tups enc4 H xr D.ru
  ou : H e = some (.lst (D.ou.map V.int))
theorem Five.same {H H' : Hp} {a b c d e : Addr} {D : DD} (F : Five H a b c d e D) (s : Same H H') : Five H' a b c d e D := by
  obtain ⟨xi, i1, i2⟩ := F.ins
  obtain ⟨xr, r1, r2⟩ := F.ru
  exact ⟨s _ _ F.st, ⟨xi, s _ _ i1, i2.same s⟩, s _ _ F.ld, ⟨xr, s _ _ r1, r2.same s⟩, s _ _ F.ou⟩
theorem Five.parts {H : Hp} {a b c d e z : Addr} {D : DD} (F : Five H a b c d e D) (hz : H z = some (.tup [.ref a, .ref b, .ref c, .ref d, .ref e])) : PartsAt H z D := by
  obtain ⟨xi, i1, i2⟩ := F.ins
  obtain ⟨xr, r1, r2⟩ := F.ru
  exact ⟨a, b, c, d, e, xi, xr, hz, F.st, i1, i2, F.ld, r1, r2, F.ou⟩
def Copied (H H' : Hp) (C a b c d e : Addr) (D : DD) : Prop := Same H H' ∧ H' C = some (.lst [.ref a, .ref b, .ref c, .ref d, .ref e]) ∧ [C, a, b, c, d, e].Nodup ∧ (∀ x ∈ [C, a, b, c, d, e], H x = none) ∧ Five H' a b c d e D
theorem copy_parts {K : PySem.W.Frag} {q0 C : Addr} {D : DD} {H : Hp} {k : Nat} {σ : L2.St} {Qd : Hp → Prop} (PA : PartsAt H q0 D) (hk : k < σ.length) (hC : H C = none) (hd : ∀ H4 a b c d e, Copied H H4 C a b c d e D → Qd H4) :
    ∃ W : Nat → Nat → Hp → Prop, (∃ m, W 0 m (upd H C (.lst []))) ∧ ∀ i m H1, W i m H1 →
      ((Itt K q0).stop i H1 ∧ Qd H1) ∨ ((Itt K q0).go i H1 ∧ ∃ Nx : Hp → Prop, (∀ H', Nx H' → ∃ m', m' < m ∧ W (i + 1) m' H') ∧ ∀ x H', (Itt K q0).yld i H1 x H' → gName k x (wipe σ [k]) H' fun σ2 H2 => wipe σ2 [k] = wipe σ [k] ∧ tYes σ2 H2 fun b H3 =>
        if b = true then tCB (rCopy K) (tCons (tVar k) tNil) σ2 H3 fun y H4 => ∃ acc, H4 C = some (.lst acc) ∧ acc.length < sizeLine ∧ Nx (upd H4 C (.lst (acc ++ [y]))) else Nx H3) := by
  obtain ⟨ls, li, ll, lr, lo, xi, xr, h0, h1, h2, t2, h3, h4, t4, h5⟩ := PA
  have each : ∀ l ∈ [ls, li, ll, lr, lo], ∃ its, H l = some (.lst its) := by
    intro l hl
    simp only [List.mem_cons, List.not_mem_nil, or_false] at hl
    rcases hl with rfl | rfl | rfl | rfl | rfl
    · exact ⟨_, h1⟩
    · exact ⟨_, h2⟩
    · exact ⟨_, h3⟩
    · exact ⟨_, h4⟩
    · exact ⟨_, h5⟩
  refine lc_it (walk_tup (K := K) (a := q0) (xs := [.ref ls, .ref li, .ref ll, .ref lr, .ref lo])) (fun i H' => ∃ ts : List Addr, ts.length = i ∧ H' C = some (.lst (ts.map V.ref)) ∧ Same H H' ∧ (C :: ts).Nodup ∧ (∀ x ∈ ts, H x = none) ∧ ∀ (j : Nat) (t : Addr), ts[j]? = some t → ∃ (l : Addr) (its : List V), [ls, li, ll, lr, lo][j]? = some l ∧ H l = some (.lst its) ∧ H' t = some (.lst its)) ?_ ?_ ?_ ?_
  · exact ⟨[], rfl, upd_same, Same.new (Same.refl H) hC, by simp, by simp, fun j t h => by simp at h⟩
  · rintro i H' _ ⟨ts, _, _, s, _⟩
    exact SqT.of (s _ _ h0)
  · rintro i x H1 H2 hi ⟨ts, tl, c1, s1, nd, fr, al⟩ ⟨rfl, hx⟩
    have hi5 : i < [ls, li, ll, lr, lo].length := hi
    obtain ⟨l, hl⟩ : ∃ l, [ls, li, ll, lr, lo][i]? = some l := ⟨_, List.getElem?_eq_getElem hi5⟩
    have hx' : x = .ref l := by
      have e : ([.ref ls, .ref li, .ref ll, .ref lr, .ref lo] : List V) = [ls, li, ll, lr, lo].map V.ref := rfl
      rw [e, List.getElem?_map, hl] at hx
      exact (Option.some.inj hx).symm
    subst hx'
    obtain ⟨its, hits⟩ := each l (List.mem_of_getElem? hl)
    refine ⟨by simp only [wipe, List.set_set], ?_⟩
    refine ⟨_, ?_, l, its, rfl, .inl (SqL.of (s1 _ _ hits)), fun u hu => ?_⟩
    · show ((wipe σ [k]).set k (some (V.ref l)))[k]? = some (some (V.ref l))
      rw [List.getElem?_set_self]
      rw [wipe_length]
      exact hk
    have nu : H u = none := s1.free hu
    have uC : u ≠ C := fun e => by rw [e, c1] at hu; cases hu
    refine ⟨ts.map V.ref, by rw [upd_ne (Ne.symm uC)]; exact c1, ?_, ts ++ [u], by rw [List.length_append, tl]; rfl, by rw [upd_same, List.map_append]; rfl, Same.chg (Same.new s1 hu) hC, ?_, ?_, ?_⟩
    · rw [List.length_map, tl]
      exact Nat.lt_of_lt_of_le (show i < 5 from hi5) (by decide)
    · have ut : u ∉ ts := fun m => by
        obtain ⟨j, hj⟩ := List.mem_iff_getElem?.mp m
        obtain ⟨_, _, _, _, e⟩ := al j u hj
        rw [e] at hu
        cases hu
      rw [List.nodup_cons] at nd ⊢
      refine ⟨fun m => ?_, ?_⟩
      · rcases List.mem_append.mp m with m | m
        · exact nd.1 m
        · exact uC (List.mem_singleton.mp m).symm
      · rw [List.nodup_append]
        refine ⟨nd.2, by simp, fun y hy z hz e => ?_⟩
        rw [List.mem_singleton] at hz
        exact ut (hz ▸ e ▸ hy)
    · intro y hy
      rcases List.mem_append.mp hy with hy | hy
      · exact fr y hy
      · rw [List.mem_singleton.mp hy]
        exact nu
    · intro j t hj
      have Cn : ∀ y ∈ ts, y ≠ C := fun y hy e => (List.nodup_cons.mp nd).1 (e ▸ hy)
      by_cases hjl : j < ts.length
      · rw [List.getElem?_append_left hjl] at hj
        obtain ⟨l', its', e1, e2, e3⟩ := al j t hj
        have tm := List.mem_of_getElem? hj
        refine ⟨l', its', e1, e2, ?_⟩
        rw [upd_ne (Cn t tm), upd_ne (fun e => by rw [e, hu] at e3; cases e3)]
        exact e3
      · rw [List.getElem?_append_right (by omega)] at hj
        have j0 : j - ts.length = 0 := by
          have := (List.getElem?_eq_some_iff.mp hj).1
          simp at this
          omega
        rw [j0] at hj
        have e1 : u = t := Option.some.inj hj
        subst e1
        have e2 : j = i := by omega
        subst e2
        refine ⟨l, its, hl, hits, ?_⟩
        rw [upd_ne uC, upd_same]
  · rintro H4 ⟨ts, tl, c1, s1, nd, fr, al⟩
    have tl5 : ts.length = 5 := tl
    match ts, tl5, c1, nd, fr, al with
    | [a, b, c, d, e], _, c1, nd, fr, al =>
      have get : ∀ (j : Nat) (l t : Addr) (its : List V), [ls, li, ll, lr, lo][j]? = some l → [a, b, c, d, e][j]? = some t → H l = some (.lst its) → H4 t = some (.lst its) := fun j l t its e1 e2 e3 => by
        obtain ⟨l', its', f1, f2, f3⟩ := al j t e2
        rw [e1] at f1
        cases f1
        rw [e3] at f2
        cases f2
        exact f3
      refine hd H4 a b c d e ⟨s1, c1, nd, ?_, get 0 _ _ _ rfl rfl h1, ⟨xi, get 1 _ _ _ rfl rfl h2, t2.same s1⟩, get 2 _ _ _ rfl rfl h3, ⟨xr, get 3 _ _ _ rfl rfl h4, t4.same s1⟩, get 4 _ _ _ rfl rfl h5⟩
      intro x hx
      rcases List.mem_cons.mp hx with rfl | hx
      · exact hC
      · exact fr x hx
structure StA (H0 : Hp) (p d : Addr) (ds : List Int) (H : Hp) (m : Int) : Prop where
  keep : Keep [p] H0 H
  pool : PoolX H p d ds m
theorem StA.chg {H0 H : Hp} {p d a : Addr} {ds : List Int} {n m : Int} {o : HO} (s : StA H0 p d ds H m) (P : PoolX H0 p d ds n) (h : H0 a = none) : StA H0 p d ds (upd H a o) m := by
  refine ⟨fun b o' hb e => ?_, ?_, ?_, s.pool.2.2⟩
  · rw [upd_ne (neq_none e h)]
    exact s.keep b o' hb e
  · rw [upd_ne (neq_none P.1 h)]
    exact s.pool.1
  · rw [upd_ne (neq_none P.2.1 h)]
    exact s.pool.2.1
theorem StA.new {H0 H : Hp} {p d a : Addr} {ds : List Int} {m : Int} {o : HO} (s : StA H0 p d ds H m) (h : H a = none) : StA H0 p d ds (upd H a o) m := by
  refine ⟨fun b o' hb e => ?_, ?_, ?_, s.pool.2.2⟩
  · have e' := s.keep b o' hb e
    rw [upd_ne (neq_none e' h)]
    exact e'
  · rw [upd_ne (neq_none s.pool.1 h)]
    exact s.pool.1
  · rw [upd_ne (neq_none s.pool.2.1 h)]
    exact s.pool.2.1
theorem StA.go {H0 H H' : Hp} {p d : Addr} {ds : List Int} {m m' : Int} (s : StA H0 p d ds H m) (k : Keep [p] H H') (P : PoolX H' p d ds m') : StA H0 p d ds H' m' := ⟨s.keep.trans k, P⟩
theorem StA.same {H0 H H' : Hp} {p d : Addr} {ds : List Int} {m : Int} (s : StA H0 p d ds H m) (k : Same H H') : StA H0 p d ds H' m := ⟨s.keep.trans (Keep.of k), s.pool.same k⟩
structure Dis (a b c d e : Addr) : Prop where
  ab : a ≠ b
  ac : a ≠ c
  ad : a ≠ d
  ae : a ≠ e
  bc : b ≠ c
  bd : b ≠ d
  be : b ≠ e
  cd : c ≠ d
  ce : c ≠ e
  de : d ≠ e
theorem Dis.of {C a b c d e : Addr} (h : [C, a, b, c, d, e].Nodup) : Dis a b c d e := by
  simp only [List.nodup_cons, List.mem_cons, List.not_mem_nil, or_false, not_or, not_false_eq_true, and_true] at h
  obtain ⟨_, ⟨h1, h2, h3, h4⟩, ⟨h5, h6, h7⟩, ⟨h8, h9⟩, h10, _⟩ := h
  exact ⟨h1, h2, h3, h4, h5, h6, h7, h8, h9, h10⟩
theorem upd_tup {H : Hp} {a t : Addr} {xs ys : List V} {o : HO} (h : H a = some (.lst xs)) (ht : H t = some (.tup ys)) : (upd H a o) t = some (.tup ys) := by
  rw [upd_ne (fun e => by rw [e, h] at ht; cases ht)]
  exact ht
theorem Five.setSt {H : Hp} {a b c d e : Addr} {D : DD} (F : Five H a b c d e D) (n : Dis a b c d e) (st : List Str) : Five (upd H a (.lst (st.map V.str))) a b c d e { D with st := st } := by
  obtain ⟨xi, i1, i2⟩ := F.ins
  obtain ⟨xr, r1, r2⟩ := F.ru
  exact ⟨upd_same, ⟨xi, by rw [upd_ne (Ne.symm n.ab)]; exact i1, i2.mono fun t ys h => upd_tup F.st h⟩, by rw [upd_ne (Ne.symm n.ac)]; exact F.ld, ⟨xr, by rw [upd_ne (Ne.symm n.ad)]; exact r1, r2.mono fun t ys h => upd_tup F.st h⟩, by rw [upd_ne (Ne.symm n.ae)]; exact F.ou⟩
theorem Five.setOu {H : Hp} {a b c d e : Addr} {D : DD} (F : Five H a b c d e D) (n : Dis a b c d e) (ou : List Int) : Five (upd H e (.lst (ou.map V.int))) a b c d e { D with ou := ou } := by
  obtain ⟨xi, i1, i2⟩ := F.ins
  obtain ⟨xr, r1, r2⟩ := F.ru
  exact ⟨by rw [upd_ne n.ae]; exact F.st, ⟨xi, by rw [upd_ne n.be]; exact i1, i2.mono fun t ys h => upd_tup F.ou h⟩, by rw [upd_ne n.ce]; exact F.ld, ⟨xr, by rw [upd_ne n.de]; exact r1, r2.mono fun t ys h => upd_tup F.ou h⟩, upd_same⟩
theorem Five.setLd {H : Hp} {a b c d e : Addr} {D : DD} (F : Five H a b c d e D) (n : Dis a b c d e) (ld : List Str) : Five (upd H c (.lst (ld.map V.str))) a b c d e { D with ld := ld } := by
  obtain ⟨xi, i1, i2⟩ := F.ins
  obtain ⟨xr, r1, r2⟩ := F.ru
  exact ⟨by rw [upd_ne n.ac]; exact F.st, ⟨xi, by rw [upd_ne n.bc]; exact i1, i2.mono fun t ys h => upd_tup F.ld h⟩, upd_same, ⟨xr, by rw [upd_ne (Ne.symm n.cd)]; exact r1, r2.mono fun t ys h => upd_tup F.ld h⟩, by rw [upd_ne (Ne.symm n.ce)]; exact F.ou⟩
theorem Five.setIns {H : Hp} {a b c d e : Addr} {D : DD} (F : Five H a b c d e D) (n : Dis a b c d e) {xs : List V} {ins : List (Str × Str)} (t : Tups enc2 H xs ins) : Five (upd H b (.lst xs)) a b c d e { D with ins := ins } := by
  obtain ⟨xi, i1, i2⟩ := F.ins
  obtain ⟨xr, r1, r2⟩ := F.ru
  exact ⟨by rw [upd_ne n.ab]; exact F.st, ⟨xs, upd_same, t.mono fun t ys h => upd_tup i1 h⟩, by rw [upd_ne (Ne.symm n.bc)]; exact F.ld, ⟨xr, by rw [upd_ne (Ne.symm n.bd)]; exact r1, r2.mono fun t ys h => upd_tup i1 h⟩, by rw [upd_ne (Ne.symm n.be)]; exact F.ou⟩
theorem Five.er {H : Hp} {p a b c d e : Addr} {D : DD} (F : Five H a b c d e D) {n : Int} (P : PoolAt H p n) (h : p ≠ a ∧ p ≠ b ∧ p ≠ c ∧ p ≠ d ∧ p ≠ e) : Five (Er p H) a b c d e D := by
  obtain ⟨xi, i1, i2⟩ := F.ins
  obtain ⟨xr, r1, r2⟩ := F.ru
  have g : ∀ {x : Addr} {o : HO}, p ≠ x → H x = some o → Er p H x = some o := fun hx e => (if_neg (Ne.symm hx)).trans e
  exact ⟨g h.1 F.st, ⟨xi, g h.2.1 i1, P.tups i2⟩, g h.2.2.1 F.ld, ⟨xr, g h.2.2.2.1 r1, P.tups r2⟩, g h.2.2.2.2 F.ou⟩
/-! the thirteen ways -/
theorem dup_no {l r : List Str} {s : Str} {ins : List (Str × Str)} {ld : List Str} {ru : List S4} {ou : List Int} (h : s ∈ l ++ r) : ¬ Valid ⟨l ++ [s] ++ r, ins, ld, ru, ou⟩ := fun v => by
  have n := v.snd
  have n2 : (s :: (l ++ r)).Nodup := by
    refine (List.perm_middle (a := s) (l₁ := l) (l₂ := r)).nodup_iff.mp ?_
    have e : l ++ [s] ++ r = l ++ s :: r := by simp
    rw [← e]
    exact n
  exact (List.nodup_cons.mp n2).1 h
theorem zz_all : ((List.range 6).all fun i => (List.range 3).all fun j => decide (nmB.getD i Str.empty ++ nmS.getD j Str.empty ≠ ("zz9" : Str))) = true := by decide +kernel
theorem Small.zz {D : DD} (s : Small D) : ("zz9" : Str) ∉ D.st := fun m => by
  obtain ⟨i, hi⟩ := List.mem_iff_getElem?.mp m
  have il := (List.getElem?_eq_some_iff.mp hi).1
  have s6 := s.st6
  obtain ⟨j, hj, e⟩ := s.gn i _ hi
  have h := List.all_eq_true.mp (List.all_eq_true.mp zz_all i (List.mem_range.mpr (by omega))) j (List.mem_range.mpr hj)
  exact (of_decide_eq_true h) e.symm
theorem Short.st' {D : DD} (z : Short D) {st : List Str} (h : ∀ s ∈ st, s.length ≤ 1000000) : Short { D with st := st } := ⟨h, z.ou, z.ins, z.ld, z.ru, z.nru⟩
theorem Short.ou' {D : DD} (z : Short D) {ou : List Int} (h : ∀ o ∈ ou, o.natAbs.log2 < 1920) : Short { D with ou := ou } := ⟨z.st, h, z.ins, z.ld, z.ru, z.nru⟩
theorem Short.ins' {D : DD} (z : Short D) {ins : List (Str × Str)} (h : ∀ p ∈ ins, p.1.length ≤ 1000000 ∧ p.2.length ≤ 1000000) : Short { D with ins := ins } := ⟨z.st, z.ou, h, z.ld, z.ru, z.nru⟩
theorem Short.ld' {D : DD} (z : Short D) {ld : List Str} (h : ∀ s ∈ ld, s.length ≤ 1000000) : Short { D with ld := ld } := ⟨z.st, z.ou, z.ins, h, z.ru, z.nru⟩
theorem Short.ru' {D : DD} (z : Short D) {ru : List S4} (h : ∀ r ∈ ru, ∀ x ∈ r4 r, x.length ≤ 1000000) (n : ru.length ≤ 1000000) : Short { D with ru := ru } := ⟨z.st, z.ou, z.ins, z.ld, h, n⟩
theorem ins_map {α : Type} (f : α → V) (l : List α) (k : Nat) (x : α) : List.take k (l.map f) ++ [f x] ++ List.drop k (l.map f) = (l.take k ++ [x] ++ l.drop k).map f := by
  rw [List.map_append, List.map_append, List.map_take, List.map_drop]
  rfl
theorem app_map {α : Type} (f : α → V) (l : List α) (x : α) : l.map f ++ [f x] = (l ++ [x]).map f := by
  rw [List.map_append]
  rfl
theorem mem_ins {α : Type} {l : List α} {k : Nat} {x y : α} (h : y ∈ l.take k ++ [x] ++ l.drop k) : y ∈ l ∨ y = x := by
  rcases List.mem_append.mp h with h | h
  · rcases List.mem_append.mp h with h | h
    · exact .inl (List.mem_of_mem_take h)
    · exact .inr (List.mem_singleton.mp h)
  · exact .inl (List.mem_of_mem_drop h)
theorem in_ins {α : Type} {l : List α} {k : Nat} {x : α} : x ∈ l.take k ++ [x] ++ l.drop k := by simp
theorem l2 {o : Int} (h : o.natAbs < 2 ^ 100) : o.natAbs.log2 < 1920 := by
  by_cases hz : o.natAbs = 0
  · rw [hz]; decide
  · exact Nat.lt_of_lt_of_le ((Nat.log2_lt hz).mpr h) (by decide)
theorem at_last {st : List Str} (h : 1 ≤ st.length) : ∃ s, s ∈ st ∧ atI (st.map V.str) (-1) = some (V.str s) := by
  have ne : st ≠ [] := fun e => by rw [e] at h; simp at h
  refine ⟨st.getLast ne, List.getLast_mem ne, ?_⟩
  have e : st.map V.str = st.dropLast.map V.str ++ [V.str (st.getLast ne)] := by rw [app_map, List.dropLast_concat_getLast]
  rw [e]
  exact atI_last _ _
theorem four_len {a b c d : Str} (ha : a.length ≤ 1000000) (hb : b.length ≤ 1000000) (hc : c.length ≤ 1000000) (hd : d.length ≤ 1000000) : ∀ x ∈ r4 (a, b, c, d), x.length ≤ 1000000 := by
  intro x hx
  simp only [r4, List.mem_cons, List.not_mem_nil, or_false] at hx
  rcases hx with rfl | rfl | rfl | rfl <;> assumption
theorem set_zz {s : Str} (h : s.length ≤ 1000000) {r : Int} (h0 : 0 ≤ r) (h1 : r < 4) : ∃ R : S4, ([.str s, .str s, .str s, .str s] : List V).set r.toNat (.str "zz9") = enc4 R ∧ ("zz9" : Str) ∈ r4 R ∧ ∀ x ∈ r4 R, x.length ≤ 1000000 := by
  have z : (Str.ofString "zz9").length ≤ 1000000 := by decide
  obtain rfl | rfl | rfl | rfl : r = 0 ∨ r = 1 ∨ r = 2 ∨ r = 3 := by omega
  · exact ⟨("zz9", s, s, s), rfl, by simp [r4], four_len z h h h⟩
  · exact ⟨(s, "zz9", s, s), rfl, by simp [r4], four_len h z h h⟩
  · exact ⟨(s, s, "zz9", s), rfl, by simp [r4], four_len h h z h⟩
  · exact ⟨(s, s, s, "zz9"), rfl, by simp [r4], four_len h h h z⟩
theorem u_len : (Str.ofString "u").length ≤ 1000000 := by decide
theorem Five.oth {H : Hp} {a b c d e u : Addr} {D : DD} {ys : List V} {o : HO} (F : Five H a b c d e D) (hu : H u = some (.lst ys)) (ha : a ≠ u) (hb : b ≠ u) (hc : c ≠ u) (hd : d ≠ u) (he : e ≠ u) : Five (upd H u o) a b c d e D := by
  obtain ⟨xi, i1, i2⟩ := F.ins
  obtain ⟨xr, r1, r2⟩ := F.ru
  exact ⟨by rw [upd_ne ha]; exact F.st, ⟨xi, by rw [upd_ne hb]; exact i1, i2.mono fun t ys h => upd_tup hu h⟩, by rw [upd_ne hc]; exact F.ld, ⟨xr, by rw [upd_ne hd]; exact r1, r2.mono fun t ys h => upd_tup hu h⟩, by rw [upd_ne he]; exact F.ou⟩
theorem PartsAt.five {H : Hp} {p : Addr} {D : DD} (P : PartsAt H p D) : ∃ a b c d e : Addr, H p = some (.tup [.ref a, .ref b, .ref c, .ref d, .ref e]) ∧ Five H a b c d e D := by
  obtain ⟨ls, li, ll, lr, lo, xi, xr, hp, h1, h2, t2, h3, h4, t4, h5⟩ := P
  exact ⟨ls, li, ll, lr, lo, hp, h1, ⟨xi, h2, t2⟩, h3, ⟨xr, h4, t4⟩, h5⟩
theorem BookAt.chgL {C q x : Addr} {H : Hp} {a : RA} {D : DD} {xs : List V} {o : HO} (B : BookAt C H q a D) (h : H x = some (.lst xs)) : BookAt C (upd H x o) q a D := by
  have g : ∀ {y : Addr} {o' : HO}, H y = some o' → (∀ ys, o' ≠ .lst ys) → (upd H x o) y = some o' := fun e n => by
    rw [upd_ne (fun z => by rw [z, h] at e; exact n _ (Option.some.inj e).symm)]
    exact e
  obtain ⟨dx, h0⟩ := B.ob
  obtain ⟨x2, h2, T2⟩ := B.ins
  obtain ⟨x4, h4, T4⟩ := B.ru
  obtain ⟨kvs, hk, R⟩ := B.dr
  obtain ⟨xs', rows, r1, r2, r3, r4⟩ := B.rw
  have gt : ∀ t ys, H t = some (.tup ys) → (upd H x o) t = some (.tup ys) := fun t ys e => g e (fun _ z => by cases z)
  exact ⟨⟨dx, g h0 (fun _ z => by cases z)⟩, gt _ _ B.st, ⟨x2, gt _ _ h2, T2.mono gt⟩, gt _ _ B.ld, ⟨x4, gt _ _ h4, T4.mono gt⟩, gt _ _ B.ou, g B.dn (fun _ z => by cases z), ⟨kvs, g hk (fun _ z => by cases z), R.same gt⟩, ⟨xs', rows, gt _ _ r1, r2, fun i y hy => by obtain ⟨t, e, f⟩ := r3 i y hy; exact ⟨t, e, gt _ _ f⟩, r4⟩⟩
theorem sameDD_self (D : DD) : sameDD D D = true := by
  unfold sameDD
  simp only [decide_true, Bool.and_self]
theorem sameDD_eq {D E : DD} : sameDD D E = true ↔ D = E := by
  unfold sameDD
  simp only [Bool.and_eq_true, decide_eq_true_eq]
  constructor
  · rintro ⟨h1, h2, h3, h4, h5⟩
    cases D
    cases E
    simp only at h1 h2 h3 h4 h5
    subst h1 h2 h3 h4 h5
    rfl
  · rintro rfl
    exact ⟨rfl, rfl, rfl, rfl, rfl⟩
theorem sameDD_comm (D E : DD) : sameDD D E = sameDD E D := Bool.eq_iff_iff.mpr (sameDD_eq.trans (eq_comm.trans sameDD_eq.symm))
open PySem.W in
def dParts (D : DD) : PyData := .list [Datum.toD D.st, Datum.toD D.ins, Datum.toD D.ld, Datum.toD (D.ru.map t4), Datum.toD D.ou]
open PySem.W in
theorem eqv_parts (D E : DD) : PyData.eqv (dParts D) (dParts E) = sameDD D E := by
  unfold dParts sameDD
  simp only [PyData.eqv, PyData.eqvAll, Datum.eqv, Bool.and_true]
  rw [show decide (D.ru.map t4 = E.ru.map t4) = decide (D.ru = E.ru) from decide_eq_decide.mpr ⟨t4_inj, fun e => by rw [e]⟩]
open PySem.W in
theorem pl_parts (D : DD) : (dParts D).plain = true ∧ (dParts D).depth ≤ 64 := by
  unfold dParts
  constructor
  · simp only [PyData.plain, PyData.plainAll, Datum.plain, Bool.and_self]
  · simp only [PyData.depth, PyData.depthAll]
    have h1 := Datum.depth_le D.st
    have h2 := Datum.depth_le D.ins
    have h3 := Datum.depth_le D.ld
    have h4 := Datum.depth_le (D.ru.map t4)
    have h5 := Datum.depth_le D.ou
    have e1 : Datum.depth (List Str) = 1 := rfl
    have e2 : Datum.depth (List (Str × Str)) = 2 := rfl
    have e4 : Datum.depth (List (T4 Str Str Str Str)) = 2 := rfl
    have e5 : Datum.depth (List Int) = 1 := rfl
    omega
theorem dp_five {K : PySem.W.Frag} {H : Hp} {C a b c d e : Addr} {D : DD} (h : H C = some (.lst [.ref a, .ref b, .ref c, .ref d, .ref e])) (F : Five H a b c d e D) : Dp K H (.ref C) (dParts D) := by
  obtain ⟨xi, i1, i2⟩ := F.ins
  obtain ⟨xr, r1, r2⟩ := F.ru
  refine .lst (SqL.of h) (.cons (.lst (SqL.of F.st) (dpAll_strs _)) (.cons (.lst (SqL.of i1) (dpAll_ins i2)) (.cons (.lst (SqL.of F.ld) (dpAll_strs _)) (.cons (.lst (SqL.of r1) ?_) (.cons (.lst (SqL.of F.ou) (dpAll_ints _)) .nil)))))
  have := dpAll_rus (K := K) r2
  rw [List.map_map]
  exact this
theorem ValidN.setOu {D : DD} (v : ValidN D) {j : Nat} {y : Int} (h : 0 ≤ y ∧ y ≤ 9) : ValidN { D with ou := D.ou.set j y } where
  len := by show (D.ou.set j y).length = D.st.length; rw [List.length_set]; exact v.len
  n400 := v.n400
  nm := v.nm
  nd := v.nd
  ou := fun o ho => (List.mem_or_eq_of_mem_set ho).elim (v.ou o) fun e => by rw [e]; exact h
  n8 := v.n8
  inm := v.inm
  ind := v.ind
  n10 := v.n10
  ldm := v.ldm
  rum := v.rum
  rnd := v.rnd
theorem sameDD_ou (D : DD) (ou : List Int) : sameDD D { D with ou := ou } = decide (ou = D.ou) := by
  unfold sameDD
  simp only [decide_true, Bool.true_and]
  exact decide_eq_decide.mpr eq_comm
theorem er_none {p a : Addr} {H : Hp} (h : H a = none) : Er p H a = none := by
  unfold Er
  split
  · rfl
  · exact h
theorem er_sub {p : Addr} {H : Hp} : Same (Er p H) H := fun _ _ h => (er_some h).2
def tails : List Str := ["", "", "_", "x", "Z", " "]
theorem tails_all : (tails.all fun s => decide (s.length ≤ 1)) = true := by decide +kernel
theorem tail_at {r : Int} (h0 : 0 ≤ r) (h1 : r < 6) : ∃ s : Str, atI (tails.map V.str) r = some (.str s) ∧ s.length ≤ 1 := by
  have hl : r.toNat < tails.length := by show r.toNat < 6; omega
  exact ⟨tails.getD r.toNat Str.empty, map_at (f := V.str) (l := tails) h0 (by show r < 6; exact h1), of_decide_eq_true (List.all_eq_true.mp tails_all _ (getD_mem (d := Str.empty) hl))⟩
def chS (c : Nat) : Str := ⟨#[c]⟩
theorem in_both (c : Nat) : decide (c ∈ (LETTERS ++ DIGITS).cps.toList) = (lowC c || digC c) := by
  rw [← in_letters, ← in_digits, ← Bool.decide_or]
  refine decide_eq_decide.mpr ?_
  have e : (LETTERS ++ DIGITS).cps.toList = LETTERS.cps.toList ++ DIGITS.cps.toList := by decide +kernel
  rw [e, List.mem_append]
/-- the signs that no name has -/
def oddS (W : Str) (i : Nat) : List Nat := (W.cps.toList.take i).filter fun c => !(lowC c || digC c)
theorem oddS_succ {W : Str} {i c : Nat} (h : W.cps.toList[i]? = some c) : oddS W (i + 1) = oddS W i ++ if (!(lowC c || digC c)) = true then [c] else [] := by
  unfold oddS
  rw [take_snoc h, List.filter_append]
  congr 1
  simp only [List.filter_cons, List.filter_nil]
theorem oddS_len (W : Str) (i : Nat) : (oddS W i).length ≤ i := Nat.le_trans (List.length_filter_le _ _) (by rw [List.length_take]; omega)
theorem oddS_nil {W : Str} {c : Nat} {r : List Nat} (hc : W.cps.toList = c :: r) (h1 : (1 : Int) ≤ (W.length : Int)) (h2 : (W.length : Int) ≤ 12) (hl : lowC c = true) (n : Nat) (hn : W.cps.toList.length ≤ n) : decide ((oddS W n).map chS = []) = isName W := by
  have hlen : W.length = W.cps.toList.length := by show W.cps.size = _; simp
  unfold oddS isName isNameL
  rw [List.take_of_length_le hn, hc]
  rw [hlen, hc] at h1 h2
  rw [decide_eq_true (show 1 ≤ (c :: r).length by simp), decide_eq_true (show (c :: r).length ≤ 12 by omega)]
  simp only [List.head?_cons, Option.any_some, hl, Bool.true_and]
  rw [Bool.eq_iff_iff, decide_eq_true_iff, List.map_eq_nil_iff, List.filter_eq_nil_iff, List.all_eq_true]
  constructor
  · intro h x hx
    have := h x hx
    cases e : (lowC x || digC x) with
    | true => rfl
    | false =>
      rw [e] at this
      exact absurd rfl this
  · intro h x hx
    rw [h x hx]
    decide
end Vf

/-! ### enumerate(list, start=k) -/
namespace Vf
open PySem PySem.Spec PyProof.Rows L2
def IteS (K : PySem.W.Frag) (a : Addr) (c : Int) : It where
  go := fun i H => ∃ (xs : List V) (x : V), SqL K H a xs ∧ xs[i]? = some x
  yld := fun i H v H' => ∃ (T : Addr) (x : V), (v = .ref T ∧ H T = none ∧ H' = upd H T (.tup [.int (c + i), x])) ∧ ∀ xs, SqL K H a xs → xs[i]? = some x
  stop := fun i H => ∃ xs : List V, SqL K H a xs ∧ xs.length = i
theorem isl {h : Heap} {a : Addr} {its : Array Value} (p : PlainL h a its) : h.IsList a its := by
  obtain ⟨o, m, e, c, d, z⟩ := p
  exact ⟨o, e, c, m, z⟩
theorem turn_enumS {P : Program} {w : World} {K : PySem.W.Frag} {elts : List Expr} {kk : Nat} {tpos : Pos} (c : Int) (a e it : Addr) (hai : a ≠ it) (hae : a ≠ e) :
    Turn P w K (.Tuple elts kk tpos) (IteS K a c) [e, it] e (fun i h => (∃ old, IsEnum h e it (c + (i : Int)) old) ∧ h.IsListIter it a i ∧ e ≠ it) where
  mem := List.mem_cons_self ..
  obj := by
    rintro i h ⟨⟨old, he⟩, ⟨o, ho, _, hd⟩, _⟩ b hb
    rcases (show b = e ∨ b = it by simpa using hb) with rfl | rfl
    · exact ⟨_, he, nofun⟩
    · refine ⟨o, ho, fun v z => ?_⟩
      rw [hd] at z
      cases z
  keep := by
    rintro i h h' ⟨⟨old, he⟩, hi, ne⟩ k
    exact ⟨⟨old, k e (by simp) _ he⟩, hi.at fun o z => k it (by simp) o z, ne⟩
  item := by
    rintro X rfl rfl rfl hc i pins s σ H E I hf ⟨⟨old, he⟩, hit, ne⟩ ⟨xs, x, hq, hx⟩
    obtain ⟨its, rv, pn, _⟩ := I.list hq
    have p := isl pn
    obtain ⟨u, hu, ru⟩ := rv.get hx
    have hel : e < s.heap.objs.size := Heap.lt_size he
    have hil : it < s.heap.objs.size := by
      obtain ⟨_, z, _⟩ := hit
      exact Heap.lt_size z
    have nh : X.A.in1.handled = none := I.ok.hd hc
    have lx := (List.getElem?_eq_some_iff.mp hu).1
    refine wpAny_pyNext_enum_itemC (c := c + (i : Int)) (Draws.list nh it a hai its.toArray) he ⟨hit, p⟩ (by simpa using lx) ne (by simp [ne, Ne.symm hae]) fun x1 h' tk e1 ho hst' hT hsz hk => ?_
    have ux : u = x1 := by
      simp only [List.getElem?_toArray] at e1
      rw [hu] at e1
      exact Option.some.inj e1
    subst ux
    obtain ⟨hit', _⟩ := hst'
    refine ⟨_, rfl, wpAny_letOwnedTupleGo_enum (s := { s with heap := h', toks := tk + 1 }) ho fun h2 he' sb => ?_⟩
    have hT2 : h2.get? s.heap.objs.size = some { cls := .type "tuple", data := .seq #[.int (c + (i : Int)) tk, u] } := (sb.2 _ (Nat.ne_of_gt hel)).trans hT
    have new : ObjOk X.prog X.w (upd H s.heap.objs.size (.tup [.int (c + (i : Int)), x])) h2 s.heap.objs.size (.tup [.int (c + (i : Int)), x]) :=
      ⟨(by decide : 2 ≤ sizeLine), [.int (c + (i : Int)) tk, u], .cons ⟨_, rfl⟩ (.cons ru .nil), ⟨_, hT2, rfl, _, rfl⟩⟩
    have J : Inv X pins σ (upd H s.heap.objs.size (.tup [.int (c + (i : Int)), x])) { s with heap := h2, toks := tk + 1 } :=
      I.turnedNew (ch := [e, it]) (fun b ob hb z => (sb.2 b (fun y => hb (by simp [y]))).trans (hk b ob (fun y => hb (by simp [y])) (fun y => hb (by simp [y])) z)) hf (Nat.le_refl _) new
    refine ⟨.ref s.heap.objs.size, _, J, rfl, ⟨_, x, ⟨rfl, I.hok.fresh (Nat.le_refl _), rfl⟩, fun ys hy => by rw [I.list_inj hy hq]; exact hx⟩, ⟨⟨u, ?_⟩, hit'.at fun o z => (sb.2 it (Ne.symm ne)).trans z, ne⟩, fun b hb => ?_⟩
    · have e2 : c + ((i + 1 : Nat) : Int) = c + (i : Int) + 1 := by omega
      rw [e2]
      exact he'
    · have lt : b < s.heap.objs.size := by
        rcases (show b = e ∨ b = it by simpa using hb) with rfl | rfl
        · exact hel
        · exact hil
      rw [upd_ne (Nat.ne_of_lt lt)]
      exact (hf b hb).1
  done := by
    rintro X rfl rfl rfl hc i pins s σ H E I hf ⟨⟨old, he⟩, hit, ne⟩ ⟨xs, hq, hx⟩
    obtain ⟨its, rv, pn, _⟩ := I.list hq
    have p := isl pn
    obtain ⟨f0, f1, f2, f3, f4, f5⟩ := hf it (by simp)
    have hl := rv.length
    have nh : X.A.in1.handled = none := I.ok.hd hc
    exact wpAny_pyNext_enum_endD (Draws.list nh it a hai its.toArray) he ⟨by rw [List.size_toArray, ← hl, hx]; exact hit, p⟩ fun h' eb => ⟨rfl, I.turned (t' := s.toks) (fun b o hb z => eb b o hb z) f0 f1 f3 f4 f5⟩
  self := fun A i s Q E st h => by
    obtain ⟨⟨_, he⟩, _⟩ := st
    exact wpAny_pyIter_enum he h
/-- a call of a built-in class with keywords -/
theorem callWith_tyK {M : Model} {A : Around} {E : Value → Shared → Prop} {s : Shared} {env : Env} {pos : Pos} {T : String} {e : Expr} {rest : List Expr} {kws : List Keyword} {Q : Value → Shared → Prop}
    (h : wpAny M A (spliced (backTo pos (starEach (e :: rest) env))) (fun us s' => wpAny M A (evalAll ((backToKw pos (keywordEach kws env)).map (·.2)))
      (fun ws s'' => wpAny M A (call (.type T) us (((backToKw pos (keywordEach kws env)).filterMap (·.1)).zip ws)) Q E s'') E s') E s)
    (he : backTo pos (starEach (e :: rest) env) = (false, eval e env) :: backTo pos (starEach rest env))
    (hp : (backTo pos (starEach (e :: rest) env)).any (·.1) = false) (hall : (backToKw pos (keywordEach kws env)).all (·.1.isSome) = true) (hk : (backToKw pos (keywordEach kws env)).any (·.1.isNone) = false) :
    wpAny M A (callWith pos (.type T) [] (backTo pos (starEach (e :: rest) env)) (backToKw pos (keywordEach kws env))) Q E s := by
  have step : wpAny M A (evalArgs (.type T) true (backTo pos (starEach (e :: rest) env)) (backToKw pos (keywordEach kws env))) (fun a s' => wpAny M A (call (.type T) ([] ++ a.pos) a.kw) Q E s') E s := by
    rw [he] at h ⊢
    exact evalArgs_kwB hall h
  unfold callWith
  refine wpAny_bind (wpAny_holding (wpAny_mono step (fun a s' q => wpAny_bind (wpAny_standAt ?_)) fun _ _ z => z))
  simp only [hp, hk, Bool.or_false]
  exact wpAny_bind (wpAny_pure (wpAny_bind (wpAny_mono q (fun r s2 z => wpAny_bind (wpAny_holding (wpAny_point (wpAny_pure z)))) fun _ _ z => z)))
def iEnumS (K : PySem.W.Frag) (ta tk : TA) : TI := fun σ H R => ta σ H fun vs H1 => ∃ a, vs = [.ref a] ∧ tk σ H1 fun zs H2 => ∃ (xs : List V) (c : Int), zs = [.int c] ∧ SqL K H2 a xs ∧ -(2 ^ 63) ≤ c ∧ c < 2 ^ 63 ∧ R (IteS K a c) H2
theorem pi_enumS {X : Cx} {e : Expr} {ta tk : TA} {p pos tpos : Pos} {elts : List Expr} {kk : Nat} {kws : List Keyword} (hg : Gl X "enumerate") (hm : X.mg "enumerate" = none) (ha : PA X [e] ta) (hk : PK X kws tk)
    (he : backTo pos (starEach [e] X.env) = (false, eval e X.env) :: backTo pos (starEach [] X.env) := by rfl) (hp : (backTo pos (starEach [e] X.env)).any (·.1) = false := by rfl)
    (hall : (backToKw pos (keywordEach kws X.env)).all (·.1.isSome) = true := by rfl) (hno : (backToKw pos (keywordEach kws X.env)).any (·.1.isNone) = false := by rfl) (hks : (backToKw pos (keywordEach kws X.env)).filterMap (·.1) = [Str.ofString "start"] := by rfl) :
    PI X (.Tuple elts kk tpos) (.Call (.Name "enumerate" p) [e] kws pos) (iEnumS X.K ta tk) := by
  refine ⟨fun pins s σ H R I h => ?_⟩
  refine wpAny_Call_Name_kw (ld_blt I hg hm boot_enumerate ?_)
  refine callWith_tyK (thn (ha.run pos pins s σ H _ I h) fun us s1 ⟨vs, H1, I1, r1, q1⟩ => ?_) he hp hall hno
  obtain ⟨a, rfl, q1⟩ := q1
  refine thn (hk.run pos pins s1 σ H1 _ I1 q1) fun ws s2 ⟨zs, H2, I2, r2, q2⟩ => ?_
  obtain ⟨xs, c, rfl, hq, c0, c1, q⟩ := q2
  rw [hks]
  obtain rfl := Vals.ref1 r1
  obtain ⟨v, rfl, rv⟩ := vals1 r2
  obtain ⟨t, rfl⟩ := rv
  obtain ⟨its, rl, pn, _⟩ := I2.list hq
  have pl := isl pn
  obtain ⟨o1, w1, _⟩ := id pl
  have al : a < s2.heap.objs.size := Heap.lt_size w1
  refine enum_begins_start (begins_list a its.toArray) pl c0 c1 fun h' he hit hsz hk => wpAny_pyIter_enum he ?_
  have J : L2.Inv X pins σ H2 { s2 with heap := h' } := I2.kept (t' := s2.toks) hk
  have e0 : c + ((0 : Nat) : Int) = c := by omega
  refine ⟨s2.heap.objs.size + 1, [s2.heap.objs.size + 1, s2.heap.objs.size], _, _, H2, rfl, J, turn_enumS c a (s2.heap.objs.size + 1) s2.heap.objs.size (Nat.ne_of_lt al) (Nat.ne_of_lt (Nat.lt_succ_of_lt al)), ⟨⟨.none, by rw [e0]; exact he⟩, ⟨_, hit, rfl, rfl⟩, Nat.succ_ne_self _⟩, fun b hb => ?_, q⟩
  have le : s2.heap.objs.size ≤ b := by
    rcases (show b = s2.heap.objs.size + 1 ∨ b = s2.heap.objs.size by simpa using hb) with rfl | rfl
    · exact Nat.le_add_right _ _
    · exact Nat.le_refl _
  exact I2.fpOk le (I2.hok.fresh le)
section
variable {K : PySem.W.Frag} {a : Addr} {xs : List V} {c : Int}
theorem walk_enumS : Walk (IteS K a c) xs.length (fun H => SqL K H a xs) (YPair (fun i => some (.int (c + (i : Int)))) (fun i => xs[i]?)) := by
  refine ⟨fun i _ hi q => ⟨xs, xs[i], q, by simp [hi]⟩, fun _ q => ⟨xs, q, rfl⟩, fun i H v H' _ q y => ?_⟩
  obtain ⟨T, x, ⟨h1, h2, h3⟩, h4⟩ := y
  exact ⟨T, .int (c + (i : Int)), x, h1, h2, h3, rfl, h4 xs q⟩
end
/-- a tuple of texts of the module itself -/
def TupK (K : PySem.W.Frag) (a : Addr) (l : List Str) : Prop := ∃ (o : Obj) (its : Array Value) (n : Nat), K.lookup a = some o ∧ o.cls = .type "tuple" ∧ o.dict = none ∧ o.data = .seq its n ∧ its.size ≤ sizeLine ∧ Vals (l.map V.str) its.toList
theorem TupK.seq {K : PySem.W.Frag} {a : Addr} {l : List Str} (h : TupK K a l) (H : Hp) : SqT K H a (l.map V.str) := by
  obtain ⟨o, its, n, h1, h2, _, h3⟩ := h
  exact .inr ⟨o, its, n, h1, h2, h3⟩
theorem TupK.ty {K : PySem.W.Frag} {a : Addr} {l : List Str} (h : TupK K a l) (H : Hp) : tyV K "tuple" (.ref a) H := by
  obtain ⟨o, _, _, h1, h2, h3, _⟩ := h
  exact .inr (.inl ⟨rfl, o, h1, h2, h3⟩)
end Vf

namespace Vf
open PySem L2
theorem cut_hi (xs : List V) (c : Nat) : cutV xs none (some (c : Int)) = xs.take c := by
  unfold cutV
  rw [HT.sIx_nat, show HT.sIx xs.length 0 none = 0 from rfl, List.drop_zero, Nat.sub_zero]
  by_cases h : c ≤ xs.length
  · rw [Nat.min_eq_left h]
  · rw [Nat.min_eq_right (by omega), List.take_of_length_le (Nat.le_refl _), List.take_of_length_le (by omega)]
theorem cut_lo (xs : List V) (c : Nat) : cutV xs (some (c : Int)) none = xs.drop c := by
  unfold cutV
  rw [HT.sIx_nat, show HT.sIx xs.length xs.length none = xs.length from rfl]
  by_cases h : c ≤ xs.length
  · rw [Nat.min_eq_left h, List.take_of_length_le (by rw [List.length_drop]; omega)]
  · rw [Nat.min_eq_right (by omega), List.drop_of_length_le (Nat.le_refl _), List.drop_of_length_le (by omega), List.take_nil]
theorem Tups.takeT {α : Type} {enc : α → List V} {H : Hp} {xs : List V} {l : List α} (h : Tups enc H xs l) (c : Nat) : Tups enc H (xs.take c) (l.take c) := ⟨by rw [List.length_take, List.length_take, h.1], fun i a e => by
  rw [List.getElem?_take] at e
  by_cases ic : i < c
  · rw [if_pos ic] at e
    obtain ⟨t, h1, h2⟩ := h.2 i a e
    exact ⟨t, by rw [List.getElem?_take, if_pos ic]; exact h1, h2⟩
  · rw [if_neg ic] at e
    cases e⟩
theorem Tups.dropT {α : Type} {enc : α → List V} {H : Hp} {xs : List V} {l : List α} (h : Tups enc H xs l) (c : Nat) : Tups enc H (xs.drop c) (l.drop c) := ⟨by rw [List.length_drop, List.length_drop, h.1], fun i a e => by
  rw [List.getElem?_drop] at e
  obtain ⟨t, h1, h2⟩ := h.2 _ a e
  exact ⟨t, by rw [List.getElem?_drop]; exact h1, h2⟩⟩
theorem Tups.join {α : Type} {enc : α → List V} {H : Hp} {xs ys : List V} {l m : List α} (h : Tups enc H xs l) (k : Tups enc H ys m) : Tups enc H (xs ++ ys) (l ++ m) := by
  refine ⟨by rw [List.length_append, List.length_append, h.1, k.1], fun i a e => ?_⟩
  by_cases c : i < l.length
  · rw [List.getElem?_append_left c] at e
    obtain ⟨t, h1, h2⟩ := h.2 i a e
    exact ⟨t, by rw [List.getElem?_append_left (by rw [h.1]; exact c)]; exact h1, h2⟩
  · rw [List.getElem?_append_right (by omega)] at e
    obtain ⟨t, h1, h2⟩ := k.2 _ a e
    exact ⟨t, by rw [List.getElem?_append_right (by rw [h.1]; omega), h.1]; exact h1, h2⟩
end Vf
namespace Vf
open PySem L2
theorem ans_or2 {t u : TT} {σ : L2.St} {H : Hp} {b1 b2 : Bool} (h1 : Ans t σ H b1) (h2 : Ans u σ H b2) : Ans (tOr t u) σ H (b1 || b2) := fun R r => by
  refine h1 _ ?_
  cases b1 with
  | true => exact ite_b (fun _ => r) (fun c => absurd c (by decide))
  | false => exact ite_b (fun c => absurd c (by decide)) (fun _ => h2 R r)
end Vf

namespace Vf
open PySem L2
/-! ### ends of tuples, tuples put together -/
theorem slTm1 {K : PySem.W.Frag} {H : Hp} {a : Addr} {xs : List V} {Q : VK} (hx : SqT K H a xs) (h0 : 0 < xs.length) (k : ∀ (p : Addr) (H' : Hp), Same H H' → H' p = some (.tup (xs.take (xs.length - 1))) → Q (.ref p) H') : rSlT K (.ref a) none (some (-1)) H Q := by
  have e1 : HT.sIx xs.length xs.length (some (-1)) = xs.length - 1 := by
    show (if (-1 : Int) < 0 then ((-1 : Int) + (xs.length : Int)).toNat else min (-1 : Int).toNat xs.length) = xs.length - 1
    rw [if_pos (by decide)]
    omega
  have e0 : HT.sIx xs.length 0 none = 0 := rfl
  refine ⟨a, xs, rfl, hx, ?_, fun p np => k p _ (Vf.Same.new (Same.refl H) np) ?_⟩
  · rw [e1]
    omega
  · rw [upd_same]
    unfold cutV
    rw [e0, e1, List.drop_zero, Nat.sub_zero]
theorem catA {K : PySem.W.Frag} {H : Hp} {a b : Addr} {xs ys : List V} {Q : VK} (hx : H a = some (.tup xs)) (hy : H b = some (.tup ys)) (ne : ys ≠ []) (hs : xs.length + ys.length ≤ sizeLine)
    (k : ∀ (p : Addr) (H' : Hp), Same H H' → H' p = some (.tup (xs ++ ys)) → Q (.ref p) H') : rCatA K (.ref a) (.ref b) H Q := by
  refine ⟨a, b, xs, ys, rfl, rfl, SqT.of hx, SqT.of hy, hs, fun e => ?_, fun _ e => absurd e ne, fun _ _ p np => k p _ (Vf.Same.new (Same.refl H) np) upd_same⟩
  refine k b H (Same.refl H) ?_
  rw [e, List.nil_append]
  exact hy
theorem last_split : ∀ {l : List Int}, 0 < l.length → l.take (l.length - 1) ++ [l.getD (l.length - 1) 0] = l
  | [], h => by simp at h
  | [a], _ => rfl
  | a :: b :: r, _ => by
    have ih := last_split (l := b :: r) (by simp)
    have e : (a :: b :: r).length - 1 = (b :: r).length - 1 + 1 := by simp
    rw [e, List.take_succ_cons, List.cons_append]
    show a :: (_ ++ [(b :: r).getD ((b :: r).length - 1) 0]) = _
    rw [ih]
theorem atI_last {xs : List V} (h : 0 < xs.length) : atI xs (-1) = xs[xs.length - 1]? := by
  unfold atI ixN
  rw [if_neg (by decide), if_pos (by omega)]
  show xs[(-1 + (xs.length : Int)).toNat]? = _
  congr 1
  omega
theorem cut_last (xs : List V) (x : V) : cutV (xs ++ [x]) (some (-1)) none = [x] := by
  have e1 : HT.sIx (xs ++ [x]).length 0 (some (-1)) = xs.length := by
    show (if (-1 : Int) < 0 then ((-1 : Int) + ((xs ++ [x]).length : Int)).toNat else min (-1 : Int).toNat (xs ++ [x]).length) = xs.length
    rw [if_pos (by decide), List.length_append]
    show ((-1 : Int) + ((xs.length + 1 : Nat) : Int)).toNat = xs.length
    omega
  have e0 : HT.sIx (xs ++ [x]).length (xs ++ [x]).length none = (xs ++ [x]).length := rfl
  unfold cutV
  rw [e0, e1, List.drop_left, List.length_append]
  exact List.take_of_length_le (by show 1 ≤ xs.length + 1 - xs.length; omega)
end Vf

namespace Vf
open PySem L2
/-! ### lists of values that stand for things -/
def Eac {α : Type} (R : V → α → Prop) (xs : List V) (l : List α) : Prop := xs.length = l.length ∧ ∀ (i : Nat) (a : α), l[i]? = some a → ∃ x, xs[i]? = some x ∧ R x a
section
variable {α : Type} {R R' : V → α → Prop} {xs ys : List V} {l m : List α}
theorem Eac.nil : Eac R [] [] := ⟨rfl, fun i a h => by simp at h⟩
theorem Eac.mono (h : Eac R xs l) (k : ∀ x a, R x a → R' x a) : Eac R' xs l := ⟨h.1, fun i a e => by
  obtain ⟨x, h1, h2⟩ := h.2 i a e
  exact ⟨x, h1, k _ _ h2⟩⟩
theorem Eac.get (h : Eac R xs l) {i : Nat} {x : V} (e : xs[i]? = some x) : ∃ a, l[i]? = some a ∧ R x a := by
  have hi := (List.getElem?_eq_some_iff.mp e).1
  have hl : i < l.length := by rw [← h.1]; exact hi
  obtain ⟨y, h1, h2⟩ := h.2 i l[i] (List.getElem?_eq_getElem hl)
  rw [e] at h1
  cases h1
  exact ⟨_, List.getElem?_eq_getElem _, h2⟩
theorem Eac.of (hl : xs.length = l.length) (h : ∀ (i : Nat) (x : V) (a : α), xs[i]? = some x → l[i]? = some a → R x a) : Eac R xs l := ⟨hl, fun i a e => by
  have hi := (List.getElem?_eq_some_iff.mp e).1
  exact ⟨_, List.getElem?_eq_getElem (by rw [hl]; exact hi), h i _ a (List.getElem?_eq_getElem _) e⟩⟩
theorem Eac.app (h : Eac R xs l) (k : Eac R ys m) : Eac R (xs ++ ys) (l ++ m) := ⟨by rw [List.length_append, List.length_append, h.1, k.1], fun i a e => by
  by_cases hi : i < l.length
  · rw [List.getElem?_append_left hi] at e
    obtain ⟨x, h1, h2⟩ := h.2 i a e
    exact ⟨x, by rw [List.getElem?_append_left (by rw [h.1]; exact hi)]; exact h1, h2⟩
  · rw [List.getElem?_append_right (by omega)] at e
    obtain ⟨x, h1, h2⟩ := k.2 _ a e
    exact ⟨x, by rw [List.getElem?_append_right (by rw [h.1]; omega), h.1]; exact h1, h2⟩⟩
theorem Eac.cast (e : xs = ys) (h : Eac R xs l) : Eac R ys l := e ▸ h
theorem Eac.one {x : V} {a : α} (h : R x a) : Eac R [x] [a] := ⟨rfl, fun i b e => by
  cases i with
  | zero => cases e; exact ⟨x, rfl, h⟩
  | succ i => simp at e⟩
theorem Eac.snoc {x : V} {a : α} (h : Eac R xs l) (k : R x a) : Eac R (xs ++ [x]) (l ++ [a]) := h.app (.one k)
theorem Eac.take (h : Eac R xs l) (k : Nat) : Eac R (xs.take k) (l.take k) := ⟨by rw [List.length_take, List.length_take, h.1], fun i a e => by
  rw [List.getElem?_take] at e ⊢
  split at e
  · rename_i c
    rw [if_pos c]
    exact h.2 i a e
  · cases e⟩
theorem Eac.drop (h : Eac R xs l) (k : Nat) : Eac R (xs.drop k) (l.drop k) := ⟨by rw [List.length_drop, List.length_drop, h.1], fun i a e => by
  rw [List.getElem?_drop] at e ⊢
  exact h.2 _ a e⟩
theorem Eac.set (h : Eac R xs l) (k : Nat) {x : V} {a : α} (r : R x a) : Eac R (xs.set k x) (l.set k a) := ⟨by rw [List.length_set, List.length_set, h.1], fun i b e => by
  have hi : i < l.length := by
    have := (List.getElem?_eq_some_iff.mp e).1
    rwa [List.length_set] at this
  by_cases c : k = i
  · subst c
    rw [List.getElem?_set_self hi] at e
    cases e
    exact ⟨x, List.getElem?_set_self (by rw [h.1]; exact hi), r⟩
  · rw [List.getElem?_set_ne c] at e
    obtain ⟨y, h1, h2⟩ := h.2 i b e
    exact ⟨y, by rw [List.getElem?_set_ne c]; exact h1, h2⟩⟩
theorem Eac.rev (h : Eac R xs l) : Eac R xs.reverse l.reverse := ⟨by rw [List.length_reverse, List.length_reverse, h.1], fun i a e => by
  have hi : i < l.length := by have := (List.getElem?_eq_some_iff.mp e).1; rwa [List.length_reverse] at this
  rw [List.getElem?_reverse hi] at e
  obtain ⟨x, h1, h2⟩ := h.2 _ _ e
  exact ⟨x, by rw [List.getElem?_reverse (by rw [h.1]; exact hi), h.1]; exact h1, h2⟩⟩
end
end Vf

namespace Vf
open PySem PySem.Spec PyProof.Rows L2
/-! ### a range as a value, and walked -/
def rRange1 : List V → Hp → VK → Prop := fun vs H Q => ∃ j : Int, vs = [V.int j] ∧ ∀ p, H p = none → Q (.ref p) (upd H p (.rng 0 j))
theorem cr_range1 {X : Cx} : CallR X (.type "range") rRange1 := by
  intro pins s σ H vs us Q I r h
  obtain ⟨j, rfl, q⟩ := h
  obtain ⟨u1, rfl, rj⟩ := vals1 r
  obtain ⟨u, rfl⟩ := rj
  refine call_range_1 ⟨.ref s.heap.objs.size, upd H s.heap.objs.size (.rng 0 j), I.laid (fun b o e => Heap.get?_push_of_some _ e) (Nat.le_refl _) ?_, rfl, q _ (I.hok.fresh (Nat.le_refl _))⟩
  exact ⟨_, _, _, Heap.get?_push_size _ rfl⟩
def iRngV (td : TE) : TI := fun σ H R => td σ H fun x H1 => ∃ (a : Addr) (lo hi : Int), x = .ref a ∧ H1 a = some (.rng lo hi) ∧ (-(2 ^ 62) ≤ lo ∧ lo < 2 ^ 62 ∧ -(2 ^ 62) ≤ hi ∧ hi < 2 ^ 62) ∧ R (Itr lo (hi - lo).toNat) H1
theorem pi_rng {X : Cx} {tg l : Expr} {tl : TE} (hl : PE X l tl) : PI X tg l (iRngV tl) := by
  refine ⟨fun pins s σ H R I h => ?_⟩
  refine thn (hl.run pins s σ H _ I h) fun v s1 ⟨x, H1, I1, r1, a, lo, hi, ex, ha, ⟨h1, h2, h3, h4⟩, q⟩ => ?_
  subst ex
  obtain rfl : v = Value.ref a := r1
  obtain ⟨t, u, w, hr⟩ := (show ObjOk X.prog X.w H1 s1.heap a (.rng lo hi) from I1.hok a _ ha)
  refine wpAny_pyIter_range (show IsRange s1.heap a lo hi 1 t u w from hr) (small_one h1 h2 h3 h4) ?_
  refine ⟨s1.heap.objs.size, [s1.heap.objs.size], _, _, H1, rfl, I1.kept (t' := s1.toks) fun b o e => Heap.get?_push_of_some _ e, turn_range _ lo (hi - lo).toNat, ?_, fun b hb => ?_, q⟩
  · have e1 : lo + ((0 : Nat) : Int) * 1 = lo := by simp
    have e2 : (((hi - lo).toNat : Nat) : Int) - ((0 : Nat) : Int) = Builtin.Range.rangeSize lo hi 1 := by rw [rangeSize_one]; split <;> omega
    show IsRangeIter _ _ (lo + ((0 : Nat) : Int) * 1) ((((hi - lo).toNat : Nat) : Int) - ((0 : Nat) : Int)) 1
    rw [e1, e2]
    exact Heap.get?_push_size _ rfl
  · have e : b = s1.heap.objs.size := by simpa using hb
    subst e
    exact I1.fpOk (Nat.le_refl _) (I1.hok.fresh (Nat.le_refl _))
end Vf

/-! ### dicts whose keys are tuples: {k: v}, and a comprehension -/
namespace Vf
open PySem PySem.Spec PyProof.Rows L2
abbrev emptyD : Obj := { cls := .type "dict", data := .dict #[] }
theorem d_dictSetT {X : Cx} {pins : List (Addr × Obj)} {σ : L2.St} {H : Hp} {s : Shared} {E : Value → Shared → Prop} {D b : Addr} {kvs : List (List Key × V)} {k : List Key} {v : V} {u r : Value} {Q : Unit → Shared → Prop} (hu : X.A.units + 1 < cLine) (I : Inv X pins σ H s)
    (hD : H D = some (.dT kvs)) (hz : kvs.length < sizeLine) (ry : RelV (.ref b) u) (eb : H b = some (.tup (k.map kV))) (rv : RelV v r) (h : ∀ s', Inv X pins σ (upd H D (.dT (putK kvs k v))) s' → Q () s') : wpAny (model X.prog X.w) X.A (dictSet D u r) Q E s := by
  obtain rfl : u = Value.ref b := ry
  obtain ⟨z, hd, xs, rel, dd⟩ := dt_of I.hok hD
  have xl : xs.length ≤ sizeLine := by
    rw [← Paired.length rel]
    exact z
  have pl : (putK kvs k v).length ≤ sizeLine := by
    have := length_putK kvs k v
    omega
  refine wpAny_dictSet_heap (hsz := xl) (show X.A.units < cLine by omega) (key_of I.hok eb) dd fun h' dd' hs => h _ ?_
  obtain ⟨q, es, ep, hq, h2, h3, h4, _, h5⟩ := dd'
  refine d_write I (by rw [hD]; trivial) hs ⟨q, hq⟩ ⟨pl, hd, _, (rel.put k eb rv).keeps fun c ys ec => ?_, q, es, ep, hq, h2, h3, h4, h5⟩
  rw [upd_ne (ne_of ec hD nofun)]
  exact ec
def tDcT (wi : TI) (g : TG) (tt : TT) (tk tv : TE) (vs : List Nat) : TE := fun σ H Q => wi σ H fun J H1 => ∀ D, H1 D = none → ∃ W : Nat → Nat → Hp → Prop, (∃ m, W 0 m (upd H1 D (.dT []))) ∧ ∀ i m H, W i m H →
  ((J.stop i H ∧ Q (.ref D) H) ∨ (J.go i H ∧ ∃ Nx : Hp → Prop, (∀ H', Nx H' → ∃ m', m' < m ∧ W (i + 1) m' H') ∧ ∀ x H', J.yld i H x H' → g x (wipe σ vs) H' fun σ2 H2 => wipe σ2 vs = wipe σ vs ∧ tt σ2 H2 fun b H3 =>
    if b = true then tk σ2 H3 fun y H4 => tv σ2 H4 fun z H5 => ∃ (kvs : List (List Key × V)) (k : List Key) (t : Addr), y = .ref t ∧ H5 t = some (.tup (k.map kV)) ∧ H5 D = some (.dT kvs) ∧ kvs.length < sizeLine ∧ Nx (upd H5 D (.dT (putK kvs k z))) else Nx H3))
section
variable {X : Cx}
theorem pe_dcT {kx vx tg iter : Expr} {ifs : List Expr} {scope : Scope} {own : List (Str × Nat)} {pos : Pos} {wi : TI} {g : TG} {tt : TT} {tk te : TE} (hu : X.A.units + 1 < cLine) (hc : X.calm = true) (hN : X.N.Nodup) (hi : PI X tg iter wi) (ok : BlkOk X.N X.env.scope scope own)
    (hg : ∀ (s : Shared) (H : Hp) (C : Addr) (cl : List (Str × Addr)) (fp : List Addr), PG (X.blk s H scope (compEnvC scope cl C X.env) fp) tg g)
    (ht : ∀ (s : Shared) (H : Hp) (C : Addr) (cl : List (Str × Addr)) (fp : List Addr), PTs (X.blk s H scope (compEnvC scope cl C X.env) fp) ifs tt)
    (hk : ∀ (s : Shared) (H : Hp) (C : Addr) (cl : List (Str × Addr)) (fp : List Addr), PE (X.blk s H scope (compEnvC scope cl C X.env) fp) kx tk)
    (he : ∀ (s : Shared) (H : Hp) (C : Addr) (cl : List (Str × Addr)) (fp : List Addr), PE (X.blk s H scope (compEnvC scope cl C X.env) fp) vx te)
    (hs : ∀ x, foldedSetIterable iter X.env x = pure x := by intro _; rfl) : PE X (.DictComp kx vx [⟨tg, iter, ifs, 0⟩] scope pos) (tDcT wi g tt tk te (own.map (·.2))) := by
  constructor
  intro pins s σ H Q I h
  rw [arm_eval_DictComp]
  have free : ∀ y ∈ scope.names, y.2 = .free → ∃ c, X.env.cells.lookup y.1 = some c := fun y hy e => I.ok.has _ (by exact ok.free y hy e)
  refine wpAny_comprehension_free (use := none) rfl hs (closure_ok free) ok.kind (fun y hy e => by rw [ok.uniq y hy, e]) (thn (hi.run pins s σ H _ I h) fun xv s1 hx => thn hx fun itv s2 got => ?_)
  obtain ⟨it, fp, tn, J, H2, rfl, I2, T, st2, f2, q⟩ := got
  refine wpAny_newObj_type (newEnv_comp ?_)
  obtain ⟨D, hD⟩ : ∃ D, D = s2.heap.objs.size := ⟨_, rfl⟩
  obtain ⟨W, ⟨m0, w0⟩, turn⟩ := q D (I2.hok.fresh (Nat.le_of_eq hD.symm))
  rw [← hD]
  obtain ⟨s3, es3⟩ : ∃ s3 : Shared, s3 = { s2 with heap := s2.heap.push emptyD } := ⟨_, rfl⟩
  have h3 : s3.heap = s2.heap.push emptyD := by rw [es3]
  have I3 : Inv X pins σ (upd H2 D (.dT [])) s3 := by
    rw [es3]
    refine I2.laid (t' := s2.toks) (fun b o e => Heap.get?_push_of_some _ e) (Nat.le_of_eq hD.symm) ?_
    have fr := dt_empty (P := X.prog) (w := X.w) (H := upd H2 D (.dT [])) s2.heap I2.big
    rw [← hD] at fr
    exact fr
  have below : ∀ b ∈ fp, b < s2.heap.objs.size := fun b hb => Heap.lt_size (T.obj _ _ st2 b hb).choose_spec.1
  have f3 : ∀ b ∈ fp, FpOk X pins (upd H2 D (.dT [])) b ∧ b < s3.heap.objs.size := fun b hb => by
    have lt := below b hb
    have ne : b ≠ D := by rw [hD]; exact Nat.ne_of_lt lt
    refine ⟨⟨?_, (f2 b hb).2⟩, ?_⟩
    · rw [upd_ne ne]
      exact (f2 b hb).1
    · rw [h3, Heap.size_push]
      exact Nat.lt_succ_of_lt lt
  have st3 : tn 0 s3.heap := T.keep _ _ _ st2 fun b _ o e => by rw [h3]; exact Heap.get?_push_of_some _ e
  have I4 := block_start I3 ok hN f3
  have pg := hg s3 (upd H2 D (.dT [])) s3.heap.objs.size (cellsFrom (s3.heap.objs.size + 1) scope.names (cloFrom X.env.cells scope.names [])) fp
  have pt := ht s3 (upd H2 D (.dT [])) s3.heap.objs.size (cellsFrom (s3.heap.objs.size + 1) scope.names (cloFrom X.env.cells scope.names [])) fp
  have pk := hk s3 (upd H2 D (.dT [])) s3.heap.objs.size (cellsFrom (s3.heap.objs.size + 1) scope.names (cloFrom X.env.cells scope.names [])) fp
  have pe := he s3 (upd H2 D (.dT [])) s3.heap.objs.size (cellsFrom (s3.heap.objs.size + 1) scope.names (cloFrom X.env.cells scope.names [])) fp
  have done : ∀ (s' : Shared) (m : Str → Option Value) (H' : Hp), Inv X pins σ H' s' → Q (.ref D) H' → s'.heap.Ns s3.heap.objs.size m → FpOk X pins H' s3.heap.objs.size → compPost (model X.prog X.w) X.A X.xe none (EP X pins σ Q) (.ref D) s3.heap.objs.size (.ok .next) s' := fun s' m H' I' qq hn f => ⟨m, hn, fun h'' sb => by
    obtain ⟨a0, a1, a2, a3, a4, a5⟩ := f
    exact ⟨.ref D, H', I'.turned (t' := s'.toks) (fun b o hb e => (sb.2 b hb).trans e) a0 a1 a3 a4 a5, rfl, qq⟩⟩
  have fin0 : ∀ {s4 : Shared} {ce : Env}, ce = compEnvC scope (cellsFrom (s3.heap.objs.size + 1) scope.names (cloFrom X.env.cells scope.names [])) s3.heap.objs.size X.env →
      s4 = { s3 with heap := pushCells (s3.heap.push { cls := .type "dict", data := .dict #[] }) scope.names } → codeAny (model X.prog X.w) X.A (.compStart (.DictComp kx vx [⟨tg, iter, ifs, 0⟩] scope pos) 0 (.ref it) (.ref D) ce) (compPost (model X.prog X.w) X.A X.xe none (EP X pins σ Q) (.ref D) s3.heap.objs.size) s4 := by
    intro s4 ce ece es4
    rw [← ece] at I4 pg pt pk pe
    rw [← es4] at I4
    have cL : ce.locals = s3.heap.objs.size := by rw [ece]; rfl
    have st4 : tn 0 s4.heap := T.keep _ _ _ st3 fun b _ o e => by rw [es4]; exact pushCells_keeps _ _ _ _ (Heap.get?_push_of_some _ e)
    have un : ∀ b ∈ fp, (upd H2 D (.dT [])) b = none := fun b hb => (f3 b hb).1.1
    generalize upd H2 D (.dT []) = H3 at I3 I4 pg pt pk pe w0 un f3
    have stat : ∀ {σ' : L2.St} {H' : Hp} {s' : Shared}, Inv (X.blk s3 H3 scope ce fp) [] σ' H' s' → (∀ b ∈ fp, H' b = none) → ∀ b ∈ fp, FpOk (X.blk s3 H3 scope ce fp) [] H' b := fun {σ' H' s'} I' hn b hb => by
      refine ⟨hn b hb, (I'.ok.exf b hb).1, I'.ok.exfs b hb, .inl hb, fun x c e => (I'.ok.exf b hb).2 x c e, fun p hp => ?_⟩
      simp at hp
    have loop : codeAny (model X.prog X.w) X.A (.compLoop (.DictComp kx vx [⟨tg, iter, ifs, 0⟩] scope pos) 0 (.ref it) (.ref D) ce) (compPost (model X.prog X.w) X.A X.xe none (EP X pins σ Q) (.ref D) s3.heap.objs.size) s4 := by
      refine compLoop_anyD (fun n s' => ∃ i H', Inv (X.blk s3 H3 scope ce fp) [] (wipe σ (own.map (·.2))) H' s' ∧ tn i s'.heap ∧ (∀ b ∈ fp, H' b = none) ∧ W i n H') (fun n s5 hI => ?_) m0 ⟨0, H3, I4, st4, un, w0⟩
      obtain ⟨i, H5, I5, st5, n5, w5⟩ := hI
      rcases turn i n H5 w5 with ⟨stop, qq⟩ | ⟨go, Nx, hNx, step⟩
      · refine thnF (T.done (X.blk s3 H3 scope ce fp) rfl rfl rfl hc i [] s5 _ H5 (fun _ _ => False) I5 (stat I5 n5) st5 stop) fun r s6 ⟨hr, I6⟩ => ?_
        subst hr
        have I7 : Inv X pins σ H5 s6 := I3.call' (ch := fp) I6.os I6.base I6.hok I6.bare fun b hb => ⟨(f3 b hb).1.2.2.2.1, (f3 b hb).1.2.1, (f3 b hb).1.2.2.2.2.1, (f3 b hb).1.2.2.2.2.2⟩
        obtain ⟨m, hn, _⟩ := I6.loc
        have fr : H5 ce.locals = none := I6.free
        have hn : s6.heap.Ns ce.locals m := hn
        rw [cL] at hn fr
        exact done s6 m H5 I7 qq hn (I3.fpOk (Nat.le_refl _) fr)
      · refine thnF (T.item (X.blk s3 H3 scope ce fp) rfl rfl rfl hc i [] s5 _ H5 (fun _ _ => False) I5 (stat I5 n5) st5 go) fun r s6 ⟨u, hr, h6⟩ => ?_
        subst hr
        refine thnF h6 fun _ s7 ⟨x, H7, I7, r7, y7, st7, n7⟩ => ?_
        have I8 := I7.pinned (stat I7 n7) (T.obj _ _ st7)
        refine thnF (pg.run _ s7 _ H7 x u _ I8 r7 (step x H7 y7)) fun _ s8 ⟨σ8, H8, I9, hw8, q8⟩ => ?_
        refine thnF (pt.run _ s8 σ8 H8 _ I9 q8) fun b s9 ⟨H9, I10, q9⟩ => ?_
        have next : ∀ {s' : Shared} {H' : Hp}, Inv (X.blk s3 H3 scope ce fp) ([] ++ pinsAt fp s7.heap) σ8 H' s' → Nx H' → ∃ m, m < n ∧ ∃ i H', Inv (X.blk s3 H3 scope ce fp) [] (wipe σ (own.map (·.2))) H' s' ∧ tn i s'.heap ∧ (∀ b ∈ fp, H' b = none) ∧ W i m H' := fun {s' H'} I' nx => by
          obtain ⟨m', hm, w'⟩ := hNx H' nx
          have held : ∀ b ∈ fp, ∀ o, s7.heap.get? b = some o → s'.heap.get? b = some o ∧ H' b = none := fun b hb o e => by
            have zz := I'.pin (b, o) (List.mem_append_right _ (List.mem_append_right _ (mem_pinsAt hb e)))
            exact ⟨zz.1, zz.2.1⟩
          refine ⟨m', hm, i + 1, H', (I'.unpinned (pins := [])).weak (by rw [← hw8, wipe_length]) (fun j v e => ?_), T.keep _ _ _ st7 fun b hb o e => (held b hb o e).1, fun b hb => ?_, w'⟩
          · rw [← hw8] at e
            exact (wipe_some e).1
          · obtain ⟨o, e, _⟩ := T.obj _ _ st7 b hb
            exact (held b hb o e).2
        cases b with
        | false =>
          simp only [Bool.false_eq_true, if_false] at q9 ⊢
          exact next I10 q9
        | true =>
          simp only [if_true] at q9 ⊢
          refine thnF (pk.run _ s9 σ8 H9 _ I10 q9) fun uk s10 ⟨yk, H10, I11, r10, q10⟩ => ?_
          refine thnF (pe.run _ s10 σ8 H10 _ I11 q10) fun uv s11 ⟨yv, H11, I12, r11, kvs, kk, b, ek, eb, hD11, hz, nx⟩ => ?_
          subst ek
          exact d_dictSetT (X := X.blk s3 H3 scope ce fp) hu I12 hD11 hz r10 eb r11 fun s12 I13 => next I13 nx
    exact codeAny_compStart_dict loop (T.self X.A 0 _ _ _ st4 loop)
  have last := fin0 rfl rfl
  subst es3
  exact last
end
/-- {k: v}, k a tuple; the new dict stands empty while the two are made -/
def tDT1 (tk tv : TE) : TE := fun σ H Q => ∀ p, H p = none → tk σ (upd H p (.dT [])) fun x H1 => tv σ H1 fun y H2 => ∃ (b : Addr) (k : List Key), x = .ref b ∧ H2 b = some (.tup (k.map kV)) ∧ H2 p = some (.dT []) ∧ Q (.ref p) (upd H2 p (.dT (putK [] k y)))
theorem pe_dispT {X : Cx} {ke ve : Expr} {pos : Pos} {tk tv : TE} (hu : X.A.units + 1 < cLine) (hk : PE X ke tk) (hv : PE X ve tv) : PE X (.Dict [some ke] [ve] pos) (tDT1 tk tv) := by
  constructor
  intro pins s σ H Q I q
  have fr := I.hok.fresh (Nat.le_refl s.heap.objs.size)
  have I0 := I.laid (a := s.heap.objs.size) (o := .dT []) (h' := s.heap.push emptyD) (t' := s.toks) (fun _ _ z => Heap.get?_push_of_some _ z) (Nat.le_refl _) (dt_empty s.heap I.big)
  rw [arm_eval_Dict, zip_pairTrees [some ke] [ve] X.env pos rfl rfl, dictDisplay_pairs _ (by simp [pairTrees]) (by simp [pairTrees])]
  refine wpAny_bind (wpAny_standAt (wpAny_bind ?_))
  unfold subDict
  refine wpAny_bind (wpAny_alloc (wpAny_bind (wpAny_holding ?_)))
  rw [if_pos (by simp [pairTrees])]
  refine wpAny_bind (pairTrees_cons_walk (thn (hk.run pins _ σ _ _ I0 (q _ fr)) fun ku s1 got => ?_))
  obtain ⟨x, H1, I1, rx, q1⟩ := got
  refine thn (hv.run pins s1 σ H1 _ I1 q1) fun vu s2 got => pairTrees_nil_walk ?_
  obtain ⟨y, H2, I2, ry, b, k, rfl, eb, hp, q2⟩ := got
  refine wpAny_holding ?_
  rw [List.forIn_cons]
  refine wpAny_bind (wpAny_bind (wpAny_bind (d_dictSetT hu I2 hp (by decide) rx eb ry fun s3 I3 => wpAny_pure ?_)))
  show wpAny _ _ (forIn [] PUnit.unit _) _ _ s3
  rw [List.forIn_nil]
  exact wpAny_pure (wpAny_pure (wpAny_pure (wpAny_pure ⟨.ref s.heap.objs.size, _, I3, rfl, q2⟩)))
/-- a def called with its last arguments by name -/
def kwG {α : Type} (n m : Nat) (us ws : List α) : List α := if us.length = n ∧ ws.length = m then us ++ ws else []
def KB (K : PySem.W.Frag) (fd : FuncData) (ps ks : List Str) (n m : Nat) : Prop := KBinds K fd ps ks (kwG n m) (kwG n m)
theorem kbinds {K : PySem.W.Frag} {x qual : Str} {st : Stmt} {f : Addr} {fd : FuncData} {ps ks : List Str} {n m : Nat} (F : Fun K x qual st f fd) (hp : ps ≠ [])
    (h : ∀ (kV doc pm : Value) (an : Option Addr) (cdv ct : Value) (us ws : List Value), us.length = n → ws.length = m → bindArgs (PySem.W.fnOf x qual (defArgs st) (defBody st) (defScope st) .none kV doc pm an cdv ct) ⟨us, ks.zip ws⟩ = pure (ps.zip (us ++ ws))) : KB K fd ps ks n m := by
  obtain ⟨oc, od, kV, doc, pm, an, cdv, ct, osl, rfl, lk, hcd⟩ := F.ex
  constructor
  · intro s us ws _ hl
    unfold kwG at hl ⊢
    by_cases c : us.length = n ∧ ws.length = m
    · rw [if_pos c]
      exact .of_eq (h kV doc pm an cdv ct us ws c.1 c.2)
    · rw [if_neg c] at hl
      exact absurd (List.length_eq_zero_iff.mp hl.symm) hp
  · intro vs us zs ws r1 r2
    unfold kwG
    rw [r1.length, r2.length]
    by_cases c : us.length = n ∧ ws.length = m
    · rw [if_pos c, if_pos c]
      exact Vals.append r1 r2
    · rw [if_neg c, if_neg c]
      exact .nil
end Vf
namespace Vf
open PySem PySem.Spec PyProof.Rows L2
/-- a def as it stands, with one keyword-only parameter y whose default is the number n -/
def FunKw (K : PySem.W.Frag) (x qual : Str) (st : Stmt) (f : Addr) (y : Str) (n : Int) : Prop :=
  ∃ (oc : Value) (od : Option Addr) (D : Addr) (t : Tok) (doc pm : Value) (an : Option Addr) (cdv ct : Value) (osl : Array (Option Value)),
    K.lookup f = some ⟨oc, od, .func (PySem.W.fnOf x qual (defArgs st) (defBody st) (defScope st) .none (.ref D) doc pm an cdv ct), osl⟩ ∧ PySem.W.codeIn K cdv qual = true ∧ PySem.W.keepIn K (.ref f) = true ∧ PySem.W.nsIn K D y = some (some (.int n t))
def KwN (K : PySem.W.Frag) (fd : FuncData) (y : Str) (n : Int) : Prop := ∃ (D : Addr) (t : Tok), fd.kwdefaults = .ref D ∧ PySem.W.nsIn K D y = some (some (.int n t))
theorem FunKw.get {K : PySem.W.Frag} {x qual : Str} {st : Stmt} {f : Addr} {y : Str} {n : Int} (h : FunKw K x qual st f y n) : ∃ fd, Fun K x qual st f fd ∧ KwN K fd y n := by
  obtain ⟨oc, od, D, t, doc, pm, an, cdv, ct, osl, h1, h2, h3, h4⟩ := h
  exact ⟨_, fun_mk h1 h2 h3, D, t, rfl, h4⟩
/-- called without it -/
theorem kwDef {K : PySem.W.Frag} {x qual : Str} {st : Stmt} {f : Addr} {fd : FuncData} {y : Str} {n : Int} {ps : List Str} (m : Nat) (F : Fun K x qual st f fd) (hk : KwN K fd y n) (hm : ps.length = m + 1)
    (h : ∀ (D : Addr) (doc pm : Value) (an : Option Addr) (cdv ct : Value) (us : List Value) (u : Value), us.length = m → KwChain D [(y, u)] (bindArgs (PySem.W.fnOf x qual (defArgs st) (defBody st) (defScope st) .none (.ref D) doc pm an cdv ct) ⟨us, []⟩) (ps.zip (us ++ [u]))) :
    ∃ ds, Vals [.int n] ds ∧ Binds K fd ps ds := by
  obtain ⟨oc, od, kV, doc, pm, an, cdv, ct, osl, rfl, lk, hcd⟩ := F.ex
  obtain ⟨D, t, e, hn⟩ := hk
  have e : kV = .ref D := e
  subst e
  refine ⟨[.int n t], .cons ⟨_, rfl⟩ .nil, fun s us X hl => BindsTo.of_looks fun M => KwChain.looks X (fun q hq => ?_) (h D doc pm an cdv ct us (.int n t) ?_)⟩
  · rw [List.mem_singleton.mp hq]
    exact hn
  · rw [List.length_append, hm] at hl
    exact Nat.succ.inj hl
end Vf
namespace Vf
open PySem L2
section
variable {J : It} {n : Nat} {G : Hp → Prop} {Y : Nat → Hp → V → Hp → Prop}
theorem dcT_it (w : Walk J n G Y) {g : TG} {tt : TT} {tk te : TE} {vs : List Nat} {σ : L2.St} {H1 : Hp} {D : Addr} {Qd : Hp → Prop} (Pv : Nat → Hp → Prop) (h0 : Pv 0 (upd H1 D (.dT []))) (hG : ∀ i H, i ≤ n → Pv i H → G H)
    (hs : ∀ i x H H', i < n → Pv i H → Y i H x H' → g x (wipe σ vs) H' fun σ2 H2 => wipe σ2 vs = wipe σ vs ∧ tt σ2 H2 fun b H3 =>
      if b = true then tk σ2 H3 fun y H4 => te σ2 H4 fun z H5 => ∃ (kvs : List (List Key × V)) (k : List Key) (t : Addr), y = .ref t ∧ H5 t = some (.tup (k.map kV)) ∧ H5 D = some (.dT kvs) ∧ kvs.length < sizeLine ∧ Pv (i + 1) (upd H5 D (.dT (putK kvs k z))) else Pv (i + 1) H3) (hd : ∀ H, Pv n H → Qd H) :
    ∃ W : Nat → Nat → Hp → Prop, (∃ m, W 0 m (upd H1 D (.dT []))) ∧ ∀ i m H, W i m H →
      (J.stop i H ∧ Qd H) ∨ (J.go i H ∧ ∃ Nx : Hp → Prop, (∀ H', Nx H' → ∃ m', m' < m ∧ W (i + 1) m' H') ∧ ∀ x H', J.yld i H x H' → g x (wipe σ vs) H' fun σ2 H2 => wipe σ2 vs = wipe σ vs ∧ tt σ2 H2 fun b H3 =>
        if b = true then tk σ2 H3 fun y H4 => te σ2 H4 fun z H5 => ∃ (kvs : List (List Key × V)) (k : List Key) (t : Addr), y = .ref t ∧ H5 t = some (.tup (k.map kV)) ∧ H5 D = some (.dT kvs) ∧ kvs.length < sizeLine ∧ Nx (upd H5 D (.dT (putK kvs k z))) else Nx H3) := by
  refine ⟨fun i m H => m = n - i ∧ i ≤ n ∧ Pv i H, ⟨n, by simp, Nat.zero_le _, h0⟩, ?_⟩
  rintro i m H ⟨rfl, hi, p⟩
  have q := hG i H hi p
  by_cases hlt : i < n
  · refine .inr ⟨w.goes i H hlt q, Pv (i + 1), fun H' p' => ⟨n - (i + 1), by omega, rfl, hlt, p'⟩, fun x H' y => hs i x H H' hlt p (w.yields i H x H' hlt q y)⟩
  · have e : i = n := by omega
    subst e
    exact .inl ⟨w.stops H q, hd H p⟩
end
end Vf

namespace Vf
open PySem PySem.Spec PyProof.Rows L2
/-! ### several except clauses, some with a name -/
/-- what the clauses wish of an exception of the body, one after the other; some i: the name is slot i's -/
def wMas (K : PySem.W.Frag) (Wout : WX) (D : Ends) : List (Value × Option Nat × (Addr → Value → Option Addr → TS)) → WX
  | [] => Wout
  | (c, none, ts) :: r => fun cls d σ H => ∃ b, PySem.W.exmOne K cls c = some b ∧ (b = true → ∀ a, H a = none → ts a cls d D σ H) ∧ (b = false → wMas K Wout D r cls d σ H)
  | (c, some i, ts) :: r => fun cls d σ H => ∃ b, PySem.W.exmOne K cls c = some b ∧ (b = true → ∀ a, H a = none → ts a cls d { nx := fun σ' H' => D.nx (σ'.set i none) H', rt := D.rt, bk := fun σ' H' => D.bk (σ'.set i none) H', ct := fun σ' H' => D.ct (σ'.set i none) H' } (σ.set i (some (.ref a))) H) ∧ (b = false → wMas K Wout D r cls d σ H)
inductive HdsAs (X : Cx) : List ExceptHandler → List (Value × Option Nat × (Addr → Value → Option Addr → TS)) → Prop
  | nil : HdsAs X [] []
  | cons {x : Str} {c : Value} {ts : Addr → Value → Option Addr → TS} {b₀ : Stmt} {suite : List Stmt} {np pos' : Pos} {hds : List ExceptHandler} {l : List (Value × Option Nat × (Addr → Value → Option Addr → TS))} (hc : Names X x c)
      (hsu : ∀ (a : Addr) (oe : Obj) (cls : Value) (d : Option Addr) (pn : List (Addr × Obj)), Zc cls d oe → (∃ vs, oe.data = .fields vs) → PSs (X.suite a ((a, oe) :: pn)) (b₀ :: suite) (ts a cls d)) (r : HdsAs X hds l) :
      HdsAs X (.ExceptHandler (some (.Name x np)) none (b₀ :: suite) pos' :: hds) ((c, none, ts) :: l)
  | consA {x n : Str} {i : Nat} {c : Value} {ts : Addr → Value → Option Addr → TS} {b₀ : Stmt} {suite : List Stmt} {np pos' : Pos} {hds : List ExceptHandler} {l : List (Value × Option Nat × (Addr → Value → Option Addr → TS))} (hi : X.N[i]? = some n) (hln : X.env.kindOf n = some .local) (hc : Names X x c)
      (hsu : ∀ (a : Addr) (oe : Obj) (cls : Value) (d : Option Addr) (pn : List (Addr × Obj)), Zc cls d oe → (∃ vs, oe.data = .fields vs) → PSs (X.suite a ((a, oe) :: pn)) (b₀ :: suite) (ts a cls d)) (r : HdsAs X hds l) :
      HdsAs X (.ExceptHandler (some (.Name x np)) (some n) (b₀ :: suite) pos' :: hds) ((c, some i, ts) :: l)
section
variable {X : Cx} {body : List Stmt} {h₀ : ExceptHandler} {hds : List ExceptHandler} {l : List (Value × Option Nat × (Addr → Value → Option Addr → TS))} {pos : Pos} {tb : WX → TS} {Wout : WX}
theorem ps_try_mas (hs : X.stack = X.env :: X.outer) (hf : X.env.frame = some X.env.locals) (hN : X.N.Nodup) (tk : Takes X Wout)
    (hb : ∀ (W : WX) (pn : List (Addr × Obj)) (xe : Value → Shared → Prop), Takes (X.tr pn xe) W → PassesOwn (model X.prog X.w) X.A X.env xe → PSs (X.tr pn xe) body (tb W))
    (hh : HdsAs X (h₀ :: hds) l) : PS X (.Try body (h₀ :: hds) [] [] pos) (fun D σ H => tb (wMas X.K Wout D l) D σ H) := by
  refine ⟨fun pins s σ H D I h => ?_⟩
  have ok := I.ok
  have hfr : X.A.frames = some (X.env :: X.outer) := by rw [ok.frames, hs]
  refine wpAny_Try_except ?_
  refine wpAny_mono ((hb (wMas X.K Wout D l) (X.pn ++ pins) (fun e s₁ => wpAny (model X.prog X.w) X.A (noteFrame e X.env) (fun _ s₂ => wpAny (model X.prog X.w) X.A (setFlight e none) (fun _ s₃ =>
    wpAny (model X.prog X.w) X.A (handleBy e X.env (h₀ :: hds)) (SP X pins D) X.xe s₃) X.xe s₂) X.xe s₁) (fun u s' xx => ?_) PassesOwn.looking).run [] s σ H D (I.toTry _) h) (fun f s1 hsp => ?_) (fun e s1 he => he)
  · -- the catch
    obtain ⟨a, B, sI, pins', σ', H', cls, d, rfl, J', nb, up, sky, na, os, ag, w⟩ := xx
    have J : Inv X pins σ' H' sI := J'.ofTry ok
    have sky' : Sky B (X.env :: X.outer) a (Zc cls d) X.env.locals s'.heap := by rw [← hs]; exact sky
    show wpAny (model X.prog X.w) X.A (noteFrame (.ref a) X.env) _ _ _
    refine Sky.land Zc.steady hfr hf sky' fun h3 fl3 up3 => ?_
    have J3 : Inv X pins σ' H' { s' with heap := h3 } := J.landed nb fl3.1 (up.trans up3) os ag
    obtain ⟨oe3, vs3, he3, hz3, hd3⟩ := fl3.there
    have notFr : ∀ {h : Heap} {o : Obj} {vs : Array Value}, h.FunFrames B (X.env :: X.outer) → h.get? a = some o → o.data = .fields vs → a ∉ frs (X.env :: X.outer) := fun {h o vs} ff e dd hm => by
      obtain ⟨_, o', e', hnf⟩ := ff.mem hm
      rw [e] at e'; cases e'
      exact hnf _ dd
    have nfr := notFr fl3.2.2.1 he3 hd3
    have nL : a ≠ X.env.locals := fun z => nfr (List.mem_filterMap.mpr ⟨X.env, List.mem_cons_self, by rw [hf, z]⟩)
    have nF : a ∉ X.fs := fun hm => by
      obtain ⟨e, he, q⟩ := List.mem_filterMap.mp hm
      exact nfr (List.mem_filterMap.mpr ⟨e, List.mem_cons_of_mem _ he, q⟩)
    have S3 := J3.suite he3 hd3 na nL nF
    have LT : PySem.W.Looks (model X.prog X.w) h3 (typeOf (.ref a)) cls := fun A Q E s k q => wpAny_typeOf_ref (k _ _ he3) (by rw [hz3.1]; exact q)
    have test : ∀ {x : Str} {c : Value} {np : Pos} {Q : Value → Shared → Prop} {E : Value → Shared → Prop}, Names X x c → Q c { s' with heap := h3 } → wpAny (model X.prog X.w) (X.A.mark (some (.ref a))) (eval (.Name x np) X.env) Q E { s' with heap := h3 } := fun {x c np Q E} hc q => by
      obtain ⟨hg, hdbg, hm | ⟨hm, hv, hnn⟩⟩ := hc
      · exact ld_glob (X := X.suite a ((a, oe3) :: (X.pn ++ pins))) S3 hg hm q hdbg
      · exact ld_blt (X := X.suite a ((a, oe3) :: (X.pn ++ pins))) S3 hg hm hv q hnn hdbg
    have go : ∀ {hds' : List ExceptHandler} {l' : List (Value × Option Nat × (Addr → Value → Option Addr → TS))}, HdsAs X hds' l' → wMas X.K Wout D l' cls d σ' H' →
        wpAny (model X.prog X.w) X.A (handleBy (.ref a) X.env hds') (SP X pins D) X.xe { s' with heap := h3 } := by
      intro hds' l' hk
      induction hk with
      | nil =>
        intro w
        refine wpAny_handleBy_nil ?_
        obtain ⟨k1, k2, k3, oe, vs, T, oT, ts', he, hz, hd, h1, hr⟩ := id fl3
        unfold PySem.passOn
        refine wpAny_bind (wpAny_field he hd h1 ?_)
        rw [if_neg (show ¬ ((Value.ref T == Value.none) = true) from by simp)]
        have fin : wpAny (model X.prog X.w) X.A (setFlight (.ref a) X.env.frame) (fun _ s4 => wpAny (model X.prog X.w) X.A (throw (.ref a) : Sem Flow) (SP X pins D) X.xe s4) X.xe { s' with heap := h3 } := by
          rw [hf]
          refine HandSPX.setFlight_upZ fl3 fun h4 hh4 up4 => wpAny_throw (tk _ _ ?_)
          exact ⟨a, B, sI, pins, σ', H', cls, d, rfl, J, nb, (up.trans up3).trans up4, .inr (.inr (by rw [hs]; exact hh4)), na, os, ag, w⟩
        first
          | exact wpAny_bind (wpAny_pure (wpAny_bind fin))
          | exact wpAny_bind fin
      | @cons x c ts b₀ suite np pos' hds2 l2 hc hsu r ih =>
        intro w
        obtain ⟨b, hb1, hyes, hno⟩ := w
        refine wpAny_handleBy_cons (codeAny_handlers_test ?_) (by intro q; cases q)
        have LM := PySem.W.exm_one (M := model X.prog X.w) (J3.kIn) LT hb1
        refine test hc (LM.here ?_)
        cases b with
        | true =>
          refine codeAny_handlers_suite ?_
          refine HandSPX.lands_againZ fl3 fun h4 fl4 up4 => ?_
          have J4 : Inv X pins σ' H' { s' with heap := h4 } := J.landed nb fl4.1 ((up.trans up3).trans up4) os ag
          obtain ⟨oe4, vs4, he4, hz4, hd4⟩ := fl4.there
          have S4 := J4.suite he4 hd4 na nL nF
          refine wpAny_mono ((hsu a oe4 cls d (X.pn ++ pins) hz4 ⟨_, hd4⟩).run [] _ _ H' _ S4 (hyes rfl a na)) (fun f s6 hsp => ?_) (fun _ _ z => False.elim z)
          cases f with
          | next =>
            obtain ⟨σ6, H6, S6, q6⟩ := hsp
            exact ⟨_, _, S6.unsuite ok, q6⟩
          | brk =>
            obtain ⟨σ6, H6, S6, q6⟩ := hsp
            exact ⟨_, _, S6.unsuite ok, q6⟩
          | cont =>
            obtain ⟨σ6, H6, S6, q6⟩ := hsp
            exact ⟨_, _, S6.unsuite ok, q6⟩
          | ret u =>
            obtain ⟨v6, σ6, H6, S6, r6, q6⟩ := hsp
            exact ⟨_, _, _, S6.unsuite ok, r6, q6⟩
        | false =>
          show wpAny _ X.A (handleBy (.ref a) X.env hds2) _ _ _
          exact ih (hno rfl)
      | @consA x n i c ts b₀ suite np pos' hds2 l2 hi hln hc hsu r ih =>
        intro w
        obtain ⟨b, hb1, hyes, hno⟩ := w
        have hloc : Loc X.env.scope n := .inl hln
        refine wpAny_handleBy_cons (codeAny_handlers_test ?_) (by intro q; cases q)
        have LM := PySem.W.exm_one (M := model X.prog X.w) (J3.kIn) LT hb1
        refine test hc (LM.here ?_)
        cases b with
        | true =>
          refine codeAny_handlers_suite_as ?_
          refine HandSPX.lands_againZ fl3 fun h4 fl4 up4 => ?_
          have J4 : Inv X pins σ' H' { s' with heap := h4 } := J.landed nb fl4.1 ((up.trans up3).trans up4) os ag
          obtain ⟨oe4, vs4, he4, hz4, hd4⟩ := fl4.there
          have S4 := J4.suite he4 hd4 na nL nF
          refine store_ok (X := X.suite a ((a, oe4) :: (X.pn ++ pins))) (v := .ref a) S4 hN hi hloc rfl (fun s5 S5 => ?_) (.inr hln)
          refine wpAny_mono ((hsu a oe4 cls d (X.pn ++ pins) hz4 ⟨_, hd4⟩).run [] s5 _ H' _ S5 (hyes rfl a na)) (fun f s6 hsp => ?_) (fun _ _ z => False.elim z)
          have end_ : ∀ {σ6 : L2.St} {H6 : Hp} {Q : Shared → Prop}, Inv (X.suite a ((a, oe4) :: (X.pn ++ pins))) [] σ6 H6 s6 → (∀ s7, Inv X pins (σ6.set i none) H6 s7 → Q s7) →
              wpAny (model X.prog X.w) X.A (do bindName X.env n .none; unbindBehindTheSuite X.env n pos') (fun _ s7 => Q s7) X.xe s6 := fun {σ6 H6 Q} S6 hq => gone_ok (S6.unsuite ok) hN hi hln hq
          cases f with
          | next =>
            obtain ⟨σ6, H6, S6, q6⟩ := hsp
            exact end_ S6 fun s7 J7 => ⟨_, _, J7, q6⟩
          | brk =>
            obtain ⟨σ6, H6, S6, q6⟩ := hsp
            exact end_ S6 fun s7 J7 => ⟨_, _, J7, q6⟩
          | cont =>
            obtain ⟨σ6, H6, S6, q6⟩ := hsp
            exact end_ S6 fun s7 J7 => ⟨_, _, J7, q6⟩
          | ret u =>
            obtain ⟨v6, σ6, H6, S6, r6, q6⟩ := hsp
            exact end_ S6 fun s7 J7 => ⟨_, _, _, J7, r6, q6⟩
        | false =>
          show wpAny _ X.A (handleBy (.ref a) X.env hds2) _ _ _
          exact ih (hno rfl)
    exact go hh w
  · cases f with
    | next =>
      obtain ⟨σ', H', J', q⟩ := hsp
      exact wpAny_execs_nil ⟨σ', H', J'.ofTry ok, q⟩
    | brk =>
      obtain ⟨σ', H', J', q⟩ := hsp
      exact ⟨σ', H', J'.ofTry ok, q⟩
    | cont =>
      obtain ⟨σ', H', J', q⟩ := hsp
      exact ⟨σ', H', J'.ofTry ok, q⟩
    | ret u =>
      obtain ⟨v, σ', H', J', r, q⟩ := hsp
      exact ⟨v, σ', H', J'.ofTry ok, r, q⟩
end
section
variable {X : Cx} {CX : CXT} {k : Nat} {f : Addr} {fd : FuncData} {ps ks : List Str} {sp : Sp} {E : L2.St → XK} {x : Str} {p pos : Pos} {e : Expr} {es : List Expr} {kws : List Keyword} {t tk : TA} {g : List Value → List Value → List Value} {gV : List V → List V → List V}
/-- a call by keyword, the wish of exceptions may look at the slots -/
def tCallKS (sp : Sp) (gV : List V → List V → List V) (E : L2.St → XK) (t tk : TA) : TE := fun σ H Q => t σ H fun vs H1 => tk σ H1 fun zs H2 => sp (gV vs zs) H2 Q (E σ)
theorem run_fnkS {pins : List (Addr × Obj)} {σ : L2.St} {H : Hp} {s : Shared} {Q : VK} {us ws : List Value} {vs zs : List V} (F : FnOk X.prog X.w X.K X.mg X.base CX k f fd ps sp) (hr : Room k X.A) (hb : KBinds X.K fd ps ks g gV) (hx : PassesAt CX X σ (E σ))
    (I : Inv X pins σ H s) (r : Vals vs us) (rz : Vals zs ws) (h : sp (gV vs zs) H Q (E σ)) : wpAny (model X.prog X.w) X.A (call (.ref f) us (ks.zip ws)) (EP X pins σ Q) X.xe s := by
  have r2 := hb.rel r rz
  have hl : (g us ws).length = ps.length := by rw [← r2.length]; exact F.len _ _ _ _ h
  refine wpAny_call (codeAny_mono (F.run X.A X.stack s H ⟨us, ks.zip ws⟩ (g us ws) (gV vs zs) Q (E σ) hr I.env0 (hb.to s us ws I.kIn hl) r2 h) fun r s' hq => ?_)
  cases r with
  | error e => exact hx pins H s e s' I hq
  | ok fl =>
    cases fl with
    | ret u => exact I.after hq
    | next => exact False.elim hq
    | brk => exact False.elim hq
    | cont => exact False.elim hq
theorem pe_callKS (F : FnOk X.prog X.w X.K X.mg X.base CX k f fd ps sp) (hr : Room k X.A) (hg : Gl X x) (hm : X.mg x = some (.ref f)) (hk : PySem.W.keepIn X.K (.ref f) = true) (hb : KBinds X.K fd ps ks g gV) (hx : ∀ σ, PassesAt CX X σ (E σ))
    (ha : PA X (e :: es) t) (hkw : PK X kws tk) (hall : (backToKw pos (keywordEach kws X.env)).all (·.1.isSome) = true := by rfl) (hks : (backToKw pos (keywordEach kws X.env)).filterMap (·.1) = ks := by rfl)
    (hdb : (x == ("__debug__" : Str)) = false := by decide) (he : starEach (e :: es) X.env = (false, eval e X.env) :: starEach es X.env := by rfl)
    (hpl : ((backTo pos (starEach (e :: es) X.env)).any (·.1) || (backToKw pos (keywordEach kws X.env)).any (·.1.isNone)) = false := by rfl) :
    PE X (.Call (.Name x p) (e :: es) kws pos) (tCallKS sp gV E t tk) := by
  refine ⟨fun pins s σ H Q I h => ?_⟩
  refine wpAny_Call_Name_kw (ld_glob I hg hm ?_ hdb)
  refine PySem.W.callWith_KW (h₀ := X.base) I.ok.mod.kin hk hall (thn (ha.run pos pins s σ H _ I h) fun us s1 ⟨vs, H1, I1, r, q⟩ => ?_) hpl he
  refine thn (hkw.run pos pins s1 σ H1 _ I1 q) fun ws s2 ⟨zs, H2, I2, rz, q2⟩ => ⟨I2.kIn, ?_⟩
  rw [hks]
  exact run_fnkS F hr hb (hx σ) I2 r rz q2
end
end Vf

namespace Vf
open PySem L2
theorem exm_other {K : PySem.W.Frag} {c d : Addr} (b : PySem.W.subIn K (.ref d) (.type "BaseException") = some true) (i : PySem.W.isClsIn K d = true) (t : PySem.W.typeIn K (.ref d) = some (.type "type")) (s : PySem.W.subIn K (.ref c) (.ref d) = some false) (ne : c ≠ d) :
    PySem.W.exmOne K (.ref c) (.ref d) = some false := by
  unfold PySem.W.isClsIn at i
  simp [PySem.W.exmOne, PySem.W.kitCls, b, i, t, s, ne]
end Vf

namespace Vf
open PySem L2
/-! ### one-way, symmetric and silent -/
theorem fD_rule {D : DD} (v : ValidN D) {r : S4} (h : r ∈ D.ru) : fD D (ix D.st r.1, ix D.st r.2.1) = (ix D.st r.2.2.1, ix D.st r.2.2.2) := by
  obtain ⟨i, hi⟩ := List.mem_iff_getElem?.mp h
  have k : (rks D)[i]? = some (ix D.st r.1, ix D.st r.2.1) := by unfold rks; rw [List.getElem?_map, hi]; rfl
  have w : (rvs D)[i]? = some (ix D.st r.2.2.1, ix D.st r.2.2.2) := by unfold rvs; rw [List.getElem?_map, hi]; rfl
  have il := (List.getElem?_eq_some_iff.mp k).1
  show meetOf (rks D) (rvs D) _ = _
  unfold meetOf
  rw [if_pos (List.mem_of_getElem? k), ← (List.getElem?_eq_some_iff.mp k).2, v.valid.nd.idxOf_getElem i il, List.getD_eq_getElem?_getD, w]
  rfl
theorem fD_none {D : DD} {k : Int × Int} (h : k ∉ rks D) : fD D k = k := by
  show meetOf _ _ _ = _
  unfold meetOf
  rw [if_neg h]
theorem rks_mem {D : DD} {k : Int × Int} (h : k ∈ rks D) : ∃ r ∈ D.ru, (ix D.st r.1, ix D.st r.2.1) = k := List.mem_map.mp h
def oneB (D : DD) : Bool := D.ru.all fun r => decide (r.1 = r.2.2.1)
def mirB (D : DD) (r : S4) : Bool := decide (fD D (ix D.st r.2.1, ix D.st r.1) = (ix D.st r.2.2.2, ix D.st r.2.2.1))
def symB (D : DD) : Bool := D.ru.all (mirB D)
def allP (n : Nat) (c : Nat → Nat → Bool) : Bool := (List.range n).all fun s => (List.range n).all fun t => c s t
theorem allP_iff {n : Nat} {c : Nat → Nat → Bool} : allP n c = true ↔ ∀ s t, s < n → t < n → c s t = true := by
  unfold allP
  rw [List.all_eq_true]
  constructor
  · intro h s t hs ht
    exact List.all_eq_true.mp (h s (List.mem_range.mpr hs)) t (List.mem_range.mpr ht)
  · intro h s hs
    exact List.all_eq_true.mpr fun t ht => h s t (List.mem_range.mp hs) (List.mem_range.mp ht)
def c1 (D : DD) (s t : Nat) : Bool := decide ((fD D ((s : Int), (t : Int))).1 = (s : Int))
def c2 (D : DD) (s t : Nat) : Bool := decide (fD D ((t : Int), (s : Int)) = ((fD D ((s : Int), (t : Int))).2, (fD D ((s : Int), (t : Int))).1))
theorem ix_nat {D : DD} {s : Str} (h : s ∈ D.st) : ∃ i : Nat, ix D.st s = (i : Int) ∧ i < D.st.length := ⟨D.st.idxOf s, rfl, List.idxOf_lt_length_of_mem h⟩
theorem one_eq {D : DD} (v : ValidN D) : allP D.st.length (c1 D) = oneB D := by
  rw [Bool.eq_iff_iff, allP_iff]
  unfold oneB
  rw [List.all_eq_true]
  constructor
  · intro h r hr
    obtain ⟨m1, m2, m3, m4⟩ := v.rum r hr
    obtain ⟨i, e1, l1⟩ := ix_nat m1
    obtain ⟨j, e2, l2⟩ := ix_nat m2
    have a := h i j l1 l2
    unfold c1 at a
    rw [← e1, ← e2, fD_rule v hr, decide_eq_true_eq] at a
    rw [decide_eq_true_eq]
    exact (ix_inj m3 m1 a).symm
  · intro h s t hs ht
    unfold c1
    rw [decide_eq_true_eq]
    by_cases k : (((s : Nat) : Int), ((t : Nat) : Int)) ∈ rks D
    · obtain ⟨r, hr, e⟩ := rks_mem k
      rw [← e, fD_rule v hr]
      have a := of_decide_eq_true (h r hr)
      have e1 := (Prod.mk.inj e).1
      show ix D.st r.2.2.1 = _
      rw [← a, e1]
    · rw [fD_none k]
theorem sym_eq {D : DD} (v : ValidN D) : allP D.st.length (c2 D) = symB D := by
  rw [Bool.eq_iff_iff, allP_iff]
  unfold symB
  rw [List.all_eq_true]
  constructor
  · intro h r hr
    obtain ⟨m1, m2, m3, m4⟩ := v.rum r hr
    obtain ⟨i, e1, l1⟩ := ix_nat m1
    obtain ⟨j, e2, l2⟩ := ix_nat m2
    have a := h i j l1 l2
    unfold c2 at a
    rw [← e1, ← e2, fD_rule v hr] at a
    exact a
  · intro h s t hs ht
    unfold c2
    rw [decide_eq_true_eq]
    by_cases k : (((s : Nat) : Int), ((t : Nat) : Int)) ∈ rks D
    · obtain ⟨r, hr, e⟩ := rks_mem k
      have a := of_decide_eq_true (h r hr)
      obtain ⟨e1, e2⟩ := Prod.mk.inj e
      rw [← e, fD_rule v hr, ← e1, ← e2]
      exact a
    · rw [fD_none k]
      by_cases k2 : (((t : Nat) : Int), ((s : Nat) : Int)) ∈ rks D
      · obtain ⟨r, hr, e⟩ := rks_mem k2
        have a := of_decide_eq_true (h r hr)
        obtain ⟨e1, e2⟩ := Prod.mk.inj e
        rw [e1, e2, fD_none k] at a
        rw [← e, fD_rule v hr, e1, e2]
        obtain ⟨a1, a2⟩ := Prod.mk.inj a
        rw [← a1, ← a2]
      · rw [fD_none k2]
/-! ### other rules -/
theorem ValidN.setRu {D : DD} (v : ValidN D) {ru : List S4} (m : ∀ r ∈ ru, r.1 ∈ D.st ∧ r.2.1 ∈ D.st ∧ r.2.2.1 ∈ D.st ∧ r.2.2.2 ∈ D.st) (nd : (ru.map fun x => (x.1, x.2.1)).Nodup) : ValidN { D with ru := ru } :=
  ⟨v.len, v.n400, v.nm, v.nd, v.ou, v.n8, v.inm, v.ind, v.n10, v.ldm, m, nd⟩
structure RuOk (D : DD) (b : Nat) (ru : List S4) : Prop where
  mem : ∀ r ∈ ru, r.1 ∈ D.st ∧ r.2.1 ∈ D.st ∧ r.2.2.1 ∈ D.st ∧ r.2.2.2 ∈ D.st
  nd : (ru.map fun x => (x.1, x.2.1)).Nodup
  few : ru.length ≤ b
def stay (r : S4) : S4 := (r.1, r.2.1, r.1, r.2.2.2)
def ltS (a b : Str) : Bool := decide (a.cps.toList < b.cps.toList)
def flip (r : S4) : S4 := (r.2.1, r.1, r.2.2.2, r.2.2.1)
theorem lt_irr (a : Str) : ltS a a = false := decide_eq_false (List.lt_irrefl _)
theorem lt_asy {a b : Str} (h : ltS a b = true) : ltS b a = false := decide_eq_false fun k => List.lt_irrefl _ (List.lt_trans (of_decide_eq_true h) k)
def halfs (ru : List S4) : List S4 := ru.filter fun r => ltS r.1 r.2.1
def diag (D : DD) (nm : Str) : S4 := (nm, nm, D.st.getD 0 Str.empty, D.st.getD 0 Str.empty)
def both (D : DD) (ru : List S4) (k : Nat) : List S4 := (halfs ru ++ (halfs ru).map flip) ++ (D.st.take k).map (diag D)
theorem RuOk.base {D : DD} (v : ValidN D) (h : D.ru.length ≤ 36) : RuOk D 36 D.ru := ⟨v.rum, v.rnd, h⟩
theorem RuOk.more {D : DD} {b c : Nat} {ru : List S4} (h : RuOk D b ru) (l : b ≤ c) : RuOk D c ru := ⟨h.mem, h.nd, Nat.le_trans h.few l⟩
theorem RuOk.stay {D : DD} (v : ValidN D) (h : D.ru.length ≤ 36) : RuOk D 36 (D.ru.map Vf.stay) := by
  refine ⟨fun r hr => ?_, ?_, by rw [List.length_map]; exact h⟩
  · obtain ⟨r0, h0, rfl⟩ := List.mem_map.mp hr
    obtain ⟨a, b, c, d⟩ := v.rum r0 h0
    exact ⟨a, b, a, d⟩
  · rw [List.map_map]
    exact v.rnd
theorem inj_nodup {α β : Type} {f : α → β} {l : List α} (h : ∀ a ∈ l, ∀ b ∈ l, f a = f b → a = b) (nd : l.Nodup) : (l.map f).Nodup := by
  unfold List.Nodup at *
  rw [List.pairwise_map]
  exact nd.imp_of_mem fun {a b} ha hb ne e => ne (h a ha b hb e)
theorem RuOk.both {D : DD} (v : ValidN D) {ru : List S4} (o : RuOk D 36 ru) (s0 : 1 ≤ D.st.length) (s6 : D.st.length ≤ 6) (k : Nat) : RuOk D 100 (Vf.both D ru k) := by
  have h := o.few
  have hs : ∀ r ∈ halfs ru, r ∈ ru ∧ ltS r.1 r.2.1 = true := fun r hr => List.mem_filter.mp hr
  have z0 : D.st.getD 0 Str.empty ∈ D.st := by
    rw [List.getD_eq_getElem?_getD, List.getElem?_eq_getElem (show 0 < D.st.length by omega)]
    exact List.getElem_mem _
  have hn : ((halfs ru).map fun x => (x.1, x.2.1)).Nodup := by
    have := o.nd
    unfold List.Nodup at *
    rw [List.pairwise_map] at *
    exact this.filter _
  refine ⟨fun r hr => ?_, ?_, ?_⟩
  · unfold Vf.both at hr
    rw [List.mem_append, List.mem_append] at hr
    rcases hr with (hr | hr) | hr
    · exact o.mem r (hs r hr).1
    · obtain ⟨r0, h0, rfl⟩ := List.mem_map.mp hr
      obtain ⟨a, b, c, d⟩ := o.mem r0 (hs r0 h0).1
      exact ⟨b, a, d, c⟩
    · obtain ⟨nm, h0, rfl⟩ := List.mem_map.mp hr
      have := List.mem_of_mem_take h0
      exact ⟨this, this, z0, z0⟩
  · unfold Vf.both
    rw [List.map_append, List.map_append, List.map_map, List.map_map, List.nodup_append, List.nodup_append]
    refine ⟨⟨hn, ?_, ?_⟩, ?_, ?_⟩
    · have e : (halfs ru).map ((fun x : S4 => (x.1, x.2.1)) ∘ flip) = ((halfs ru).map fun x => (x.1, x.2.1)).map fun p => (p.2, p.1) := by rw [List.map_map]; rfl
      rw [e]
      exact inj_nodup (fun a _ b _ e => Prod.ext (Prod.mk.inj e).2 (Prod.mk.inj e).1) hn
    · intro x hx y hy e
      obtain ⟨r, hr, rfl⟩ := List.mem_map.mp hx
      obtain ⟨r2, hr2, rfl⟩ := List.mem_map.mp hy
      have a := (hs r hr).2
      have b := (hs r2 hr2).2
      obtain ⟨e1, e2⟩ := Prod.mk.inj e
      change r.1 = r2.2.1 at e1
      change r.2.1 = r2.1 at e2
      rw [e1, e2, lt_asy b] at a
      cases a
    · refine inj_nodup (fun a _ b _ e => (Prod.mk.inj e).1) ?_
      have := v.nd
      exact List.Pairwise.sublist (List.take_sublist k D.st) this
    · intro x hx y hy e
      obtain ⟨nm, _, rfl⟩ := List.mem_map.mp hy
      rw [List.mem_append] at hx
      rcases hx with hx | hx
      · obtain ⟨r, hr, rfl⟩ := List.mem_map.mp hx
        have a := (hs r hr).2
        obtain ⟨e1, e2⟩ := Prod.mk.inj e
        change r.1 = nm at e1
        change r.2.1 = nm at e2
        rw [e1, e2, lt_irr] at a
        cases a
      · obtain ⟨r, hr, rfl⟩ := List.mem_map.mp hx
        have a := (hs r hr).2
        obtain ⟨e1, e2⟩ := Prod.mk.inj e
        change r.2.1 = nm at e1
        change r.1 = nm at e2
        rw [e1, e2, lt_irr] at a
        cases a
  · have l1 : (halfs ru).length ≤ ru.length := List.length_filter_le ..
    unfold Vf.both
    rw [List.length_append, List.length_append, List.length_map, List.length_map, List.length_take]
    omega
theorem RuOk.set {D : DD} {b : Nat} {ru : List S4} (h : RuOk D b ru) {i : Nat} {r : S4} (hr : ru[i]? = some r) {nm : Str} (hn : nm ∈ D.st) : RuOk D b (ru.set i (r.1, r.2.1, r.2.2.1, nm)) := by
  have m := h.mem r (List.mem_of_getElem? hr)
  refine ⟨fun x hx => ?_, ?_, by rw [List.length_set]; exact h.few⟩
  · rcases List.mem_or_eq_of_mem_set hx with hx | hx
    · exact h.mem x hx
    · rw [hx]; exact ⟨m.1, m.2.1, m.2.2.1, hn⟩
  · have e : (ru.set i (r.1, r.2.1, r.2.2.1, nm)).map (fun x => (x.1, x.2.1)) = ru.map fun x => (x.1, x.2.1) := by
      rw [List.map_set]
      apply List.ext_getElem?
      intro k
      by_cases c : i = k
      · subst c
        rw [List.getElem?_set_self (by rw [List.length_map]; exact (List.getElem?_eq_some_iff.mp hr).1), List.getElem?_map, hr]
        rfl
      · rw [List.getElem?_set_ne c]
    rw [e]
    exact h.nd
end Vf
namespace Vf
open PySem PySem.W L2
theorem eqv_nilB (ds : List PyData) : PyData.eqv (.list ds) (.list []) = ds.isEmpty := by
  cases ds <;> simp [PyData.eqv, PyData.eqvAll]
theorem pl_tups (ws : List (List Int)) : (PyData.list (ws.map tD)).plain = true ∧ (PyData.list (ws.map tD)).depth ≤ 64 := by
  have h := datum_pl (α := List (Tup Int)) (ws.map fun z => (⟨z⟩ : Tup Int)) (by decide)
  have e : Datum.toD (ws.map fun z => (⟨z⟩ : Tup Int)) = PyData.list (ws.map tD) := by
    show PyData.list ((ws.map fun z => (⟨z⟩ : Tup Int)).map Datum.toD) = _
    rw [List.map_map]
    rfl
  rw [e] at h
  exact h
theorem pl_nil : (PyData.list []).plain = true ∧ (PyData.list []).depth ≤ 64 := pl_tups []
/-- places == [], places != [] -/
theorem eq_none {K : PySem.W.Frag} {H : Hp} {l u : Addr} {xs : List V} {ws : List (List Int)} {neg : Bool} {Q : VK} (hl : H l = some (.lst xs)) (t : Tups encIs H xs ws) (hu : H u = some (.lst [])) (q : Q (.bl (if neg then !ws.isEmpty else ws.isEmpty)) H) : rEqP K neg (.ref l) (.ref u) H Q := by
  refine ⟨_, _, .lst (SqL.of hl) (dpAll_tups t), .lst (SqL.of hu) .nil, pl_tups ws, pl_nil, ?_⟩
  rw [eqv_nilB, List.isEmpty_map]
  exact q
end Vf
namespace Vf
open PySem L2
/-- the rules that the law has so far -/
structure RulesAt (G H' : Hp) (pl dr : Addr) (ds : List Int) (lim : Int) (D : DD) (b : Nat) (R : Addr) (way : Int) (m : Int) : Prop where
  s : Same G H'
  pool : PoolX H' pl dr ds m
  m0 : 0 ≤ m
  mle : m ≤ lim
  rows : ∃ xr ru, H' R = some (.lst xr) ∧ Tups enc4 H' xr ru ∧ RuOk D b ru
  ne : R ≠ pl
  fresh : 1 < way → G R = none
theorem PoolX.nt {H : Hp} {pl dr : Addr} {ds : List Int} {m : Int} (P : PoolX H pl dr ds m) : ∀ t ys, H t = some (.tup ys) → t ∉ [pl] := fun t ys h z => by
  rw [List.mem_singleton.mp z, P.1] at h
  cases h
end Vf
namespace Vf
open PySem L2
/-- a new tuple behind the others of a comprehension -/
theorem tup_step {α : Type} {enc : α → List V} {H3 Ha : Hp} {C u : Addr} {acc : List V} {l : List α} {x : α} (hC : H3 C = none) (hacc : Ha C = some (.lst acc)) (sa : Same H3 Ha) (ta : Tups enc Ha acc l) (few : l.length ≤ 1000) (nu : Ha u = none) :
    ∃ a0, (upd Ha u (.tup (enc x))) C = some (.lst a0) ∧ a0.length < sizeLine ∧ ∃ a1, upd (upd Ha u (.tup (enc x))) C (.lst (a0 ++ [.ref u])) C = some (.lst a1) ∧ Same H3 (upd (upd Ha u (.tup (enc x))) C (.lst (a0 ++ [.ref u]))) ∧
      Tups enc (upd (upd Ha u (.tup (enc x))) C (.lst (a0 ++ [.ref u]))) a1 (l ++ [x]) := by
  have ne : C ≠ u := ne_of_none hacc nu
  have su := Vf.Same.new (o := .tup (enc x)) (Same.refl Ha) nu
  have nt : ∀ t ys, (upd Ha u (.tup (enc x))) t = some (.tup ys) → t ≠ C := fun t ys h e => by
    rw [e, su _ _ hacc] at h
    cases h
  refine ⟨acc, su _ _ hacc, Nat.lt_of_le_of_lt (show acc.length ≤ 1000 by rw [ta.1]; exact few) (by decide), _, upd_same, Vf.Same.chg (sa.trans su) hC, ?_⟩
  refine ((ta.same su).mono fun t ys h => ?_).snoc (t := u) ?_
  · rw [upd_ne (nt _ _ h)]
    exact h
  · rw [upd_ne (Ne.symm ne)]
    exact upd_same
end Vf
namespace Vf
open PySem PySem.W L2
/-- rules != [] -/
theorem ne_rules {K : PySem.W.Frag} {H : Hp} {l u : Addr} {xs : List V} {ru : List S4} {neg : Bool} {Q : VK} (hl : H l = some (.lst xs)) (t : Tups enc4 H xs ru) (hu : H u = some (.lst [])) (q : Q (.bl (if neg then !ru.isEmpty else ru.isEmpty)) H) : rEqP K neg (.ref l) (.ref u) H Q := by
  have h := datum_pl (α := List (T4 Str Str Str Str)) (ru.map t4) (by decide)
  have e : Datum.toD (ru.map t4) = PyData.list (ru.map fun r => Datum.toD (t4 r)) := by
    show PyData.list ((ru.map t4).map Datum.toD) = _
    rw [List.map_map]
    rfl
  rw [e] at h
  refine ⟨_, _, .lst (SqL.of hl) (dpAll_rus t), .lst (SqL.of hu) .nil, h, pl_nil, ?_⟩
  rw [eqv_nilB, List.isEmpty_map]
  exact q
end Vf
namespace Vf
open PySem L2
theorem Tups.setM {α : Type} {enc : α → List V} {H : Hp} {xs : List V} {l : List α} (h : Tups enc H xs l) (i : Nat) {t : Addr} {a : α} (ht : H t = some (.tup (enc a))) : Tups enc H (xs.set i (.ref t)) (l.set i a) := by
  refine ⟨by rw [List.length_set, List.length_set]; exact h.1, fun j b e => ?_⟩
  by_cases c : i = j
  · subst c
    have il : i < l.length := by
      have := (List.getElem?_eq_some_iff.mp e).1
      rw [List.length_set] at this
      exact this
    rw [List.getElem?_set_self il] at e
    obtain rfl : a = b := Option.some.inj e
    exact ⟨t, List.getElem?_set_self (by rw [h.1]; exact il), ht⟩
  · rw [List.getElem?_set_ne c] at e
    obtain ⟨u, h1, h2⟩ := h.2 j b e
    exact ⟨u, by rw [List.getElem?_set_ne c]; exact h1, h2⟩
theorem ixN_nat {n k : Nat} (h : k < n) : ixN n (k : Int) = some k := by
  unfold ixN
  rw [if_pos (Int.natCast_nonneg _), if_pos (by omega)]
  rfl
end Vf
namespace Vf
open PySem L2
theorem dec_int (x y : Int) : decide (V.int x = V.int y) = decide (x = y) := decide_eq_decide.mpr ⟨fun e => by injection e, fun e => by rw [e]⟩
theorem dec_pair (a b : Int × Int) : decide ([a.1, a.2] = [b.1, b.2]) = decide (a = b) := decide_eq_decide.mpr ⟨fun e => by
  obtain ⟨e1, e2⟩ := List.cons.inj e
  exact Prod.ext e1 (List.cons.inj e2).1, fun e => by rw [e]⟩
end Vf

namespace Vf
open PySem L2
theorem ix_seqK {X : Cx} {K : PySem.W.Frag} (h : X.K = K) : IxR X (rIxS K) := by
  subst h
  exact ix_seq
theorem mt_indexK {X : Cx} {K : PySem.W.Frag} (h : X.K = K) : MtR X "list.index" (rIndex K) := by
  subst h
  exact mt_index
theorem pe_bmK {X : Cx} {K : PySem.W.Frag} {o e : Expr} {es : List Expr} {to : TE} {t : TA} {name : Str} {apos cpos : Pos} {T id : String} {r : V → List V → Hp → VK → Prop} (h : X.K = K)
    (pa : PlainAttrs T) (sl : Slot T name id) (hty : typeOf (.builtin id) = pure (.type "method_descriptor")) (hm : MtR X id r) (ho : PE X o to) (ha : PA X (e :: es) t)
    (h1 : attributeBase o name X.env (eval o X.env) = eval o X.env := by rfl)
    (h2 : ((backTo cpos (starEach (e :: es) X.env)).all (fun x => !x.1) && (backToKw cpos (keywordEach [] X.env)).all (fun x => x.1.isSome) && decide ((e :: es).length + ([] : List Keyword).length + (if ([] : List Keyword).isEmpty then 0 else 1) < 30)) = true := by rfl)
    (h3 : (apos.endLine == cpos.line) = true := by rfl) (h4 : starEach (e :: es) X.env = (false, eval e X.env) :: starEach es X.env := by rfl) (h5 : (backTo cpos (starEach es X.env)).any (·.1) = false := by rfl) :
    PE X (.Call (.Attribute o name apos) (e :: es) [] cpos) (tBM K T r to t) := by
  subst h
  exact pe_bm pa sl hty hm ho ha h1 h2 h3 h4 h5
/-! ### maps of protocols -/
theorem ixs_get {l : List Int} {x : Int} (h : x ∈ l) : (l.map V.int)[l.idxOf x]? = some (V.int x) ∧ ∀ (m : Nat) (z : V), m < l.idxOf x → (l.map V.int)[m]? = some z → eqV z (.int x) = false := by
  have hl := List.idxOf_lt_length_of_mem h
  refine ⟨by rw [List.getElem?_map, List.getElem?_eq_getElem hl, List.getElem_idxOf hl]; rfl, fun m z hm hz => ?_⟩
  obtain ⟨y, hy, rfl⟩ := map_get hz
  obtain ⟨hml, ey⟩ := List.getElem?_eq_some_iff.mp hy
  have ne : y ≠ x := fun e => by
    have := List.not_of_lt_findIdx (p := fun z => z == x) (xs := l) (i := m) (by simpa [List.idxOf] using hm)
    rw [ey, e] at this
    simp at this
  show decide (y = x) = false
  exact decide_eq_false ne
/-- for each input its state's number and the number that its image must have -/
def insIm (D D' : DD) : List (Int × Int) := (D.ins.zip D'.ins).map fun x => (ix D.st x.1.2, ix D'.st x.2.2)
def imAt (ims : List Int) (i : Int) : Int := ims.getD i.toNat 0
def ldIm (D D' : DD) (ims : List Int) : Prop := (D.ld.map fun s => imAt ims (ix D.st s)).Perm (D'.ld.map (ix D'.st))
def okR (ims : List Int) (a b : Int) : Prop := ¬ (a < ims.length ∧ imAt ims a ≠ b)
def imM (ims : List Int) (m : Int × Int) : Int × Int := (imAt ims m.1, imAt ims m.2)
/-- a meeting's results are carried to those of the meeting of the images -/
def Car (D D' : DD) (ims : List Int) (m : Int × Int) : Prop := okR ims (fD D m).1 (fD D' (imM ims m)).1 ∧ okR ims (fD D m).2 (fD D' (imM ims m)).2
structure IsMap (D D' : DD) (ims : List Int) : Prop where
  im : ∀ y ∈ ims, 0 ≤ y ∧ y < (D'.st.length : Int)
  ou : D.ou = ims.map fun i => D'.ou.getD i.toNat 0
  nm : D.ins.map Prod.fst = D'.ins.map Prod.fst
  ins : ∀ p ∈ insIm D D', imAt ims p.1 = p.2
  ld : ldIm D D' ims
  car : ∀ p, InR D.st.length p → Car D D' ims p
end Vf

namespace Vf
open PySem L2
/-! ### two protocols and images of the states -/
def nmK (k : Nat) : Str := Str.ofString "s" ++ Str.ofString (toString (k : Int))
theorem nmK_all : ((List.range 8).all fun i => isName (nmK i) && ((List.range 8).all fun j => !decide (nmK i = nmK j) || decide (i = j))) = true := by decide +kernel
theorem nmK_name {i : Nat} (h : i < 8) : isName (nmK i) = true := by
  have a := List.all_eq_true.mp nmK_all i (List.mem_range.mpr h)
  rw [Bool.and_eq_true] at a
  exact a.1
theorem nmK_inj {i j : Nat} (h : i < 8) (hj : j < 8) (e : nmK i = nmK j) : i = j := by
  have a := List.all_eq_true.mp nmK_all i (List.mem_range.mpr h)
  rw [Bool.and_eq_true] at a
  have b := List.all_eq_true.mp a.2 j (List.mem_range.mpr hj)
  rw [decide_eq_true e] at b
  simpa using b
def nmsK (N : Nat) : List Str := (List.range N).map nmK
theorem nmsK_mem {N i : Nat} (h : i < N) : nmK i ∈ nmsK N := List.mem_map.mpr ⟨i, List.mem_range.mpr h, rfl⟩
theorem nmsK_at {N : Nat} {i : Int} (h0 : 0 ≤ i) (h1 : i < N) : atI ((nmsK N).map V.str) i = some (.str (nmK i.toNat)) := by
  obtain ⟨j, rfl⟩ : ∃ j : Nat, i = (j : Int) := ⟨i.toNat, by omega⟩
  refine atI_nat ?_
  unfold nmsK
  rw [List.map_map, List.getElem?_map, List.getElem?_range (by omega)]
  rfl
theorem nmsK_nd {N : Nat} (h : N ≤ 8) : (nmsK N).Nodup := by
  unfold nmsK List.Nodup
  rw [List.pairwise_map]
  refine (List.nodup_range (n := N)).imp_of_mem fun {a b} ha hb hab e => hab (nmK_inj ?_ ?_ e)
  · have := List.mem_range.mp ha; omega
  · have := List.mem_range.mp hb; omega
/-- rules about pairs of these names, each pair once, those of the first c pairs -/
structure RuAt (N : Nat) (ru : List S4) (c : Nat) : Prop where
  len : ru.length ≤ c
  pr : ∀ r ∈ ru, ∃ a b, a < N ∧ b < N ∧ a * N + b < c ∧ r.1 = nmK a ∧ r.2.1 = nmK b
  to : ∀ r ∈ ru, r.2.2.1 ∈ nmsK N ∧ r.2.2.2 ∈ nmsK N
  nd : (ru.map fun r => (r.1, r.2.1)).Nodup
theorem RuAt.zero (N : Nat) : RuAt N [] 0 := ⟨Nat.le_refl _, fun _ h => (by cases h), fun _ h => (by cases h), List.nodup_nil⟩
theorem RuAt.up {N : Nat} {ru : List S4} {c c' : Nat} (h : RuAt N ru c) (le : c ≤ c') : RuAt N ru c' where
  len := Nat.le_trans h.len le
  pr := fun r hr => by
    obtain ⟨a, b, h1, h2, h3, h4, h5⟩ := h.pr r hr
    exact ⟨a, b, h1, h2, by omega, h4, h5⟩
  to := h.to
  nd := h.nd
theorem RuAt.add {N : Nat} {ru : List S4} {c : Nat} (n8 : N ≤ 8) (h : RuAt N ru c) {a b x y : Nat} (ha : a < N) (hb : b < N) (e : a * N + b = c) (hx : x < N) (hy : y < N) : RuAt N (ru ++ [(nmK a, nmK b, nmK x, nmK y)]) (c + 1) := by
  refine ⟨by rw [List.length_append]; have := h.len; simp; omega, fun r hr => ?_, fun r hr => ?_, ?_⟩
  · rcases List.mem_append.mp hr with hr | hr
    · obtain ⟨a', b', h1, h2, h3, h4, h5⟩ := h.pr r hr
      exact ⟨a', b', h1, h2, by omega, h4, h5⟩
    · rw [List.mem_singleton.mp hr]
      exact ⟨a, b, ha, hb, by omega, rfl, rfl⟩
  · rcases List.mem_append.mp hr with hr | hr
    · exact h.to r hr
    · rw [List.mem_singleton.mp hr]
      exact ⟨nmsK_mem hx, nmsK_mem hy⟩
  · rw [List.map_append, List.nodup_append]
    refine ⟨h.nd, by simp, fun p hp q hq e' => ?_⟩
    subst e'
    obtain ⟨r, hr, rfl⟩ := List.mem_map.mp hp
    obtain ⟨a', b', h1, h2, h3, h4, h5⟩ := h.pr r hr
    have e2 := List.mem_singleton.mp hq
    have e3 := congrArg Prod.fst e2
    have e4 := congrArg Prod.snd e2
    have e3 : r.1 = nmK a := e3
    have e4 : r.2.1 = nmK b := e4
    have i1 := nmK_inj (by omega) (by omega) (h4.symm.trans e3)
    have i2 := nmK_inj (by omega) (by omega) (h5.symm.trans e4)
    subst i1 i2
    omega
theorem RuAt.set {N : Nat} {ru : List S4} {c : Nat} (h : RuAt N ru c) {k : Nat} {r : S4} (hr : ru[k]? = some r) {x y : Nat} (hx : x < N) (hy : y < N) : RuAt N (ru.set k (r.1, r.2.1, nmK x, nmK y)) c := by
  have hk := (List.getElem?_eq_some_iff.mp hr).1
  have rm := List.mem_of_getElem? hr
  refine ⟨by rw [List.length_set]; exact h.len, fun z hz => ?_, fun z hz => ?_, ?_⟩
  · rcases List.mem_or_eq_of_mem_set hz with hz | rfl
    · exact h.pr z hz
    · exact h.pr r rm
  · rcases List.mem_or_eq_of_mem_set hz with hz | rfl
    · exact h.to z hz
    · exact ⟨nmsK_mem hx, nmsK_mem hy⟩
  · have e : (ru.set k (r.1, r.2.1, nmK x, nmK y)).map (fun r => (r.1, r.2.1)) = ru.map fun r => (r.1, r.2.1) := by
      rw [List.map_set]
      refine List.ext_getElem? fun i => ?_
      rw [List.getElem?_set]
      by_cases e : k = i
      · subst e
        rw [if_pos rfl, List.getElem?_map, hr]
        rw [List.length_map, if_pos hk]
        rfl
      · rw [if_neg e]
    rw [e]
    exact h.nd
/-- the place of the first state with this image -/
def plK (ims : List Int) (D' : DD) (s : Str) : Nat := ims.idxOf (ix D'.st s)
theorem valid2 {N c : Nat} {D' : DD} {ims : List Int} {ld : List Str} {ru : List S4} {ou : List Int} (v : ValidN D') (n8 : N ≤ 8) (hp : ∀ s ∈ D'.st, plK ims D' s < N) (hl : ∀ s ∈ ld, s ∈ nmsK N) (hn : ld.length ≤ 10) (R : RuAt N ru c) (ol : ou.length = N) (ob : ∀ o ∈ ou, 0 ≤ o ∧ o ≤ 9) :
    ValidN ⟨nmsK N, D'.ins.map fun p => (p.1, nmK (plK ims D' p.2)), ld, ru, ou⟩ where
  len := by rw [ol]; simp [nmsK]
  n400 := by simp [nmsK]; omega
  nm := fun s hs => by
    obtain ⟨i, hi, rfl⟩ := List.mem_map.mp hs
    have := List.mem_range.mp hi
    exact nmK_name (by omega)
  nd := nmsK_nd n8
  ou := ob
  n8 := by rw [List.length_map]; exact v.n8
  inm := fun p hp' => by
    obtain ⟨z, hz, rfl⟩ := List.mem_map.mp hp'
    exact ⟨(v.inm z hz).1, nmsK_mem (hp _ (v.inm z hz).2)⟩
  ind := by rw [List.map_map]; exact v.ind
  n10 := hn
  ldm := hl
  rum := fun r hr => by
    obtain ⟨a, b, h1, h2, _, h4, h5⟩ := R.pr r hr
    have t := R.to r hr
    exact ⟨by rw [h4]; exact nmsK_mem h1, by rw [h5]; exact nmsK_mem h2, t.1, t.2⟩
  rnd := R.nd
end Vf
namespace Vf
open PySem L2
/-- what is known of two drawn protocols and the images -/
structure TwoK (D D' : DD) (ims : List Int) : Prop where
  v : ValidN D
  v' : ValidN D'
  ru : D.ru.length ≤ 100
  ru' : D'.ru.length ≤ 100
  len : ims.length = D.st.length
  n1 : 1 ≤ D.st.length
  n7 : D.st.length ≤ 7
  st0 : 1 ≤ D'.st.length
  st6 : D'.st.length ≤ 6
  im : ∀ y ∈ ims, 0 ≤ y ∧ y < (D'.st.length : Int)
  on : ∀ y : Int, 0 ≤ y → y < (D'.st.length : Int) → y ∈ ims
end Vf
namespace Vf
open PySem L2
theorem rgV_nat (n : Nat) : rgV 0 (n : Int) = ((List.range n).map fun (i : Nat) => (i : Int)).map V.int := by
  unfold rgV
  rw [List.map_map, show ((n : Int) - 0).toNat = n by omega]
  exact List.map_congr_left fun i _ => congrArg V.int (Int.zero_add _)
/-- images: each of n numbers, and perhaps one of them again, turned -/
structure Imgs (n : Nat) (l : List Int) : Prop where
  lo : n ≤ l.length
  hi : l.length ≤ n + 1
  im : ∀ y ∈ l, 0 ≤ y ∧ y < (n : Int)
  on : ∀ y : Int, 0 ≤ y → y < (n : Int) → y ∈ l
theorem Imgs.base {n : Nat} {cp : List Int} (h : ∀ x ∈ cp, 0 ≤ x ∧ x < (n : Int)) : Imgs n (((List.range n).map fun (i : Nat) => (i : Int)) ++ cp.take 1) where
  lo := by simp
  hi := by
    rw [List.length_append, List.length_map, List.length_range, List.length_take]
    omega
  im := fun y hy => by
    rcases List.mem_append.mp hy with hy | hy
    · obtain ⟨i, hi, rfl⟩ := List.mem_map.mp hy
      have := List.mem_range.mp hi
      omega
    · exact h y (List.mem_of_mem_take hy)
  on := fun y h0 h1 => List.mem_append.mpr (.inl (List.mem_map.mpr ⟨y.toNat, List.mem_range.mpr (by omega), by omega⟩))
theorem Imgs.turn {n : Nat} {l : List Int} (h : Imgs n l) (t : Nat) : Imgs n (l.drop t ++ l.take t) := by
  have e : ∀ y, y ∈ l.drop t ++ l.take t ↔ y ∈ l := fun y => by
    rw [List.mem_append, or_comm, ← List.mem_append, List.take_append_drop]
  have el : (l.drop t ++ l.take t).length = l.length := by
    rw [List.length_append, Nat.add_comm, ← List.length_append, List.take_append_drop]
  exact ⟨by rw [el]; exact h.lo, by rw [el]; exact h.hi, fun y hy => h.im y ((e y).mp hy), fun y h0 h1 => (e y).mpr (h.on y h0 h1)⟩
end Vf
namespace Vf
open PySem L2
theorem pick_in {l : List Int} {r : Int} (h0 : 0 ≤ r) (h1 : r < l.length) : l.getD r.toNat 0 ∈ l := by
  rw [List.getD_eq_getElem?_getD, List.getElem?_eq_getElem (by omega)]
  exact List.getElem_mem _
end Vf
namespace Vf
open PySem L2
/-- the lists of a protocol that is being made -/
structure FiveK (N : Nat) (D' : DD) (ims : List Int) (H : Hp) (R O I L : Addr) : Prop where
  ru : ∃ xs ru, H R = some (.lst xs) ∧ Tups enc4 H xs ru ∧ RuAt N ru (N * N)
  ou : ∃ ou : List Int, H O = some (.lst (ou.map V.int)) ∧ ou.length = N ∧ ∀ o ∈ ou, 0 ≤ o ∧ o ≤ 9
  ins : ∃ xs, H I = some (.lst xs) ∧ Tups enc2 H xs (D'.ins.map fun p => (p.1, nmK (plK ims D' p.2)))
  ld : ∃ ld : List Str, H L = some (.lst (ld.map V.str)) ∧ (∀ s ∈ ld, s ∈ nmsK N) ∧ ld.length ≤ 10
  ro : R ≠ O
  ri : R ≠ I
  rl : R ≠ L
  oi : O ≠ I
  ol : O ≠ L
theorem FiveK.same {N : Nat} {D' : DD} {ims : List Int} {H H' : Hp} {R O I L : Addr} (F : FiveK N D' ims H R O I L) (s : Same H H') : FiveK N D' ims H' R O I L := by
  obtain ⟨⟨xs, ru, h1, t1, r1⟩, ⟨ou, h2, l2, b2⟩, ⟨xi, h3, t3⟩, ⟨ld, h4, m4, l4⟩, e1, e2, e3, e4, e5⟩ := F
  exact ⟨⟨xs, ru, s _ _ h1, t1.same s, r1⟩, ⟨ou, s _ _ h2, l2, b2⟩, ⟨xi, s _ _ h3, t3.same s⟩, ⟨ld, s _ _ h4, m4, l4⟩, e1, e2, e3, e4, e5⟩
theorem tups_lst {α : Type} {enc : α → List V} {H : Hp} {xs ys zs : List V} {l : List α} {a : Addr} (t : Tups enc H xs l) (ha : H a = some (.lst ys)) : Tups enc (upd H a (.lst zs)) xs l :=
  t.mono fun u ws h => by
    rw [upd_ne (fun e => by rw [e, ha] at h; cases h)]
    exact h
theorem FiveK.setR {N : Nat} {D' : DD} {ims : List Int} {H : Hp} {R O I L : Addr} (F : FiveK N D' ims H R O I L) {xs : List V} {ru : List S4} (t : Tups enc4 H xs ru) (r : RuAt N ru (N * N)) : FiveK N D' ims (upd H R (.lst xs)) R O I L := by
  obtain ⟨⟨xs0, ru0, h1, t1, r1⟩, ⟨ou, h2, l2, b2⟩, ⟨xi, h3, t3⟩, ⟨ld, h4, m4, l4⟩, e1, e2, e3, e4, e5⟩ := F
  exact ⟨⟨xs, ru, upd_same, tups_lst t h1, r⟩, ⟨ou, by rw [upd_ne (Ne.symm e1)]; exact h2, l2, b2⟩, ⟨xi, by rw [upd_ne (Ne.symm e2)]; exact h3, tups_lst t3 h1⟩, ⟨ld, by rw [upd_ne (Ne.symm e3)]; exact h4, m4, l4⟩, e1, e2, e3, e4, e5⟩
theorem FiveK.setO {N : Nat} {D' : DD} {ims : List Int} {H : Hp} {R O I L : Addr} (F : FiveK N D' ims H R O I L) {ou : List Int} (l : ou.length = N) (b : ∀ o ∈ ou, 0 ≤ o ∧ o ≤ 9) : FiveK N D' ims (upd H O (.lst (ou.map V.int))) R O I L := by
  obtain ⟨⟨xs0, ru0, h1, t1, r1⟩, ⟨ou0, h2, l2, b2⟩, ⟨xi, h3, t3⟩, ⟨ld, h4, m4, l4⟩, e1, e2, e3, e4, e5⟩ := F
  exact ⟨⟨xs0, ru0, by rw [upd_ne e1]; exact h1, tups_lst t1 h2, r1⟩, ⟨ou, upd_same, l, b⟩, ⟨xi, by rw [upd_ne (Ne.symm e4)]; exact h3, tups_lst t3 h2⟩, ⟨ld, by rw [upd_ne (Ne.symm e5)]; exact h4, m4, l4⟩, e1, e2, e3, e4, e5⟩
end Vf
namespace Vf
open PySem L2
theorem Tups.setT {α : Type} {enc : α → List V} {H : Hp} {xs : List V} {l : List α} (h : Tups enc H xs l) (i : Nat) {t : Addr} {a : α} (ht : H t = some (.tup (enc a))) : Tups enc H (xs.set i (.ref t)) (l.set i a) := by
  refine ⟨by rw [List.length_set, List.length_set]; exact h.1, fun j b e => ?_⟩
  by_cases c : i = j
  · subst c
    have il : i < l.length := by
      have := (List.getElem?_eq_some_iff.mp e).1
      rw [List.length_set] at this
      exact this
    rw [List.getElem?_set_self il] at e
    obtain rfl : a = b := Option.some.inj e
    exact ⟨t, List.getElem?_set_self (by rw [h.1]; exact il), ht⟩
  · rw [List.getElem?_set_ne c] at e
    obtain ⟨u, h1, h2⟩ := h.2 j b e
    exact ⟨u, by rw [List.getElem?_set_ne c]; exact h1, h2⟩
theorem ixNk {n k : Nat} (h : k < n) : ixN n (k : Int) = some k := by
  unfold ixN
  rw [if_pos (Int.natCast_nonneg _), if_pos (by omega)]
  rfl
end Vf

namespace Vf
open PySem L2
theorem KB.toN {K : PySem.W.Frag} {fd : FuncData} {ps ks : List Str} {n m : Nat} (h : KB K fd ps ks n m) (e : m = ks.length) (l : n + m = ps.length) : KBn K fd ps n ks (kwG n m) (kwG n m) where
  to := fun s us ws i h1 h2 => by
    have g : kwG n m us ws = us ++ ws := by unfold kwG; rw [if_pos ⟨h1, by rw [h2, e]⟩]
    exact KBinds.to h s us ws i (by rw [g, List.length_append, h1, h2, ← e, l])
  rel := fun r1 r2 => KBinds.rel h r1 r2
/-! ### order of lists of numbers, and where a search is -/
/-- l comes from y on behind these first numbers, or later -/
def Aft : List Int → List Int → Int → Prop
  | [], _, _ => True
  | a :: _, [], y => y ≤ a
  | a :: l, b :: i, y => b < a ∨ (a = b ∧ Aft l i y)
/-- l is before k -/
def Lx : List Int → List Int → Prop
  | a :: l, b :: k => a < b ∨ (a = b ∧ Lx l k)
  | _, _ => False
theorem aft_zero : ∀ {l : List Int}, (∀ y ∈ l, 0 ≤ y) → Aft l [] 0
  | [], _ => trivial
  | a :: _, h => h a List.mem_cons_self
theorem aft_give : ∀ {l i : List Int} {y : Int}, (∀ z ∈ l, 0 ≤ z) → Aft l i y → Aft l (i ++ [y]) 0
  | [], _, _, _, _ => trivial
  | a :: l, [], y, h, g => by
    have g : y ≤ a := g
    show y < a ∨ (a = y ∧ Aft l [] 0)
    by_cases e : a = y
    · exact .inr ⟨e, aft_zero fun z hz => h z (List.mem_cons_of_mem _ hz)⟩
    · exact .inl (by omega)
  | a :: l, b :: i, y, h, g => by
    show b < a ∨ (a = b ∧ Aft l (i ++ [y]) 0)
    rcases g with g | ⟨e, g⟩
    · exact .inl g
    · exact .inr ⟨e, aft_give (fun z hz => h z (List.mem_cons_of_mem _ hz)) g⟩
theorem aft_next : ∀ {l i : List Int} {y : Int}, i.length < l.length → Aft l i y → l.take (i.length + 1) ≠ i ++ [y] → Aft l i (y + 1)
  | [], _, _, h, _, _ => absurd h (Nat.not_lt_zero _)
  | a :: l, [], y, _, g, n => by
    have g : y ≤ a := g
    have n : a ≠ y := fun e => n (by rw [e]; rfl)
    show y + 1 ≤ a
    omega
  | a :: l, b :: i, y, h, g, n => by
    rcases g with g | ⟨e, g⟩
    · exact .inl g
    · refine .inr ⟨e, aft_next (by simpa using h) g fun q => n ?_⟩
      subst e
      show a :: l.take (i.length + 1) = a :: (i ++ [y])
      rw [q]
theorem aft_pop : ∀ {l i : List Int} {z y : Int}, Aft l (i ++ [z]) y → (∀ l', l = i ++ z :: l' → ¬ Aft l' [] y) → i.length < l.length → Aft l i (z + 1)
  | [], _, _, _, _, _, h => absurd h (Nat.not_lt_zero _)
  | a :: l, [], z, y, g, n, _ => by
    show z + 1 ≤ a
    rcases g with g | ⟨e, g⟩
    · have g : z < a := g
      omega
    · subst e
      exact absurd g (n l rfl)
  | a :: l, b :: i, z, y, g, n, h => by
    rcases g with g | ⟨e, g⟩
    · exact .inl g
    · subst e
      exact .inr ⟨rfl, aft_pop g (fun l' q => n l' (by rw [q]; rfl)) (by simpa using h)⟩
theorem aft_not_lx : ∀ {l k : List Int} {y : Int}, Aft l k y → l.length = k.length → ¬ Lx l k
  | [], _, _, _, _, h => h
  | a :: l, b :: k, y, g, e, h => by
    rcases g with g | ⟨rfl, g⟩
    · rcases h with h | ⟨rfl, _⟩
      · exact absurd (Int.lt_trans g h) (Int.lt_irrefl _)
      · exact absurd g (Int.lt_irrefl _)
    · rcases h with h | ⟨_, h⟩
      · exact absurd h (Int.lt_irrefl _)
      · exact aft_not_lx g (by simpa using e) h
/-- all lists of so many numbers below m, in their order -/
def tupsK (m : Nat) : Nat → List (List Int)
  | 0 => [[]]
  | n + 1 => (tupsK m n).flatMap fun r => (List.range m).map fun (y : Nat) => r ++ [(y : Int)]
theorem tupsK_mem {m : Nat} : ∀ {n : Nat} {l : List Int}, l ∈ tupsK m n ↔ l.length = n ∧ ∀ y ∈ l, 0 ≤ y ∧ y < (m : Int)
  | 0, l => by
    constructor
    · intro h
      obtain rfl := List.mem_singleton.mp h
      exact ⟨rfl, fun y hy => by cases hy⟩
    · rintro ⟨h, _⟩
      rw [List.length_eq_zero_iff.mp h]
      exact List.mem_singleton.mpr rfl
  | n + 1, l => by
    show l ∈ (tupsK m n).flatMap _ ↔ _
    rw [List.mem_flatMap]
    constructor
    · rintro ⟨r, hr, h⟩
      obtain ⟨y, hy, rfl⟩ := List.mem_map.mp h
      obtain ⟨h1, h2⟩ := tupsK_mem.mp hr
      have hy := List.mem_range.mp hy
      refine ⟨by rw [List.length_append, h1]; rfl, fun z hz => ?_⟩
      rcases List.mem_append.mp hz with hz | hz
      · exact h2 z hz
      · rw [List.mem_singleton.mp hz]
        omega
    · rintro ⟨h1, h2⟩
      have ne : l ≠ [] := fun e => by rw [e] at h1; cases h1
      have e := List.dropLast_concat_getLast ne
      have b := h2 _ (List.getLast_mem ne)
      refine ⟨l.dropLast, tupsK_mem.mpr ⟨by rw [List.length_dropLast, h1]; rfl, fun y hy => h2 y ((List.dropLast_sublist l).subset hy)⟩, List.mem_map.mpr ⟨(l.getLast ne).toNat, List.mem_range.mpr (by omega), ?_⟩⟩
      rw [Int.toNat_of_nonneg b.1]
      exact e
theorem lx_app : ∀ {l k : List Int} {x y : Int}, l.length = k.length → Lx l k → Lx (l ++ [x]) (k ++ [y])
  | [], _, _, _, _, h => by cases h
  | a :: l, [], _, _, _, h => by cases h
  | a :: l, b :: k, x, y, e, h => by
    rcases h with h | ⟨rfl, h⟩
    · exact .inl h
    · exact .inr ⟨rfl, lx_app (by simpa using e) h⟩
theorem lx_last : ∀ {l : List Int} {x y : Int}, x < y → Lx (l ++ [x]) (l ++ [y])
  | [], _, _, h => .inl h
  | _ :: _, _, _, h => .inr ⟨rfl, lx_last h⟩
theorem tupsK_lx {m : Nat} : ∀ n, (tupsK m n).Pairwise Lx
  | 0 => List.pairwise_singleton _ _
  | n + 1 => by
    show ((tupsK m n).flatMap _).Pairwise Lx
    rw [List.pairwise_flatMap]
    refine ⟨fun r hr => ?_, (tupsK_lx n).imp_of_mem fun {r s} hr hs h x hx y hy => ?_⟩
    · rw [List.pairwise_map]
      exact List.pairwise_lt_range.imp fun h => lx_last (by omega)
    · obtain ⟨a, _, rfl⟩ := List.mem_map.mp hx
      obtain ⟨b, _, rfl⟩ := List.mem_map.mp hy
      exact lx_app ((tupsK_mem.mp hr).1.trans (tupsK_mem.mp hs).1.symm) h
theorem tupsK_len {m : Nat} : ∀ n, (tupsK m n).length = m ^ n
  | 0 => rfl
  | n + 1 => by
    show ((tupsK m n).flatMap _).length = _
    rw [List.length_flatMap, List.map_congr_left (g := fun _ => m) (fun r _ => by rw [List.length_map, List.length_range]), List.map_const', List.sum_replicate_nat, tupsK_len n, Nat.pow_succ]
/-- the first of these lists with P is the one from which on all with P come -/
theorem first_tup {m n : Nat} {P : List Int → Prop} [DecidablePred P] {r : List Int} (hr : r ∈ tupsK m n) (pr : P r) (h : ∀ l ∈ tupsK m n, P l → Aft l r 0) : (tupsK m n).find? (fun l => decide (P l)) = some r := by
  cases e : (tupsK m n).find? fun l => decide (P l) with
  | none => exact absurd (decide_eq_true pr) (by simpa using List.find?_eq_none.mp e r hr)
  | some d =>
    obtain ⟨hd, as, bs, e2, h2⟩ := List.find?_eq_some_iff_append.mp e
    have dm : d ∈ tupsK m n := by rw [e2]; simp
    have g := h d dm (of_decide_eq_true hd)
    have ln : d.length = r.length := (tupsK_mem.mp dm).1.trans (tupsK_mem.mp hr).1.symm
    by_cases c : d = r
    · rw [c]
    · exfalso
      refine aft_not_lx g ln ?_
      have pw := tupsK_lx (m := m) n
      rw [e2, List.pairwise_append] at pw
      rw [e2] at hr
      rcases List.mem_append.mp hr with hr | hr
      · have := h2 r hr
        rw [decide_eq_true pr] at this
        simp at this
      · rcases List.mem_cons.mp hr with hr | hr
        · exact absurd hr.symm c
        · exact (List.pairwise_cons.mp pw.2.1).1 r hr
/-- the tries of a search: those below one more node -/
def sub (m : Nat) : Nat → Nat
  | 0 => 1
  | d + 1 => 1 + m * sub m d
theorem sub_pos (m d : Nat) : 1 ≤ sub m d := by cases d <;> simp [sub]
def tried (m : Nat) : Nat → List Int → Nat → Nat
  | d, [], y => y * sub m d
  | d, b :: i, y => 1 + b.toNat * sub m d + tried m (d - 1) i y
theorem tried_give {m : Nat} : ∀ {d : Nat} {i : List Int} {y : Nat}, tried m d (i ++ [(y : Int)]) 0 = tried m d i y + 1
  | d, [], y => by
    show 1 + (y : Int).toNat * sub m d + 0 * sub m (d - 1) = y * sub m d + 1
    rw [Int.toNat_natCast]
    omega
  | d, b :: i, y => by
    show 1 + b.toNat * sub m d + tried m (d - 1) (i ++ [(y : Int)]) 0 = 1 + b.toNat * sub m d + tried m (d - 1) i y + 1
    rw [tried_give]
    omega
theorem tried_next {m : Nat} : ∀ {d : Nat} {i : List Int} {y : Nat}, tried m d i y + 1 ≤ tried m d i (y + 1)
  | d, [], y => by
    show y * sub m d + 1 ≤ (y + 1) * sub m d
    rw [Nat.succ_mul]
    have := sub_pos m d
    omega
  | d, b :: i, y => by
    show 1 + b.toNat * sub m d + tried m (d - 1) i y + 1 ≤ 1 + b.toNat * sub m d + tried m (d - 1) i (y + 1)
    have := tried_next (m := m) (d := d - 1) (i := i) (y := y)
    omega
theorem tried_pop {m : Nat} : ∀ {d : Nat} {i : List Int} {z : Nat}, i.length < d → tried m d (i ++ [(z : Int)]) m = tried m d i (z + 1)
  | 0, _, _, h => absurd h (Nat.not_lt_zero _)
  | d + 1, [], z, _ => by
    show 1 + (z : Int).toNat * sub m (d + 1) + m * sub m d = (z + 1) * sub m (d + 1)
    rw [Int.toNat_natCast, Nat.succ_mul]
    have : sub m (d + 1) = 1 + m * sub m d := rfl
    omega
  | d + 1, b :: i, z, h => by
    show 1 + b.toNat * sub m (d + 1) + tried m d (i ++ [(z : Int)]) m = 1 + b.toNat * sub m (d + 1) + tried m d i (z + 1)
    rw [tried_pop (by simpa using h)]
theorem tried_full {m : Nat} : ∀ {d : Nat} {i : List Int} {z : Nat}, i.length = d → tried m d (i ++ [(z : Int)]) 0 = tried m d i (z + 1)
  | 0, [], z, _ => by
    show 1 + (z : Int).toNat * 1 + 0 * 1 = (z + 1) * 1
    rw [Int.toNat_natCast]
    omega
  | d + 1, b :: i, z, h => by
    show 1 + b.toNat * sub m (d + 1) + tried m d (i ++ [(z : Int)]) 0 = 1 + b.toNat * sub m (d + 1) + tried m d i (z + 1)
    rw [tried_full (by simpa using h)]
theorem tried_lt {m : Nat} : ∀ {d : Nat} {i : List Int} {y : Nat}, i.length ≤ d → (∀ z ∈ i, 0 ≤ z ∧ z < (m : Int)) → y < m → tried m d i y < m * sub m d
  | d, [], y, _, _, hy => Nat.mul_lt_mul_of_pos_right hy (sub_pos m d)
  | 0, _ :: _, _, h, _, _ => absurd h (by simp)
  | d + 1, b :: i, y, h, hb, hy => by
    show 1 + b.toNat * sub m (d + 1) + tried m d i y < m * sub m (d + 1)
    have g := tried_lt (m := m) (d := d) (i := i) (y := y) (by simpa using h) (fun z hz => hb z (List.mem_cons_of_mem _ hz)) hy
    have e : sub m (d + 1) = 1 + m * sub m d := rfl
    have b' := hb b List.mem_cons_self
    have g2 : (b.toNat + 1) * sub m (d + 1) ≤ m * sub m (d + 1) := Nat.mul_le_mul_right _ (by omega)
    rw [Nat.succ_mul] at g2
    omega
theorem sub_succ (m : Nat) : ∀ d, sub m (d + 1) = sub m d + m ^ (d + 1)
  | 0 => by simp [sub]
  | d + 1 => by
    have h := sub_succ m d
    have e1 : sub m (d + 2) = 1 + m * sub m (d + 1) := rfl
    have e2 : sub m (d + 1) = 1 + m * sub m d := rfl
    rw [e1, h, Nat.mul_add, Nat.pow_succ m (d + 1), Nat.mul_comm m (m ^ (d + 1))]
    omega
/-- m and its powers up to the n-th, together -/
def enoughK (m : Nat) : Nat → Nat
  | 0 => 0
  | k + 1 => enoughK m k + m ^ (k + 1)
theorem enough_sub (m : Nat) : ∀ d, m * sub m d = enoughK m (d + 1)
  | 0 => by simp [sub, enoughK]
  | d + 1 => by
    rw [sub_succ, Nat.mul_add, enough_sub m d]
    show _ = enoughK m (d + 1) + m ^ (d + 2)
    rw [Nat.pow_succ m (d + 1), Nat.mul_comm m]
end Vf

namespace Vf
open PySem L2
/-! ### images given so far -/
structure Part (D D' : DD) (tw : Bool) (l : List Int) : Prop where
  im : ∀ y ∈ l, 0 ≤ y ∧ y < (D'.st.length : Int)
  ou : ∀ k < l.length, D.ou.getD k 0 = D'.ou.getD (l.getD k 0).toNat 0
  ins : ∀ z ∈ insIm D D', z.1 < (l.length : Int) → imAt l z.1 = z.2
  tw : tw = true → l.Nodup
  car : ∀ p, InR l.length p → Car D D' l p
/-- what is sought -/
structure GoodM (D D' : DD) (tw : Bool) (l : List Int) : Prop where
  map : IsMap D D' l
  len : l.length = D.st.length
  tw : tw = true → l.Nodup ∧ l.length = D'.st.length
theorem getD_tk {l : List Int} {k i : Nat} (h : i < k) : (l.take k).getD i 0 = l.getD i 0 := by
  rw [List.getD_eq_getElem?_getD, List.getD_eq_getElem?_getD, List.getElem?_take_of_lt h]
theorem getD_app {l : List Int} {y : Int} {i : Nat} (h : i < l.length) : (l ++ [y]).getD i 0 = l.getD i 0 := by
  rw [List.getD_eq_getElem?_getD, List.getD_eq_getElem?_getD, List.getElem?_append_left h]
theorem getD_lst {l : List Int} {y : Int} : (l ++ [y]).getD l.length 0 = y := by
  rw [List.getD_eq_getElem?_getD, List.getElem?_append_right (Nat.le_refl _), Nat.sub_self]
  rfl
theorem insIm_nn {D D' : DD} {z : Int × Int} (h : z ∈ insIm D D') : 0 ≤ z.1 := by
  obtain ⟨q, _, rfl⟩ := List.mem_map.mp h
  exact Int.natCast_nonneg _
theorem insIm_lt {D D' : DD} (v : ValidN D) {z : Int × Int} (h : z ∈ insIm D D') : z.1 < (D.st.length : Int) := by
  obtain ⟨q, hq, rfl⟩ := List.mem_map.mp h
  exact (ix_bd (v.inm q.1 (List.of_mem_zip (a := q.1) (b := q.2) hq).1).2).2
theorem fD_in {D : DD} (v : ValidN D) {n : Nat} {p : Int × Int} (hn : n ≤ D.st.length) (h : InR n p) : InR D.st.length (fD D p) :=
  meetOf_in v (show InR D.st.length p from ⟨h.1, by have := h.2.1; omega, h.2.2.1, by have := h.2.2.2; omega⟩)
theorem Part.nil {D D' : DD} {tw : Bool} : Part D D' tw [] where
  im := fun y h => by cases h
  ou := fun k h => absurd h (Nat.not_lt_zero k)
  ins := fun z hz h => by
    have := insIm_nn hz
    have h : z.1 < 0 := h
    omega
  tw := fun _ => List.nodup_nil
  car := fun p h => by
    have h1 := h.1
    have h2 : p.1 < 0 := h.2.1
    omega
theorem GoodM.part {D D' : DD} {tw : Bool} {l : List Int} (v : ValidN D) (g : GoodM D D' tw l) (k : Nat) : Part D D' tw (l.take k) := by
  have lk : (l.take k).length ≤ k := by rw [List.length_take]; omega
  have ll : (l.take k).length ≤ l.length := by rw [List.length_take]; omega
  have gl := g.len
  refine ⟨fun y hy => g.map.im y (List.mem_of_mem_take hy), fun i hi => ?_, fun z hz h => ?_, fun t => (g.tw t).1.sublist (List.take_sublist ..), fun p hp => ?_⟩
  · rw [getD_tk (by omega)]
    have e := congrArg (fun l : List Int => l.getD i 0) g.map.ou
    rw [show D.ou.getD i 0 = _ from e, List.getD_eq_getElem?_getD, List.getElem?_map, List.getD_eq_getElem?_getD (l := l), List.getElem?_eq_getElem (by omega : i < l.length)]
    rfl
  · have := insIm_nn hz
    have e : imAt (l.take k) z.1 = imAt l z.1 := getD_tk (by omega)
    rw [e]
    exact g.map.ins z hz
  · obtain ⟨h1, h2, h3, h4⟩ := hp
    have c := g.map.car p ⟨h1, by omega, h3, by omega⟩
    have e1 : imM (l.take k) p = imM l p := by
      have a : imAt (l.take k) p.1 = imAt l p.1 := getD_tk (by omega)
      have b : imAt (l.take k) p.2 = imAt l p.2 := getD_tk (by omega)
      unfold imM
      rw [a, b]
    have ok : ∀ a b : Int, 0 ≤ a → okR l a b → okR (l.take k) a b := fun a b a0 h n => h ⟨by have := n.1; omega, by
      have e : imAt (l.take k) a = imAt l a := getD_tk (by have := n.1; omega)
      rw [← e]
      exact n.2⟩
    obtain ⟨f0, _, f2, _⟩ := fD_in v (Nat.le_refl _) (show InR D.st.length p from ⟨h1, by omega, h3, by omega⟩)
    unfold Car
    rw [e1]
    exact ⟨ok _ _ f0 c.1, ok _ _ f2 c.2⟩
theorem Part.good {D D' : DD} {tw : Bool} {l : List Int} (p : Part D D' tw l) (v : ValidN D) (len : l.length = D.st.length) (nm : D.ins.map Prod.fst = D'.ins.map Prod.fst) (ld : ldIm D D' l) (t : tw = true → l.length = D'.st.length) : GoodM D D' tw l where
  map := {
    im := p.im
    ou := by
      have ol := v.len
      refine List.ext_getElem (by rw [List.length_map]; omega) fun k h1 h2 => ?_
      have e := p.ou k (by omega)
      rw [List.getD_eq_getElem?_getD (l := D.ou), List.getD_eq_getElem?_getD (l := l), List.getElem?_eq_getElem h1, List.getElem?_eq_getElem (by omega : k < l.length)] at e
      rw [List.getElem_map]
      exact e
    nm := nm
    ins := fun z hz => p.ins z hz (by rw [len]; exact insIm_lt v hz)
    ld := ld
    car := fun q hq => p.car q (by rw [len]; exact hq) }
  len := len
  tw := fun h => ⟨p.tw h, t h⟩
theorem Part.add {D D' : DD} {tw : Bool} {l : List Int} {y : Int} (p : Part D D' tw l) (v : ValidN D) (hl : l.length < D.st.length) (y0 : 0 ≤ y) (y1 : y < (D'.st.length : Int)) (ho : D.ou.getD l.length 0 = D'.ou.getD y.toNat 0) (hi : ∀ z ∈ insIm D D', z.1 = (l.length : Int) → y = z.2) (ht : tw = true → y ∉ l)
    (hc : ∀ q, InR (l.length + 1) q → (q.1 = (l.length : Int) ∨ q.2 = (l.length : Int) ∨ ((q.1 < (l.length : Int) ∧ q.2 < (l.length : Int)) ∧ ((fD D q).1 = (l.length : Int) ∨ (fD D q).2 = (l.length : Int)))) → Car D D' (l ++ [y]) q) : Part D D' tw (l ++ [y]) := by
  have ll : (l ++ [y]).length = l.length + 1 := by rw [List.length_append]; rfl
  refine ⟨fun z hz => ?_, fun k hk => ?_, fun z hz h => ?_, fun t => ?_, fun q hq => ?_⟩
  · rcases List.mem_append.mp hz with hz | hz
    · exact p.im z hz
    · rw [List.mem_singleton.mp hz]
      exact ⟨y0, y1⟩
  · rw [ll] at hk
    by_cases e : k = l.length
    · subst e
      rw [getD_lst]
      exact ho
    · rw [getD_app (by omega)]
      exact p.ou k (by omega)
  · rw [ll] at h
    have z0 := insIm_nn hz
    by_cases e : z.1 = (l.length : Int)
    · have e2 : imAt (l ++ [y]) z.1 = y := by
        unfold imAt
        rw [e, Int.toNat_natCast]
        exact getD_lst
      rw [e2]
      exact hi z hz e
    · have e2 : imAt (l ++ [y]) z.1 = imAt l z.1 := getD_app (by omega)
      rw [e2]
      exact p.ins z hz (by omega)
  · rw [List.nodup_append]
    refine ⟨p.tw t, by simp, fun a ha b hb e => ht t ?_⟩
    rw [← List.mem_singleton.mp hb, ← e]
    exact ha
  · rw [ll] at hq
    obtain ⟨h1, h2, h3, h4⟩ := hq
    by_cases c1 : q.1 = (l.length : Int)
    · exact hc q ⟨h1, h2, h3, h4⟩ (.inl c1)
    by_cases c2 : q.2 = (l.length : Int)
    · exact hc q ⟨h1, h2, h3, h4⟩ (.inr (.inl c2))
    have q1 : q.1 < (l.length : Int) := by omega
    have q2 : q.2 < (l.length : Int) := by omega
    by_cases c3 : (fD D q).1 = (l.length : Int) ∨ (fD D q).2 = (l.length : Int)
    · exact hc q ⟨h1, h2, h3, h4⟩ (.inr (.inr ⟨⟨q1, q2⟩, c3⟩))
    have c := p.car q ⟨h1, q1, h3, q2⟩
    obtain ⟨f0, _, f2, _⟩ := fD_in v (Nat.le_of_lt hl) (show InR l.length q from ⟨h1, q1, h3, q2⟩)
    have e1 : imM (l ++ [y]) q = imM l q := by
      have a : imAt (l ++ [y]) q.1 = imAt l q.1 := getD_app (by omega)
      have b : imAt (l ++ [y]) q.2 = imAt l q.2 := getD_app (by omega)
      unfold imM
      rw [a, b]
    have ok : ∀ a b : Int, 0 ≤ a → a ≠ (l.length : Int) → okR l a b → okR (l ++ [y]) a b := fun a b a0 an h n => by
      have n1 := n.1
      rw [ll] at n1
      have e : imAt (l ++ [y]) a = imAt l a := getD_app (by omega)
      exact h ⟨by omega, by rw [← e]; exact n.2⟩
    unfold Car
    rw [e1]
    exact ⟨ok _ _ f0 (fun e => c3 (.inl e)) c.1, ok _ _ f2 (fun e => c3 (.inr e)) c.2⟩
/-- pairs of states below r that have it as a result -/
structure LateRow (D : DD) (r : Nat) (ms : List (Int × Int)) : Prop where
  inr : ∀ p ∈ ms, InR r p
  all : ∀ p, InR r p → ((fD D p).1 = (r : Int) ∨ (fD D p).2 = (r : Int)) → p ∈ ms
/-- a list of lists of pairs -/
def LateAt (H : Hp) (L : Addr) (n : Nat) (P : Nat → List (Int × Int) → Prop) : Prop := ∃ us : List Addr, H L = some (.lst (us.map V.ref)) ∧ us.length = n ∧ ∀ r u, us[r]? = some u → ∃ xs ms, H u = some (.lst xs) ∧ Tups encP H xs ms ∧ P r ms ∧ ms.length ≤ 1000
theorem LateAt.same {H H' : Hp} {L : Addr} {n : Nat} {P : Nat → List (Int × Int) → Prop} (h : LateAt H L n P) (s : Same H H') : LateAt H' L n P := by
  obtain ⟨us, h1, h2, h3⟩ := h
  refine ⟨us, s _ _ h1, h2, fun r u e => ?_⟩
  obtain ⟨xs, ms, g1, g2, g3⟩ := h3 r u e
  exact ⟨xs, ms, s _ _ g1, g2.same s, g3⟩
def tFs (b c : Addr) (tw : Bool) (lF lL li : Addr) : List (Str × V) := [("_first", .ref b), ("_second", .ref c), ("_twins", .bl tw), ("_fixed", .ref lF), ("_late", .ref lL), ("images", .ref li)]
structure TrialAt (C CR : Addr) (H : Hp) (t b c lF lL li : Addr) (ra rc : RA) (tw : Bool) (D D' : DD) : Prop where
  ob : ∃ dx, H t = some (.ins C dx (tFs b c tw lF lL li))
  bk : BookAt CR H b ra D
  bk' : BookAt CR H c rc D'
  fx : ∃ xs, H lF = some (.lst xs) ∧ Tups encP H xs (insIm D D')
  lt : LateAt H lL D.st.length (LateRow D)
theorem TrialAt.same {C CR : Addr} {H H' : Hp} {t b c lF lL li : Addr} {ra rc : RA} {tw : Bool} {D D' : DD} (h : TrialAt C CR H t b c lF lL li ra rc tw D D') (s : Same H H') : TrialAt C CR H' t b c lF lL li ra rc tw D D' := by
  obtain ⟨⟨dx, h1⟩, h2, h3, ⟨xs, h4, t4⟩, h5⟩ := h
  exact ⟨⟨dx, s _ _ h1⟩, h2.same s, h3.same s, ⟨xs, s _ _ h4, t4.same s⟩, h5.same s⟩
end Vf
namespace Vf
open PySem L2
/-- a list of lists of pairs that is being filled -/
structure RowsK (H0 H : Hp) (C : Addr) (us : List Addr) (f : Nat → List (Int × Int)) : Prop where
  s : Same H0 H
  c : H C = some (.lst (us.map V.ref))
  nd : (C :: us).Nodup
  nw : ∀ u ∈ C :: us, H0 u = none
  ats : ∀ r u, us[r]? = some u → ∃ xs, H u = some (.lst xs) ∧ Tups encP H xs (f r)
theorem RowsK.same {H0 H H' : Hp} {C : Addr} {us : List Addr} {f : Nat → List (Int × Int)} (h : RowsK H0 H C us f) (e : Same H H') : RowsK H0 H' C us f :=
  ⟨h.s.trans e, e _ _ h.c, h.nd, h.nw, fun r u q => by
    obtain ⟨xs, h1, h2⟩ := h.ats r u q
    exact ⟨xs, e _ _ h1, h2.same e⟩⟩
theorem RowsK.add {H0 H : Hp} {C : Addr} {us : List Addr} {f : Nat → List (Int × Int)} (h : RowsK H0 H C us f) {r : Nat} {u t : Addr} {xs : List V} {p : Int × Int} (hr : us[r]? = some u) (hu : H u = some (.lst xs)) (tx : Tups encP H xs (f r)) (ht : H t = some (.tup (encP p))) :
    RowsK H0 (upd H u (.lst (xs ++ [.ref t]))) C us (fun k => if k = r then f r ++ [p] else f k) := by
  have um := List.mem_of_getElem? hr
  have tp : ∀ w ys, H w = some (.tup ys) → (upd H u (.lst (xs ++ [.ref t]))) w = some (.tup ys) := fun w ys g => by
    rw [upd_ne (fun e => by rw [e, hu] at g; cases g)]
    exact g
  have nC : C ≠ u := fun e => (List.nodup_cons.mp h.nd).1 (by rw [e]; exact um)
  refine ⟨Same.chg h.s (h.nw u (List.mem_cons_of_mem _ um)), by rw [upd_ne nC]; exact h.c, h.nd, h.nw, fun k w hk => ?_⟩
  by_cases e : k = r
  · subst e
    rw [hr] at hk
    obtain rfl := Option.some.inj hk
    exact ⟨_, upd_same, by rw [if_pos rfl]; exact (tx.mono tp).snoc (tp _ _ ht)⟩
  · have ne : w ≠ u := fun q => by
      subst q
      exact e (nodup_ix (List.nodup_cons.mp h.nd).2 hk hr)
    obtain ⟨ys, h1, h2⟩ := h.ats k w hk
    rw [if_neg e]
    exact ⟨ys, by rw [upd_ne ne]; exact h1, h2.mono tp⟩
/-- what the rows hold after the first rules -/
structure LpAt (D : DD) (i : Nat) (f : Nat → List (Int × Int)) : Prop where
  inr : ∀ r p, p ∈ f r → InR r p
  all : ∀ j < i, ∀ x, D.ru[j]? = some x → ∀ r : Nat, (ix D.st x.2.2.1 = (r : Int) ∨ ix D.st x.2.2.2 = (r : Int)) → ix D.st x.1 < (r : Int) → ix D.st x.2.1 < (r : Int) → (ix D.st x.1, ix D.st x.2.1) ∈ f r
  len : ∀ r, (f r).length ≤ 2 * i
theorem LpAt.late {D : DD} {f : Nat → List (Int × Int)} (v : ValidN D) (h : LpAt D D.ru.length f) (r : Nat) : LateRow D r (f r) where
  inr := fun p hp => h.inr r p hp
  all := fun p hp hr => by
    obtain ⟨h1, h2, h3, h4⟩ := hp
    by_cases c : p ∈ rks D
    · obtain ⟨x, hx, e⟩ := List.mem_map.mp c
      obtain ⟨j, hj⟩ := List.mem_iff_getElem?.mp hx
      have e : (ix D.st x.1, ix D.st x.2.1) = p := e
      have g := fD_rule v hx
      rw [e] at g
      rw [g] at hr
      subst e
      exact h.all j (List.getElem?_eq_some_iff.mp hj).1 x hj r hr h2 h4
    · rw [fD_none c] at hr
      rcases hr with hr | hr <;> omega
end Vf
namespace Vf
open PySem L2
theorem tups_ins {α : Type} {enc : α → List V} {H : Hp} {xs : List V} {l : List α} {t C dx : Addr} {fs : List (Str × V)} {o : HO} (h : Tups enc H xs l) (ht : H t = some (.ins C dx fs)) : Tups enc (upd H t o) xs l := h.mono fun u ys g => by
  rw [upd_ne (fun e => by rw [e, ht] at g; cases g)]
  exact g
theorem LateAt.ins {H : Hp} {L t C dx : Addr} {n : Nat} {P : Nat → List (Int × Int) → Prop} {fs : List (Str × V)} {o : HO} (h : LateAt H L n P) (ht : H t = some (.ins C dx fs)) : LateAt (upd H t o) L n P := by
  obtain ⟨us, h1, h2, h3⟩ := h
  refine ⟨us, by rw [upd_ne (fun e => by rw [e, ht] at h1; cases h1)]; exact h1, h2, fun r u e => ?_⟩
  obtain ⟨xs, ms, g1, g2, g3⟩ := h3 r u e
  exact ⟨xs, ms, by rw [upd_ne (fun e => by rw [e, ht] at g1; cases g1)]; exact g1, tups_ins g2 ht, g3⟩
end Vf
namespace Vf
open PySem L2
theorem Part.init {D D' : DD} {tw : Bool} {i : List Int} {z : Int} (v : ValidN D) (hn : i.length < D.st.length) (p : Part D D' tw (i ++ [z])) : Part D D' tw i := by
  have ll : (i ++ [z]).length = i.length + 1 := by rw [List.length_append]; rfl
  refine ⟨fun y hy => p.im y (List.mem_append.mpr (.inl hy)), fun k hk => ?_, fun w hw h => ?_, fun t => ?_, fun q hq => ?_⟩
  · have h := p.ou k (by omega)
    rw [getD_app hk] at h
    exact h
  · have h2 := p.ins w hw (by omega)
    have w0 := insIm_nn hw
    have e : imAt (i ++ [z]) w.1 = imAt i w.1 := getD_app (by omega)
    rw [e] at h2
    exact h2
  · have h := p.tw t
    rw [List.nodup_append] at h
    exact h.1
  · obtain ⟨h1, h2, h3, h4⟩ := hq
    have c := p.car q ⟨h1, by omega, h3, by omega⟩
    have e1 : imM (i ++ [z]) q = imM i q := by
      have a : imAt (i ++ [z]) q.1 = imAt i q.1 := getD_app (by omega)
      have b : imAt (i ++ [z]) q.2 = imAt i q.2 := getD_app (by omega)
      unfold imM
      rw [a, b]
    obtain ⟨f0, _, f2, _⟩ := fD_in v (Nat.le_of_lt hn) (show InR i.length q from ⟨h1, h2, h3, h4⟩)
    have ok : ∀ a b : Int, 0 ≤ a → okR (i ++ [z]) a b → okR i a b := fun a b a0 h n => by
      have n1 := n.1
      have e : imAt (i ++ [z]) a = imAt i a := getD_app (by omega)
      exact h ⟨by omega, by rw [e]; exact n.2⟩
    unfold Car at c ⊢
    rw [e1] at c
    exact ⟨ok _ _ f0 c.1, ok _ _ f2 c.2⟩
/-- how far the search is from its end -/
def farK (m d n : Nat) (l : List Int) (y : Nat) : Nat := (m * sub m d - tried m d l y) * (n + 1) + l.length
theorem far_pop {m d n : Nat} {i : List Int} {z y w : Nat} (h : tried m d (i ++ [(z : Int)]) y = tried m d i w) : farK m d n i w < farK m d n (i ++ [(z : Int)]) y := by
  unfold farK
  rw [h, List.length_append]
  exact Nat.lt_succ_self _
theorem far_up {m d n : Nat} {l k : List Int} {y w : Nat} (h : tried m d l y + 1 ≤ tried m d k w) (lt : tried m d l y < m * sub m d) (hn : 1 ≤ n) (hk : k.length ≤ l.length + 1) : farK m d n k w < farK m d n l y := by
  unfold farK
  have e : m * sub m d - tried m d k w + 1 ≤ m * sub m d - tried m d l y := by omega
  have g := Nat.mul_le_mul_right (n + 1) e
  rw [Nat.succ_mul] at g
  omega
end Vf

namespace Vf
open PySem L2
open PySem.W in
def dOpt : Option (List Int) → PyData
  | none => .none
  | some l => Datum.toD (⟨l⟩ : Tup Int)
open PySem.W in
def dMap (o : Option (List Int)) : PyData := .tuple [Datum.toD (Str.ofString "map"), dOpt o]
/-- None, or the tuple of the first images -/
def DueAt (H : Hp) (v : V) : Option (List Int) → Prop
  | none => v = .non
  | some l => ∃ a, v = .ref a ∧ H a = some (.tup (l.map V.int))
theorem DueAt.same {H H' : Hp} {v : V} {o : Option (List Int)} (h : DueAt H v o) (s : Same H H') : DueAt H' v o := by
  cases o with
  | none => exact h
  | some l =>
    obtain ⟨a, e, g⟩ := h
    exact ⟨a, e, s _ _ g⟩
theorem DueAt.dp {K : PySem.W.Frag} {H : Hp} {v : V} {o : Option (List Int)} (h : DueAt H v o) : Dp K H v (dOpt o) := by
  cases o with
  | none =>
    obtain rfl : v = .non := h
    exact .non
  | some l =>
    obtain ⟨a, rfl, g⟩ := h
    exact .tup (SqT.of g) (dpAll_ints l)
open PySem.W in
theorem pl_map (o : Option (List Int)) : (dMap o).plain = true ∧ (dMap o).depth ≤ 64 := by
  cases o with
  | none => exact ⟨by decide, by decide⟩
  | some l =>
    unfold dMap dOpt
    constructor
    · simp only [PyData.plain, PyData.plainAll, Datum.plain, Bool.and_self]
    · simp only [PyData.depth, PyData.depthAll]
      have h1 := Datum.depth_le (⟨l⟩ : Tup Int)
      have h2 := Datum.depth_le (Str.ofString "map")
      have e1 : Datum.depth (Tup Int) = 1 := rfl
      have e2 : Datum.depth Str = 0 := rfl
      omega
theorem map_eqP {K : PySem.W.Frag} {H : Hp} {t u : Addr} {v w : V} {o : Option (List Int)} {neg : Bool} {Q : VK} (ht : H t = some (.tup [.str "map", v])) (hv : DueAt H v o) (hu : H u = some (.tup [.str "map", w])) (hw : DueAt H w o) (q : Q (.bl (!neg)) H) : rEqP K neg (.ref t) (.ref u) H Q := by
  refine ⟨dMap o, dMap o, .tup (SqT.of ht) (.cons (.str _) (.cons hv.dp .nil)), .tup (SqT.of hu) (.cons (.str _) (.cons hw.dp .nil)), pl_map o, pl_map o, ?_⟩
  rw [PySem.SeqAt.eqv_refl_plain _ (pl_map o).1]
  cases neg <;> exact q
theorem enough_up {m k : Nat} (h : m ≤ 6) : enoughK m k ≤ enoughK 6 k := by
  induction k with
  | zero => exact Nat.le_refl _
  | succ k ih => exact Nat.add_le_add ih (Nat.pow_le_pow_left h _)
theorem enough_small {m n : Nat} (h : m ≤ 6) (hn : n ≤ 7) : enoughK m n ≤ 1000000 := by
  refine Nat.le_trans (enough_up h) ?_
  have : n = 0 ∨ n = 1 ∨ n = 2 ∨ n = 3 ∨ n = 4 ∨ n = 5 ∨ n = 6 ∨ n = 7 := by omega
  rcases this with rfl | rfl | rfl | rfl | rfl | rfl | rfl | rfl <;> decide
open Classical in
noncomputable def firstM (D D' : DD) (l : List (List Int)) : Option (List Int) := l.find? fun x => decide (IsMap D D' x)
open Classical in
theorem firstM_cons {D D' : DD} {x : List Int} {l : List (List Int)} : (IsMap D D' x → firstM D D' (x :: l) = some x) ∧ (¬ IsMap D D' x → firstM D D' (x :: l) = firstM D D' l) := by
  unfold firstM
  constructor
  · intro h
    rw [List.find?_cons, decide_eq_true h]
  · intro h
    rw [List.find?_cons, decide_eq_false h]
open Classical in
theorem firstM_none {D D' : DD} {n : Nat} (h : ∀ l, ¬ GoodM D D' false l) (hn : n = D.st.length) (m : Nat) : firstM D D' (tupsK m n) = none := by
  unfold firstM
  refine List.find?_eq_none.mpr fun x hx => ?_
  have l := (tupsK_mem.mp hx).1
  simp only [decide_eq_true_eq]
  exact fun g => h x ⟨g, l.trans hn, fun e => by cases e⟩
open Classical in
theorem firstM_some {D D' : DD} {r : List Int} (g : GoodM D D' false r) (h : ∀ l, GoodM D D' false l → Aft l r 0) : firstM D D' (tupsK D'.st.length D.st.length) = some r := by
  unfold firstM
  have e := first_tup (m := D'.st.length) (n := D.st.length) (P := IsMap D D') (r := r) (tupsK_mem.mpr ⟨g.len, g.map.im⟩) g.map fun l hl pl => h l ⟨pl, (tupsK_mem.mp hl).1, fun e => by cases e⟩
  exact e
end Vf

namespace Vf
open PySem PySem.Spec PyProof.Rows L2
/-! ### sorted of a tuple of ints -/
def rSortedIT (K : PySem.W.Frag) : List V → Hp → VK → Prop := fun vs H Q => ∃ (a : Addr) (ns : List Int), vs = [.ref a] ∧ SqT K H a (ns.map V.int) ∧ ns.length ≤ 1000 ∧
  ∀ (ms : List Int) (p : Addr), ms.Perm ns → ms.Pairwise (· ≤ ·) → H p = none → Q (.ref p) (upd H p (.lst (ms.map V.int)))
theorem cr_sortedIT {X : Cx} : CallR X (.builtin "sorted") (rSortedIT X.K) := by
  intro pins s σ H vs us Q I r h
  obtain ⟨a, ns, rfl, hs, sm, q⟩ := h
  obtain ⟨its, rv, px, _⟩ := I.tuple hs
  obtain ⟨o, ho, hc, n, hd⟩ := id px
  rw [Vals.ref1 r]
  have hi := rv.ints
  have il : its.length = ns.length := by rw [← rv.length, List.length_map]
  have big : 1000 ≤ sizeLine := by decide
  have hal : its.length ≤ sizeLine := by omega
  refine Calls.call_function_entry PyProof.Rows.kind_sorted PyProof.Rows.plain_sorted PyProof.Rows.entry_sorted (PyProof.Rows.args_sorted1 _) ?_
  unfold Builtin.«sorted»
  refine wpAny_bind (m := checkCount "sorted" 1 1 _) (wpAny_pure ?_)
  refine wpAny_bind (wpAny_collect_seq a (T := "tuple") (.inr rfl) ho hc hd (fun h' hk => ?_) (by simpa using hal))
  have I1 : Inv X pins σ H { s with heap := h' } := I.kept (t' := s.toks) hk
  show wpAny _ _ (newList its >>= _) _ _ _
  refine wpAny_bind (wpAny_newList ?_ hal)
  have hoL : (h'.push (seqObj "list" its.toArray 0)).get? h'.objs.size = some (seqObj "list" its.toArray 0) := Heap.get?_push_size _ rfl
  show wpAny _ _ _ _ _ { s with heap := h'.push (seqObj "list" its.toArray 0) }
  refine wpAny_bind (wpAny_holding (wpAny_call_entry PyProof.Rows.slot_list_sort ⟨_, hoL, rfl⟩ PyProof.Rows.entry_list_sort
    (SrtO.list_sort_ord (s := { s with heap := h'.push (seqObj "list" its.toArray 0) }) SrtO.swo_int hoL hal (fun h2 => SrtO.ints_sortable hi h2) fun out h1 h2 => ⟨_, rfl, ?_⟩) (PyProof.Rows.args_list_sort _)))
  obtain ⟨k1, k2, k3⟩ := SrtO.ints_out hi h1 h2
  obtain ⟨ep, he'⟩ := PyProof.Rows.sortedHeap_at (vs := its) (out := out.toArray) hoL
  have hlen : ((out.map SrtO.iv).map V.int).length ≤ sizeLine := by
    rw [List.length_map, k2.length_eq]
    omega
  refine wpAny_pure ⟨_, rfl, .ref h'.objs.size, upd H h'.objs.size (.lst ((out.map SrtO.iv).map V.int)), I1.laid (t' := s.toks) (fun b u e => ?_) (Nat.le_refl _)
    (show ObjOk X.prog X.w _ _ _ (.lst ((out.map SrtO.iv).map V.int)) from ⟨hlen, out, ep, vals_of_ints k1, by rw [he']⟩), rfl, q _ _ k2 k3 (I1.hok.fresh (Nat.le_refl _))⟩
  have hb : b < h'.objs.size := Heap.lt_size e
  rw [PyProof.Rows.sortedHeap_old (Nat.ne_of_lt hb) (by rw [size_push']; exact Nat.lt_succ_of_lt hb)]
  exact Heap.get?_push_of_some _ e
end Vf

namespace Vf
open PySem L2
/-! ### images that are all different, and all -/
theorem rise {l : List Int} (h : l.Pairwise (· < ·)) : ∀ (k i : Nat) (hk : i + k < l.length), l[i]'(by omega) + (k : Int) ≤ l[i + k]
  | 0, i, hk => by simp
  | k + 1, i, hk => by
    have g := rise h k i (by omega)
    have e := (List.pairwise_iff_getElem.mp h) (i + k) (i + (k + 1)) (by omega) hk (by omega)
    have e : l[i + k] < l[i + (k + 1)] := e
    omega
theorem all_diff {m : Nat} {l ms : List Int} (b : ∀ y ∈ l, 0 ≤ y ∧ y < (m : Int)) (p : ms.Perm l) (s : ms.Pairwise (· ≤ ·)) : ms = (List.range m).map (fun (i : Nat) => (i : Int)) ↔ l.Nodup ∧ l.length = m := by
  constructor
  · intro e
    subst e
    refine ⟨p.nodup_iff.mp ?_, by have := p.length_eq; rw [List.length_map, List.length_range] at this; omega⟩
    unfold List.Nodup
    rw [List.pairwise_map]
    exact List.nodup_range.imp fun h e => h (by omega)
  · rintro ⟨nd, ln⟩
    have nd' := p.nodup_iff.mpr nd
    have st : ms.Pairwise (· < ·) := (s.and nd').imp fun h => by
      have h1 := h.1
      have h2 := h.2
      omega
    have lm := p.length_eq
    refine List.ext_getElem (by rw [List.length_map, List.length_range]; omega) fun i h1 h2 => ?_
    rw [List.getElem_map, List.getElem_range]
    have z := rise st i 0 (by omega)
    have b0 := b ms[0] (p.mem_iff.mp (List.getElem_mem _))
    have t := rise st (ms.length - 1 - i) i (by omega)
    have bt := b (ms[i + (ms.length - 1 - i)]'(by omega)) (p.mem_iff.mp (List.getElem_mem _))
    simp only [Nat.zero_add] at z
    omega
open Classical in
noncomputable def firstT (D D' : DD) (l : List (List Int)) : Option (List Int) := l.find? fun x => decide (IsMap D D' x ∧ x.Nodup ∧ x.length = D'.st.length)
open Classical in
theorem firstT_cons {D D' : DD} {x : List Int} {l : List (List Int)} : (IsMap D D' x ∧ x.Nodup ∧ x.length = D'.st.length → firstT D D' (x :: l) = some x) ∧ (¬ (IsMap D D' x ∧ x.Nodup ∧ x.length = D'.st.length) → firstT D D' (x :: l) = firstT D D' l) := by
  unfold firstT
  constructor
  · intro h
    rw [List.find?_cons, decide_eq_true h]
  · intro h
    rw [List.find?_cons, decide_eq_false h]
open Classical in
theorem firstT_none {D D' : DD} {n : Nat} (h : ∀ l, ¬ GoodM D D' true l) (hn : n = D.st.length) (m : Nat) : firstT D D' (tupsK m n) = none := by
  unfold firstT
  refine List.find?_eq_none.mpr fun x hx => ?_
  have l := (tupsK_mem.mp hx).1
  simp only [decide_eq_true_eq]
  exact fun g => h x ⟨g.1, l.trans hn, fun _ => g.2⟩
open Classical in
theorem firstT_some {D D' : DD} {r : List Int} (g : GoodM D D' true r) (h : ∀ l, GoodM D D' true l → Aft l r 0) : firstT D D' (tupsK D'.st.length D.st.length) = some r := by
  unfold firstT
  have e := first_tup (m := D'.st.length) (n := D.st.length) (P := fun x => IsMap D D' x ∧ x.Nodup ∧ x.length = D'.st.length) (r := r) (tupsK_mem.mpr ⟨g.len, g.map.im⟩) ⟨g.map, g.tw rfl⟩ fun l hl pl => h l ⟨pl.1, (tupsK_mem.mp hl).1, fun _ => pl.2⟩
  exact e
theorem enough_ten {m n : Nat} (h : m ≤ 3) (hn : n ≤ 4) : enoughK m n ≤ 10000 := by
  have up : ∀ k, enoughK m k ≤ enoughK 3 k := fun k => by
    induction k with
    | zero => exact Nat.le_refl _
    | succ k ih => exact Nat.add_le_add ih (Nat.pow_le_pow_left h _)
  refine Nat.le_trans (up n) ?_
  have : n = 0 ∨ n = 1 ∨ n = 2 ∨ n = 3 ∨ n = 4 := by omega
  rcases this with rfl | rfl | rfl | rfl | rfl <;> decide
end Vf

namespace Pf
open PySem L2
def top (i : Nat) : Stmt := PySem.Challenge.pw_mingle_k90_first_maps.main.body.getD i (.Pass ⟨0, 0, 0, 0⟩)
abbrev s__law_draws : Stmt := (top 33)
abbrev s__law_parts : Stmt := (top 37)
abbrev s__law_table : Stmt := (top 39)
abbrev s__law_two_parts : Stmt := (top 42)
abbrev s__law_cell : Stmt := (top 32)
abbrev s__law_tuples : Stmt := (top 41)
abbrev s__law_is_image : Stmt := (top 40)
abbrev s__have_same_names : Stmt := (top 9)
abbrev s_UnknownState___init__ : Stmt := (inClass (top 4) 0)
abbrev s_Rulebook_number : Stmt := (inClass (top 30) 3)
abbrev s__input_images : Stmt := (top 10)
abbrev s__late_pairs : Stmt := (top 12)
abbrev s_Trial___init__ : Stmt := (inClass (top 13) 0)
abbrev s_Rulebook___len__ : Stmt := (inClass (top 30) 1)
abbrev s_Trial_is_full : Stmt := (inClass (top 13) 1)
abbrev s__are_leaders : Stmt := (top 11)
abbrev s_Trial_is_done : Stmt := (inClass (top 13) 2)
abbrev s_Trial_take_back : Stmt := (inClass (top 13) 5)
abbrev s_TooLarge___init__ : Stmt := (inClass (top 5) 0)
abbrev s_Rulebook_meet : Stmt := (inClass (top 30) 4)
abbrev s__carries : Stmt := (top 8)
abbrev s_Trial__carries_last : Stmt := (inClass (top 13) 4)
abbrev s_Trial_give : Stmt := (inClass (top 13) 3)
abbrev s__first_map : Stmt := (top 14)
abbrev s_find_map : Stmt := (top 15)
abbrev s__demand : Stmt := (top 26)
abbrev s_Draft___init__ : Stmt := (inClass (top 27) 0)
abbrev s_is_name : Stmt := (top 25)
abbrev s_Draft_add_state : Stmt := (inClass (top 27) 1)
abbrev s_Draft__demand_state : Stmt := (inClass (top 27) 5)
abbrev s_Draft_add_input : Stmt := (inClass (top 27) 2)
abbrev s_Draft_add_leader : Stmt := (inClass (top 27) 3)
abbrev s_Draft_add_rule : Stmt := (inClass (top 27) 4)
abbrev s__drafted : Stmt := (top 28)
abbrev s__partners : Stmt := (top 29)
abbrev s_Rulebook___init__ : Stmt := (inClass (top 30) 0)
abbrev s__law_made : Stmt := (top 38)
abbrev s_find_twin_map : Stmt := (top 16)
abbrev s__law_is_int : Stmt := (top 34)
abbrev s__law_ints : Stmt := (top 35)
abbrev s__law_is_tuple : Stmt := (top 36)
abbrev s_law : Stmt := (top 43)
structure Ad where
  f__law_draws : Addr
  d__law_draws : FuncData
  f__law_parts : Addr
  d__law_parts : FuncData
  f__law_table : Addr
  d__law_table : FuncData
  f__law_two_parts : Addr
  d__law_two_parts : FuncData
  f__law_cell : Addr
  d__law_cell : FuncData
  f__law_tuples : Addr
  d__law_tuples : FuncData
  f__law_is_image : Addr
  d__law_is_image : FuncData
  f__have_same_names : Addr
  d__have_same_names : FuncData
  f_UnknownState___init__ : Addr
  d_UnknownState___init__ : FuncData
  cc_UnknownState___init__ : Addr
  cda_UnknownState___init__ : Addr
  f_Rulebook_number : Addr
  d_Rulebook_number : FuncData
  f__input_images : Addr
  d__input_images : FuncData
  f__late_pairs : Addr
  d__late_pairs : FuncData
  f_Trial___init__ : Addr
  d_Trial___init__ : FuncData
  f_Rulebook___len__ : Addr
  d_Rulebook___len__ : FuncData
  f_Trial_is_full : Addr
  d_Trial_is_full : FuncData
  f__are_leaders : Addr
  d__are_leaders : FuncData
  f_Trial_is_done : Addr
  d_Trial_is_done : FuncData
  f_Trial_take_back : Addr
  d_Trial_take_back : FuncData
  f_TooLarge___init__ : Addr
  d_TooLarge___init__ : FuncData
  cc_TooLarge___init__ : Addr
  cda_TooLarge___init__ : Addr
  f_Rulebook_meet : Addr
  d_Rulebook_meet : FuncData
  f__carries : Addr
  d__carries : FuncData
  f_Trial__carries_last : Addr
  d_Trial__carries_last : FuncData
  f_Trial_give : Addr
  d_Trial_give : FuncData
  f__first_map : Addr
  d__first_map : FuncData
  f_find_map : Addr
  d_find_map : FuncData
  f__demand : Addr
  d__demand : FuncData
  f_Draft___init__ : Addr
  d_Draft___init__ : FuncData
  f_is_name : Addr
  d_is_name : FuncData
  f_Draft_add_state : Addr
  d_Draft_add_state : FuncData
  f_Draft__demand_state : Addr
  d_Draft__demand_state : FuncData
  f_Draft_add_input : Addr
  d_Draft_add_input : FuncData
  f_Draft_add_leader : Addr
  d_Draft_add_leader : FuncData
  f_Draft_add_rule : Addr
  d_Draft_add_rule : FuncData
  f__drafted : Addr
  d__drafted : FuncData
  f__partners : Addr
  d__partners : FuncData
  f_Rulebook___init__ : Addr
  d_Rulebook___init__ : FuncData
  f__law_made : Addr
  d__law_made : FuncData
  f_find_twin_map : Addr
  d_find_twin_map : FuncData
  f__law_is_int : Addr
  d__law_is_int : FuncData
  f__law_ints : Addr
  d__law_ints : FuncData
  f__law_is_tuple : Addr
  d__law_is_tuple : FuncData
  f_law : Addr
  d_law : FuncData
  c_Trial : Addr
  c_Draft : Addr
  c_Rulebook : Addr
  c_InvalidRulebook : Addr
  c_UnknownState : Addr
  c_TooLarge : Addr
structure Txt (P : Program) (K : PySem.W.Frag) (mg : Str → Option Value) (A : Ad) : Prop where
  F__law_draws : Fun K "_law_draws" "_law_draws" s__law_draws A.f__law_draws A.d__law_draws
  B__law_draws : Binds K A.d__law_draws ["cell", "count"] []
  G__law_draws : mg "_law_draws" = some (.ref A.f__law_draws)
  F__law_parts : Fun K "_law_parts" "_law_parts" s__law_parts A.f__law_parts A.d__law_parts
  B__law_parts : Binds K A.d__law_parts ["cell", "most"] []
  G__law_parts : mg "_law_parts" = some (.ref A.f__law_parts)
  F__law_table : Fun K "_law_table" "_law_table" s__law_table A.f__law_table A.d__law_table
  B__law_table : Binds K A.d__law_table ["parts"] []
  G__law_table : mg "_law_table" = some (.ref A.f__law_table)
  F__law_two_parts : Fun K "_law_two_parts" "_law_two_parts" s__law_two_parts A.f__law_two_parts A.d__law_two_parts
  B__law_two_parts : Binds K A.d__law_two_parts ["cell", "other"] []
  G__law_two_parts : mg "_law_two_parts" = some (.ref A.f__law_two_parts)
  F__law_cell : Fun K "_law_cell" "_law_cell" s__law_cell A.f__law_cell A.d__law_cell
  B__law_cell : Binds K A.d__law_cell ["script", "k"] []
  G__law_cell : mg "_law_cell" = some (.ref A.f__law_cell)
  F__law_tuples : Fun K "_law_tuples" "_law_tuples" s__law_tuples A.f__law_tuples A.d__law_tuples
  B__law_tuples : Binds K A.d__law_tuples ["count", "size"] []
  G__law_tuples : mg "_law_tuples" = some (.ref A.f__law_tuples)
  F__law_is_image : Fun K "_law_is_image" "_law_is_image" s__law_is_image A.f__law_is_image A.d__law_is_image
  B__law_is_image : Binds K A.d__law_is_image ["first", "second", "images"] []
  G__law_is_image : mg "_law_is_image" = some (.ref A.f__law_is_image)
  F__have_same_names : Fun K "_have_same_names" "_have_same_names" s__have_same_names A.f__have_same_names A.d__have_same_names
  B__have_same_names : Binds K A.d__have_same_names ["first", "second"] []
  G__have_same_names : mg "_have_same_names" = some (.ref A.f__have_same_names)
  D_UnknownState___init__ : Vf.InitAt P K "UnknownState.__init__" s_UnknownState___init__ A.c_UnknownState A.f_UnknownState___init__ A.cc_UnknownState___init__ A.cda_UnknownState___init__ A.d_UnknownState___init__
  B_UnknownState___init__ : Binds K A.d_UnknownState___init__ ["self", "name"] []
  O_UnknownState : OexC K A.c_UnknownState
  S_UnknownState : Vf.SupCls K A.c_UnknownState
  X_UnknownState : XfC K A.c_UnknownState
  I_UnknownState : PySem.W.findIn K (.ref A.c_UnknownState) "__init__" = some (some (.ref A.f_UnknownState___init__))
  Y_UnknownState : PySem.W.typeIn K (.ref A.f_UnknownState___init__) = some (.type "function")
  N_UnknownState_name : PySem.W.findIn K (.ref A.c_UnknownState) "name" = some none
  F_Rulebook_number : Fun K "number" "Rulebook.number" s_Rulebook_number A.f_Rulebook_number A.d_Rulebook_number
  B_Rulebook_number : Binds K A.d_Rulebook_number ["self", "name"] []
  M_Rulebook_number : Meth K A.c_Rulebook "number" A.f_Rulebook_number
  F__input_images : Fun K "_input_images" "_input_images" s__input_images A.f__input_images A.d__input_images
  B__input_images : Binds K A.d__input_images ["first", "second"] []
  G__input_images : mg "_input_images" = some (.ref A.f__input_images)
  F__late_pairs : Fun K "_late_pairs" "_late_pairs" s__late_pairs A.f__late_pairs A.d__late_pairs
  B__late_pairs : Binds K A.d__late_pairs ["protocol"] []
  G__late_pairs : mg "_late_pairs" = some (.ref A.f__late_pairs)
  F_Trial___init__ : Fun K "__init__" "Trial.__init__" s_Trial___init__ A.f_Trial___init__ A.d_Trial___init__
  KB_Trial___init__ : Vf.KB K A.d_Trial___init__ ["self", "first", "second", "twins"] ["twins"] 3 1
  F_Rulebook___len__ : Fun K "__len__" "Rulebook.__len__" s_Rulebook___len__ A.f_Rulebook___len__ A.d_Rulebook___len__
  B_Rulebook___len__ : Binds K A.d_Rulebook___len__ ["self"] []
  M_Rulebook___len__ : Meth K A.c_Rulebook "__len__" A.f_Rulebook___len__
  F_Trial_is_full : Fun K "is_full" "Trial.is_full" s_Trial_is_full A.f_Trial_is_full A.d_Trial_is_full
  B_Trial_is_full : Binds K A.d_Trial_is_full ["self"] []
  M_Trial_is_full : Meth K A.c_Trial "is_full" A.f_Trial_is_full
  F__are_leaders : Fun K "_are_leaders" "_are_leaders" s__are_leaders A.f__are_leaders A.d__are_leaders
  B__are_leaders : Binds K A.d__are_leaders ["first", "second", "images"] []
  G__are_leaders : mg "_are_leaders" = some (.ref A.f__are_leaders)
  F_Trial_is_done : Fun K "is_done" "Trial.is_done" s_Trial_is_done A.f_Trial_is_done A.d_Trial_is_done
  B_Trial_is_done : Binds K A.d_Trial_is_done ["self"] []
  M_Trial_is_done : Meth K A.c_Trial "is_done" A.f_Trial_is_done
  F_Trial_take_back : Fun K "take_back" "Trial.take_back" s_Trial_take_back A.f_Trial_take_back A.d_Trial_take_back
  B_Trial_take_back : Binds K A.d_Trial_take_back ["self"] []
  M_Trial_take_back : Meth K A.c_Trial "take_back" A.f_Trial_take_back
  D_TooLarge___init__ : Vf.InitAt P K "TooLarge.__init__" s_TooLarge___init__ A.c_TooLarge A.f_TooLarge___init__ A.cc_TooLarge___init__ A.cda_TooLarge___init__ A.d_TooLarge___init__
  B_TooLarge___init__ : Binds K A.d_TooLarge___init__ ["self", "limit"] []
  O_TooLarge : OexC K A.c_TooLarge
  S_TooLarge : Vf.SupCls K A.c_TooLarge
  X_TooLarge : XfC K A.c_TooLarge
  I_TooLarge : PySem.W.findIn K (.ref A.c_TooLarge) "__init__" = some (some (.ref A.f_TooLarge___init__))
  Y_TooLarge : PySem.W.typeIn K (.ref A.f_TooLarge___init__) = some (.type "function")
  N_TooLarge_limit : PySem.W.findIn K (.ref A.c_TooLarge) "limit" = some none
  F_Rulebook_meet : Fun K "meet" "Rulebook.meet" s_Rulebook_meet A.f_Rulebook_meet A.d_Rulebook_meet
  B_Rulebook_meet : Binds K A.d_Rulebook_meet ["self", "first", "second"] []
  M_Rulebook_meet : Meth K A.c_Rulebook "meet" A.f_Rulebook_meet
  F__carries : Fun K "_carries" "_carries" s__carries A.f__carries A.d__carries
  B__carries : Binds K A.d__carries ["first", "second", "images", "pairs"] []
  G__carries : mg "_carries" = some (.ref A.f__carries)
  F_Trial__carries_last : Fun K "_carries_last" "Trial._carries_last" s_Trial__carries_last A.f_Trial__carries_last A.d_Trial__carries_last
  B_Trial__carries_last : Binds K A.d_Trial__carries_last ["self"] []
  M_Trial__carries_last : Meth K A.c_Trial "_carries_last" A.f_Trial__carries_last
  F_Trial_give : Fun K "give" "Trial.give" s_Trial_give A.f_Trial_give A.d_Trial_give
  B_Trial_give : Binds K A.d_Trial_give ["self", "image"] []
  M_Trial_give : Meth K A.c_Trial "give" A.f_Trial_give
  F__first_map : Fun K "_first_map" "_first_map" s__first_map A.f__first_map A.d__first_map
  B__first_map : Binds K A.d__first_map ["first", "second", "limit", "twins"] []
  G__first_map : mg "_first_map" = some (.ref A.f__first_map)
  F_find_map : Fun K "find_map" "find_map" s_find_map A.f_find_map A.d_find_map
  DB_find_map : ∃ ds, Vals [.int 10000] ds ∧ Binds K A.d_find_map ["first", "second", "limit"] ds
  G_find_map : mg "find_map" = some (.ref A.f_find_map)
  F__demand : Fun K "_demand" "_demand" s__demand A.f__demand A.d__demand
  B__demand : Binds K A.d__demand ["holds", "why"] []
  G__demand : mg "_demand" = some (.ref A.f__demand)
  F_Draft___init__ : Fun K "__init__" "Draft.__init__" s_Draft___init__ A.f_Draft___init__ A.d_Draft___init__
  B_Draft___init__ : Binds K A.d_Draft___init__ ["self"] []
  F_is_name : Fun K "is_name" "is_name" s_is_name A.f_is_name A.d_is_name
  B_is_name : Binds K A.d_is_name ["name"] []
  G_is_name : mg "is_name" = some (.ref A.f_is_name)
  F_Draft_add_state : Fun K "add_state" "Draft.add_state" s_Draft_add_state A.f_Draft_add_state A.d_Draft_add_state
  B_Draft_add_state : Binds K A.d_Draft_add_state ["self", "name", "output"] []
  M_Draft_add_state : Meth K A.c_Draft "add_state" A.f_Draft_add_state
  F_Draft__demand_state : Fun K "_demand_state" "Draft._demand_state" s_Draft__demand_state A.f_Draft__demand_state A.d_Draft__demand_state
  B_Draft__demand_state : Binds K A.d_Draft__demand_state ["self", "name"] []
  M_Draft__demand_state : Meth K A.c_Draft "_demand_state" A.f_Draft__demand_state
  F_Draft_add_input : Fun K "add_input" "Draft.add_input" s_Draft_add_input A.f_Draft_add_input A.d_Draft_add_input
  B_Draft_add_input : Binds K A.d_Draft_add_input ["self", "pair"] []
  M_Draft_add_input : Meth K A.c_Draft "add_input" A.f_Draft_add_input
  F_Draft_add_leader : Fun K "add_leader" "Draft.add_leader" s_Draft_add_leader A.f_Draft_add_leader A.d_Draft_add_leader
  B_Draft_add_leader : Binds K A.d_Draft_add_leader ["self", "state"] []
  M_Draft_add_leader : Meth K A.c_Draft "add_leader" A.f_Draft_add_leader
  F_Draft_add_rule : Fun K "add_rule" "Draft.add_rule" s_Draft_add_rule A.f_Draft_add_rule A.d_Draft_add_rule
  B_Draft_add_rule : Binds K A.d_Draft_add_rule ["self", "rule"] []
  M_Draft_add_rule : Meth K A.c_Draft "add_rule" A.f_Draft_add_rule
  F__drafted : Fun K "_drafted" "_drafted" s__drafted A.f__drafted A.d__drafted
  B__drafted : Binds K A.d__drafted ["states", "inputs", "leaders", "rules", "outputs"] []
  G__drafted : mg "_drafted" = some (.ref A.f__drafted)
  F__partners : Fun K "_partners" "_partners" s__partners A.f__partners A.d__partners
  B__partners : Binds K A.d__partners ["results", "many"] []
  G__partners : mg "_partners" = some (.ref A.f__partners)
  F_Rulebook___init__ : Fun K "__init__" "Rulebook.__init__" s_Rulebook___init__ A.f_Rulebook___init__ A.d_Rulebook___init__
  B_Rulebook___init__ : Binds K A.d_Rulebook___init__ ["self", "states", "inputs", "leaders", "rules", "outputs"] []
  F__law_made : Fun K "_law_made" "_law_made" s__law_made A.f__law_made A.d__law_made
  B__law_made : Binds K A.d__law_made ["parts"] []
  G__law_made : mg "_law_made" = some (.ref A.f__law_made)
  F_find_twin_map : Fun K "find_twin_map" "find_twin_map" s_find_twin_map A.f_find_twin_map A.d_find_twin_map
  DB_find_twin_map : ∃ ds, Vals [.int 10000] ds ∧ Binds K A.d_find_twin_map ["first", "second", "limit"] ds
  G_find_twin_map : mg "find_twin_map" = some (.ref A.f_find_twin_map)
  F__law_is_int : Fun K "_law_is_int" "_law_is_int" s__law_is_int A.f__law_is_int A.d__law_is_int
  B__law_is_int : Binds K A.d__law_is_int ["x"] []
  G__law_is_int : mg "_law_is_int" = some (.ref A.f__law_is_int)
  F__law_ints : Fun K "_law_ints" "_law_ints" s__law_ints A.f__law_ints A.d__law_ints
  B__law_ints : Binds K A.d__law_ints ["x", "kind"] []
  G__law_ints : mg "_law_ints" = some (.ref A.f__law_ints)
  F__law_is_tuple : Fun K "_law_is_tuple" "_law_is_tuple" s__law_is_tuple A.f__law_is_tuple A.d__law_is_tuple
  B__law_is_tuple : Binds K A.d__law_is_tuple ["x", "due"] []
  G__law_is_tuple : mg "_law_is_tuple" = some (.ref A.f__law_is_tuple)
  F_law : Fun K "law" "law" s_law A.f_law A.d_law
  G_law : mg "law" = some (.ref A.f_law)
  C_Trial : Cls K A.c_Trial
  G_Trial : mg "Trial" = some (.ref A.c_Trial)
  K_Trial : Mk K A.c_Trial A.f_Trial___init__
  A_Trial__first : NoAttr K A.c_Trial "_first"
  A_Trial__fixed : NoAttr K A.c_Trial "_fixed"
  A_Trial__late : NoAttr K A.c_Trial "_late"
  A_Trial__second : NoAttr K A.c_Trial "_second"
  A_Trial__twins : NoAttr K A.c_Trial "_twins"
  A_Trial_images : NoAttr K A.c_Trial "images"
  C_Draft : Cls K A.c_Draft
  G_Draft : mg "Draft" = some (.ref A.c_Draft)
  K_Draft : Mk K A.c_Draft A.f_Draft___init__
  A_Draft_inputs : NoAttr K A.c_Draft "inputs"
  A_Draft_leaders : NoAttr K A.c_Draft "leaders"
  A_Draft_numbers : NoAttr K A.c_Draft "numbers"
  A_Draft_outputs : NoAttr K A.c_Draft "outputs"
  A_Draft_results : NoAttr K A.c_Draft "results"
  A_Draft_rules : NoAttr K A.c_Draft "rules"
  A_Draft_states : NoAttr K A.c_Draft "states"
  C_Rulebook : Cls K A.c_Rulebook
  G_Rulebook : mg "Rulebook" = some (.ref A.c_Rulebook)
  K_Rulebook : Mk K A.c_Rulebook A.f_Rulebook___init__
  A_Rulebook__numbers : NoAttr K A.c_Rulebook "_numbers"
  A_Rulebook__results : NoAttr K A.c_Rulebook "_results"
  A_Rulebook__rows : NoAttr K A.c_Rulebook "_rows"
  A_Rulebook_inputs : NoAttr K A.c_Rulebook "inputs"
  A_Rulebook_leaders : NoAttr K A.c_Rulebook "leaders"
  A_Rulebook_outputs : NoAttr K A.c_Rulebook "outputs"
  A_Rulebook_rules : NoAttr K A.c_Rulebook "rules"
  A_Rulebook_states : NoAttr K A.c_Rulebook "states"
  G_InvalidRulebook : mg "InvalidRulebook" = some (.ref A.c_InvalidRulebook)
  x_InvalidRulebook : PySem.W.excIn K A.c_InvalidRulebook [.type "ValueError", .type "Exception", .type "BaseException", .type "object"] "ValueError.__new__" = true
  k_InvalidRulebook : PySem.W.keepIn K (.ref A.c_InvalidRulebook) = true
  b_InvalidRulebook : PySem.W.subIn K (.ref A.c_InvalidRulebook) (.type "BaseException") = some true
  t_InvalidRulebook : PySem.W.typeIn K (.ref A.c_InvalidRulebook) = some (.type "type")
  e_InvalidRulebook : PySem.W.exmOne K (.ref A.c_InvalidRulebook) (.ref A.c_InvalidRulebook) = some true
  G_UnknownState : mg "UnknownState" = some (.ref A.c_UnknownState)
  k_UnknownState : PySem.W.keepIn K (.ref A.c_UnknownState) = true
  b_UnknownState : PySem.W.subIn K (.ref A.c_UnknownState) (.type "BaseException") = some true
  t_UnknownState : PySem.W.typeIn K (.ref A.c_UnknownState) = some (.type "type")
  e_UnknownState : PySem.W.exmOne K (.ref A.c_UnknownState) (.ref A.c_UnknownState) = some true
  G_TooLarge : mg "TooLarge" = some (.ref A.c_TooLarge)
  k_TooLarge : PySem.W.keepIn K (.ref A.c_TooLarge) = true
  b_TooLarge : PySem.W.subIn K (.ref A.c_TooLarge) (.type "BaseException") = some true
  t_TooLarge : PySem.W.typeIn K (.ref A.c_TooLarge) = some (.type "type")
  e_TooLarge : PySem.W.exmOne K (.ref A.c_TooLarge) (.ref A.c_TooLarge) = some true
  N_all : mg "all" = none
  N_bool : mg "bool" = none
  N_int : mg "int" = none
  N_isinstance : mg "isinstance" = none
  N_len : mg "len" = none
  N_list : mg "list" = none
  N_max : mg "max" = none
  N_range : mg "range" = none
  N_sorted : mg "sorted" = none
  N_str : mg "str" = none
  N_super : mg "super" = none
  N_tuple : mg "tuple" = none
  N_zip : mg "zip" = none
  V_DIGITS : ∃ t, mg "DIGITS" = some (.str "0123456789" t)
  V_GREATEST_OUTPUT : ∃ t, mg "GREATEST_OUTPUT" = some (.int 9 t)
  V_LETTERS : ∃ t, mg "LETTERS" = some (.str "abcdefghijklmnopqrstuvwxyz" t)
  V_LONGEST_NAME : ∃ t, mg "LONGEST_NAME" = some (.int 12 t)
  V_MOST_INPUTS : ∃ t, mg "MOST_INPUTS" = some (.int 8 t)
  V_MOST_LEADERS : ∃ t, mg "MOST_LEADERS" = some (.int 10 t)
  V_MOST_STATES : ∃ t, mg "MOST_STATES" = some (.int 400 t)
section
variable {P : Program} {w : World} {K : PySem.W.Frag} {mg : Str → Option Value} {base : Heap}
theorem sc__law_draws : FnScope ["cell", "count", "rows", "left", "k", "mixed"] ["cell", "count"] (defScope s__law_draws) := ⟨rfl, rfl, rfl, by decide +kernel, rfl, by decide +kernel, by decide +kernel⟩
theorem sc__law_parts : FnScope ["cell", "most", "draws", "count", "names", "outputs", "inputs", "leaders", "rules", "share", "first", "second", "draw", "third", "fourth", "turn", "k"] ["cell", "most"] (defScope s__law_parts) := ⟨rfl, rfl, rfl, by decide +kernel, rfl, by decide +kernel, by decide +kernel⟩
theorem sc__law_table : FnScope ["parts", "table", "first", "second", "third", "fourth", "pair"] ["parts"] (defScope s__law_table) := ⟨rfl, rfl, rfl, by decide +kernel, rfl, by decide +kernel, by decide +kernel⟩
theorem sc__law_two_parts : FnScope ["cell", "other", "second", "draws", "copies", "images", "turn", "names", "table", "rules", "i", "j", "due", "third", "fourth", "pair", "outputs", "inputs", "leaders", "at", "k", "image", "name", "state"] ["cell", "other"] (defScope s__law_two_parts) := ⟨rfl, rfl, rfl, by decide +kernel, rfl, by decide +kernel, by decide +kernel⟩
theorem sc__law_cell : FnScope ["script", "k"] ["script", "k"] (defScope s__law_cell) := ⟨rfl, rfl, rfl, by decide +kernel, rfl, by decide +kernel, by decide +kernel⟩
theorem sc__law_tuples : FnScope ["count", "size", "found", "k", "more", "row", "image"] ["count", "size"] (defScope s__law_tuples) := ⟨rfl, rfl, rfl, by decide +kernel, rfl, by decide +kernel, by decide +kernel⟩
theorem sc__law_is_image : FnScope ["first", "second", "images", "image", "one", "two", "k", "here", "i", "j", "pair", "due", "row", "name"] ["first", "second", "images"] (defScope s__law_is_image) := ⟨rfl, rfl, rfl, by decide +kernel, rfl, by decide +kernel, by decide +kernel⟩
theorem sc__have_same_names : FnScope ["first", "second", "name", "_"] ["first", "second"] (defScope s__have_same_names) := ⟨rfl, rfl, rfl, by decide +kernel, rfl, by decide +kernel, by decide +kernel⟩
theorem sc_UnknownState___init__ : NdefX.NScope ["self", "name", "__class__"] ["self", "name"] ["__class__"] (defScope s_UnknownState___init__) := NdefX.nscope_by (by decide +kernel)
theorem sc_Rulebook_number : FnScope ["self", "name"] ["self", "name"] (defScope s_Rulebook_number) := ⟨rfl, rfl, rfl, by decide +kernel, rfl, by decide +kernel, by decide +kernel⟩
theorem sc__input_images : FnScope ["first", "second", "_", "state", "image"] ["first", "second"] (defScope s__input_images) := ⟨rfl, rfl, rfl, by decide +kernel, rfl, by decide +kernel, by decide +kernel⟩
theorem sc__late_pairs : FnScope ["protocol", "rows", "rule", "first", "second", "third", "fourth", "result", "_", "name"] ["protocol"] (defScope s__late_pairs) := ⟨rfl, rfl, rfl, by decide +kernel, rfl, by decide +kernel, by decide +kernel⟩
theorem sc_Trial___init__ : FnScope ["self", "first", "second", "twins"] ["self", "first", "second", "twins"] (defScope s_Trial___init__) := ⟨rfl, rfl, rfl, by decide +kernel, rfl, by decide +kernel, by decide +kernel⟩
theorem sc_Rulebook___len__ : FnScope ["self"] ["self"] (defScope s_Rulebook___len__) := ⟨rfl, rfl, rfl, by decide +kernel, rfl, by decide +kernel, by decide +kernel⟩
theorem sc_Trial_is_full : FnScope ["self"] ["self"] (defScope s_Trial_is_full) := ⟨rfl, rfl, rfl, by decide +kernel, rfl, by decide +kernel, by decide +kernel⟩
theorem sc__are_leaders : FnScope ["first", "second", "images", "found", "state"] ["first", "second", "images"] (defScope s__are_leaders) := ⟨rfl, rfl, rfl, by decide +kernel, rfl, by decide +kernel, by decide +kernel⟩
theorem sc_Trial_is_done : FnScope ["self"] ["self"] (defScope s_Trial_is_done) := ⟨rfl, rfl, rfl, by decide +kernel, rfl, by decide +kernel, by decide +kernel⟩
theorem sc_Trial_take_back : FnScope ["self"] ["self"] (defScope s_Trial_take_back) := ⟨rfl, rfl, rfl, by decide +kernel, rfl, by decide +kernel, by decide +kernel⟩
theorem sc_TooLarge___init__ : NdefX.NScope ["self", "limit", "__class__"] ["self", "limit"] ["__class__"] (defScope s_TooLarge___init__) := NdefX.nscope_by (by decide +kernel)
theorem sc_Rulebook_meet : FnScope ["self", "first", "second"] ["self", "first", "second"] (defScope s_Rulebook_meet) := ⟨rfl, rfl, rfl, by decide +kernel, rfl, by decide +kernel, by decide +kernel⟩
theorem sc__carries : FnScope ["first", "second", "images", "pairs", "state", "other", "wanted", "result", "image"] ["first", "second", "images", "pairs"] (defScope s__carries) := ⟨rfl, rfl, rfl, by decide +kernel, rfl, by decide +kernel, by decide +kernel⟩
theorem sc_Trial__carries_last : FnScope ["self", "last", "pairs", "other"] ["self"] (defScope s_Trial__carries_last) := ⟨rfl, rfl, rfl, by decide +kernel, rfl, by decide +kernel, by decide +kernel⟩
theorem sc_Trial_give : FnScope ["self", "image", "state", "known", "wanted"] ["self", "image"] (defScope s_Trial_give) := ⟨rfl, rfl, rfl, by decide +kernel, rfl, by decide +kernel, by decide +kernel⟩
theorem sc__first_map : FnScope ["first", "second", "limit", "twins", "trial", "tries", "image"] ["first", "second", "limit", "twins"] (defScope s__first_map) := ⟨rfl, rfl, rfl, by decide +kernel, rfl, by decide +kernel, by decide +kernel⟩
theorem sc_find_map : FnScope ["first", "second", "limit"] ["first", "second", "limit"] (defScope s_find_map) := ⟨rfl, rfl, rfl, by decide +kernel, rfl, by decide +kernel, by decide +kernel⟩
theorem sc__demand : FnScope ["holds", "why"] ["holds", "why"] (defScope s__demand) := ⟨rfl, rfl, rfl, by decide +kernel, rfl, by decide +kernel, by decide +kernel⟩
theorem sc_Draft___init__ : FnScope ["self"] ["self"] (defScope s_Draft___init__) := ⟨rfl, rfl, rfl, by decide +kernel, rfl, by decide +kernel, by decide +kernel⟩
theorem sc_is_name : FnScope ["name", "sign"] ["name"] (defScope s_is_name) := ⟨rfl, rfl, rfl, by decide +kernel, rfl, by decide +kernel, by decide +kernel⟩
theorem sc_Draft_add_state : FnScope ["self", "name", "output"] ["self", "name", "output"] (defScope s_Draft_add_state) := ⟨rfl, rfl, rfl, by decide +kernel, rfl, by decide +kernel, by decide +kernel⟩
theorem sc_Draft__demand_state : FnScope ["self", "name"] ["self", "name"] (defScope s_Draft__demand_state) := ⟨rfl, rfl, rfl, by decide +kernel, rfl, by decide +kernel, by decide +kernel⟩
theorem sc_Draft_add_input : FnScope ["self", "pair", "name", "state", "known", "_"] ["self", "pair"] (defScope s_Draft_add_input) := ⟨rfl, rfl, rfl, by decide +kernel, rfl, by decide +kernel, by decide +kernel⟩
theorem sc_Draft_add_leader : FnScope ["self", "state"] ["self", "state"] (defScope s_Draft_add_leader) := ⟨rfl, rfl, rfl, by decide +kernel, rfl, by decide +kernel, by decide +kernel⟩
theorem sc_Draft_add_rule : FnScope ["self", "rule", "state", "first", "second", "third", "fourth"] ["self", "rule"] (defScope s_Draft_add_rule) := ⟨rfl, rfl, rfl, by decide +kernel, rfl, by decide +kernel, by decide +kernel⟩
theorem sc__drafted : FnScope ["states", "inputs", "leaders", "rules", "outputs", "draft", "name", "output", "pair", "state", "rule"] ["states", "inputs", "leaders", "rules", "outputs"] (defScope s__drafted) := ⟨rfl, rfl, rfl, by decide +kernel, rfl, by decide +kernel, by decide +kernel⟩
theorem sc__partners : FnScope ["results", "many", "rows", "pair", "_", "row"] ["results", "many"] (defScope s__partners) := ⟨rfl, rfl, rfl, by decide +kernel, rfl, by decide +kernel, by decide +kernel⟩
theorem sc_Rulebook___init__ : FnScope ["self", "states", "inputs", "leaders", "rules", "outputs", "draft"] ["self", "states", "inputs", "leaders", "rules", "outputs"] (defScope s_Rulebook___init__) := ⟨rfl, rfl, rfl, by decide +kernel, rfl, by decide +kernel, by decide +kernel⟩
theorem sc__law_made : FnScope ["parts"] ["parts"] (defScope s__law_made) := ⟨rfl, rfl, rfl, by decide +kernel, rfl, by decide +kernel, by decide +kernel⟩
theorem sc_find_twin_map : FnScope ["first", "second", "limit"] ["first", "second", "limit"] (defScope s_find_twin_map) := ⟨rfl, rfl, rfl, by decide +kernel, rfl, by decide +kernel, by decide +kernel⟩
theorem sc__law_is_int : FnScope ["x"] ["x"] (defScope s__law_is_int) := ⟨rfl, rfl, rfl, by decide +kernel, rfl, by decide +kernel, by decide +kernel⟩
theorem sc__law_ints : FnScope ["x", "kind", "k"] ["x", "kind"] (defScope s__law_ints) := ⟨rfl, rfl, rfl, by decide +kernel, rfl, by decide +kernel, by decide +kernel⟩
theorem sc__law_is_tuple : FnScope ["x", "due"] ["x", "due"] (defScope s__law_is_tuple) := ⟨rfl, rfl, rfl, by decide +kernel, rfl, by decide +kernel, by decide +kernel⟩
theorem sc_law : FnScope ["script", "first", "second", "images", "due", "twin", "row", "found", "other"] ["script"] (defScope s_law) := ⟨rfl, rfl, rfl, by decide +kernel, rfl, by decide +kernel, by decide +kernel⟩
end
local macro_rules | `(tactic| walk_at "hp") => `(tactic| ((try dsimp only); repeat (first | exact upd_same | assumption | (rw [upd_ne] <;> first | (show _ ≠ _; first | assumption | exact Ne.symm (by assumption)) | skip))))
local macro_rules | `(tactic| walk_at "sm") => `(tactic| first | with_reducible assumption | (with_reducible refine Vf.sm_num ?_; first | with_reducible assumption | decide +kernel) | (with_reducible refine Vf.sm_lit ?_; decide +kernel))
local macro_rules | `(tactic| walk_at "fit") => `(tactic| first | (with_reducible refine Vf.fit1 ?_ <;> walk_at "sm") | (with_reducible refine Vf.fit2 ?_ ?_ <;> walk_at "sm") | (with_reducible refine Vf.fit3 ?_ ?_ ?_ <;> walk_at "sm") | (with_reducible refine Vf.fit4 ?_ ?_ ?_ ?_ <;> walk_at "sm") | (with_reducible refine Vf.fit5 ?_ ?_ ?_ ?_ ?_ <;> walk_at "sm") | (with_reducible refine Vf.fit6 ?_ ?_ ?_ ?_ ?_ ?_ <;> walk_at "sm") | (with_reducible refine Vf.fit7 ?_ ?_ ?_ ?_ ?_ ?_ ?_ <;> walk_at "sm") | (with_reducible refine Vf.fit8 ?_ ?_ ?_ ?_ ?_ ?_ ?_ ?_ <;> walk_at "sm") | (with_reducible refine Vf.fit9 ?_ ?_ ?_ ?_ ?_ ?_ ?_ ?_ ?_ <;> walk_at "sm") | (with_reducible refine Vf.fit10 ?_ ?_ ?_ ?_ ?_ ?_ ?_ ?_ ?_ ?_ <;> walk_at "sm"))
def sp__law_draws (K : PySem.W.Frag) (A : Ad) : Sp := fun vs H Q _ => ∃ (cell count : Int), vs = [.int cell, .int count] ∧ 0 ≤ count ∧ count ≤ 10000 ∧ Vf.NewInts H Q fun ds => (ds.length : Int) = count ∧ ∀ d ∈ ds, 0 ≤ d ∧ d < 4096
theorem len__law_draws {K : PySem.W.Frag} {A : Ad} (vs : List V) (H : Hp) (Q : VK) (E : XK) (h : sp__law_draws K A vs H Q E) : vs.length = ["cell", "count"].length := by
  obtain ⟨a, b, rfl, _⟩ := h
  rfl

section
variable {P : Program} {w : World} {K : PySem.W.Frag} {mg : Str → Option Value} {base : Heap}
set_option maxHeartbeats 4000000 in
theorem ok__law_draws {A : Ad} (T : Txt P K mg A) : FnOk P w K mg base CX0 1 A.f__law_draws A.d__law_draws ["cell", "count"] (sp__law_draws K A) := by
  refine T.F__law_draws.ok sc__law_draws len__law_draws (fun cdv Ar outer s H vs Q E hr h => ?_)
  have hu := hu_of hr
  obtain ⟨cell, count, rfl, h0, h1, q⟩ := h
  refine ⟨_, (pss_cons (ps_set (i := 2) sc__law_draws.nd rfl (Or.inl rfl) (pe_lst pa_nil))
      (pss_cons (ps_set (i := 3) sc__law_draws.nd rfl (Or.inl rfl) (pv 0))
      (pss_cons (ps_for PassesOwn.never rfl (pi_range1 rfl T.N_range (pa_cons (pv 1) pa_nil)) (pg_name (i := 4) sc__law_draws.nd rfl (Or.inl rfl))
        (pss_one (ps_if (PW.pt (pw_and (pt_cmpR op_ge (pv 0) (pe_op op_pow pe_int pe_int) (nomark _)) (pw_and1 (pt_cmpR op_gt (pv 3) pe_int (nomark _))))) (pss_cons (ps_expr (pe_bm PySem.F.plainAttrs_list PySem.F.slot_list_append PySem.F.type_list_append mt_append (pv 2) (pa_cons (pe_op op_mod (pe_callTy call_int1 (by rfl) T.N_int (by decide +kernel) (pa_cons (pv 3) pa_nil)) pe_int) pa_nil)))
      (pss_one (ps_set (i := 3) sc__law_draws.nd rfl (Or.inl rfl) (pe_op op_fdiv (pv 3) pe_int)))) (pss_cons (ps_set (i := 5) sc__law_draws.nd rfl (Or.inl rfl) (pe_op op_mod (pe_callTy call_int1 (by rfl) T.N_int (by decide +kernel) (pa_cons (pe_op op_add (pe_op op_mul (pv 0) pe_int) (pe_op op_mul (pe_op op_add (pv 4) pe_int) pe_int)) pa_nil)) pe_int))
      (pss_cons (ps_set (i := 5) sc__law_draws.nd rfl (Or.inl rfl) (pe_op op_mod (pe_callTy call_int1 (by rfl) T.N_int (by decide +kernel) (pa_cons (pe_op op_add (pe_op op_add (pe_op op_mul (pv 5) (pv 5)) (pe_op op_mul (pv 5) pe_int)) (pe_op op_mul (pv 4) pe_int)) pa_nil)) pe_int))
      (pss_cons (ps_set (i := 5) sc__law_draws.nd rfl (Or.inl rfl) (pe_op op_mod (pe_callTy call_int1 (by rfl) T.N_int (by decide +kernel) (pa_cons (pe_op op_add (pe_op op_add (pe_op op_mul (pv 5) (pv 5)) (pv 0)) (pe_op op_mul pe_int (pv 4))) pa_nil)) pe_int))
      (pss_one (ps_expr (pe_bm PySem.F.plainAttrs_list PySem.F.slot_list_append PySem.F.type_list_append mt_append (pv 2) (pa_cons (pe_op op_mod (pe_op op_fdiv (pv 5) pe_int) pe_int) pa_nil))))))))))
      (pss_one (ps_ret (pv 2)))))), ?_⟩
  refine ⟨(by show 0 ≤ sizeLine; decide), fun p hp => ?_⟩
  refine ⟨_, rfl, _, rfl, count, rfl, by omega, by omega, for_range (lo := 0) (n := count.toNat) (fun i σ H' => ∃ (ds : List Int) (left : Int) (k m : Option V), σ = [some (.int cell), some (.int count), some (.ref p), some (.int left), k, m] ∧ Same H H' ∧ H' p = some (.lst (ds.map V.int)) ∧ ds.length = i ∧ ∀ d ∈ ds, 0 ≤ d ∧ d < 4096) ?_ ?_ ?_⟩
  · exact ⟨[], cell, none, none, rfl, Vf.Same.new (Same.refl H) hp, upd_same, rfl, fun d hd => nomatch hd⟩
  · rintro i σ H' hi ⟨ds, left, k, m, rfl, s1, hl, rfl, hr1⟩
    -- the word again, with one more
    have fin : ∀ (z left' : Int) (m' : Option V), 0 ≤ z → z < 4096 → ∃ (ds' : List Int) (l' : Int) (k' m'' : Option V), [some (V.int cell), some (.int count), some (.ref p), some (.int left'), some (.int (0 + (ds.length : Int))), m'] = [some (.int cell), some (.int count), some (.ref p), some (.int l'), k', m''] ∧
        Same H (upd H' p (.lst (ds.map V.int ++ [V.int z]))) ∧ (upd H' p (.lst (ds.map V.int ++ [V.int z]))) p = some (.lst (ds'.map V.int)) ∧ ds'.length = ds.length + 1 ∧ ∀ d ∈ ds', 0 ≤ d ∧ d < 4096 := by
      intro z left' m' z0 z1
      refine ⟨ds ++ [z], left', _, m', rfl, Vf.Same.chg s1 hp, by rw [upd_same, List.map_append]; rfl, by simp, fun d hd => ?_⟩
      rcases List.mem_append.mp hd with hd | hd
      · exact hr1 d hd
      · obtain rfl : d = z := by simpa using hd
        exact ⟨z0, z1⟩
    have big : (ds.map V.int).length < sizeLine := by rw [List.length_map]; exact Nat.lt_of_lt_of_le (show ds.length < 10000 by omega) (by decide)
    refine Vf.st_if (b := decide ((10 : Int) ^ (18 : Int).toNat ≤ cell) && decide ((0 : Int) < left)) (ans_and2 (fun Q q => ⟨_, rfl, _, _, rfl, rfl, ⟨by decide, by decide, by decide⟩, _, _, rfl, rfl, _, rfl, q⟩) (fun Q q => ⟨_, rfl, _, _, rfl, rfl, _, rfl, q⟩)) (fun hb => ?_) (fun hb => ?_)
    · refine ⟨_, rfl, .inl ⟨rfl, _, SqL.of hl⟩, _, rfl, .inl ⟨_, rfl, _, _, rfl, rfl, (by show (0 : Int) < 4096; decide), p, _, _, rfl, rfl, hl, big, ?_⟩⟩
      refine ⟨_, rfl, _, _, rfl, rfl, ⟨by decide, by decide⟩, ?_⟩
      exact fin _ _ _ (Int.emod_nonneg _ (by decide)) (Int.emod_lt_of_pos _ (by decide))
    · refine ⟨_, rfl, _, _, rfl, rfl, .inr ⟨by decide, by decide⟩, _, rfl, _, _, rfl, rfl, _, _, rfl, rfl, .inr ⟨by decide, by decide⟩, _, _, rfl, rfl, .inl ⟨_, rfl, _, _, rfl, rfl, (by show (0 : Int) < 2147483647; decide), ?_⟩⟩
      refine ⟨_, rfl, _, rfl, _, _, rfl, rfl, .inl (Vf.mod_w (by decide) (by decide)), _, rfl, _, _, rfl, rfl, .inl (Vf.mod_w (by decide) (by decide)), _, _, rfl, rfl, _, rfl, _, _, rfl, rfl, .inr ⟨by decide, by decide⟩, _, _, rfl, rfl, .inl ⟨_, rfl, _, _, rfl, rfl, (by show (0 : Int) < 2147483629; decide), ?_⟩⟩
      refine ⟨_, rfl, _, rfl, _, _, rfl, rfl, .inl (Vf.mod_w (by decide) (by decide)), _, rfl, _, _, rfl, rfl, _, rfl, _, _, rfl, rfl, .inl ⟨by decide, by decide⟩, _, _, rfl, rfl, .inl ⟨_, rfl, _, _, rfl, rfl, (by show (0 : Int) < 2147483587; decide), ?_⟩⟩
      refine ⟨_, rfl, .inl ⟨rfl, _, SqL.of hl⟩, _, rfl, _, _, rfl, rfl, ⟨by decide, by decide⟩, _, _, rfl, rfl, (by show (0 : Int) < 4096; decide), p, _, _, rfl, rfl, hl, big, ?_⟩
      exact fin _ _ _ (Int.emod_nonneg _ (by decide)) (Int.emod_lt_of_pos _ (by decide))
  · rintro σ H' ⟨ds, left, k, m, rfl, s1, hl, hn, hr1⟩
    exact ⟨_, rfl, q p H' ds hp s1 hl ⟨by omega, hr1⟩⟩
end

def sp__law_parts (K : PySem.W.Frag) (A : Ad) : Sp := fun vs H Q _ => ∃ (cell most : Int), vs = [.int cell, .int most] ∧ 1 ≤ most ∧ most ≤ 6 ∧
  ∀ (p : Addr) (H' : Hp) (D : Vf.DD), Vf.PartsAt H' p D → Vf.ValidN D → Vf.Small D ∧ (D.st.length : Int) ≤ most → Same H H' → H p = none → Q (.ref p) H'
theorem len__law_parts {K : PySem.W.Frag} {A : Ad} (vs : List V) (H : Hp) (Q : VK) (E : XK) (h : sp__law_parts K A vs H Q E) : vs.length = ["cell", "most"].length := by
  obtain ⟨a, b, rfl, _⟩ := h
  rfl
/-- the rules drawn so far: at most one for each pair of names looked at -/
def RulesAt (H5 : Hp) (ns : List Str) (n : Nat) (R : Addr) (H' : Hp) (k : Nat) : Prop := Same H5 H' ∧ ∃ (ru : List Vf.S4) (xr : List V) (fs : List (Nat × Nat)), H' R = some (.lst xr) ∧ Vf.Tups Vf.enc4 H' xr ru ∧ (∀ r ∈ ru, r.1 ∈ ns ∧ r.2.1 ∈ ns ∧ r.2.2.1 ∈ ns ∧ r.2.2.2 ∈ ns) ∧
  ru.map (fun r => (r.1, r.2.1)) = fs.map (fun p => (ns.getD p.1 Str.empty, ns.getD p.2 Str.empty)) ∧ fs.Nodup ∧ (∀ p ∈ fs, p.1 < n ∧ p.2 < n ∧ p.1 * n + p.2 < k) ∧ ru.length ≤ k
theorem RulesAt.more {H5 H' : Hp} {ns : List Str} {n : Nat} {R t : Addr} {i j : Nat} {r : Vf.S4} {ru : List Vf.S4} {xr : List V} {fs : List (Nat × Nat)} (W : RulesAt H5 ns n R H' (i * n + j)) (hR : H5 R = none) (nRt : R ≠ t) (ht : H' t = none) (hR' : H' R = some (.lst xr)) (tr : Vf.Tups Vf.enc4 H' xr ru)
    (rm : ∀ r ∈ ru, r.1 ∈ ns ∧ r.2.1 ∈ ns ∧ r.2.2.1 ∈ ns ∧ r.2.2.2 ∈ ns) (rf : ru.map (fun r => (r.1, r.2.1)) = fs.map (fun p => (ns.getD p.1 Str.empty, ns.getD p.2 Str.empty))) (fnd : fs.Nodup) (fb : ∀ p ∈ fs, p.1 < n ∧ p.2 < n ∧ p.1 * n + p.2 < i * n + j) (rl : ru.length ≤ i * n + j)
    (hi : i < n) (hj : j < n) (e1 : r.1 = ns.getD i Str.empty) (e2 : r.2.1 = ns.getD j Str.empty) (m1 : r.1 ∈ ns) (m2 : r.2.1 ∈ ns) (m3 : r.2.2.1 ∈ ns) (m4 : r.2.2.2 ∈ ns) : RulesAt H5 ns n R (upd (upd H' t (.tup (Vf.enc4 r))) R (.lst (xr ++ [.ref t]))) (i * n + (j + 1)) := by
  have sN : Same H' (upd H' t (.tup (Vf.enc4 r))) := Vf.Same.new (Same.refl H') ht
  refine ⟨Vf.Same.chg (W.1.trans sN) hR, ru ++ [r], xr ++ [.ref t], fs ++ [(i, j)], upd_same, ?_, ?_, ?_, ?_, ?_, ?_⟩
  · have keep : ∀ u ys, (upd H' t (.tup (Vf.enc4 r))) u = some (.tup ys) → (upd (upd H' t (.tup (Vf.enc4 r))) R (.lst (xr ++ [.ref t]))) u = some (.tup ys) := fun u ys hu => by
      rw [upd_ne (fun z => by rw [z, upd_ne nRt, hR'] at hu; cases hu)]
      exact hu
    exact ((tr.same sN).mono keep).snoc (keep t _ upd_same)
  · intro x hx
    rw [List.mem_append, List.mem_singleton] at hx
    rcases hx with hx | rfl
    · exact rm x hx
    · exact ⟨m1, m2, m3, m4⟩
  · rw [List.map_append, List.map_append, rf]
    show _ ++ [(r.1, r.2.1)] = _ ++ [(ns.getD i Str.empty, ns.getD j Str.empty)]
    rw [e1, e2]
  · rw [List.nodup_append]
    refine ⟨fnd, by simp, fun a ha b hb => ?_⟩
    rw [List.mem_singleton] at hb
    subst hb
    intro z
    subst z
    have := (fb _ ha).2.2
    exact absurd this (Nat.lt_irrefl _)
  · intro p hp
    rw [List.mem_append, List.mem_singleton] at hp
    rcases hp with hp | rfl
    · obtain ⟨b1, b2, b3⟩ := fb p hp
      exact ⟨b1, b2, by omega⟩
    · exact ⟨hi, hj, by show i * n + j < _; omega⟩
  · rw [List.length_append]
    show ru.length + 1 ≤ _
    omega

section
variable {P : Program} {w : World} {K : PySem.W.Frag} {mg : Str → Option Value} {base : Heap}
set_option maxHeartbeats 4000000 in
theorem ok__law_parts {A : Ad} (T : Txt P K mg A) : FnOk P w K mg base CX0 2 A.f__law_parts A.d__law_parts ["cell", "most"] (sp__law_parts K A) := by
  have G__law_draws := ok__law_draws (P := P) (w := w) (base := base) T
  refine T.F__law_parts.ok sc__law_parts len__law_parts (fun cdv Ar outer s H vs Q E hr h => ?_)
  have hu := hu_of hr
  obtain ⟨cell, most, rfl, hm1, hm6, q⟩ := h
  refine ⟨_, (pss_cons (ps_set (i := 2) sc__law_parts.nd rfl (Or.inr rfl) (pe_call G__law_draws hr (by rfl) T.G__law_draws T.F__law_draws.kp T.B__law_draws .nil pass0 (pa_cons (pv 0) (pa_cons pe_int pa_nil))))
      (pss_cons (ps_set (i := 3) sc__law_parts.nd rfl (Or.inr rfl) (pe_op op_add pe_int (pe_op op_mod (pe_ix ix_list (pv 2) pe_int (fun _ _ => rfl)) (pv 1))))
      (pss_cons (ps_set (i := 4) sc__law_parts.nd rfl (Or.inr rfl) (pe_lc (own := [("k", 16)]) (g := (gName 16)) (tt := tYes) rfl sc__law_parts.nd (pi_range1 rfl T.N_range (pa_cons (pv 3) pa_nil)) (blkOk_by (N := ["cell", "most", "draws", "count", "names", "outputs", "inputs", "leaders", "rules", "share", "first", "second", "draw", "third", "fourth", "turn", "k"]) (sc := defScope s__law_parts) (by decide +kernel)) (fun _ _ _ _ _ => (pg_name (i := 16) sc__law_parts.nd rfl (Or.inl rfl))) (fun _ _ _ _ _ => pts_nil) (fun _ _ _ _ _ => (pe_op op_add_str (pe_ix (Vf.ix_listK (K := K) rfl) (pe_lst (pa_cons pe_str (pa_cons pe_str (pa_cons pe_str (pa_cons pe_str (pa_cons pe_str (pa_cons pe_str pa_nil))))))) (pv 16) (fun _ _ => rfl)) (pe_ix (Vf.ix_listK (K := K) rfl) (pe_lst (pa_cons pe_str (pa_cons pe_str (pa_cons pe_str pa_nil)))) (pe_op op_mod (pe_ix (Vf.ix_listK (K := K) rfl) (pv 2) (pe_op op_add pe_int (pv 16)) (fun _ _ => rfl)) pe_int) (fun _ _ => rfl))))))
      (pss_cons (ps_setLc (i := 5) (own := [("k", 16)]) (g := (gName 16)) (tt := tYes) rfl sc__law_parts.nd rfl rfl (sw_true rfl rfl rfl (by decide +kernel)) (pi_range1 rfl T.N_range (pa_cons (pv 3) pa_nil)) (blkOk_by (N := ["cell", "most", "draws", "count", "names", "outputs", "inputs", "leaders", "rules", "share", "first", "second", "draw", "third", "fourth", "turn", "k"]) (sc := defScope s__law_parts) (by decide +kernel)) (fun _ _ _ _ _ => (pg_name (i := 16) sc__law_parts.nd rfl (Or.inl rfl))) (fun _ _ _ _ _ => pts_nil) (fun _ _ _ _ _ => (pe_op op_mod (pe_ix (Vf.ix_listK (K := K) rfl) (pv 2) (pe_op op_add pe_int (pv 16)) (fun _ _ => rfl)) (pe_ix (Vf.ix_listK (K := K) rfl) (pe_lst (pa_cons pe_int (pa_cons pe_int (pa_cons pe_int pa_nil)))) (pe_op op_mod (pe_ix (Vf.ix_listK (K := K) rfl) (pv 2) pe_int (fun _ _ => rfl)) pe_int) (fun _ _ => rfl)))))
      (pss_cons (ps_setLc (i := 6) (own := [("k", 16)]) (g := (gName 16)) (tt := tYes) rfl sc__law_parts.nd rfl rfl (sw_true rfl rfl rfl (by decide +kernel)) (pi_range1 rfl T.N_range (pa_cons (pe_op op_mod (pe_ix ix_list (pv 2) pe_int (fun _ _ => rfl)) pe_int) pa_nil)) (blkOk_by (N := ["cell", "most", "draws", "count", "names", "outputs", "inputs", "leaders", "rules", "share", "first", "second", "draw", "third", "fourth", "turn", "k"]) (sc := defScope s__law_parts) (by decide +kernel)) (fun _ _ _ _ _ => (pg_name (i := 16) sc__law_parts.nd rfl (Or.inl rfl))) (fun _ _ _ _ _ => pts_nil) (fun _ _ _ _ _ => (pe_tup (pa_cons (pe_ix (Vf.ix_listK (K := K) rfl) (pe_lst (pa_cons pe_str (pa_cons pe_str (pa_cons pe_str pa_nil)))) (pv 16) (fun _ _ => rfl)) (pa_cons (pe_ix (Vf.ix_listK (K := K) rfl) (pv 4) (pe_op op_mod (pe_ix (Vf.ix_listK (K := K) rfl) (pv 2) (pe_op op_add pe_int (pv 16)) (fun _ _ => rfl)) (pv 3)) (fun _ _ => rfl)) pa_nil)))))
      (pss_cons (ps_setLc (i := 7) (own := [("k", 16)]) (g := (gName 16)) (tt := tYes) rfl sc__law_parts.nd rfl rfl (sw_true rfl rfl rfl (by decide +kernel)) (pi_range1 rfl T.N_range (pa_cons (pe_ix ix_list (pe_lst (pa_cons pe_int (pa_cons pe_int (pa_cons pe_int (pa_cons pe_int pa_nil))))) (pe_op op_mod (pe_ix ix_list (pv 2) pe_int (fun _ _ => rfl)) pe_int) (fun _ _ => rfl)) pa_nil)) (blkOk_by (N := ["cell", "most", "draws", "count", "names", "outputs", "inputs", "leaders", "rules", "share", "first", "second", "draw", "third", "fourth", "turn", "k"]) (sc := defScope s__law_parts) (by decide +kernel)) (fun _ _ _ _ _ => (pg_name (i := 16) sc__law_parts.nd rfl (Or.inl rfl))) (fun _ _ _ _ _ => pts_nil) (fun _ _ _ _ _ => (pe_ix (Vf.ix_listK (K := K) rfl) (pv 4) (pe_op op_mod (pe_ix (Vf.ix_listK (K := K) rfl) (pv 2) (pe_op op_add pe_int (pv 16)) (fun _ _ => rfl)) (pv 3)) (fun _ _ => rfl))))
      (pss_cons (ps_set (i := 8) sc__law_parts.nd rfl (Or.inl rfl) (pe_lst pa_nil))
      (pss_cons (ps_set (i := 9) sc__law_parts.nd rfl (Or.inl rfl) (pe_op op_add pe_int (pe_op op_mod (pe_ix ix_list (pv 2) pe_int (fun _ _ => rfl)) pe_int)))
      (pss_cons (ps_for PassesOwn.never rfl (pi_range1 rfl T.N_range (pa_cons (pv 3) pa_nil)) (pg_name (i := 10) sc__law_parts.nd rfl (Or.inl rfl))
        (pss_one (ps_for PassesOwn.never rfl (pi_range1 rfl T.N_range (pa_cons (pv 3) pa_nil)) (pg_name (i := 11) sc__law_parts.nd rfl (Or.inl rfl))
        (pss_cons (ps_set (i := 12) sc__law_parts.nd rfl (Or.inl rfl) (pe_ix ix_list (pv 2) (pe_op op_add pe_int (pe_op op_mod (pe_callTy call_int1 (by rfl) T.N_int (by decide +kernel) (pa_cons (pe_op op_add (pe_op op_mul (pv 10) (pv 3)) (pv 11)) pa_nil)) pe_int)) (fun _ _ => rfl)))
      (pss_one (ps_if (pt_cmpR op_eq (pe_op op_mod (pv 12) (pv 9)) pe_int (nomark _)) (pss_cons (ps_set (i := 13) sc__law_parts.nd rfl (Or.inl rfl) (pe_op op_mod (pe_op op_fdiv (pv 12) pe_int) (pv 3)))
      (pss_cons (ps_set (i := 14) sc__law_parts.nd rfl (Or.inl rfl) (pe_op op_mod (pe_op op_fdiv (pv 12) pe_int) (pv 3)))
      (pss_one (ps_expr (pe_bm PySem.F.plainAttrs_list PySem.F.slot_list_append PySem.F.type_list_append mt_append (pv 8) (pa_cons (pe_tup (pa_cons (pe_ix ix_list (pv 4) (pv 10) (fun _ _ => rfl)) (pa_cons (pe_ix ix_list (pv 4) (pv 11) (fun _ _ => rfl)) (pa_cons (pe_ix ix_list (pv 4) (pv 13) (fun _ _ => rfl)) (pa_cons (pe_ix ix_list (pv 4) (pv 14) (fun _ _ => rfl)) pa_nil))))) pa_nil)))))) pss_nil))))))
      (pss_cons (ps_set (i := 15) sc__law_parts.nd rfl (Or.inl rfl) (pe_op op_mod (pe_ix ix_list (pv 2) pe_int (fun _ _ => rfl)) (pe_op op_add (pe_callB call_len_seq (by rfl) T.N_len PySem.boot_len (pa_cons (pv 8) pa_nil)) pe_int)))
      (pss_one (ps_ret (pe_tup (pa_cons (pv 4) (pa_cons (pv 6) (pa_cons (pv 7) (pa_cons (pe_op op_cat (pe_slice sl_list (pv 8) (po_some (pv 15)) po_none) (pe_slice sl_list (pv 8) po_none (po_some (pv 15)))) (pa_cons (pv 5) pa_nil)))))))))))))))))), ?_⟩
  refine ⟨_, rfl, cell, 80, rfl, by decide, by decide, fun dr H1 ds _ s1 hdr ⟨hl, hrg⟩ => ?_⟩
  have hl : ds.length = 80 := by omega
  have dat : ∀ {i : Int}, 0 ≤ i → i < 80 → atI (ds.map V.int) i = some (V.int (ds.getD i.toNat 0)) := fun h0 h1 => Vf.int_at h0 (by omega)
  have drg : ∀ i : Nat, i < 80 → 0 ≤ ds.getD i 0 ∧ ds.getD i 0 < 4096 := fun i hi => hrg _ (Vf.getD_mem (by omega))
  -- count
  refine ⟨_, rfl, dr, _, 0, _, rfl, rfl, SqL.of hdr, dat (by decide) (by decide), _, rfl, _, _, rfl, rfl, (by show 0 < most; omega), _, _, rfl, rfl, ?_⟩
  obtain ⟨n, hn, hn1, hn6, hnm⟩ : ∃ n : Nat, 1 + ds.getD (Int.toNat 0) 0 % most = (n : Int) ∧ 1 ≤ n ∧ n ≤ 6 ∧ (n : Int) ≤ most := by
    have a := Int.emod_nonneg (ds.getD (Int.toNat 0) 0) (show most ≠ 0 by omega)
    have b := Int.emod_lt_of_pos (ds.getD (Int.toNat 0) 0) (show 0 < most by omega)
    exact ⟨(1 + ds.getD (Int.toNat 0) 0 % most).toNat, by omega, by omega, by omega, by omega⟩
  show gName 3 (V.int (1 + ds.getD (Int.toNat 0) 0 % most)) _ _ _
  rw [hn]
  have mod_of : ∀ (x : Int), 0 ≤ x % (n : Int) ∧ x % (n : Int) < (n : Int) := fun x => ⟨Int.emod_nonneg _ (by omega), Int.emod_lt_of_pos _ (by omega)⟩
  -- names
  refine ⟨_, rfl, n, rfl, by omega, by omega, fun ls hls => ?_⟩
  refine Vf.lc_enc (walk_range (lo := 0) (n := ((n : Int)).toNat)) V.str Vf.goodName hls (by omega) (fun _ _ => trivial) ?_ ?_
  · rintro i x Ha Hb hi s ⟨rfl, rfl⟩ Q' q'
    have hi : i < n := by omega
    have a := Int.emod_nonneg (ds.getD (1 + i) 0) (show (3 : Int) ≠ 0 by decide)
    have b := Int.emod_lt_of_pos (ds.getD (1 + i) 0) (show (0 : Int) < 3 by decide)
    have ei : ((1 : Int) + (0 + (i : Int))).toNat = 1 + i := by omega
    refine ⟨rfl, (by show 6 ≤ sizeLine; decide), fun u1 hu1 => ?_⟩
    refine ⟨_, rfl, u1, _, _, .str (Vf.nmB.getD i Str.empty), rfl, rfl, SqL.of upd_same, (by rw [show ((0 : Int) + (i : Int)) = ((i : Nat) : Int) by omega]; exact Vf.map_at (f := V.str) (l := Vf.nmB) (i := ((i : Nat) : Int)) (d := Str.empty) (by omega) (by show (i : Int) < 6; omega)), ?_⟩
    refine ⟨(by show 3 ≤ sizeLine; decide), fun u2 hu2 => ?_⟩
    have sb := Vf.Same.new (o := .lst [.str "", .str "x", .str "q7"]) (Vf.Same.new (o := .lst [.str "a", .str "b", .str "c", .str "d1", .str "e", .str "f"]) (Same.refl Hb) hu1) hu2
    refine ⟨_, rfl, _, rfl, _, _, rfl, rfl, dr, _, _, _, rfl, rfl, SqL.of (sb _ _ (s _ _ hdr)), dat (by omega) (by omega), _, _, rfl, rfl, (by show (0 : Int) < 3; decide), u2, _, _, .str (Vf.nmS.getD (ds.getD (1 + i) 0 % 3).toNat Str.empty), rfl, rfl, SqL.of upd_same, (by rw [ei]; exact Vf.map_at (f := V.str) (l := Vf.nmS) (d := Str.empty) a b), _, _, rfl, rfl, ?_, ?_⟩
    · have h1 : (Vf.nmB.getD i Str.empty).length ≤ 2 ∧ (Vf.nmS.getD (ds.getD (1 + i) 0 % 3).toNat Str.empty).length ≤ 2 := by
        have c1 : ∀ j, j < 6 → (Vf.nmB.getD j Str.empty).length ≤ 2 := by decide +kernel
        have c2 : ∀ j, j < 3 → (Vf.nmS.getD j Str.empty).length ≤ 2 := by decide +kernel
        exact ⟨c1 i (by omega), c2 _ (by omega)⟩
      exact Nat.le_trans (Nat.add_le_add h1.1 h1.2) (by decide)
    · exact q' _ _ sb ⟨_, by omega, rfl⟩
  intro ns H2 hnl s2 hns good
  have hnl : ns.length = n := by omega
  have nat_ : ∀ {i : Int}, 0 ≤ i → i < (n : Int) → atI (ns.map V.str) i = some (V.str (ns.getD i.toNat Str.empty)) := fun h0 h1 => Vf.map_at h0 (by omega)
  have nmem : ∀ i : Nat, i < n → ns.getD i Str.empty ∈ ns := fun i hi => Vf.getD_mem (by omega)
  -- outputs
  refine ⟨_, rfl, n, rfl, by omega, by omega, fun lo hlo => ?_⟩
  refine Vf.lc_enc (walk_range (lo := 0) (n := ((n : Int)).toNat)) V.int (fun _ o => 0 ≤ o ∧ o ≤ 9) hlo (by omega) (fun _ _ => trivial) ?_ ?_
  · rintro i x Ha Hb hi s ⟨rfl, rfl⟩ Q' q'
    have hi : i < n := by omega
    have a := Int.emod_nonneg (ds.getD 7 0) (show (3 : Int) ≠ 0 by decide)
    have b := Int.emod_lt_of_pos (ds.getD 7 0) (show (0 : Int) < 3 by decide)
    have sd := s _ _ (s2 _ _ hdr)
    refine ⟨rfl, _, rfl, _, rfl, _, _, rfl, rfl, dr, _, _, _, rfl, rfl, SqL.of sd, dat (by omega) (by omega), (by show 3 ≤ sizeLine; decide), fun u1 hu1 => ?_⟩
    have sb := Vf.Same.new (o := .lst [.int 2, .int 2, .int 10]) (Same.refl Hb) hu1
    have c1 : ∀ j, j < 3 → 0 < ([2, 2, 10] : List Int).getD j 0 ∧ ([2, 2, 10] : List Int).getD j 0 ≤ 10 := by decide
    obtain ⟨c2, c3⟩ := c1 (ds.getD 7 0 % 3).toNat (by omega)
    refine ⟨_, rfl, dr, _, 7, _, rfl, rfl, SqL.of (sb _ _ sd), dat (by decide) (by decide), _, _, rfl, rfl, (by show (0 : Int) < 3; decide), u1, _, _, .int (([2, 2, 10] : List Int).getD (ds.getD 7 0 % 3).toNat 0), rfl, rfl, SqL.of upd_same, Vf.map_at (f := V.int) (l := [2, 2, 10]) (d := 0) a b, _, _, rfl, rfl, c2, ?_⟩
    have d1 := Int.emod_nonneg (ds.getD ((8 : Int) + (0 + (i : Int))).toNat 0) (show ([2, 2, 10] : List Int).getD (ds.getD 7 0 % 3).toNat 0 ≠ 0 by omega)
    have d2 := Int.emod_lt_of_pos (ds.getD ((8 : Int) + (0 + (i : Int))).toNat 0) c2
    exact q' _ _ sb ⟨d1, by omega⟩
  intro os H3 hol s3 hos goodo
  have hol : os.length = n := by omega
  have s13 := s2.trans s3
  -- inputs
  have hd3 := s13 _ _ hdr
  have hn3 := s3 _ _ hns
  have a14 := Int.emod_nonneg (ds.getD 14 0) (show (4 : Int) ≠ 0 by decide)
  have b14 := Int.emod_lt_of_pos (ds.getD 14 0) (show (0 : Int) < 4 by decide)
  refine ⟨_, rfl, dr, _, 14, _, rfl, rfl, SqL.of hd3, dat (by decide) (by decide), _, _, rfl, rfl, (by show (0 : Int) < 4; decide), _, rfl, (by show -(2 ^ 62 : Int) ≤ ds.getD 14 0 % 4; omega), (by show ds.getD 14 0 % 4 < (2 ^ 62 : Int); omega), fun li hli => ?_⟩
  refine Vf.lc_tups (walk_range (lo := 0) (n := (ds.getD 14 0 % 4).toNat)) Vf.enc2 (fun i p => p.1 = Vf.inB.getD i Str.empty ∧ p.2 ∈ ns) hli (by omega) (fun _ _ => trivial) ?_ ?_
  · rintro i x Ha Hb hi s ⟨rfl, rfl⟩ Q' q'
    have hi3 : i < 3 := by omega
    have m := mod_of (ds.getD (15 + i) 0)
    have ei : ((15 : Int) + (0 + (i : Int))).toNat = 15 + i := by omega
    refine ⟨rfl, (by show 3 ≤ sizeLine; decide), fun u1 hu1 => ?_⟩
    have sb := Vf.Same.new (o := .lst [.str "u", .str "v", .str "w"]) (Same.refl Hb) hu1
    have sc := s.trans sb
    refine ⟨_, rfl, u1, _, _, .str (Vf.inB.getD i Str.empty), rfl, rfl, SqL.of upd_same, (by rw [show ((0 : Int) + (i : Int)) = ((i : Nat) : Int) by omega]; exact Vf.map_at (f := V.str) (l := Vf.inB) (i := ((i : Nat) : Int)) (d := Str.empty) (by omega) (by show (i : Int) < 3; omega)), ?_⟩
    refine ⟨_, rfl, _, rfl, _, rfl, _, _, rfl, rfl, dr, _, _, _, rfl, rfl, SqL.of (sc _ _ hd3), dat (by omega) (by omega), _, rfl, _, _, rfl, rfl, (by show (0 : Int) < (n : Int); omega), ls, _, _, .str (ns.getD (ds.getD (15 + i) 0 % (n : Int)).toNat Str.empty), rfl, rfl, SqL.of (sc _ _ hn3), (by rw [ei]; exact nat_ m.1 m.2), (by show 2 ≤ sizeLine; decide), fun t ht => ?_⟩
    exact q' (Vf.inB.getD i Str.empty, ns.getD (ds.getD (15 + i) 0 % (n : Int)).toNat Str.empty) t _ (Vf.Same.new sb ht) upd_same ⟨rfl, nmem _ (by omega)⟩
  intro ins xi H4 hil s4 hins tins goodi
  have hil : ins.length ≤ 3 := by omega
  -- leaders
  have hd4 := s4 _ _ hd3
  have hn4 := s4 _ _ hn3
  have a19 := Int.emod_nonneg (ds.getD 19 0) (show (4 : Int) ≠ 0 by decide)
  have b19 := Int.emod_lt_of_pos (ds.getD 19 0) (show (0 : Int) < 4 by decide)
  refine ⟨(by show 4 ≤ sizeLine; decide), fun u1 hu1 => ?_⟩
  have s5 := Vf.Same.new (o := .lst [.int 0, .int 0, .int 1, .int 2]) (Same.refl H4) hu1
  have cl : ∀ j, j < 4 → 0 ≤ ([0, 0, 1, 2] : List Int).getD j 0 ∧ ([0, 0, 1, 2] : List Int).getD j 0 ≤ 2 := by decide
  obtain ⟨cl1, cl2⟩ := cl (ds.getD 19 0 % 4).toNat (by omega)
  refine ⟨_, rfl, dr, _, 19, _, rfl, rfl, SqL.of (s5 _ _ hd4), dat (by decide) (by decide), _, _, rfl, rfl, (by show (0 : Int) < 4; decide), u1, _, _, .int (([0, 0, 1, 2] : List Int).getD (ds.getD 19 0 % 4).toNat 0), rfl, rfl, SqL.of upd_same, Vf.map_at (f := V.int) (l := [0, 0, 1, 2]) (d := 0) a19 b19, _, rfl, (by omega), (by omega), fun ll hll => ?_⟩
  refine Vf.lc_enc (walk_range (lo := 0) (n := (([0, 0, 1, 2] : List Int).getD (ds.getD 19 0 % 4).toNat 0).toNat)) V.str (fun _ x => x ∈ ns) hll (by omega) (fun _ _ => trivial) ?_ ?_
  · rintro i x Ha Hb hi s ⟨rfl, rfl⟩ Q' q'
    have hi2 : i < 2 := by omega
    have sc := s5.trans s
    have m := mod_of (ds.getD (20 + i) 0)
    have ei : ((20 : Int) + (0 + (i : Int))).toNat = 20 + i := by omega
    refine ⟨rfl, _, rfl, _, rfl, _, rfl, _, _, rfl, rfl, dr, _, _, _, rfl, rfl, SqL.of (sc _ _ hd4), dat (by omega) (by omega), _, rfl, _, _, rfl, rfl, (by show (0 : Int) < (n : Int); omega), ls, _, _, .str (ns.getD (ds.getD (20 + i) 0 % (n : Int)).toNat Str.empty), rfl, rfl, SqL.of (sc _ _ hn4), (by rw [ei]; exact nat_ m.1 m.2), ?_⟩
    exact q' _ _ (Same.refl _) (nmem _ (by omega))
  intro lds H5 hll2 s6 hlds goodl
  have hll2 : lds.length ≤ 2 := by omega
  have s45 := s5.trans s6
  have hd5 := s45 _ _ hd4
  have hn5 := s45 _ _ hn4
  -- rules, share
  refine ⟨(by show 0 ≤ sizeLine; decide), fun R hR => ?_⟩
  have s56 : Same H5 (upd H5 R (.lst [])) := Vf.Same.new (Same.refl H5) hR
  have a23 := Int.emod_nonneg (ds.getD 23 0) (show (4 : Int) ≠ 0 by decide)
  refine ⟨_, rfl, dr, _, 23, _, rfl, rfl, SqL.of (s56 _ _ hd5), dat (by decide) (by decide), _, _, rfl, rfl, (by show (0 : Int) < 4; decide), _, _, rfl, rfl, ?_⟩
  show gName 9 (V.int (1 + ds.getD 23 0 % 4)) _ _ _
  obtain ⟨sh, hsh, hsh1⟩ : ∃ sh : Int, 1 + ds.getD 23 0 % 4 = sh ∧ 0 < sh := ⟨_, rfl, by omega⟩
  rw [hsh]
  have W0 : RulesAt H5 ns n R (upd H5 R (.lst [])) 0 := ⟨Vf.Same.new (Same.refl H5) hR, [], [], [], upd_same, Vf.Tups.nil, (fun r hr => absurd hr List.not_mem_nil), rfl, List.nodup_nil, (fun p hp => absurd hp List.not_mem_nil), Nat.zero_le _⟩
  refine ⟨_, rfl, n, rfl, by omega, by omega, for_range (lo := 0) (n := ((n : Int)).toNat) (fun i σ H' => (∃ v10 v11 v12 v13 v14 : Option V, σ = [some (.int cell), some (.int most), some (.ref dr), some (.int (n : Int)), some (.ref ls), some (.ref lo), some (.ref li), some (.ref ll), some (.ref R), some (.int sh), v10, v11, v12, v13, v14, none, none]) ∧ RulesAt H5 ns n R H' (i * n)) ?_ ?_ ?_⟩
  · exact ⟨⟨none, none, none, none, none, rfl⟩, by rw [Nat.zero_mul]; exact W0⟩
  · rintro i σ H' hi ⟨⟨v10, v11, v12, v13, v14, rfl⟩, W⟩
    have hi : i < n := by omega
    refine ⟨_, rfl, n, rfl, by omega, by omega, for_range (lo := 0) (n := ((n : Int)).toNat) (fun j σ H' => (∃ v11 v12 v13 v14 : Option V, σ = [some (.int cell), some (.int most), some (.ref dr), some (.int (n : Int)), some (.ref ls), some (.ref lo), some (.ref li), some (.ref ll), some (.ref R), some (.int sh), some (.int (0 + (i : Int))), v11, v12, v13, v14, none, none]) ∧ RulesAt H5 ns n R H' (i * n + j)) ?_ ?_ ?_⟩
    · exact ⟨⟨_, _, _, _, rfl⟩, W⟩
    · rintro j σ H' hj ⟨⟨v11, v12, v13, v14, rfl⟩, W⟩
      have hj : j < n := by omega
      obtain ⟨sW, ru, xr, fs, hR', tr, rm, rf, fnd, fb, rl⟩ := id W
      have hd' := sW _ _ hd5
      have hn' := sW _ _ hn5
      have hbig : (0 : Int) + (i : Int) < 2 ^ 64 := by omega
      have m50 := Int.emod_nonneg (((0 : Int) + (i : Int)) * (n : Int) + (0 + (j : Int))) (show (50 : Int) ≠ 0 by decide)
      have l50 := Int.emod_lt_of_pos (((0 : Int) + (i : Int)) * (n : Int) + (0 + (j : Int))) (show (0 : Int) < 50 by decide)
      refine ⟨_, rfl, _, rfl, _, rfl, _, _, rfl, rfl, .inl ⟨by omega, hbig⟩, _, rfl, _, _, rfl, rfl, .inl ⟨_, rfl, _, _, rfl, rfl, (by show (0 : Int) < 50; decide), _, _, rfl, rfl, dr, _, _, _, rfl, rfl, SqL.of hd', dat (by omega) (by omega), ?_⟩⟩
      show gName 12 (V.int (ds.getD (24 + (((0 : Int) + (i : Int)) * (n : Int) + (0 + (j : Int))) % 50).toNat 0)) _ _ _
      generalize ds.getD (24 + (((0 : Int) + (i : Int)) * (n : Int) + (0 + (j : Int))) % 50).toNat 0 = dw
      refine Vf.gN ?_
      dsimp only
      refine Vf.st_if (b := decide (V.int (dw % sh) = V.int 0)) (fun Q0 r => ⟨_, rfl, _, rfl, _, _, rfl, rfl, hsh1, rfl, _, rfl, r⟩) (fun _ => ?_) (fun _ => ?_)
      · have m5 := mod_of (dw / 5)
        have m35 := mod_of (dw / 35)
        have pn : (0 : Int) < (n : Int) := by omega
        refine ⟨_, rfl, _, _, rfl, rfl, ⟨by decide, by decide⟩, _, rfl, _, _, rfl, rfl, pn, _, rfl, _, _, rfl, rfl, ⟨by decide, by decide⟩, _, rfl, _, _, rfl, rfl, pn, ?_⟩
        refine ⟨_, rfl, Vf.tyL hR', ?_⟩
        refine ⟨_, rfl, _, rfl, ls, _, _, _, rfl, rfl, SqL.of hn', nat_ (by omega) (by omega), _, rfl, _, rfl, ls, _, _, _, rfl, rfl, SqL.of hn', nat_ (by omega) (by omega), _, rfl, _, rfl, ls, _, _, _, rfl, rfl, SqL.of hn', nat_ m5.1 m5.2, _, rfl, _, rfl, ls, _, _, _, rfl, rfl, SqL.of hn', nat_ m35.1 m35.2, (by show 4 ≤ sizeLine; decide), fun t ht => ?_⟩
        have nRt : R ≠ t := ne_of_none hR' ht
        refine ⟨R, xr, _, rfl, rfl, (by rw [upd_ne nRt]; exact hR'), (by rw [tr.1]; exact Nat.lt_of_le_of_lt (show ru.length ≤ 1000 by have : i * n + j ≤ 6 * 6 + 6 := Nat.add_le_add (Nat.mul_le_mul (by omega) hn6) (by omega); omega) (by decide)), ?_⟩
        refine ⟨⟨_, _, _, _, rfl⟩, ?_⟩
        exact W.more hR nRt ht (r := (ns.getD (0 + (i : Int)).toNat Str.empty, ns.getD (0 + (j : Int)).toNat Str.empty, ns.getD (dw / 5 % (n : Int)).toNat Str.empty, ns.getD (dw / 35 % (n : Int)).toNat Str.empty)) hR' tr rm rf fnd fb rl hi hj (by rw [show (0 + (i : Int)).toNat = i by omega]) (by show ns.getD (0 + (j : Int)).toNat Str.empty = _; rw [show (0 + (j : Int)).toNat = j by omega]) (nmem _ (by omega)) (nmem _ (by omega)) (nmem _ (by omega)) (nmem _ (by omega))
      · exact ⟨⟨_, _, _, _, rfl⟩, sW, ru, xr, fs, hR', tr, rm, rf, fnd, fun p hp => by
          obtain ⟨b1, b2, b3⟩ := fb p hp
          exact ⟨b1, b2, by omega⟩, by omega⟩
    · rintro σ H' ⟨⟨v11, v12, v13, v14, rfl⟩, W⟩
      refine ⟨⟨_, _, _, _, _, rfl⟩, ?_⟩
      have e : i * n + ((n : Int)).toNat = (i + 1) * n := by
        rw [Nat.succ_mul]
        omega
      rw [e] at W
      exact W
  rintro σ H6 ⟨⟨v10, v11, v12, v13, v14, rfl⟩, W⟩
  obtain ⟨sW, ru, xr, fs, hR6, tr, rm, rf, fnd, fb, rl⟩ := W
  have rl36 : ru.length ≤ 36 := by
    have : ((n : Int)).toNat * n ≤ 6 * 6 := Nat.mul_le_mul (by omega) hn6
    omega
  -- turn
  have hl1 : (0 : Int) < (ru.length : Int) + 1 := by omega
  have t0 := Int.emod_nonneg (ds.getD 79 0) (show (ru.length : Int) + 1 ≠ 0 by omega)
  have t1 := Int.emod_lt_of_pos (ds.getD 79 0) hl1
  obtain ⟨tn, htn⟩ : ∃ tn : Nat, ds.getD 79 0 % ((ru.length : Int) + 1) = (tn : Int) := ⟨(ds.getD 79 0 % ((ru.length : Int) + 1)).toNat, by omega⟩
  have htl : tn ≤ ru.length := by omega
  refine ⟨_, rfl, dr, _, 79, _, rfl, rfl, SqL.of (sW _ _ hd5), dat (by decide) (by decide), _, rfl, R, _, rfl, .inl (SqL.of hR6), _, _, rfl, rfl, _, _, rfl, rfl, (by rw [tr.1]; exact hl1), ?_⟩
  show gName 15 (V.int (ds.getD 79 0 % ((xr.length : Int) + 1))) _ _ _
  rw [tr.1, htn]
  -- the five
  have tx : tn ≤ xr.length := by rw [tr.1]; exact htl
  refine ⟨_, rfl, _, rfl, _, rfl, _, rfl, _, rfl, _, rfl, R, xr, rfl, SqL.of hR6, fun u1 hu1 => ?_⟩
  have sa := Vf.Same.new (o := .lst (cutV xr (some (tn : Int)) none)) (Same.refl H6) hu1
  refine ⟨_, rfl, _, rfl, _, rfl, R, xr, rfl, SqL.of (sa _ _ hR6), fun u2 hu2 => ?_⟩
  have sb := Vf.Same.new (o := .lst (cutV xr none (some (tn : Int)))) sa hu2
  have nu : u1 ≠ u2 := ne_of_none upd_same hu2
  refine ⟨u1, u2, _, _, rfl, rfl, (by rw [upd_ne nu]; exact upd_same), upd_same, Nat.le_trans (Nat.add_le_add (cutV_length _ _ _) (cutV_length _ _ _)) (by rw [tr.1]; exact Vf.line (by omega)), fun u3 hu3 => ?_⟩
  have sc := Vf.Same.new (o := .lst (cutV xr (some (tn : Int)) none ++ cutV xr none (some (tn : Int)))) sb hu3
  refine ⟨_, rfl, (by show 5 ≤ sizeLine; decide), fun p hp => ?_⟩
  have sd := Vf.Same.new (o := .tup [.ref ls, .ref li, .ref ll, .ref u3, .ref lo]) sc hp
  have nu3 : u3 ≠ p := ne_of_none upd_same hp
  have s6d := sW.trans sd
  have hxe : cutV xr (some (tn : Int)) none ++ cutV xr none (some (tn : Int)) = xr.drop tn ++ xr.take tn := by rw [Vf.cut_from _ _ tx, Vf.cut_to _ _ tx]
  have pru : (ru.drop tn ++ ru.take tn).Perm ru := by
    have h := List.perm_append_comm (l₁ := ru.drop tn) (l₂ := ru.take tn)
    rw [List.take_append_drop] at h
    exact h
  have hall : Same H _ := (((s1.trans s13).trans s4).trans s45).trans s6d
  refine q p _ ⟨ns, ins, lds, ru.drop tn ++ ru.take tn, os⟩ ⟨ls, li, ll, u3, lo, xi, xr.drop tn ++ xr.take tn, upd_same, (s6d _ _ hn5), s6d _ _ (s45 _ _ hins), ?_, s6d _ _ hlds, (by rw [upd_ne nu3, ← hxe]; exact upd_same), ?_, s6d _ _ (s45 _ _ (s4 _ _ hos))⟩ ?_ ⟨⟨by show 1 ≤ ns.length; omega, by show ns.length ≤ 6; omega, hil, hll2, (by show (ru.drop tn ++ ru.take tn).length ≤ 36; rw [pru.length_eq]; exact rl36), good⟩, by show (ns.length : Int) ≤ most; omega⟩ hall (((((s1.trans s13).trans s4).trans s45).trans (sW.trans sc)).free hp)
  · exact (tins.same s45).same s6d
  · exact ((tr.drop tn).append (tr.take tn)).same sd
  · have nnd : ns.Nodup := Vf.goodNames_nodup (by omega) good
    have insn : ∀ p ∈ ins, Vf.isName p.1 = true ∧ p.2 ∈ ns := fun p hp => by
      obtain ⟨i, hi⟩ := List.mem_iff_getElem?.mp hp
      obtain ⟨g1, g2⟩ := goodi i p hi
      have il := (List.getElem?_eq_some_iff.mp hi).1
      rw [g1]
      exact ⟨(Vf.inB_of (by omega)).1, g2⟩
    refine ⟨by show os.length = ns.length; omega, by show ns.length ≤ 400; omega, fun x hx => ?_, nnd, fun o ho => ?_, by show ins.length ≤ 8; omega, insn, ?_, by show lds.length ≤ 10; omega, fun x hx => ?_, fun r hr => rm r (pru.mem_iff.mp hr), ?_⟩
    · obtain ⟨i, hi⟩ := List.mem_iff_getElem?.mp hx
      have il := (List.getElem?_eq_some_iff.mp hi).1
      have il' : i < ns.length := il
      exact (Vf.goodName_of (by omega) (good i x hi)).1
    · obtain ⟨i, hi⟩ := List.mem_iff_getElem?.mp ho
      exact goodo i o hi
    · refine Vf.nodup_by (fun s : Str => s.cps.toList.head?) (fun i => some (117 + i)) (fun i a e => ?_) fun i j _ _ e => by
        have := Option.some.inj e
        omega
      obtain ⟨p, hp, rfl⟩ := Vf.map_get e
      have il := (List.getElem?_eq_some_iff.mp hp).1
      have il' : i < ins.length := il
      rw [(goodi i p hp).1]
      exact (Vf.inB_of (by omega)).2
    · obtain ⟨i, hi⟩ := List.mem_iff_getElem?.mp hx
      exact goodl i x hi
    · have pm := (pru.map fun x : Vf.S4 => (x.1, x.2.1)).nodup_iff
      refine pm.mpr ?_
      rw [rf]
      rw [List.Nodup, List.pairwise_map]
      refine List.Pairwise.imp_of_mem (fun {x y} hx hy ne e => ne ?_) fnd
      obtain ⟨x1, x2, _⟩ := fb x hx
      obtain ⟨y1, y2, _⟩ := fb y hy
      have inj : ∀ a b : Nat, a < n → b < n → ns.getD a Str.empty = ns.getD b Str.empty → a = b := fun a b ha hb e => by
        have ea : ns[a]? = some (ns.getD a Str.empty) := by
          rw [List.getD_eq_getElem?_getD, List.getElem?_eq_getElem (show a < ns.length by omega)]
          rfl
        have eb : ns[b]? = some (ns.getD b Str.empty) := by
          rw [List.getD_eq_getElem?_getD, List.getElem?_eq_getElem (show b < ns.length by omega)]
          rfl
        rw [← e] at eb
        exact Vf.nodup_ix nnd ea eb
      have e' := Prod.mk.inj e
      exact Prod.ext (inj _ _ x1 y1 e'.1) (inj _ _ x2 y2 e'.2)
end

def sp__law_table (K : PySem.W.Frag) (A : Ad) : Sp := fun vs H Q _ => ∃ (t : Addr) (D : Vf.DD), vs = [.ref t] ∧ Vf.PartsAt H t D ∧ Vf.ValidN D ∧ D.ru.length ≤ 1000000 ∧ ∀ (d : Addr) (kvs : List (List Key × V)) (H' : Hp), H d = none → Same H H' → H' d = some (.dT kvs) → Vf.PP H' kvs (Vf.rks D) (Vf.rvs D) → Q (.ref d) H'
theorem len__law_table {K : PySem.W.Frag} {A : Ad} (vs : List V) (H : Hp) (Q : VK) (E : XK) (h : sp__law_table K A vs H Q E) : vs.length = ["parts"].length := by
  obtain ⟨a, b, rfl, _⟩ := h
  rfl

section
variable {P : Program} {w : World} {K : PySem.W.Frag} {mg : Str → Option Value} {base : Heap}
set_option maxHeartbeats 4000000 in
theorem ok__law_table {A : Ad} (T : Txt P K mg A) : FnOk P w K mg base CX0 1 A.f__law_table A.d__law_table ["parts"] (sp__law_table K A) := by
  refine T.F__law_table.ok sc__law_table len__law_table (fun cdv Ar outer s H vs Q E hr h => ?_)
  have hu := hu_of hr
  obtain ⟨t, D, rfl, P5, vN, hru, q⟩ := h
  obtain ⟨ls, li, ll, lr, lo, xi, xr, h0, hls, hli, ti, hll, hlr, tr, hlo⟩ := P5
  refine ⟨_, (pss_cons (ps_set (i := 1) sc__law_table.nd rfl (Or.inl rfl) pe_dnewT)
      (pss_cons (ps_for PassesOwn.never rfl (pi_list (pe_ix ix_tup (pv 0) pe_int (fun _ _ => rfl))) (pg_tup (by rfl) (pgs_cons (pg_name (i := 2) sc__law_table.nd rfl (Or.inl rfl)) (pgs_cons (pg_name (i := 3) sc__law_table.nd rfl (Or.inl rfl)) (pgs_cons (pg_name (i := 4) sc__law_table.nd rfl (Or.inl rfl)) (pgs_cons (pg_name (i := 5) sc__law_table.nd rfl (Or.inl rfl)) pgs_nil)))))
        (pss_cons (ps_set (i := 6) sc__law_table.nd rfl (Or.inl rfl) (pe_tup (pa_cons (pe_bm PySem.F.plainAttrs_list PySem.F.slot_list_index PySem.F.type_list_index mt_index (pe_ix ix_tup (pv 0) pe_int (fun _ _ => rfl)) (pa_cons (pv 2) pa_nil)) (pa_cons (pe_bm PySem.F.plainAttrs_list PySem.F.slot_list_index PySem.F.type_list_index mt_index (pe_ix ix_tup (pv 0) pe_int (fun _ _ => rfl)) (pa_cons (pv 3) pa_nil)) pa_nil))))
      (pss_one (ps_dput hu (pv 1) (pv 6) (pe_tup (pa_cons (pe_bm PySem.F.plainAttrs_list PySem.F.slot_list_index PySem.F.type_list_index mt_index (pe_ix ix_tup (pv 0) pe_int (fun _ _ => rfl)) (pa_cons (pv 4) pa_nil)) (pa_cons (pe_bm PySem.F.plainAttrs_list PySem.F.slot_list_index PySem.F.type_list_index mt_index (pe_ix ix_tup (pv 0) pe_int (fun _ _ => rfl)) (pa_cons (pv 5) pa_nil)) pa_nil))) rfl))))
      (pss_one (ps_ret (pv 1))))), ?_⟩
  intro d nd
  have e0 := Vf.Same.new (o := .dT []) (Same.refl H) nd
  refine ⟨_, rfl, t, _, 3, .ref lr, rfl, rfl, SqT.of (e0 _ _ h0), atI_nat (j := 3) rfl, lr, rfl, ⟨_, SqL.of (e0 _ _ hlr)⟩, ?_⟩
  refine for_list (K := K) (a := lr) (xs := xr) (fun i σ H' => (∃ v2 v3 v4 v5 v6 : Option V, σ = [some (.ref t), some (.ref d), v2, v3, v4, v5, v6]) ∧ Same H H' ∧ ∃ kvs, H' d = some (.dT kvs) ∧ Vf.PP H' kvs ((Vf.rks D).take i) ((Vf.rvs D).take i)) ⟨⟨none, none, none, none, none, rfl⟩, e0, [], upd_same, rfl, Vf.Tups.nil, List.nodup_nil⟩ (fun i σ H' _ ⟨_, s, _⟩ => SqL.of (s _ _ hlr)) ?_ ?_
  · rintro i x σ H' hx ⟨⟨v2, v3, v4, v5, v6, rfl⟩, s, kvs, hk, pp⟩
    obtain ⟨r, tp, hr, rfl, htp⟩ := tr.get hx
    obtain ⟨m1, m2, m3, m4⟩ := vN.rum r (List.mem_of_getElem? hr)
    refine ⟨tp, _, rfl, SqT.of (s _ _ htp), rfl, _, _, rfl, _, _, rfl, _, _, rfl, _, _, rfl, rfl, ?_⟩
    have PL : ∀ {H2 : Hp}, Same H' H2 → H2 t = some (.tup [.ref ls, .ref li, .ref ll, .ref lr, .ref lo]) ∧ H2 ls = some (.lst (D.st.map V.str)) := fun e => ⟨e _ _ (s _ _ h0), e _ _ (s _ _ hls)⟩
    obtain ⟨f1, f2, f3⟩ := Vf.rks_take hr
    refine ⟨_, rfl, t, _, 0, .ref ls, rfl, rfl, SqT.of (PL (Same.refl H')).1, atI_nat (j := 0) rfl, Vf.tyL (PL (Same.refl H')).2, _, rfl, ls, _, .str r.1, D.st.idxOf r.1, .str r.1, rfl, rfl, SqL.of (PL (Same.refl H')).2, rfl, Vf.flat_str _, (Vf.idx_get m1).1, beq_self_eq_true _, (Vf.idx_get m1).2, ?_⟩
    refine ⟨_, rfl, t, _, 0, .ref ls, rfl, rfl, SqT.of (PL (Same.refl H')).1, atI_nat (j := 0) rfl, Vf.tyL (PL (Same.refl H')).2, _, rfl, ls, _, .str r.2.1, D.st.idxOf r.2.1, .str r.2.1, rfl, rfl, SqL.of (PL (Same.refl H')).2, rfl, Vf.flat_str _, (Vf.idx_get m2).1, beq_self_eq_true _, (Vf.idx_get m2).2, ?_⟩
    refine ⟨(by show 2 ≤ sizeLine; decide), fun u nu => ?_⟩
    have eu := Vf.Same.new (o := .tup [.int (Vf.ix D.st r.1), .int (Vf.ix D.st r.2.1)]) (Same.refl H') nu
    refine ⟨_, rfl, t, _, 0, .ref ls, rfl, rfl, SqT.of (PL eu).1, atI_nat (j := 0) rfl, Vf.tyL (PL eu).2, _, rfl, ls, _, .str r.2.2.1, D.st.idxOf r.2.2.1, .str r.2.2.1, rfl, rfl, SqL.of (PL eu).2, rfl, Vf.flat_str _, (Vf.idx_get m3).1, beq_self_eq_true _, (Vf.idx_get m3).2, ?_⟩
    refine ⟨_, rfl, t, _, 0, .ref ls, rfl, rfl, SqT.of (PL eu).1, atI_nat (j := 0) rfl, Vf.tyL (PL eu).2, _, rfl, ls, _, .str r.2.2.2, D.st.idxOf r.2.2.2, .str r.2.2.2, rfl, rfl, SqL.of (PL eu).2, rfl, Vf.flat_str _, (Vf.idx_get m4).1, beq_self_eq_true _, (Vf.idx_get m4).2, ?_⟩
    refine ⟨(by show 2 ≤ sizeLine; decide), fun x nx => ?_⟩
    have ex := Vf.Same.new (o := .tup [.int (Vf.ix D.st r.2.2.1), .int (Vf.ix D.st r.2.2.2)]) eu nx
    have hu : (upd (upd H' u (.tup [.int (Vf.ix D.st r.1), .int (Vf.ix D.st r.2.1)])) x (.tup [.int (Vf.ix D.st r.2.2.1), .int (Vf.ix D.st r.2.2.2)])) u = some (.tup [.int (Vf.ix D.st r.1), .int (Vf.ix D.st r.2.1)]) := by
      rw [upd_ne (Vf.neq_none upd_same nx), upd_same]
    have kl : kvs.length ≤ 1000000 := by
      have l1 := pp.len.1
      rw [List.length_take] at l1
      have l2 : (Vf.rks D).length = D.ru.length := by simp [Vf.rks]
      omega
    refine ⟨_, rfl, _, rfl, d, _, rfl, DPut.t (kvs := kvs) (k := Vf.keyP (Vf.ix D.st r.1, Vf.ix D.st r.2.1)) (b := u) (ex _ _ hk) hu (Nat.lt_of_le_of_lt kl (by decide)), ?_⟩
    have nk : (Vf.ix D.st r.1, Vf.ix D.st r.2.1) ∉ (Vf.rks D).take i := Vf.nodup_take vN.valid.nd f3
    have vn : valV kvs (Vf.keyP (Vf.ix D.st r.1, Vf.ix D.st r.2.1)) = none := by
      refine Vf.valV_none fun m => nk ?_
      have e : kvs.map Prod.fst = ((Vf.rks D).take i).map Vf.keyP := pp.keys
      rw [e] at m
      obtain ⟨k', q1, q2⟩ := List.mem_map.mp m
      exact Vf.keyP_inj q2 ▸ q1
    refine ⟨⟨_, _, _, _, _, rfl⟩, Vf.Same.chg (s.trans ex) nd, _, upd_same, ?_⟩
    rw [putK_new _ vn, f1, f2]
    have hx' : (upd (upd H' u (.tup [.int (Vf.ix D.st r.1), .int (Vf.ix D.st r.2.1)])) x (.tup [.int (Vf.ix D.st r.2.2.1), .int (Vf.ix D.st r.2.2.2)])) x = some (.tup (Vf.encP (Vf.ix D.st r.2.2.1, Vf.ix D.st r.2.2.2))) := upd_same
    have keep : ∀ (kv' : HO) (b : Addr) ys, (upd (upd H' u (.tup [.int (Vf.ix D.st r.1), .int (Vf.ix D.st r.2.1)])) x (.tup [.int (Vf.ix D.st r.2.2.1), .int (Vf.ix D.st r.2.2.2)])) b = some (.tup ys) → (upd (upd (upd H' u (.tup [.int (Vf.ix D.st r.1), .int (Vf.ix D.st r.2.1)])) x (.tup [.int (Vf.ix D.st r.2.2.1), .int (Vf.ix D.st r.2.2.2)])) d kv') b = some (.tup ys) := fun kv' b ys hb => by
      have nb : b ≠ d := fun e => by
        rw [e, ex _ _ hk] at hb
        cases hb
      rw [upd_ne nb]
      exact hb
    exact (pp.same ex).snoc nk (keep _) (keep _ _ _ hx')
  rintro σ H2 ⟨⟨v2, v3, v4, v5, v6, rfl⟩, s, kvs, hk, pp⟩
  rw [tr.1, Vf.rks_all.1, Vf.rks_all.2] at pp
  exact ⟨_, rfl, q d kvs H2 nd s hk pp⟩
end

def sp__law_two_parts (K : PySem.W.Frag) (A : Ad) : Sp := fun vs H Q _ => ∃ (cell other : Int), vs = [.int cell, .int other] ∧
  ∀ (L p p' m : Addr) (H' : Hp) (D D' : Vf.DD) (ims : List Int), H' L = some (.lst [.ref p, .ref p', .ref m]) → Vf.PartsAt H' p D → Vf.PartsAt H' p' D' → H' m = some (.tup (ims.map V.int)) → Vf.TwoK D D' ims ∧ D'.st.length ≤ 3 ∧ D.st.length ≤ 4 → Same H H' → H L = none → Q (.ref L) H'
theorem len__law_two_parts {K : PySem.W.Frag} {A : Ad} (vs : List V) (H : Hp) (Q : VK) (E : XK) (h : sp__law_two_parts K A vs H Q E) : vs.length = ["cell", "other"].length := by
  obtain ⟨a1, a2, rfl, _⟩ := h
  rfl

section
variable {P : Program} {w : World} {K : PySem.W.Frag} {mg : Str → Option Value} {base : Heap}
set_option maxHeartbeats 4000000 in
theorem ok__law_two_parts {A : Ad} (T : Txt P K mg A) : FnOk P w K mg base CX0 3 A.f__law_two_parts A.d__law_two_parts ["cell", "other"] (sp__law_two_parts K A) := by
  have G__law_parts := ok__law_parts (P := P) (w := w) (base := base) T
  have G__law_draws := ok__law_draws (P := P) (w := w) (base := base) T
  have G__law_table := ok__law_table (P := P) (w := w) (base := base) T
  refine T.F__law_two_parts.ok sc__law_two_parts len__law_two_parts (fun cdv Ar outer s H vs Q E hr h => ?_)
  have hu := hu_of hr
  obtain ⟨cell, other, rfl, q⟩ := h
  refine ⟨_, (pss_cons (ps_set (i := 2) sc__law_two_parts.nd rfl (Or.inr rfl) (pe_call G__law_parts hr (by rfl) T.G__law_parts T.F__law_parts.kp T.B__law_parts .nil pass0 (pa_cons (pv 0) (pa_cons pe_int pa_nil))))
      (pss_cons (ps_set (i := 3) sc__law_two_parts.nd rfl (Or.inr rfl) (pe_call G__law_draws (hr.mono (by decide)) (by rfl) T.G__law_draws T.F__law_draws.kp T.B__law_draws .nil pass0 (pa_cons (pv 1) (pa_cons pe_int pa_nil))))
      (pss_cons (ps_set (i := 4) sc__law_two_parts.nd rfl (Or.inl rfl) (pe_slice sl_list (pe_lc (own := [("k", 20)]) (g := (gName 20)) (tt := _) rfl sc__law_two_parts.nd (pi_range1 rfl T.N_range (pa_cons (pe_callB call_len_seq (by rfl) T.N_len PySem.boot_len (pa_cons (pe_ix ix_tup (pv 2) pe_int (fun _ _ => rfl)) pa_nil)) pa_nil)) (blkOk_by (N := ["cell", "other", "second", "draws", "copies", "images", "turn", "names", "table", "rules", "i", "j", "due", "third", "fourth", "pair", "outputs", "inputs", "leaders", "at", "k", "image", "name", "state"]) (sc := defScope s__law_two_parts) (by decide +kernel)) (fun _ _ _ _ _ => (pg_name (i := 20) sc__law_two_parts.nd rfl (Or.inl rfl))) (fun _ _ _ _ _ => pts_one (pt_cmpR op_eq (pe_op op_mod (pe_ix (Vf.ix_listK (K := K) rfl) (pv 3) (pv 20) (fun _ _ => rfl)) pe_int) pe_int (nomark _))) (fun _ _ _ _ _ => (pv 20))) po_none (po_some pe_int)))
      (pss_cons (ps_set (i := 5) sc__law_two_parts.nd rfl (Or.inr rfl) (pe_op op_cat (pe_listRg rfl (by rfl) T.N_list (prg_1 (by rfl) T.N_range (pe_callB call_len_seq (by rfl) T.N_len PySem.boot_len (pa_cons (pe_ix ix_tup (pv 2) pe_int (fun _ _ => rfl)) pa_nil)))) (pv 4)))
      (pss_cons (ps_set (i := 6) sc__law_two_parts.nd rfl (Or.inl rfl) (pe_op op_mod (pe_ix ix_list (pv 3) pe_int (fun _ _ => rfl)) (pe_callB call_len_seq (by rfl) T.N_len PySem.boot_len (pa_cons (pv 5) pa_nil))))
      (pss_cons (ps_set (i := 5) sc__law_two_parts.nd rfl (Or.inr rfl) (pe_op op_cat (pe_slice sl_list (pv 5) (po_some (pv 6)) po_none) (pe_slice sl_list (pv 5) po_none (po_some (pv 6)))))
      (pss_cons (ps_set (i := 7) sc__law_two_parts.nd rfl (Or.inr rfl) (pe_lc (own := [("k", 20)]) (g := (gName 20)) (tt := tYes) rfl sc__law_two_parts.nd (pi_range1 rfl T.N_range (pa_cons (pe_callB call_len_seq (by rfl) T.N_len PySem.boot_len (pa_cons (pv 5) pa_nil)) pa_nil)) (blkOk_by (N := ["cell", "other", "second", "draws", "copies", "images", "turn", "names", "table", "rules", "i", "j", "due", "third", "fourth", "pair", "outputs", "inputs", "leaders", "at", "k", "image", "name", "state"]) (sc := defScope s__law_two_parts) (by decide +kernel)) (fun _ _ _ _ _ => (pg_name (i := 20) sc__law_two_parts.nd rfl (Or.inl rfl))) (fun _ _ _ _ _ => pts_nil) (fun _ _ _ _ _ => (pe_op op_add_str pe_str (pe_callTy call_str_int (by rfl) T.N_str (by decide +kernel) (pa_cons (pv 20) pa_nil))))))
      (pss_cons (ps_set (i := 8) sc__law_two_parts.nd rfl (Or.inl rfl) (pe_call G__law_table (hr.mono (by decide)) (by rfl) T.G__law_table T.F__law_table.kp T.B__law_table .nil pass0 (pa_cons (pv 2) pa_nil)))
      (pss_cons (ps_set (i := 9) sc__law_two_parts.nd rfl (Or.inl rfl) (pe_lst pa_nil))
      (pss_cons (ps_for PassesOwn.never rfl (pi_range1 rfl T.N_range (pa_cons (pe_callB call_len_seq (by rfl) T.N_len PySem.boot_len (pa_cons (pv 5) pa_nil)) pa_nil)) (pg_name (i := 10) sc__law_two_parts.nd rfl (Or.inl rfl))
        (pss_one (ps_for PassesOwn.never rfl (pi_range1 rfl T.N_range (pa_cons (pe_callB call_len_seq (by rfl) T.N_len PySem.boot_len (pa_cons (pv 5) pa_nil)) pa_nil)) (pg_name (i := 11) sc__law_two_parts.nd rfl (Or.inl rfl))
        (pss_cons (ps_set (i := 12) sc__law_two_parts.nd rfl (Or.inr rfl) (pe_dget2 (by exact hu) (pv 8) (pe_tup (pa_cons (pe_ix ix_list (pv 5) (pv 10) (fun _ _ => rfl)) (pa_cons (pe_ix ix_list (pv 5) (pv 11) (fun _ _ => rfl)) pa_nil))) (pe_tup (pa_cons (pe_ix ix_list (pv 5) (pv 10) (fun _ _ => rfl)) (pa_cons (pe_ix ix_list (pv 5) (pv 11) (fun _ _ => rfl)) pa_nil))) ⟨by rfl, by rfl, by rfl, by rfl⟩))
      (pss_cons (ps_setLc (i := 13) (own := [("k", 20)]) (g := (gName 20)) (tt := _) rfl sc__law_two_parts.nd rfl rfl (sw_true rfl rfl rfl (by decide +kernel)) (pi_range1 rfl T.N_range (pa_cons (pe_callB call_len_seq (by rfl) T.N_len PySem.boot_len (pa_cons (pv 5) pa_nil)) pa_nil)) (blkOk_by (N := ["cell", "other", "second", "draws", "copies", "images", "turn", "names", "table", "rules", "i", "j", "due", "third", "fourth", "pair", "outputs", "inputs", "leaders", "at", "k", "image", "name", "state"]) (sc := defScope s__law_two_parts) (by decide +kernel)) (fun _ _ _ _ _ => (pg_name (i := 20) sc__law_two_parts.nd rfl (Or.inl rfl))) (fun _ _ _ _ _ => pts_one (pt_cmpR op_eq (pe_ix (Vf.ix_listK (K := K) rfl) (pv 5) (pv 20) (fun _ _ => rfl)) (pe_ix (Vf.ix_tupK (K := K) rfl) (pv 12) pe_int (fun _ _ => rfl)) (nomark _))) (fun _ _ _ _ _ => (pv 20)))
      (pss_cons (ps_setLc (i := 14) (own := [("k", 20)]) (g := (gName 20)) (tt := _) rfl sc__law_two_parts.nd rfl rfl (sw_true rfl rfl rfl (by decide +kernel)) (pi_range1 rfl T.N_range (pa_cons (pe_callB call_len_seq (by rfl) T.N_len PySem.boot_len (pa_cons (pv 5) pa_nil)) pa_nil)) (blkOk_by (N := ["cell", "other", "second", "draws", "copies", "images", "turn", "names", "table", "rules", "i", "j", "due", "third", "fourth", "pair", "outputs", "inputs", "leaders", "at", "k", "image", "name", "state"]) (sc := defScope s__law_two_parts) (by decide +kernel)) (fun _ _ _ _ _ => (pg_name (i := 20) sc__law_two_parts.nd rfl (Or.inl rfl))) (fun _ _ _ _ _ => pts_one (pt_cmpR op_eq (pe_ix (Vf.ix_listK (K := K) rfl) (pv 5) (pv 20) (fun _ _ => rfl)) (pe_ix (Vf.ix_tupK (K := K) rfl) (pv 12) pe_int (fun _ _ => rfl)) (nomark _))) (fun _ _ _ _ _ => (pv 20)))
      (pss_cons (ps_set (i := 15) sc__law_two_parts.nd rfl (Or.inl rfl) (pe_tup (pa_cons (pe_ix ix_list (pv 13) (pe_op op_mod (pe_ix ix_list (pv 3) (pe_op op_add pe_int (pv 10)) (fun _ _ => rfl)) (pe_callB call_len_seq (by rfl) T.N_len PySem.boot_len (pa_cons (pv 13) pa_nil))) (fun _ _ => rfl)) (pa_cons (pe_ix ix_list (pv 14) (pe_op op_mod (pe_ix ix_list (pv 3) (pe_op op_add pe_int (pv 11)) (fun _ _ => rfl)) (pe_callB call_len_seq (by rfl) T.N_len PySem.boot_len (pa_cons (pv 14) pa_nil))) (fun _ _ => rfl)) pa_nil))))
      (pss_cons (ps_if (PW.pt (pw_and (pt_cmpR (Vf.op_eqIs hr.units) (pv 12) (pe_tup (pa_cons (pe_ix ix_list (pv 5) (pv 10) (fun _ _ => rfl)) (pa_cons (pe_ix ix_list (pv 5) (pv 11) (fun _ _ => rfl)) pa_nil))) (nomark _)) (pw_and1 (pt_cmpR op_eq (pe_op op_mod (pe_ix ix_list (pv 3) (pe_op op_add pe_int (pv 10)) (fun _ _ => rfl)) pe_int) pe_int (nomark _))))) (pss_one (ps_set (i := 15) sc__law_two_parts.nd rfl (Or.inl rfl) (pe_tup (pa_cons (pv 10) (pa_cons (pv 11) pa_nil))))) pss_nil)
      (pss_one (ps_if (pt_cmpR (Vf.op_neIs hr.units) (pv 15) (pe_tup (pa_cons (pv 10) (pa_cons (pv 11) pa_nil))) (nomark _)) (pss_one (ps_expr (pe_bm PySem.F.plainAttrs_list PySem.F.slot_list_append PySem.F.type_list_append mt_append (pv 9) (pa_cons (pe_tup (pa_cons (pe_ix ix_list (pv 7) (pv 10) (fun _ _ => rfl)) (pa_cons (pe_ix ix_list (pv 7) (pv 11) (fun _ _ => rfl)) (pa_cons (pe_ix ix_list (pv 7) (pe_ix ix_tup (pv 15) pe_int (fun _ _ => rfl)) (fun _ _ => rfl)) (pa_cons (pe_ix ix_list (pv 7) (pe_ix ix_tup (pv 15) pe_int (fun _ _ => rfl)) (fun _ _ => rfl)) pa_nil))))) pa_nil)))) pss_nil))))))))))
      (pss_cons (ps_setLc (i := 16) (own := [("image", 21)]) (g := (gName 21)) (tt := tYes) rfl sc__law_two_parts.nd rfl rfl (sw_true rfl rfl rfl (by decide +kernel)) (pi_list (pv 5)) (blkOk_by (N := ["cell", "other", "second", "draws", "copies", "images", "turn", "names", "table", "rules", "i", "j", "due", "third", "fourth", "pair", "outputs", "inputs", "leaders", "at", "k", "image", "name", "state"]) (sc := defScope s__law_two_parts) (by decide +kernel)) (fun _ _ _ _ _ => (pg_name (i := 21) sc__law_two_parts.nd rfl (Or.inl rfl))) (fun _ _ _ _ _ => pts_nil) (fun _ _ _ _ _ => (pe_ix (Vf.ix_listK (K := K) rfl) (pe_ix (Vf.ix_tupK (K := K) rfl) (pv 2) pe_int (fun _ _ => rfl)) (pv 21) (fun _ _ => rfl))))
      (pss_cons (ps_setLc (i := 17) (own := [("name", 22), ("state", 23)]) (g := (gTup K 2 (gCons (gName 22) (gCons (gName 23) gNil)))) (tt := tYes) rfl sc__law_two_parts.nd rfl rfl (sw_true rfl rfl rfl (by decide +kernel)) (pi_list (pe_ix ix_tup (pv 2) pe_int (fun _ _ => rfl))) (blkOk_by (N := ["cell", "other", "second", "draws", "copies", "images", "turn", "names", "table", "rules", "i", "j", "due", "third", "fourth", "pair", "outputs", "inputs", "leaders", "at", "k", "image", "name", "state"]) (sc := defScope s__law_two_parts) (by decide +kernel)) (fun _ _ _ _ _ => (pg_tup (by rfl) (pgs_cons (pg_name (i := 22) sc__law_two_parts.nd rfl (Or.inl rfl)) (pgs_cons (pg_name (i := 23) sc__law_two_parts.nd rfl (Or.inl rfl)) pgs_nil)))) (fun _ _ _ _ _ => pts_nil) (fun _ _ _ _ _ => (pe_tup (pa_cons (pv 22) (pa_cons (pe_ix (Vf.ix_listK (K := K) rfl) (pv 7) (Vf.pe_bmK (K := K) rfl PySem.F.plainAttrs_list PySem.F.slot_list_index PySem.F.type_list_index (Vf.mt_indexK (K := K) rfl) (pv 5) (pa_cons (Vf.pe_bmK (K := K) rfl PySem.F.plainAttrs_list PySem.F.slot_list_index PySem.F.type_list_index (Vf.mt_indexK (K := K) rfl) (pe_ix (Vf.ix_tupK (K := K) rfl) (pv 2) pe_int (fun _ _ => rfl)) (pa_cons (pv 23) pa_nil)) pa_nil)) (fun _ _ => rfl)) pa_nil)))))
      (pss_cons (ps_setLc (i := 18) (own := [("state", 23)]) (g := (gName 23)) (tt := tYes) rfl sc__law_two_parts.nd rfl rfl (sw_true rfl rfl rfl (by decide +kernel)) (pi_list (pe_ix ix_tup (pv 2) pe_int (fun _ _ => rfl))) (blkOk_by (N := ["cell", "other", "second", "draws", "copies", "images", "turn", "names", "table", "rules", "i", "j", "due", "third", "fourth", "pair", "outputs", "inputs", "leaders", "at", "k", "image", "name", "state"]) (sc := defScope s__law_two_parts) (by decide +kernel)) (fun _ _ _ _ _ => (pg_name (i := 23) sc__law_two_parts.nd rfl (Or.inl rfl))) (fun _ _ _ _ _ => pts_nil) (fun _ _ _ _ _ => (pe_ix (Vf.ix_listK (K := K) rfl) (pv 7) (Vf.pe_bmK (K := K) rfl PySem.F.plainAttrs_list PySem.F.slot_list_index PySem.F.type_list_index (Vf.mt_indexK (K := K) rfl) (pv 5) (pa_cons (Vf.pe_bmK (K := K) rfl PySem.F.plainAttrs_list PySem.F.slot_list_index PySem.F.type_list_index (Vf.mt_indexK (K := K) rfl) (pe_ix (Vf.ix_tupK (K := K) rfl) (pv 2) pe_int (fun _ _ => rfl)) (pa_cons (pv 23) pa_nil)) pa_nil)) (fun _ _ => rfl))))
      (pss_cons (ps_if (PW.pt (pw_and (pt_cmpR op_eq (pe_op op_mod (pe_ix ix_list (pv 3) pe_int (fun _ _ => rfl)) pe_int) pe_int (nomark _)) (pw_and1 (pt_cmpR op_gt (pe_callB call_len_seq (by rfl) T.N_len PySem.boot_len (pa_cons (pv 9) pa_nil)) pe_int (nomark _))))) (pss_cons (ps_set (i := 19) sc__law_two_parts.nd rfl (Or.inl rfl) (pe_op op_mod (pe_ix ix_list (pv 3) pe_int (fun _ _ => rfl)) (pe_callB call_len_seq (by rfl) T.N_len PySem.boot_len (pa_cons (pv 9) pa_nil))))
      (pss_one (ps_asg (pe_op op_catT (pe_slice sl_tup (pe_ix ix_list (pv 9) (pv 19) (fun _ _ => rfl)) po_none (po_some pe_int)) (pe_tup (pa_cons (pe_ix ix_list (pv 7) (pe_op op_mod (pe_ix ix_list (pv 3) pe_int (fun _ _ => rfl)) (pe_callB call_len_seq (by rfl) T.N_len PySem.boot_len (pa_cons (pv 7) pa_nil))) (fun _ _ => rfl)) (pa_cons (pe_ix ix_list (pv 7) (pe_op op_mod (pe_ix ix_list (pv 3) pe_int (fun _ _ => rfl)) (pe_callB call_len_seq (by rfl) T.N_len PySem.boot_len (pa_cons (pv 7) pa_nil))) (fun _ _ => rfl)) pa_nil)))) (pg_sub (pv 9) (pv 19) set_list)))) pss_nil)
      (pss_cons (ps_if (pt_cmpR op_eq (pe_op op_mod (pe_ix ix_list (pv 3) pe_int (fun _ _ => rfl)) pe_int) pe_int (nomark _)) (pss_one (ps_asg (pe_op op_mod (pe_ix ix_list (pv 3) pe_int (fun _ _ => rfl)) pe_int) (pg_sub (pv 16) (pe_op op_mod (pe_ix ix_list (pv 3) pe_int (fun _ _ => rfl)) (pe_callB call_len_seq (by rfl) T.N_len PySem.boot_len (pa_cons (pv 16) pa_nil))) set_list))) pss_nil)
      (pss_cons (ps_if (pt_cmpR op_eq (pe_op op_mod (pe_ix ix_list (pv 3) pe_int (fun _ _ => rfl)) pe_int) pe_int (nomark _)) (pss_one (ps_set (i := 18) sc__law_two_parts.nd rfl (Or.inl rfl) (pe_slice sl_list (pv 18) (po_some pe_int) po_none))) pss_nil)
      (pss_one (ps_ret (pe_lst (pa_cons (pe_tup (pa_cons (pv 7) (pa_cons (pv 17) (pa_cons (pv 18) (pa_cons (pv 9) (pa_cons (pv 16) pa_nil)))))) (pa_cons (pv 2) (pa_cons (pe_callTy call_tuple_of (by rfl) T.N_tuple (by decide +kernel) (pa_cons (pv 5) pa_nil)) pa_nil)))))))))))))))))))))), ?_⟩
  refine ⟨_, rfl, cell, 3, rfl, by decide, by decide, fun p' H1 D' P1 vM ⟨sm, sm3⟩ s1 np' => ?_⟩
  dsimp only [gName]
  refine ⟨_, rfl, other, 60, rfl, by decide, by decide, fun dr H2 ds ndr s2 hdr ⟨dl, dr4⟩ => ?_⟩
  have P2 := P1.same s2
  obtain ⟨ls, li, ll, lr, lo, xi, xr, g0, gls, gli, ti, gll, glr, tr, glo⟩ := id P2
  have st0 := sm.st0
  have st6 := sm.st6
  have dat : ∀ k : Nat, k < 60 → 0 ≤ ds.getD k 0 ∧ ds.getD k 0 < 4096 := fun k hk => dr4 _ (by rw [List.getD_eq_getElem?_getD, List.getElem?_eq_getElem (by omega)]; exact List.getElem_mem _)
  have lst : (D'.st.map V.str).length = D'.st.length := List.length_map ..
  have s02 := s1.trans s2
  dsimp only [gName]
  have g02 := g0
  refine ⟨_, rfl, p', _, 0, .ref ls, rfl, rfl, SqT.of g0, atI_nat (j := 0) rfl, ls, _, rfl, .inl (SqL.of gls), _, rfl, by rw [lst]; omega, by rw [lst]; omega, fun C nC => lc_it (walk_range (lo := 0) (n := _)) (fun i H' => ∃ acc : List Int, H' C = some (.lst (acc.map V.int)) ∧ Same H2 H' ∧ (∀ x ∈ acc, 0 ≤ x ∧ x < (D'.st.length : Int)) ∧ acc.length ≤ i) ⟨[], upd_same, Vf.Same.new (Same.refl H2) nC, fun x hx => (by cases hx), Nat.zero_le _⟩ (fun _ _ _ _ => trivial) ?_ ?_⟩
  · rintro i x Ha Hb hi ⟨acc, hC, sa, ab, al⟩ ⟨rfl, rfl⟩
    rw [lst] at hi
    have hi : i < D'.st.length := by omega
    have z0 : ((0 : Int) + (i : Int)).toNat = i := by omega
    refine ⟨rfl, ?_⟩
    refine ⟨_, rfl, _, rfl, dr, _, _, _, rfl, rfl, SqL.of (sa _ _ hdr), Vf.int_at (by omega) (by omega), _, _, rfl, rfl, (by show (0 : Int) < 3; decide), ?_⟩
    rw [z0]
    refine ⟨rfl, _, rfl, Vf.ite_d (fun c => ?_) fun c => ?_⟩
    · refine ⟨_, rfl, acc.map V.int, hC, Nat.lt_of_le_of_lt (show (acc.map V.int).length ≤ 10 by rw [List.length_map]; omega) (by decide), acc ++ [0 + (i : Int)], ?_, Vf.Same.chg sa nC, fun x hx => ?_, by rw [List.length_append]; simp; omega⟩
      · rw [upd_same, List.map_append]
        rfl
      · rcases List.mem_append.mp hx with hx | hx
        · exact ab x hx
        · rw [List.mem_singleton.mp hx]
          omega
    · exact ⟨acc, hC, sa, ab, by omega⟩
  rintro H3 ⟨cp, hC, s3, cb, _⟩
  refine ⟨_, rfl, C, _, rfl, SqL.of hC, fun c2 n2 => ?_⟩
  have ec : cutV (cp.map V.int) none (some 1) = (cp.take 1).map V.int := (Vf.cut_hi _ 1).trans List.map_take.symm
  rw [ec]
  have t3 := Vf.Same.new (o := .lst ((cp.take 1).map V.int)) s3 n2
  have hc2 : (upd H3 c2 (.lst ((cp.take 1).map V.int))) c2 = some (.lst ((cp.take 1).map V.int)) := upd_same
  generalize upd H3 c2 (.lst ((cp.take 1).map V.int)) = H4 at t3 hc2 ⊢
  dsimp only [gName]
  refine ⟨_, rfl, p', _, 0, .ref ls, rfl, rfl, SqT.of (t3 _ _ g0), atI_nat (j := 0) rfl, ls, _, rfl, .inl (SqL.of (t3 _ _ gls)), _, rfl, ⟨by first | omega | (rw [lst]; omega), by first | omega | (rw [lst]; omega), by first | omega | (rw [lst]; omega), by first | omega | (rw [lst]; omega)⟩, fun r3 n3 => ?_⟩
  rw [lst, Vf.rgV_nat]
  have t4 := Vf.Same.new (o := .lst (((List.range D'.st.length).map fun (i : Nat) => (i : Int)).map V.int)) (Same.refl H4) n3
  have hr3 : (upd H4 r3 (.lst (((List.range D'.st.length).map fun (i : Nat) => (i : Int)).map V.int))) r3 = some (.lst (((List.range D'.st.length).map fun (i : Nat) => (i : Int)).map V.int)) := upd_same
  generalize upd H4 r3 (.lst (((List.range D'.st.length).map fun (i : Nat) => (i : Int)).map V.int)) = H5 at t4 hr3 ⊢
  have I0 := Vf.Imgs.base cb
  refine ⟨_, rfl, r3, c2, _, _, rfl, rfl, hr3, t4 _ _ hc2, ?_, fun m1 nm1 => ?_⟩
  · rw [List.length_map, List.length_map, List.length_range, List.length_map, List.length_take]
    exact Nat.le_trans (show _ ≤ 10 by omega) (by decide)
  rw [← List.map_append]
  generalize ((List.range D'.st.length).map fun (i : Nat) => (i : Int)) ++ cp.take 1 = l0 at I0 ⊢
  have t5 := Vf.Same.new (o := .lst (l0.map V.int)) ((t3.trans t4)) nm1
  have hm1 : (upd H5 m1 (.lst (l0.map V.int))) m1 = some (.lst (l0.map V.int)) := upd_same
  generalize upd H5 m1 (.lst (l0.map V.int)) = H6 at t5 hm1 ⊢
  clear hC ec hc2 hr3
  have l0l := I0.lo
  have l0h := I0.hi
  have ll0 : (l0.map V.int).length = l0.length := List.length_map ..
  dsimp only [gName]
  refine ⟨_, rfl, dr, _, 10, _, rfl, rfl, SqL.of (t5 _ _ hdr), Vf.int_at (by omega) (by omega), _, rfl, m1, _, rfl, .inl (SqL.of hm1), _, _, rfl, rfl, (by rw [ll0]; omega), ?_⟩
  rw [ll0]
  obtain ⟨tn, etn⟩ : ∃ tn : Nat, ds.getD (10 : Int).toNat 0 % (l0.length : Int) = (tn : Int) := ⟨(ds.getD (10 : Int).toNat 0 % (l0.length : Int)).toNat, by
    have := Int.emod_nonneg (ds.getD (10 : Int).toNat 0) (show (l0.length : Int) ≠ 0 by omega)
    omega⟩
  dsimp only
  rw [etn]
  dsimp only [gName]
  refine ⟨_, rfl, _, rfl, _, rfl, ?_⟩
  refine ⟨m1, _, rfl, SqL.of hm1, fun a1 na1 => ?_⟩
  rw [Vf.cut_lo, ← List.map_drop]
  have t6 := Vf.Same.new (o := .lst ((l0.drop tn).map V.int)) (Same.refl H6) na1
  have ha1 : (upd H6 a1 (.lst ((l0.drop tn).map V.int))) a1 = some (.lst ((l0.drop tn).map V.int)) := upd_same
  generalize upd H6 a1 (.lst ((l0.drop tn).map V.int)) = H7 at t6 ha1 ⊢
  refine ⟨_, rfl, _, rfl, _, rfl, m1, _, rfl, SqL.of (t6 _ _ hm1), fun a2 na2 => ?_⟩
  rw [Vf.cut_hi, ← List.map_take]
  have t7 := Vf.Same.new (o := .lst ((l0.take tn).map V.int)) (Same.refl H7) na2
  have ha2 : (upd H7 a2 (.lst ((l0.take tn).map V.int))) a2 = some (.lst ((l0.take tn).map V.int)) := upd_same
  generalize upd H7 a2 (.lst ((l0.take tn).map V.int)) = H8 at t7 ha2 ⊢
  refine ⟨a1, a2, _, _, rfl, rfl, t7 _ _ ha1, ha2, ?_, fun m nm => ?_⟩
  · rw [List.length_map, List.length_map, List.length_drop, List.length_take]
    exact Nat.le_trans (show _ ≤ 20 by omega) (by decide)
  rw [← List.map_append]
  have I1 := I0.turn tn
  generalize l0.drop tn ++ l0.take tn = ims at I1 ⊢
  have t8 := Vf.Same.new (o := .lst (ims.map V.int)) ((t5.trans t6).trans t7) nm
  have hm : (upd H8 m (.lst (ims.map V.int))) m = some (.lst (ims.map V.int)) := upd_same
  generalize upd H8 m (.lst (ims.map V.int)) = H9 at t8 hm ⊢
  clear ha1 ha2 hm1 I0 l0l l0h ll0 etn
  have iml := I1.lo
  have imh := I1.hi
  have lm : (ims.map V.int).length = ims.length := List.length_map ..
  obtain ⟨N, hN⟩ : ∃ N, ims.length = N := ⟨_, rfl⟩
  dsimp only [gName]
  -- the names
  refine ⟨_, rfl, m, _, rfl, .inl (SqL.of hm), _, rfl, by omega, by omega, fun C nC' => Vf.lc_val (walk_range (lo := 0) (n := _)) (fun i => .str (Vf.nmK i)) nC' (by rw [lm]; omega) (fun _ _ => trivial) ?_ ?_⟩
  · rintro i x Ha Hb hi sa ⟨rfl, rfl⟩ Q' q'
    have e0 : (0 : Int) + (i : Int) = (i : Int) := Int.zero_add _
    have hn : ((0 : Int) + (i : Int)).natAbs.log2 < 1920 := Vf.l2 (Nat.lt_of_le_of_lt (show ((0 : Int) + (i : Int)).natAbs ≤ 100 by rw [lm] at hi; omega) (by decide))
    refine ⟨rfl, _, rfl, _, rfl, hn, _, _, rfl, rfl, Nat.le_trans (Nat.add_le_add_left (Vf.num_len hn) _) (by decide), ?_⟩
    rw [e0]
    exact q' _ (Same.refl _)
  intro Ha sa hC
  have eC : (List.range ((((ims.map V.int).length : Nat) : Int)).toNat).map (fun i => V.str (Vf.nmK i)) = (Vf.nmsK N).map V.str := by
    unfold Vf.nmsK
    rw [lm, hN, List.map_map]
    rfl
  rw [eC] at hC
  have s2a := t8.trans sa
  have s0a := s02.trans s2a
  dsimp only [gName]
  refine ⟨_, rfl, p', D', rfl, P2.same s2a, vM, by have := sm.ru36; omega, fun td kvs Hb nd sb hd pd => ?_⟩
  have s2b := s2a.trans sb
  dsimp only [gName]
  refine ⟨(by show 0 ≤ sizeLine; decide), fun R nR => ?_⟩
  have lC : ((Vf.nmsK N).map V.str).length = N := by rw [List.length_map]; unfold Vf.nmsK; rw [List.length_map, List.length_range]
  have s0b := s02.trans s2b
  have hm := (sa.trans sb) _ _ hm
  have hC := sb _ _ hC
  have hdr := s2b _ _ hdr
  have P3 := P2.same s2b
  have tR := Vf.Same.new (o := .lst []) (Same.refl Hb) nR
  have hR : (upd Hb R (.lst [])) R = some (.lst []) := upd_same
  dsimp only [gName]
  rw [hN] at lm iml imh
  refine ⟨_, rfl, m, _, rfl, .inl (SqL.of (tR _ _ hm)), _, rfl, by rw [lm]; omega, by rw [lm]; omega, for_range (lo := 0) (n := _) (fun i σ H' => (∃ v10 v11 v12 v13 v14 v15 : Option V, σ = [some (.int cell), some (.int other), some (.ref p'), some (.ref dr), some (.ref c2), some (.ref m), some (.int (tn : Int)), some (.ref C), some (.ref td), some (.ref R), v10, v11, v12, v13, v14, v15, none, none, none, none, none, none, none, none]) ∧ Same Hb H' ∧ ∃ xs ru, H' R = some (.lst xs) ∧ Vf.Tups Vf.enc4 H' xs ru ∧ Vf.RuAt N ru (i * N)) ⟨⟨_, _, _, _, _, _, rfl⟩, tR, [], [], hR, Vf.Tups.nil, by rw [Nat.zero_mul]; exact Vf.RuAt.zero N⟩ ?_ ?_⟩
  · rintro i σ Hc hi ⟨⟨v10, v11, v12, v13, v14, v15, rfl⟩, sc, xs, ru, hRc, tRc, RU⟩
    rw [lm] at hi
    refine ⟨_, rfl, m, _, rfl, .inl (SqL.of (sc _ _ hm)), _, rfl, by rw [lm]; omega, by rw [lm]; omega, for_range (lo := 0) (n := _) (fun j σ H' => (∃ v11 v12 v13 v14 v15 : Option V, σ = [some (.int cell), some (.int other), some (.ref p'), some (.ref dr), some (.ref c2), some (.ref m), some (.int (tn : Int)), some (.ref C), some (.ref td), some (.ref R), some (.int (0 + (i : Int))), v11, v12, v13, v14, v15, none, none, none, none, none, none, none, none]) ∧ Same Hb H' ∧ ∃ xs ru, H' R = some (.lst xs) ∧ Vf.Tups Vf.enc4 H' xs ru ∧ Vf.RuAt N ru (i * N + j)) ⟨⟨_, _, _, _, _, rfl⟩, sc, xs, ru, hRc, tRc, RU⟩ ?_ ?_⟩
    rotate_left
    · rintro σ Hd ⟨⟨v11', v12', v13', v14', v15', rfl⟩, sd, xs', ru', hRd, tRd, RU'⟩
      rw [lm] at RU'
      exact ⟨⟨_, _, _, _, _, _, rfl⟩, sd, xs', ru', hRd, tRd, by rw [Nat.succ_mul]; exact RU'⟩
    clear hRc tRc RU xs ru
    rintro j σ Hd hj ⟨⟨v11', v12', v13', v14', v15', rfl⟩, sd, xs, ru, hRd, tRd, RU⟩
    rw [lm] at hj
    have z0 : ∀ k : Nat, 0 + (k : Int) = (k : Int) := fun k => Int.zero_add _
    have iN : i < N := by omega
    have jN : j < N := by omega
    have hmd := sd _ _ hm
    rw [z0, z0]
    refine ⟨_, rfl, td, rfl, .inr ⟨kvs, .inl (sd _ _ hd)⟩, _, rfl, _, rfl, m, _, _, _, rfl, rfl, SqL.of hmd, Vf.int_at (by omega) (by omega), _, rfl, _, rfl, m, _, _, _, rfl, rfl, SqL.of hmd, Vf.int_at (by omega) (by omega), (by show 2 ≤ sizeLine; decide), fun x nx => ?_⟩
    have eM : ([.int (ims.getD ((i : Nat) : Int).toNat 0), .int (ims.getD ((j : Nat) : Int).toNat 0)] : List V) = Vf.encP (Vf.imM ims ((i : Int), (j : Int))) := rfl
    rw [eM]
    have s1x := Vf.Same.new (o := .tup (Vf.encP (Vf.imM ims ((i : Int), (j : Int))))) (Same.refl Hd) nx
    have hx1 : (upd Hd x (.tup (Vf.encP (Vf.imM ims ((i : Int), (j : Int)))))) x = some (.tup (Vf.encP (Vf.imM ims ((i : Int), (j : Int))))) := upd_same
    generalize upd Hd x (.tup (Vf.encP (Vf.imM ims ((i : Int), (j : Int))))) = Hx at s1x hx1 ⊢
    have hmx := s1x _ _ hmd
    refine ⟨_, rfl, _, rfl, m, _, _, _, rfl, rfl, SqL.of hmx, Vf.int_at (by omega) (by omega), _, rfl, _, rfl, m, _, _, _, rfl, rfl, SqL.of hmx, Vf.int_at (by omega) (by omega), (by show 2 ≤ sizeLine; decide), fun y ny => ?_⟩
    rw [eM]
    have s1y := Vf.Same.new (o := .tup (Vf.encP (Vf.imM ims ((i : Int), (j : Int))))) s1x ny
    have hy1 : (upd Hx y (.tup (Vf.encP (Vf.imM ims ((i : Int), (j : Int)))))) y = some (.tup (Vf.encP (Vf.imM ims ((i : Int), (j : Int))))) := upd_same
    have hx2 : (upd Hx y (.tup (Vf.encP (Vf.imM ims ((i : Int), (j : Int)))))) x = some (.tup (Vf.encP (Vf.imM ims ((i : Int), (j : Int))))) := Vf.Same.new (Same.refl Hx) ny _ _ hx1
    generalize upd Hx y (.tup (Vf.encP (Vf.imM ims ((i : Int), (j : Int))))) = Hy at s1y hy1 hx2 ⊢
    have sy := sd.trans s1y
    refine ⟨_, DGet.t (k := Vf.keyP (Vf.imM ims ((i : Int), (j : Int)))) (sy _ _ hd) hx2, ?_⟩
    obtain ⟨t3, et3, ht3⟩ := (pd.same sy).got hy1
    rw [et3]
    dsimp only [gName]
    refine ⟨_, rfl, m, _, rfl, .inl (SqL.of (sy _ _ hm)), _, rfl, by rw [lm]; omega, by rw [lm]; omega, fun T nT => lc_it (walk_range (lo := 0) (n := _)) (fun k H' => ∃ acc : List Int, H' T = some (.lst (acc.map V.int)) ∧ Same Hy H' ∧ (∀ x ∈ acc, 0 ≤ x ∧ x < (N : Int)) ∧ acc.length ≤ k ∧ ∀ y < k, ims.getD y 0 = (Vf.fD D' (Vf.imM ims ((i : Int), (j : Int)))).1 → 0 < acc.length) ⟨[], upd_same, Vf.Same.new (Same.refl Hy) nT, fun x hx => (by cases hx), Nat.zero_le _, fun y hy => absurd hy (Nat.not_lt_zero y)⟩ (fun _ _ _ _ => trivial) ?_ ?_⟩
    · rintro k x' Ha' Hb' hk ⟨acc, hT, sk, ab, al, ae⟩ ⟨rfl, rfl⟩
      rw [lm] at hk
      have hk : k < N := by omega
      have sk2 := sy.trans sk
      rw [show (fun (i : Nat) => V.int (0 + (i : Int))) k = V.int (k : Int) from congrArg V.int (z0 k)]
      refine ⟨rfl, _, rfl, _, rfl, m, _, _, _, rfl, rfl, SqL.of (sk2 _ _ hm), Vf.int_at (by omega) (by omega), _, rfl, t3, _, 0, .int (Vf.fD D' (Vf.imM ims ((i : Int), (j : Int)))).1, rfl, rfl, SqT.of (sk _ _ ht3), atI_nat (j := 0) rfl, rfl, _, rfl, Vf.ite_d (fun c => ?_) fun c => ?_⟩
      · refine ⟨_, rfl, acc.map V.int, hT, Nat.lt_of_le_of_lt (show (acc.map V.int).length ≤ 10 by rw [List.length_map]; omega) (by decide), acc ++ [(k : Int)], ?_, Vf.Same.chg sk nT, fun x hx => ?_, by rw [List.length_append]; simp; omega, fun y hy ey => by rw [List.length_append]; simp⟩
        · rw [upd_same, List.map_append]
          rfl
        · rcases List.mem_append.mp hx with hx | hx
          · exact ab x hx
          · rw [List.mem_singleton.mp hx]
            omega
      · refine ⟨acc, hT, sk, ab, by omega, fun y hy ey => ?_⟩
        by_cases e : y = k
        · subst e
          exact absurd (congrArg V.int ey) c
        · exact ae y (by omega) ey
    rintro He ⟨th, hT, se, thb, _, the⟩
    rw [lm] at the
    have s3 := sy.trans se
    have ht3e := se _ _ ht3
    dsimp only [gName]
    refine ⟨_, rfl, m, _, rfl, .inl (SqL.of (s3 _ _ hm)), _, rfl, by rw [lm]; omega, by rw [lm]; omega, fun U nU => lc_it (walk_range (lo := 0) (n := _)) (fun k H' => ∃ acc : List Int, H' U = some (.lst (acc.map V.int)) ∧ Same He H' ∧ (∀ x ∈ acc, 0 ≤ x ∧ x < (N : Int)) ∧ acc.length ≤ k ∧ ∀ y < k, ims.getD y 0 = (Vf.fD D' (Vf.imM ims ((i : Int), (j : Int)))).2 → 0 < acc.length) ⟨[], upd_same, Vf.Same.new (Same.refl He) nU, fun x hx => (by cases hx), Nat.zero_le _, fun y hy => absurd hy (Nat.not_lt_zero y)⟩ (fun _ _ _ _ => trivial) ?_ ?_⟩
    · rintro k x' Ha' Hb' hk ⟨acc, hT, sk, ab, al, ae⟩ ⟨rfl, rfl⟩
      rw [lm] at hk
      have hk : k < N := by omega
      have sk2 := s3.trans sk
      rw [show (fun (i : Nat) => V.int (0 + (i : Int))) k = V.int (k : Int) from congrArg V.int (z0 k)]
      refine ⟨rfl, _, rfl, _, rfl, m, _, _, _, rfl, rfl, SqL.of (sk2 _ _ hm), Vf.int_at (by omega) (by omega), _, rfl, t3, _, 1, .int (Vf.fD D' (Vf.imM ims ((i : Int), (j : Int)))).2, rfl, rfl, SqT.of (sk _ _ ht3e), atI_nat (j := 1) rfl, rfl, _, rfl, Vf.ite_d (fun c => ?_) fun c => ?_⟩
      · refine ⟨_, rfl, acc.map V.int, hT, Nat.lt_of_le_of_lt (show (acc.map V.int).length ≤ 10 by rw [List.length_map]; omega) (by decide), acc ++ [(k : Int)], ?_, Vf.Same.chg sk nU, fun x hx => ?_, by rw [List.length_append]; simp; omega, fun y hy ey => by rw [List.length_append]; simp⟩
        · rw [upd_same, List.map_append]
          rfl
        · rcases List.mem_append.mp hx with hx | hx
          · exact ab x hx
          · rw [List.mem_singleton.mp hx]
            omega
      · refine ⟨acc, hT, sk, ab, by omega, fun y hy ey => ?_⟩
        by_cases e : y = k
        · subst e
          exact absurd (congrArg V.int ey) c
        · exact ae y (by omega) ey
    rintro Hf ⟨fo, hU, sf, fob, _, foe⟩
    rw [lm] at foe
    have s4 := s3.trans sf
    have ht3f := sf _ _ ht3e
    have hTf := sf _ _ hT
    dsimp only [gName]
    have iR : Vf.InR D'.st.length (Vf.imM ims ((i : Int), (j : Int))) := by
      have b1 := I1.im _ (Vf.pick_in (l := ims) (r := (i : Int)) (by omega) (by omega))
      have b2 := I1.im _ (Vf.pick_in (l := ims) (r := (j : Int)) (by omega) (by omega))
      exact ⟨b1.1, b1.2, b2.1, b2.2⟩
    have mR := Vf.meetOf_in vM iR
    change Vf.InR D'.st.length (Vf.fD D' (Vf.imM ims ((i : Int), (j : Int)))) at mR
    obtain ⟨f0, f1, h0', h1'⟩ := mR
    have pos : ∀ y : Int, 0 ≤ y → y < (D'.st.length : Int) → ∃ k, k < N ∧ ims.getD k 0 = y := fun y h0 h1 => by
      obtain ⟨k, hk, ek⟩ := List.mem_iff_getElem.mp (I1.on y h0 h1)
      exact ⟨k, by omega, by rw [List.getD_eq_getElem?_getD, List.getElem?_eq_getElem hk]; exact ek⟩
    have thl : 0 < th.length := by
      obtain ⟨k, hk, ek⟩ := pos _ f0 f1
      exact the k (by omega) ek
    have fol : 0 < fo.length := by
      obtain ⟨k, hk, ek⟩ := pos _ h0' h1'
      exact foe k (by omega) ek
    have thL : (th.map V.int).length = th.length := List.length_map ..
    have foL : (fo.map V.int).length = fo.length := List.length_map ..
    have hdrf := s4 _ _ hdr
    refine ⟨_, rfl, _, rfl, _, rfl, _, _, rfl, rfl, dr, _, _, _, rfl, rfl, SqL.of hdrf, Vf.int_at (by omega) (by omega), _, rfl, T, _, rfl, .inl (SqL.of hTf), _, _, rfl, rfl, (by rw [thL]; omega), ?_⟩
    refine ⟨T, _, _, _, rfl, rfl, SqL.of hTf, Vf.int_at (Int.emod_nonneg _ (by rw [thL]; omega)) (by rw [thL]; exact Int.emod_lt_of_pos _ (by omega)), ?_⟩
    refine ⟨_, rfl, _, rfl, _, rfl, _, _, rfl, rfl, dr, _, _, _, rfl, rfl, SqL.of hdrf, Vf.int_at (by omega) (by omega), _, rfl, U, _, rfl, .inl (SqL.of hU), _, _, rfl, rfl, (by rw [foL]; omega), ?_⟩
    refine ⟨U, _, _, _, rfl, rfl, SqL.of hU, Vf.int_at (Int.emod_nonneg _ (by rw [foL]; omega)) (by rw [foL]; exact Int.emod_lt_of_pos _ (by omega)), (by show 2 ≤ sizeLine; decide), fun pr npr => ?_⟩
    rw [thL, foL]
    have px := thb _ (Vf.pick_in (Int.emod_nonneg (ds.getD ((11 : Int) + (i : Int)).toNat 0) (show (th.length : Int) ≠ 0 by omega)) (Int.emod_lt_of_pos _ (by omega)))
    have py := fob _ (Vf.pick_in (Int.emod_nonneg (ds.getD ((16 : Int) + (j : Int)).toNat 0) (show (fo.length : Int) ≠ 0 by omega)) (Int.emod_lt_of_pos _ (by omega)))
    generalize th.getD (ds.getD ((11 : Int) + (i : Int)).toNat 0 % (th.length : Int)).toNat 0 = x1 at px ⊢
    generalize fo.getD (ds.getD ((16 : Int) + (j : Int)).toNat 0 % (fo.length : Int)).toNat 0 = y1 at py ⊢
    have s5 := Vf.Same.new (o := .tup (Vf.encP (x1, y1))) s4 npr
    have hpr : (upd Hf pr (.tup (Vf.encP (x1, y1)))) pr = some (.tup (Vf.encP (x1, y1))) := upd_same
    have s3g := Vf.Same.new (o := .tup (Vf.encP (x1, y1))) (se.trans sf) npr
    have s1g := (s1y.trans s3g)
    change gName 15 _ _ (upd Hf pr (.tup (Vf.encP (x1, y1)))) _
    generalize upd Hf pr (.tup (Vf.encP (x1, y1))) = Hg at s5 s3g s1g hpr ⊢
    have ht3g := s3g _ _ ht3
    have hRg := s1g _ _ hRd
    have tRg := tRd.same s1g
    dsimp only [gName]
    refine Vf.seq_join (fun σ' H' => ∃ (pr : Addr) (x2 y2 : Int), σ' = [some (.int cell), some (.int other), some (.ref p'), some (.ref dr), some (.ref c2), some (.ref m), some (.int (tn : Int)), some (.ref C), some (.ref td), some (.ref R), some (.int (i : Int)), some (.int (j : Int)), some (.ref t3), some (.ref T), some (.ref U), some (.ref pr), none, none, none, none, none, none, none, none] ∧ Same Hg H' ∧ H' pr = some (.tup (Vf.encP (x2, y2))) ∧ (0 ≤ x2 ∧ x2 < (N : Int)) ∧ 0 ≤ y2 ∧ y2 < (N : Int)) (fun nx hn => ?_) ?_
    · have hmg := s5 _ _ hm
      have hdrg := s5 _ _ hdr
      refine ⟨_, rfl, _, rfl, _, rfl, m, _, _, _, rfl, rfl, SqL.of hmg, Vf.int_at (by omega) (by omega), _, rfl, _, rfl, m, _, _, _, rfl, rfl, SqL.of hmg, Vf.int_at (by omega) (by omega), (by show 2 ≤ sizeLine; decide), fun w nw => ?_⟩
      rw [eM]
      have s1w := Vf.Same.new (o := .tup (Vf.encP (Vf.imM ims ((i : Int), (j : Int))))) (Same.refl Hg) nw
      have hw1 : (upd Hg w (.tup (Vf.encP (Vf.imM ims ((i : Int), (j : Int)))))) w = some (.tup (Vf.encP (Vf.imM ims ((i : Int), (j : Int))))) := upd_same
      generalize upd Hg w (.tup (Vf.encP (Vf.imM ims ((i : Int), (j : Int))))) = Hw at s1w hw1 ⊢
      refine ⟨[(Vf.fD D' (Vf.imM ims ((i : Int), (j : Int)))).1, (Vf.fD D' (Vf.imM ims ((i : Int), (j : Int)))).2], [(Vf.imM ims ((i : Int), (j : Int))).1, (Vf.imM ims ((i : Int), (j : Int))).2], ⟨t3, w, rfl, rfl, .inr ⟨SqT.of (s1w _ _ ht3g), SqT.of hw1⟩⟩, ?_⟩
      refine ⟨_, rfl, Vf.ite_d (fun c => ?_) fun c => ?_⟩
      · refine ⟨_, rfl, _, rfl, _, _, rfl, rfl, dr, _, _, _, rfl, rfl, SqL.of (s1w _ _ hdrg), Vf.int_at (by omega) (by omega), _, _, rfl, rfl, (by show (0 : Int) < 2; decide), rfl, ?_⟩
        refine ⟨_, rfl, Vf.ite_d (fun c => ?_) fun c => ?_⟩
        · refine ⟨_, rfl, _, rfl, (by show 2 ≤ sizeLine; decide), fun pr2 npr2 => ?_⟩
          exact hn _ _ ⟨pr2, (i : Int), (j : Int), rfl, Vf.Same.new s1w npr2, upd_same, by omega, by omega⟩
        · exact hn _ _ ⟨pr, x1, y1, rfl, s1w, s1w _ _ hpr, px, py⟩
      · exact hn _ _ ⟨pr, x1, y1, rfl, s1w, s1w _ _ hpr, px, py⟩
    clear hpr px py x1 y1 npr pr
    rintro σ' Hh ⟨pr, x2, y2, rfl, sh, hpr, px, py⟩
    have s6 := s5.trans sh
    have hRh := sh _ _ hRg
    have tRh := tRg.same sh
    refine ⟨_, rfl, _, rfl, _, rfl, (by show 2 ≤ sizeLine; decide), fun w nw => ?_⟩
    have s1w := Vf.Same.new (o := .tup [.int (i : Int), .int (j : Int)]) (Same.refl Hh) nw
    have hw1 : (upd Hh w (.tup [.int (i : Int), .int (j : Int)])) w = some (.tup [.int (i : Int), .int (j : Int)]) := upd_same
    generalize upd Hh w (.tup [.int (i : Int), .int (j : Int)]) = Hw at s1w hw1 ⊢
    have s7 := s6.trans s1w
    have hRw := s1w _ _ hRh
    have tRw := tRh.same s1w
    have hCw := s7 _ _ hC
    refine ⟨[x2, y2], [(i : Int), (j : Int)], ⟨pr, w, rfl, rfl, .inr ⟨SqT.of (s1w _ _ hpr), SqT.of hw1⟩⟩, ?_⟩
    refine ⟨_, rfl, Vf.ite_b (fun c => ?_) fun c => ?_⟩
    rotate_left
    · exact ⟨⟨_, _, _, _, _, rfl⟩, s7, xs, ru, hRw, tRw, RU.up (by omega)⟩
    refine ⟨_, rfl, Vf.tyL hRw, _, rfl, _, rfl, C, _, _, _, rfl, rfl, SqL.of hCw, Vf.nmsK_at (by omega) (by omega), _, rfl, _, rfl, C, _, _, _, rfl, rfl, SqL.of hCw, Vf.nmsK_at (by omega) (by omega), ?_⟩
    refine ⟨_, rfl, _, rfl, pr, _, 0, .int x2, rfl, rfl, SqT.of (s1w _ _ hpr), atI_nat (j := 0) rfl, C, _, _, _, rfl, rfl, SqL.of hCw, Vf.nmsK_at px.1 px.2, ?_⟩
    refine ⟨_, rfl, _, rfl, pr, _, 1, .int y2, rfl, rfl, SqT.of (s1w _ _ hpr), atI_nat (j := 1) rfl, C, _, _, _, rfl, rfl, SqL.of hCw, Vf.nmsK_at py.1 py.2, (by show 4 ≤ sizeLine; decide), fun z nz => ?_⟩
    have s8 := Vf.Same.new (o := .tup (Vf.enc4 (Vf.nmK ((i : Nat) : Int).toNat, Vf.nmK ((j : Nat) : Int).toNat, Vf.nmK x2.toNat, Vf.nmK y2.toNat))) (Same.refl Hw) nz
    have hz1 : (upd Hw z (.tup (Vf.enc4 (Vf.nmK ((i : Nat) : Int).toNat, Vf.nmK ((j : Nat) : Int).toNat, Vf.nmK x2.toNat, Vf.nmK y2.toNat)))) z = some (.tup (Vf.enc4 (Vf.nmK ((i : Nat) : Int).toNat, Vf.nmK ((j : Nat) : Int).toNat, Vf.nmK x2.toNat, Vf.nmK y2.toNat))) := upd_same
    have hRz := s8 _ _ hRw
    have rul : ru.length ≤ 100 := by
      have := RU.len
      have h2 : i * N ≤ 7 * 7 := Nat.mul_le_mul (by omega) (by omega)
      omega
    refine ⟨R, xs, _, rfl, rfl, hRz, Nat.lt_of_le_of_lt (show xs.length ≤ 100 by rw [tRw.1]; exact rul) (by decide), ?_⟩
    refine ⟨⟨_, _, _, _, _, rfl⟩, Vf.Same.chg (s7.trans s8) nR, xs ++ [.ref z], ru ++ [(Vf.nmK i, Vf.nmK j, Vf.nmK x2.toNat, Vf.nmK y2.toNat)], upd_same, ?_, ?_⟩
    · have up : ∀ u ys, (upd Hw z (.tup (Vf.enc4 (Vf.nmK ((i : Nat) : Int).toNat, Vf.nmK ((j : Nat) : Int).toNat, Vf.nmK x2.toNat, Vf.nmK y2.toNat)))) u = some (.tup ys) → (upd (upd Hw z (.tup (Vf.enc4 (Vf.nmK ((i : Nat) : Int).toNat, Vf.nmK ((j : Nat) : Int).toNat, Vf.nmK x2.toNat, Vf.nmK y2.toNat)))) R (.lst (xs ++ [.ref z]))) u = some (.tup ys) := fun u ys h => by
        rw [upd_ne (fun e => by rw [e, hRz] at h; cases h)]
        exact h
      exact ((tRw.same s8).mono up).snoc (up _ _ hz1)
    · exact RU.add (by omega) iN jN rfl (by omega) (by omega)
  rintro σ Hc ⟨⟨v10, v11, v12, v13, v14, v15, rfl⟩, sc, xs, ru, hRc, tRc, RU⟩
  rw [lm] at RU
  have sc0 := s0b.trans sc
  have hpl : ∀ s ∈ D'.st, Vf.plK ims D' s < N := fun s hs => by
    have bd := Vf.ix_bd hs
    have := List.idxOf_lt_length_of_mem (I1.on _ bd.1 bd.2)
    unfold Vf.plK
    omega
  have P4 := P3
  obtain ⟨qs, qi, ql, qr, qo, yi, yr, k0, kls, kli, ki, kll, klr, kr, klo⟩ := P4
  have ol' := vM.len
  -- the outputs
  refine ⟨_, rfl, m, rfl, ⟨_, SqL.of (sc _ _ hm)⟩, fun O nO => Vf.lc_val (walk_list (K := K) (a := m) (xs := ims.map V.int)) (fun i => .int ((ims.map fun y => D'.ou.getD y.toNat 0).getD i 0)) nO (by rw [lm]; omega) (fun H' s => SqL.of (s _ _ (sc _ _ hm))) ?_ ?_⟩
  · rintro i x Hx Hy hi sx ⟨rfl, hx⟩ Q' q'
    obtain ⟨y, hy, rfl⟩ := Vf.map_get hx
    have e : (ims.map fun y => D'.ou.getD y.toNat 0).getD i 0 = D'.ou.getD y.toNat 0 := by rw [List.getD_eq_getElem?_getD, List.getElem?_map, hy]; rfl
    rw [e] at q'
    have yb := I1.im y (List.mem_of_getElem? hy)
    have sx2 := sc.trans sx
    exact ⟨rfl, _, rfl, p', _, 4, .ref qo, rfl, rfl, SqT.of (sx2 _ _ k0), atI_nat (j := 4) rfl, _, rfl, qo, _, _, _, rfl, rfl, SqL.of (sx2 _ _ klo), Vf.int_at yb.1 (by rw [ol']; exact yb.2), q' _ (Same.refl _)⟩
  intro Hd sd hO
  rw [Vf.range_map (ims.map fun y => D'.ou.getD y.toNat 0) V.int 0 _ (by rw [List.length_map, List.length_map])] at hO
  have nRO : R ≠ O := fun e => by rw [e] at hRc; rw [hRc] at nO; cases nO
  have scd := sc.trans sd
  -- the inputs
  have n8 := vM.n8
  have n10 := vM.n10
  have place : ∀ s ∈ D'.st, ∀ Hx : Hp, Same Hb Hx → ∀ (σ : L2.St) (Q' : VK), σ[2]? = some (some (.ref p')) → σ[5]? = some (some (.ref m)) → σ[7]? = some (some (.ref C)) → σ[23]? = some (some (.str s)) → Q' (.str (Vf.nmK (Vf.plK ims D' s))) Hx → (tOp (rIxL K) (tVar 7) (tBM K "list" (rIndex K) (tVar 5) (tCons (tBM K "list" (rIndex K) (tOp (rIxT K) (tVar 2) (tC (.int 0))) (tCons (tVar 23) tNil)) tNil))) σ Hx Q' := fun s hs Hx sx σ Q' e2 e5 e7 e23 q' => by
    have bd := Vf.ix_bd hs
    have mem := I1.on _ bd.1 bd.2
    have pl := hpl s hs
    refine ⟨_, e7, _, e5, Vf.tyL (sx _ _ hm), _, e2, p', _, 0, .ref qs, rfl, rfl, SqT.of (sx _ _ k0), atI_nat (j := 0) rfl, Vf.tyL (sx _ _ kls), _, e23, qs, _, .str s, D'.st.idxOf s, .str s, rfl, rfl, SqL.of (sx _ _ kls), rfl, Vf.flat_str _, (Vf.idx_get hs).1, beq_self_eq_true _, (Vf.idx_get hs).2, ?_⟩
    refine ⟨m, _, .int (Vf.ix D'.st s), ims.idxOf (Vf.ix D'.st s), .int (Vf.ix D'.st s), rfl, rfl, SqL.of (sx _ _ hm), rfl, Vf.flat_int _, (Vf.ixs_get mem).1, decide_eq_true rfl, (Vf.ixs_get mem).2, ?_⟩
    exact ⟨C, _, ((Vf.plK ims D' s : Nat) : Int), _, rfl, rfl, SqL.of (sx _ _ hC), Vf.nmsK_at (by omega) (by omega), q'⟩
  dsimp only [gName]
  refine ⟨_, rfl, p', _, 1, .ref qi, rfl, rfl, SqT.of (scd _ _ k0), atI_nat (j := 1) rfl, qi, rfl, ⟨_, SqL.of (scd _ _ kli)⟩, fun I nI => Vf.lc_tups (walk_list (K := K) (a := qi) (xs := yi)) Vf.enc2 (fun i r => (D'.ins.map fun p => (p.1, Vf.nmK (Vf.plK ims D' p.2)))[i]? = some r) nI (by rw [ki.1]; omega) (fun H' s => SqL.of (s _ _ (scd _ _ kli))) ?_ ?_⟩
  · rintro i x Hx Hy hi sx ⟨rfl, hx⟩ Q' q'
    have sx2 := scd.trans sx
    obtain ⟨pr, t, ep, rfl, ht⟩ := (ki.same sx2).get hx
    refine ⟨t, _, rfl, SqT.of ht, rfl, _, _, rfl, _, _, rfl, rfl, ?_⟩
    have pm := (vM.inm pr (List.mem_of_getElem? ep)).2
    refine ⟨rfl, _, rfl, ?_⟩
    refine place pr.2 pm Hy sx2 _ _ rfl rfl rfl rfl ⟨(by show 2 ≤ sizeLine; decide), fun t' nt => q' (pr.1, Vf.nmK (Vf.plK ims D' pr.2)) t' _ (Vf.Same.new (Same.refl _) nt) upd_same ?_⟩
    rw [List.getElem?_map, ep]
    rfl
  intro ins xi2 He lI se hI tI gI
  have eI : ins = D'.ins.map fun p => (p.1, Vf.nmK (Vf.plK ims D' p.2)) := by
    refine List.ext_getElem? fun i => ?_
    rcases Nat.lt_or_ge i ins.length with h | h
    · rw [List.getElem?_eq_getElem h]
      exact (gI i _ (List.getElem?_eq_getElem h)).symm
    · rw [List.getElem?_eq_none h, List.getElem?_eq_none (by rw [List.length_map]; have := ki.1; omega)]
  subst eI
  have nRI : R ≠ I := fun e => by have := sd _ _ hRc; rw [e, nI] at this; cases this
  have nOI : O ≠ I := fun e => by rw [e, nI] at hO; cases hO
  have sce := scd.trans se
  dsimp only [gName]
  -- the leaders
  refine ⟨_, rfl, p', _, 2, .ref ql, rfl, rfl, SqT.of (sce _ _ k0), atI_nat (j := 2) rfl, ql, rfl, ⟨_, SqL.of (sce _ _ kll)⟩, fun L nL => Vf.lc_val (walk_list (K := K) (a := ql) (xs := D'.ld.map V.str)) (fun i => .str (Vf.nmK (Vf.plK ims D' (D'.ld.getD i Str.empty)))) nL (by rw [List.length_map]; omega) (fun H' s => SqL.of (s _ _ (sce _ _ kll))) ?_ ?_⟩
  · rintro i x Hx Hy hi sx ⟨rfl, hx⟩ Q' q'
    obtain ⟨s, hs, rfl⟩ := Vf.map_get hx
    have e : D'.ld.getD i Str.empty = s := by rw [List.getD_eq_getElem?_getD, hs]; rfl
    have mem := vM.ldm s (List.mem_of_getElem? hs)
    rw [e] at q'
    exact ⟨rfl, place s mem Hy (sce.trans sx) _ _ rfl rfl rfl rfl (q' _ (Same.refl _))⟩
  intro Hf sf hL
  have hL2 : Hf L = some (.lst ((D'.ld.map fun s => Vf.nmK (Vf.plK ims D' s)).map V.str)) := by
    rw [hL, List.map_map]
    exact congrArg (fun l => some (HO.lst l)) (Vf.range_map D'.ld (fun s => V.str (Vf.nmK (Vf.plK ims D' s))) Str.empty _ (List.length_map ..))
  have nRL : R ≠ L := fun e => by have := (sd.trans se) _ _ hRc; rw [e, nL] at this; cases this
  have nOL : O ≠ L := fun e => by have := se _ _ hO; rw [e, nL] at this; cases this
  have scf := sce.trans sf
  have F : Vf.FiveK N D' ims Hf R O I L := ⟨⟨xs, ru, ((sd.trans se).trans sf) _ _ hRc, tRc.same ((sd.trans se).trans sf), RU⟩, ⟨_, (se.trans sf) _ _ hO, by rw [List.length_map]; exact hN, fun o ho => by
      obtain ⟨y, hy, rfl⟩ := List.mem_map.mp ho
      have yb := I1.im y hy
      exact vM.ou _ (by rw [List.getD_eq_getElem?_getD, List.getElem?_eq_getElem (by omega)]; exact List.getElem_mem _)⟩, ⟨xi2, sf _ _ hI, tI.same sf⟩, ⟨_, hL2, fun s hs => by
      obtain ⟨z, hz, rfl⟩ := List.mem_map.mp hs
      exact Vf.nmsK_mem (hpl z (vM.ldm z hz)), by rw [List.length_map]; exact n10⟩, nRO, nRI, nRL, nOI, nOL⟩
  have nOb : Hb O = none := Classical.byContradiction fun h => by
    obtain ⟨o, ho⟩ := Option.ne_none_iff_exists'.mp h
    rw [sc _ _ ho] at nO
    cases nO
  clear hO hI hL hL2 tI hRc tRc RU nRO nRI nRL nOI nOL
  dsimp only [gName]
  refine Vf.seq_join (fun σ' H' => ∃ v19 : Option V, σ' = [some (.int cell), some (.int other), some (.ref p'), some (.ref dr), some (.ref c2), some (.ref m), some (.int (tn : Int)), some (.ref C), some (.ref td), some (.ref R), v10, v11, v12, v13, v14, v15, some (.ref O), some (.ref I), some (.ref L), v19, none, none, none, none] ∧ Same Hb H' ∧ Vf.FiveK N D' ims H' R O I L) (fun nx hn => ?_) ?_
  · obtain ⟨xs, ru, hR', tR', RU'⟩ := F.ru
    have hdrf := scf _ _ hdr
    have hCf := scf _ _ hC
    refine ⟨_, rfl, dr, _, _, _, rfl, rfl, SqL.of hdrf, Vf.int_at (by omega) (by omega), _, _, rfl, rfl, (by show (0 : Int) < 4; decide), rfl, _, rfl, Vf.ite_d (fun _ => ⟨_, rfl, R, _, rfl, .inl (SqL.of hR'), _, _, rfl, rfl, _, rfl, Vf.ite_d (fun c => ?_) fun _ => hn _ _ ⟨_, rfl, scf, F⟩⟩) fun _ => hn _ _ ⟨_, rfl, scf, F⟩⟩
    have xl : xs.length = ru.length := tR'.1
    refine ⟨_, rfl, dr, _, _, _, rfl, rfl, SqL.of hdrf, Vf.int_at (by omega) (by omega), _, rfl, R, _, rfl, .inl (SqL.of hR'), _, _, rfl, rfl, (by omega), ?_⟩
    have a0 := Int.emod_nonneg (ds.getD (31 : Int).toNat 0) (show (xs.length : Int) ≠ 0 by omega)
    have a1 := Int.emod_lt_of_pos (ds.getD (31 : Int).toNat 0) (show (0 : Int) < (xs.length : Int) by omega)
    dsimp only
    generalize ds.getD (31 : Int).toNat 0 % (xs.length : Int) = at' at a0 a1 ⊢
    dsimp only [gName]
    obtain ⟨k, rfl⟩ : ∃ k : Nat, at' = (k : Int) := ⟨at'.toNat, by omega⟩
    have kl : k < ru.length := by omega
    have ek := List.getElem?_eq_getElem kl
    obtain ⟨z, ez, hz⟩ := tR'.2 k _ ek
    refine ⟨_, rfl, _, rfl, R, _, _, _, rfl, rfl, SqL.of hR', atI_nat ez, _, rfl, z, _, rfl, SqT.of hz, (fun ⟨_, h⟩ => absurd (show HT.sIx 4 4 (some 2) = 4 from h) (by decide)), fun a na => ?_⟩
    have eh : cutV (Vf.enc4 ru[k]) none (some 2) = [.str ru[k].1, .str ru[k].2.1] := rfl
    rw [eh]
    have sa := Vf.Same.new (o := .tup [.str ru[k].1, .str ru[k].2.1]) (Same.refl Hf) na
    have ha := upd_same (H := Hf) (a := a) (o := .tup [.str ru[k].1, .str ru[k].2.1])
    generalize upd Hf a (.tup [.str ru[k].1, .str ru[k].2.1]) = Hx at sa ha ⊢
    have hdrx := sa _ _ hdrf
    have hCx := sa _ _ hCf
    have b0 := Int.emod_nonneg (ds.getD (32 : Int).toNat 0) (show (N : Int) ≠ 0 by omega)
    have b1 := Int.emod_lt_of_pos (ds.getD (32 : Int).toNat 0) (show (0 : Int) < (N : Int) by omega)
    have d0 := Int.emod_nonneg (ds.getD (33 : Int).toNat 0) (show (N : Int) ≠ 0 by omega)
    have d1 := Int.emod_lt_of_pos (ds.getD (33 : Int).toNat 0) (show (0 : Int) < (N : Int) by omega)
    refine ⟨_, rfl, _, rfl, dr, _, _, _, rfl, rfl, SqL.of hdrx, Vf.int_at (by omega) (by omega), _, rfl, C, _, rfl, .inl (SqL.of hCx), _, _, rfl, rfl, (by rw [lC]; omega), C, _, _, _, rfl, rfl, SqL.of hCx, Vf.nmsK_at (by rw [lC]; exact b0) (by rw [lC]; exact b1), ?_⟩
    refine ⟨_, rfl, _, rfl, dr, _, _, _, rfl, rfl, SqL.of hdrx, Vf.int_at (by omega) (by omega), _, rfl, C, _, rfl, .inl (SqL.of hCx), _, _, rfl, rfl, (by rw [lC]; omega), C, _, _, _, rfl, rfl, SqL.of hCx, Vf.nmsK_at (by rw [lC]; exact d0) (by rw [lC]; exact d1), (by show 2 ≤ sizeLine; decide), fun b nb => ?_⟩
    rw [lC]
    generalize ds.getD (32 : Int).toNat 0 % (N : Int) = b' at b0 b1 ⊢
    generalize ds.getD (33 : Int).toNat 0 % (N : Int) = d' at d0 d1 ⊢
    have sb' := Vf.Same.new (o := .tup [.str (Vf.nmK b'.toNat), .str (Vf.nmK d'.toNat)]) sa nb
    have hb := upd_same (H := Hx) (a := b) (o := .tup [.str (Vf.nmK b'.toNat), .str (Vf.nmK d'.toNat)])
    have ha2 := Vf.Same.new (o := .tup [.str (Vf.nmK b'.toNat), .str (Vf.nmK d'.toNat)]) (Same.refl Hx) nb _ _ ha
    generalize upd Hx b (.tup [.str (Vf.nmK b'.toNat), .str (Vf.nmK d'.toNat)]) = Hy at sb' hb ha2 ⊢
    refine ⟨a, b, _, _, rfl, rfl, SqT.of ha2, SqT.of hb, (by simp), (by show 4 ≤ sizeLine; decide), (fun e => by cases e), fun _ c' nc' => ?_⟩
    have sc' := Vf.Same.new (o := .tup (Vf.enc4 (ru[k].1, ru[k].2.1, Vf.nmK b'.toNat, Vf.nmK d'.toNat))) sb' nc'
    have hc' := upd_same (H := Hy) (a := c') (o := .tup (Vf.enc4 (ru[k].1, ru[k].2.1, Vf.nmK b'.toNat, Vf.nmK d'.toNat)))
    refine ⟨_, rfl, _, rfl, R, xs, (k : Int), k, rfl, rfl, sc' _ _ hR', Vf.ixNk (by omega), ?_⟩
    refine hn _ _ ⟨_, rfl, Vf.Same.chg (scf.trans sc') nR, (F.same sc').setR (xs := xs.set k (.ref c')) (ru := ru.set k (ru[k].1, ru[k].2.1, Vf.nmK b'.toNat, Vf.nmK d'.toNat)) ?_ (RU'.set ek (by omega) (by omega))⟩
    exact (tR'.same sc').setT k hc'
  rintro σ' Hg ⟨v19, rfl, sg, F1⟩
  refine Vf.seq_join (fun σ' H' => ∃ v19 : Option V, σ' = [some (.int cell), some (.int other), some (.ref p'), some (.ref dr), some (.ref c2), some (.ref m), some (.int (tn : Int)), some (.ref C), some (.ref td), some (.ref R), v10, v11, v12, v13, v14, v15, some (.ref O), some (.ref I), some (.ref L), v19, none, none, none, none] ∧ Same Hb H' ∧ Vf.FiveK N D' ims H' R O I L) (fun nx hn => ?_) ?_
  · obtain ⟨ou, hO', lO', bO'⟩ := F1.ou
    have hdrg := sg _ _ hdr
    have loo : (ou.map V.int).length = N := by rw [List.length_map]; exact lO'
    refine ⟨_, rfl, dr, _, _, _, rfl, rfl, SqL.of hdrg, Vf.int_at (by omega) (by omega), _, _, rfl, rfl, (by show (0 : Int) < 8; decide), rfl, _, rfl, Vf.ite_d (fun _ => ?_) fun _ => hn _ _ ⟨_, rfl, sg, F1⟩⟩
    refine ⟨_, rfl, dr, _, _, _, rfl, rfl, SqL.of hdrg, Vf.int_at (by omega) (by omega), _, _, rfl, rfl, (by show (0 : Int) < 3; decide), ?_⟩
    have a0 := Int.emod_nonneg (ds.getD (31 : Int).toNat 0) (show (N : Int) ≠ 0 by omega)
    have a1 := Int.emod_lt_of_pos (ds.getD (31 : Int).toNat 0) (show (0 : Int) < (N : Int) by omega)
    refine ⟨_, rfl, _, rfl, dr, _, _, _, rfl, rfl, SqL.of hdrg, Vf.int_at (by omega) (by omega), _, rfl, O, _, rfl, .inl (SqL.of hO'), _, _, rfl, rfl, (by rw [loo]; omega), ?_⟩
    rw [loo]
    refine ⟨O, _, _, _, rfl, rfl, hO', Vf.ixI a0 (by rw [lO']; exact a1), ?_⟩
    have e0 := Int.emod_nonneg (ds.getD (32 : Int).toNat 0) (show (3 : Int) ≠ 0 by decide)
    have e1 := Int.emod_lt_of_pos (ds.getD (32 : Int).toNat 0) (show (0 : Int) < 3 by decide)
    dsimp only
    generalize ds.getD (32 : Int).toNat 0 % 3 = w at e0 e1 ⊢
    rw [← List.map_set]
    exact hn _ _ ⟨_, rfl, Vf.Same.chg sg nOb, F1.setO (by rw [List.length_set]; exact lO') fun o ho => (List.mem_or_eq_of_mem_set ho).elim (bO' o) fun e => by omega⟩
  rintro σ' Hh ⟨v19, rfl, sh, F2⟩
  refine Vf.seq_join (fun σ' H' => ∃ (v19 : Option V) (L : Addr), σ' = [some (.int cell), some (.int other), some (.ref p'), some (.ref dr), some (.ref c2), some (.ref m), some (.int (tn : Int)), some (.ref C), some (.ref td), some (.ref R), v10, v11, v12, v13, v14, v15, some (.ref O), some (.ref I), some (.ref L), v19, none, none, none, none] ∧ Same Hb H' ∧ Vf.FiveK N D' ims H' R O I L) (fun nx hn => ?_) ?_
  · obtain ⟨ld, hL', mL', lL'⟩ := F2.ld
    have hdrh := sh _ _ hdr
    refine ⟨_, rfl, dr, _, _, _, rfl, rfl, SqL.of hdrh, Vf.int_at (by omega) (by omega), _, _, rfl, rfl, (by show (0 : Int) < 8; decide), rfl, _, rfl, Vf.ite_d (fun _ => ?_) fun _ => hn _ _ ⟨_, _, rfl, sh, F2⟩⟩
    refine ⟨_, rfl, _, rfl, L, _, rfl, SqL.of hL', fun L2 nL2 => ?_⟩
    have ec : cutV (ld.map V.str) (some 1) none = (ld.drop 1).map V.str := (Vf.cut_lo (ld.map V.str) 1).trans List.map_drop.symm
    rw [ec]
    have sx := Vf.Same.new (o := .lst ((ld.drop 1).map V.str)) (Same.refl Hh) nL2
    have F3 := F2.same sx
    obtain ⟨_, _, hR', _, _⟩ := F2.ru
    obtain ⟨_, hO', _, _⟩ := F2.ou
    exact hn _ _ ⟨_, L2, rfl, sh.trans sx, ⟨F3.ru, F3.ou, F3.ins, ⟨ld.drop 1, upd_same, fun s hs => mL' s (List.mem_of_mem_drop hs), by rw [List.length_drop]; omega⟩, F3.ro, F3.ri, (fun e => by rw [e, nL2] at hR'; cases hR'), F3.oi, fun e => by rw [e, nL2] at hO'; cases hO'⟩⟩
  rintro σ' Hi ⟨v19, L, rfl, si, F3⟩
  obtain ⟨⟨xs, ru, hR', tR', RU'⟩, ⟨ou, hO', lO', bO'⟩, ⟨xi3, hI', tI'⟩, ⟨ld, hL', mL', lL'⟩, _, _, _, _, _⟩ := F3
  refine ⟨_, rfl, _, rfl, _, rfl, _, rfl, _, rfl, (by show 5 ≤ sizeLine; decide), fun p np => ?_⟩
  have s9 := Vf.Same.new (o := .tup [.ref C, .ref I, .ref L, .ref R, .ref O]) (Same.refl Hi) np
  have hp := upd_same (H := Hi) (a := p) (o := .tup [.ref C, .ref I, .ref L, .ref R, .ref O])
  generalize upd Hi p (.tup [.ref C, .ref I, .ref L, .ref R, .ref O]) = Hj at s9 hp ⊢
  refine ⟨_, rfl, _, rfl, m, _, rfl, .inl ⟨SqL.of ((si.trans s9) _ _ hm), fun mt nmt => ?_⟩⟩
  have s10 := Vf.Same.new (o := .tup (ims.map V.int)) (Same.refl Hj) nmt
  have hmt := upd_same (H := Hj) (a := mt) (o := .tup (ims.map V.int))
  generalize upd Hj mt (.tup (ims.map V.int)) = Hk at s10 hmt ⊢
  refine ⟨(by show 3 ≤ sizeLine; decide), fun Z nZ => ?_⟩
  have s11 := Vf.Same.new (o := .lst [.ref p, .ref p', .ref mt]) (Same.refl Hk) nZ
  have hZ := upd_same (H := Hk) (a := Z) (o := .lst [.ref p, .ref p', .ref mt])
  generalize upd Hk Z (.lst [.ref p, .ref p', .ref mt]) = Hl at s11 hZ ⊢
  have sil := (s9.trans s10).trans s11
  have sbl := si.trans sil
  have nZ0 : H Z = none := Classical.byContradiction fun h => by
    obtain ⟨o, ho⟩ := Option.ne_none_iff_exists'.mp h
    rw [((s0b.trans si).trans (s9.trans s10)) _ _ ho] at nZ
    cases nZ
  have vN := Vf.valid2 vM (by omega) hpl mL' lL' RU' lO' bO'
  refine q Z p p' mt Hl ⟨Vf.nmsK N, D'.ins.map fun p => (p.1, Vf.nmK (Vf.plK ims D' p.2)), ld, ru, ou⟩ D' ims hZ ⟨C, I, L, R, O, xi3, xs, (s10.trans s11) _ _ hp, sbl _ _ hC, sil _ _ hI', tI'.same sil, sil _ _ hL', sil _ _ hR', tR'.same sil, sil _ _ hO'⟩ (P3.same sbl) (s11 _ _ hmt) ?_ (s0b.trans sbl) nZ0
  have nl : (Vf.nmsK N).length = N := by unfold Vf.nmsK; rw [List.length_map, List.length_range]
  have rul : ru.length ≤ 100 := by
    have := RU'.len
    have h2 : N * N ≤ 7 * 7 := Nat.mul_le_mul (by omega) (by omega)
    omega
  exact ⟨⟨vN, vM, rul, by have := sm.ru36; omega, by show ims.length = (Vf.nmsK N).length; omega, by show 1 ≤ (Vf.nmsK N).length; omega, by show (Vf.nmsK N).length ≤ 7; omega, st0, st6, I1.im, I1.on⟩, by omega, by show (Vf.nmsK N).length ≤ 4; omega⟩
end

def sp__law_cell (K : PySem.W.Frag) (A : Ad) : Sp := fun vs H Q _ => ∃ (a : Addr) (ns : List Int) (k : Int), vs = [.ref a, .int k] ∧ SqL K H a (ns.map V.int) ∧ 0 ≤ k ∧ Q (.int (ns.getD k.toNat 0)) H
theorem len__law_cell {K : PySem.W.Frag} {A : Ad} (vs : List V) (H : Hp) (Q : VK) (E : XK) (h : sp__law_cell K A vs H Q E) : vs.length = ["script", "k"].length := by
  obtain ⟨a, ns, k, rfl, _⟩ := h
  rfl

section
variable {P : Program} {w : World} {K : PySem.W.Frag} {mg : Str → Option Value} {base : Heap}
set_option maxHeartbeats 4000000 in
theorem ok__law_cell {A : Ad} (T : Txt P K mg A) : FnOk P w K mg base CX0 1 A.f__law_cell A.d__law_cell ["script", "k"] (sp__law_cell K A) := by
  refine T.F__law_cell.ok sc__law_cell len__law_cell (fun cdv Ar outer s H vs Q E hr h => ?_)
  have hu := hu_of hr
  obtain ⟨a, ns, k, rfl, hS, h0, q⟩ := h
  refine ⟨_, (pss_cons (ps_if (pt_cmpR op_lt (pv 1) (pe_callB call_len_seq (by rfl) T.N_len PySem.boot_len (pa_cons (pv 0) pa_nil)) (nomark _)) (pss_one (ps_ret (pe_ix ix_list (pv 0) (pv 1) (fun _ _ => rfl)))) pss_nil)
      (pss_one (ps_ret pe_int))), ?_⟩
  refine ⟨_, rfl, _, rfl, a, _, rfl, .inl hS, _, _, rfl, rfl, _, rfl, ?_⟩
  refine Vf.ite_d (fun h1 => ?_) (fun h1 => ?_)
  · rw [List.length_map] at h1
    exact ⟨_, rfl, _, rfl, a, _, _, _, rfl, rfl, hS, Vf.int_at h0 h1, q⟩
  · rw [List.length_map] at h1
    have e : ns.getD k.toNat 0 = 0 := by
      rw [List.getD_eq_getElem?_getD, List.getElem?_eq_none (by omega)]
      rfl
    rw [e] at q
    exact q
end

def sp__law_tuples (K : PySem.W.Frag) (A : Ad) : Sp := fun vs H Q _ => ∃ (n m : Nat), vs = [.int (n : Int), .int (m : Int)] ∧ n ≤ 7 ∧ m ≤ 6 ∧ ∀ (L : Addr) (xs : List V) (H' : Hp), H L = none → Same H H' → H' L = some (.lst xs) → Vf.Tups Vf.encIs H' xs (Vf.tupsK m n) → Q (.ref L) H'
theorem len__law_tuples {K : PySem.W.Frag} {A : Ad} (vs : List V) (H : Hp) (Q : VK) (E : XK) (h : sp__law_tuples K A vs H Q E) : vs.length = ["count", "size"].length := by
  obtain ⟨a1, a2, rfl, _⟩ := h
  rfl

section
variable {P : Program} {w : World} {K : PySem.W.Frag} {mg : Str → Option Value} {base : Heap}
set_option maxHeartbeats 4000000 in
theorem ok__law_tuples {A : Ad} (T : Txt P K mg A) : FnOk P w K mg base CX0 1 A.f__law_tuples A.d__law_tuples ["count", "size"] (sp__law_tuples K A) := by
  refine T.F__law_tuples.ok sc__law_tuples len__law_tuples (fun cdv Ar outer s H vs Q E hr h => ?_)
  have hu := hu_of hr
  obtain ⟨n, m, rfl, n7, m6, q⟩ := h
  refine ⟨_, (pss_cons (ps_set (i := 2) sc__law_tuples.nd rfl (Or.inl rfl) (pe_lst (pa_cons (pe_tup pa_nil) pa_nil)))
      (pss_cons (ps_for PassesOwn.never rfl (pi_range1 rfl T.N_range (pa_cons (pv 0) pa_nil)) (pg_name (i := 3) sc__law_tuples.nd rfl (Or.inl rfl))
        (pss_cons (ps_set (i := 4) sc__law_tuples.nd rfl (Or.inl rfl) (pe_lst pa_nil))
      (pss_cons (ps_for PassesOwn.never rfl (pi_list (pv 2)) (pg_name (i := 5) sc__law_tuples.nd rfl (Or.inl rfl))
        (pss_one (ps_for PassesOwn.never rfl (pi_range1 rfl T.N_range (pa_cons (pv 1) pa_nil)) (pg_name (i := 6) sc__law_tuples.nd rfl (Or.inl rfl))
        (pss_one (ps_expr (pe_bm PySem.F.plainAttrs_list PySem.F.slot_list_append PySem.F.type_list_append mt_append (pv 4) (pa_cons (pe_op op_catA (pv 5) (pe_tup (pa_cons (pv 6) pa_nil))) pa_nil)))))))
      (pss_one (ps_set (i := 2) sc__law_tuples.nd rfl (Or.inl rfl) (pv 4))))))
      (pss_one (ps_ret (pv 2))))), ?_⟩
  refine ⟨(by show 0 ≤ sizeLine; decide), fun e ne => ⟨(by show 1 ≤ sizeLine; decide), fun L nL => ?_⟩⟩
  have s1 := Vf.Same.new (o := .tup []) (Same.refl H) ne
  have s2 := Vf.Same.new (o := .lst [.ref e]) s1 nL
  have nL0 : H L = none := s1.free nL
  have he : (upd (upd H e (.tup [])) L (.lst [.ref e])) e = some (.tup []) := by rw [upd_ne (Vf.neq_none upd_same nL)]; exact upd_same
  have hL := upd_same (H := upd H e (.tup [])) (a := L) (o := .lst [.ref e])
  have tL : Vf.Tups Vf.encIs (upd (upd H e (.tup [])) L (.lst [.ref e])) [.ref e] (Vf.tupsK m 0) := ⟨rfl, fun i a h => by
    cases i with
    | zero => cases h; exact ⟨e, rfl, he⟩
    | succ i => simp [Vf.tupsK] at h⟩
  generalize upd (upd H e (.tup [])) L (.lst [.ref e]) = H1 at s2 hL tL ⊢
  dsimp only [gName]
  refine ⟨_, rfl, _, rfl, by omega, by omega, for_range (lo := 0) (n := _) (fun k σ H' => ∃ (L : Addr) (xs : List V) (v3 v4 v5 v6 : Option V), σ = [some (.int (n : Int)), some (.int (m : Int)), some (.ref L), v3, v4, v5, v6] ∧ H L = none ∧ Same H H' ∧ H' L = some (.lst xs) ∧ Vf.Tups Vf.encIs H' xs (Vf.tupsK m k)) ⟨L, _, none, none, none, none, rfl, nL0, s2, hL, tL⟩ ?_ ?_⟩
  rotate_left
  · rintro σ H2 ⟨L2, xs, v3, v4, v5, v6, rfl, nl, s, hl, tl⟩
    exact ⟨_, rfl, q L2 xs H2 nl s hl tl⟩
  rintro k σ H2 hk ⟨L2, xs, v3, v4, v5, v6, rfl, nl, s, hl, tl⟩
  have hk : k < n := by omega
  have xl : xs.length = m ^ k := by rw [tl.1, Vf.tupsK_len]
  have big : m ^ k * m ≤ 6 ^ 7 := by
    rw [← Nat.pow_succ]
    exact Nat.le_trans (Nat.pow_le_pow_left m6 _) (Nat.pow_le_pow_right (by decide) (by omega))
  refine ⟨(by show 0 ≤ sizeLine; decide), fun M nM => ?_⟩
  have s3 := Vf.Same.new (o := .lst []) (Same.refl H2) nM
  have hM := upd_same (H := H2) (a := M) (o := .lst [])
  generalize upd H2 M (.lst []) = H3 at s3 hM ⊢
  have nM0 : H M = none := s.free nM
  have F : ∀ r : List Int, ((List.range m).map fun (y : Nat) => r ++ [(y : Int)]).length = m := fun r => by rw [List.length_map, List.length_range]
  dsimp only [gName]
  refine ⟨_, rfl, L2, rfl, ⟨_, SqL.of (s3 _ _ hl)⟩, for_list (K := K) (a := L2) (xs := xs) (fun j σ H' => ∃ (ys : List V) (v5 v6 : Option V), σ = [some (.int (n : Int)), some (.int (m : Int)), some (.ref L2), some (.int (0 + (k : Int))), some (.ref M), v5, v6] ∧ Same H2 H' ∧ H' M = some (.lst ys) ∧ Vf.Tups Vf.encIs H' ys (((Vf.tupsK m k).take j).flatMap fun r => (List.range m).map fun (y : Nat) => r ++ [(y : Int)]) ∧ ys.length = j * m) ⟨[], _, _, rfl, s3, hM, Vf.Tups.nil, by simp⟩ (fun j σ H' _ ⟨_, _, _, _, s, _⟩ => SqL.of (s _ _ hl)) ?_ ?_⟩
  rotate_left
  · rintro σ H4 ⟨ys, v5', v6', rfl, s4, hM4, t4, _⟩
    rw [tl.1, List.take_length] at t4
    exact ⟨_, rfl, M, ys, _, _, _, _, rfl, nM0, s.trans s4, hM4, t4⟩
  rintro j x σ H4 hx ⟨ys, v5', v6', rfl, s4, hM4, t4, yl⟩
  obtain ⟨r, t, er, rfl, ht⟩ := (tl.same s4).get hx
  have jl : j < m ^ k := by
    have := (List.getElem?_eq_some_iff.mp hx).1
    omega
  have rm : r.length = k := (Vf.tupsK_mem.mp (List.mem_of_getElem? er)).1
  refine ⟨_, rfl, _, rfl, by omega, by omega, for_range (lo := 0) (n := _) (fun i σ H' => ∃ (ys : List V) (v6 : Option V), σ = [some (.int (n : Int)), some (.int (m : Int)), some (.ref L2), some (.int (0 + (k : Int))), some (.ref M), some (.ref t), v6] ∧ Same H2 H' ∧ H' M = some (.lst ys) ∧ Vf.Tups Vf.encIs H' ys ((((Vf.tupsK m k).take j).flatMap fun r => (List.range m).map fun (y : Nat) => r ++ [(y : Int)]) ++ (List.range i).map fun (y : Nat) => r ++ [(y : Int)]) ∧ ys.length = j * m + i) ⟨ys, _, rfl, s4, hM4, by simpa using t4, by omega⟩ ?_ ?_⟩
  rotate_left
  · rintro σ H5 ⟨ys', v6'', rfl, s5, hM5, t5, yl5⟩
    refine ⟨ys', _, _, rfl, s5, hM5, ?_, by rw [yl5, Nat.succ_mul]; rfl⟩
    rw [Vf.take_snoc er, List.flatMap_append]
    simpa using t5
  rintro i σ H5 hi ⟨ys', v6'', rfl, s5, hM5, t5, yl5⟩
  have hi : i < m := by omega
  rw [show (0 : Int) + (i : Int) = (i : Int) from Int.zero_add _]
  refine ⟨_, rfl, Vf.tyL hM5, _, rfl, _, rfl, (by show 1 ≤ sizeLine; decide), fun u nu => ?_⟩
  have s6 := Vf.Same.new (o := .tup [.int (i : Int)]) (Same.refl H5) nu
  have hu' := upd_same (H := H5) (a := u) (o := .tup [.int (i : Int)])
  have ht5 : H5 t = some (.tup (Vf.encIs r)) := by
    obtain ⟨r', t', er', et', ht'⟩ := (tl.same s5).get hx
    rw [er] at er'
    obtain rfl := Option.some.inj er'
    injection et' with et'
    rw [et']
    exact ht'
  have ht6 := s6 _ _ ht5
  generalize upd H5 u (.tup [.int (i : Int)]) = H6 at s6 hu' ht6 ⊢
  refine Vf.catA ht6 hu' (by simp) (Nat.le_trans (show (Vf.encIs r).length + 1 ≤ 10 by unfold Vf.encIs; rw [List.length_map]; omega) (by decide)) fun w H7 s7 hw => ?_
  have hM7 := (s6.trans s7) _ _ hM5
  have jb : j * m + i < m ^ k * m := by
    have h1 : (j + 1) * m ≤ m ^ k * m := Nat.mul_le_mul_right m jl
    rw [Nat.succ_mul] at h1
    omega
  refine ⟨M, ys', _, rfl, rfl, hM7, Nat.lt_of_le_of_lt (show ys'.length ≤ 6 ^ 7 by omega) (by decide), ys' ++ [.ref w], _, rfl, Vf.Same.chg (s5.trans (s6.trans s7)) nM, upd_same, ?_, by rw [List.length_append, yl5]; rfl⟩
  have up : ∀ v zs, H7 v = some (.tup zs) → (upd H7 M (.lst (ys' ++ [.ref w]))) v = some (.tup zs) := fun v zs h => by
    rw [upd_ne (fun e => by rw [e, hM7] at h; cases h)]
    exact h
  rw [List.range_succ, List.map_append, ← List.append_assoc]
  refine (((t5.same s6).same s7).mono up).snoc (up _ _ ?_)
  rw [hw]
  unfold Vf.encIs
  rw [List.map_append]
  rfl
end

def sp__law_is_image (K : PySem.W.Frag) (A : Ad) : Sp := fun vs H Q _ => ∃ (p p' m : Addr) (D D' : Vf.DD) (ims : List Int), vs = [.ref p, .ref p', .ref m] ∧ Vf.PartsAt H p D ∧ Vf.PartsAt H p' D' ∧ Vf.ValidN D ∧ Vf.ValidN D' ∧ D.ru.length ≤ 1000000 ∧ D'.ru.length ≤ 1000000 ∧ SqT K H m (ims.map V.int) ∧ ims.length = D.st.length ∧ D.st.length ≤ 100 ∧ ∀ (r : Bool) (H' : Hp), (r = true ↔ Vf.IsMap D D' ims) → Same H H' → Q (.bl r) H'
theorem len__law_is_image {K : PySem.W.Frag} {A : Ad} (vs : List V) (H : Hp) (Q : VK) (E : XK) (h : sp__law_is_image K A vs H Q E) : vs.length = ["first", "second", "images"].length := by
  obtain ⟨a1, a2, a3, a4, a5, a6, rfl, _⟩ := h
  rfl

section
variable {P : Program} {w : World} {K : PySem.W.Frag} {mg : Str → Option Value} {base : Heap}
set_option maxHeartbeats 4000000 in
theorem ok__law_is_image {A : Ad} (T : Txt P K mg A) : FnOk P w K mg base CX0 2 A.f__law_is_image A.d__law_is_image ["first", "second", "images"] (sp__law_is_image K A) := by
  have G__law_table := ok__law_table (P := P) (w := w) (base := base) T
  refine T.F__law_is_image.ok sc__law_is_image len__law_is_image (fun cdv Ar outer s H vs Q E hr h => ?_)
  have hu := hu_of hr
  obtain ⟨p, p', m, D, D', ims, rfl, P, P', vN, vM, ru1, ru2, hm, il, n100, q⟩ := h
  refine ⟨_, (pss_cons (ps_if (pt_cmpR op_ne (pe_callB call_len_seq (by rfl) T.N_len PySem.boot_len (pa_cons (pv 2) pa_nil)) (pe_callB call_len_seq (by rfl) T.N_len PySem.boot_len (pa_cons (pe_ix ix_tup (pv 0) pe_int (fun _ _ => rfl)) pa_nil)) (nomark _)) (pss_one (ps_ret pe_bl)) pss_nil)
      (pss_cons (ps_for PassesOwn.never rfl (pi_tup (pv 2)) (pg_name (i := 3) sc__law_is_image.nd rfl (Or.inl rfl))
        (pss_one (ps_if (PW.pt (pw_or (pt_cmpR op_lt (pv 3) pe_int (nomark _)) (pw_or1 (pt_cmpR op_ge (pv 3) (pe_callB call_len_seq (by rfl) T.N_len PySem.boot_len (pa_cons (pe_ix ix_tup (pv 1) pe_int (fun _ _ => rfl)) pa_nil)) (nomark _))))) (pss_one (ps_ret pe_bl)) pss_nil)))
      (pss_cons (ps_set (i := 4) sc__law_is_image.nd rfl (Or.inl rfl) (pe_call G__law_table hr (by rfl) T.G__law_table T.F__law_table.kp T.B__law_table .nil pass0 (pa_cons (pv 0) pa_nil)))
      (pss_cons (ps_set (i := 5) sc__law_is_image.nd rfl (Or.inl rfl) (pe_call G__law_table hr (by rfl) T.G__law_table T.F__law_table.kp T.B__law_table .nil pass0 (pa_cons (pv 1) pa_nil)))
      (pss_cons (ps_for PassesOwn.never rfl (pi_range1 rfl T.N_range (pa_cons (pe_callB call_len_seq (by rfl) T.N_len PySem.boot_len (pa_cons (pv 2) pa_nil)) pa_nil)) (pg_name (i := 6) sc__law_is_image.nd rfl (Or.inl rfl))
        (pss_one (ps_if (pt_cmpR op_ne (pe_ix ix_list (pe_ix ix_tup (pv 0) pe_int (fun _ _ => rfl)) (pv 6) (fun _ _ => rfl)) (pe_ix ix_list (pe_ix ix_tup (pv 1) pe_int (fun _ _ => rfl)) (pe_ix ix_tup (pv 2) (pv 6) (fun _ _ => rfl)) (fun _ _ => rfl)) (nomark _)) (pss_one (ps_ret pe_bl)) pss_nil)))
      (pss_cons (ps_if (pt_cmpR (Vf.op_neP hr.units) (pe_lc (own := [("row", 12)]) (g := (gName 12)) (tt := tYes) rfl sc__law_is_image.nd (pi_list (pe_ix ix_tup (pv 0) pe_int (fun _ _ => rfl))) (blkOk_by (N := ["first", "second", "images", "image", "one", "two", "k", "here", "i", "j", "pair", "due", "row", "name"]) (sc := defScope s__law_is_image) (by decide +kernel)) (fun _ _ _ _ _ => (pg_name (i := 12) sc__law_is_image.nd rfl (Or.inl rfl))) (fun _ _ _ _ _ => pts_nil) (fun _ _ _ _ _ => (pe_ix (Vf.ix_tupK (K := K) rfl) (pv 12) pe_int (fun _ _ => rfl)))) (pe_lc (own := [("row", 12)]) (g := (gName 12)) (tt := tYes) rfl sc__law_is_image.nd (pi_list (pe_ix ix_tup (pv 1) pe_int (fun _ _ => rfl))) (blkOk_by (N := ["first", "second", "images", "image", "one", "two", "k", "here", "i", "j", "pair", "due", "row", "name"]) (sc := defScope s__law_is_image) (by decide +kernel)) (fun _ _ _ _ _ => (pg_name (i := 12) sc__law_is_image.nd rfl (Or.inl rfl))) (fun _ _ _ _ _ => pts_nil) (fun _ _ _ _ _ => (pe_ix (Vf.ix_tupK (K := K) rfl) (pv 12) pe_int (fun _ _ => rfl)))) (nomark _)) (pss_one (ps_ret pe_bl)) pss_nil)
      (pss_cons (ps_for PassesOwn.never rfl (pi_range1 rfl T.N_range (pa_cons (pe_callB call_len_seq (by rfl) T.N_len PySem.boot_len (pa_cons (pe_ix ix_tup (pv 0) pe_int (fun _ _ => rfl)) pa_nil)) pa_nil)) (pg_name (i := 6) sc__law_is_image.nd rfl (Or.inl rfl))
        (pss_one (ps_if (pt_cmpR op_ne (pe_ix ix_tup (pv 2) (pe_bm PySem.F.plainAttrs_list PySem.F.slot_list_index PySem.F.type_list_index mt_index (pe_ix ix_tup (pv 0) pe_int (fun _ _ => rfl)) (pa_cons (pe_ix ix_tup (pe_ix ix_list (pe_ix ix_tup (pv 0) pe_int (fun _ _ => rfl)) (pv 6) (fun _ _ => rfl)) pe_int (fun _ _ => rfl)) pa_nil)) (fun _ _ => rfl)) (pe_bm PySem.F.plainAttrs_list PySem.F.slot_list_index PySem.F.type_list_index mt_index (pe_ix ix_tup (pv 1) pe_int (fun _ _ => rfl)) (pa_cons (pe_ix ix_tup (pe_ix ix_list (pe_ix ix_tup (pv 1) pe_int (fun _ _ => rfl)) (pv 6) (fun _ _ => rfl)) pe_int (fun _ _ => rfl)) pa_nil)) (nomark _)) (pss_one (ps_ret pe_bl)) pss_nil)))
      (pss_cons (ps_set (i := 7) sc__law_is_image.nd rfl (Or.inl rfl) (pe_callB cr_sortedI (by rfl) T.N_sorted (by decide +kernel) (pa_cons (pe_lc (own := [("name", 13)]) (g := (gName 13)) (tt := tYes) rfl sc__law_is_image.nd (pi_list (pe_ix ix_tup (pv 0) pe_int (fun _ _ => rfl))) (blkOk_by (N := ["first", "second", "images", "image", "one", "two", "k", "here", "i", "j", "pair", "due", "row", "name"]) (sc := defScope s__law_is_image) (by decide +kernel)) (fun _ _ _ _ _ => (pg_name (i := 13) sc__law_is_image.nd rfl (Or.inl rfl))) (fun _ _ _ _ _ => pts_nil) (fun _ _ _ _ _ => (pe_ix (Vf.ix_tupK (K := K) rfl) (pv 2) (Vf.pe_bmK (K := K) rfl PySem.F.plainAttrs_list PySem.F.slot_list_index PySem.F.type_list_index (Vf.mt_indexK (K := K) rfl) (pe_ix (Vf.ix_tupK (K := K) rfl) (pv 0) pe_int (fun _ _ => rfl)) (pa_cons (pv 13) pa_nil)) (fun _ _ => rfl)))) pa_nil)))
      (pss_cons (ps_if (pt_cmpR (Vf.op_neIs hr.units) (pv 7) (pe_callB cr_sortedI (by rfl) T.N_sorted (by decide +kernel) (pa_cons (pe_lc (own := [("name", 13)]) (g := (gName 13)) (tt := tYes) rfl sc__law_is_image.nd (pi_list (pe_ix ix_tup (pv 1) pe_int (fun _ _ => rfl))) (blkOk_by (N := ["first", "second", "images", "image", "one", "two", "k", "here", "i", "j", "pair", "due", "row", "name"]) (sc := defScope s__law_is_image) (by decide +kernel)) (fun _ _ _ _ _ => (pg_name (i := 13) sc__law_is_image.nd rfl (Or.inl rfl))) (fun _ _ _ _ _ => pts_nil) (fun _ _ _ _ _ => (Vf.pe_bmK (K := K) rfl PySem.F.plainAttrs_list PySem.F.slot_list_index PySem.F.type_list_index (Vf.mt_indexK (K := K) rfl) (pe_ix (Vf.ix_tupK (K := K) rfl) (pv 1) pe_int (fun _ _ => rfl)) (pa_cons (pv 13) pa_nil)))) pa_nil)) (nomark _)) (pss_one (ps_ret pe_bl)) pss_nil)
      (pss_cons (ps_for PassesOwn.never rfl (pi_range1 rfl T.N_range (pa_cons (pe_callB call_len_seq (by rfl) T.N_len PySem.boot_len (pa_cons (pv 2) pa_nil)) pa_nil)) (pg_name (i := 8) sc__law_is_image.nd rfl (Or.inl rfl))
        (pss_one (ps_for PassesOwn.never rfl (pi_range1 rfl T.N_range (pa_cons (pe_callB call_len_seq (by rfl) T.N_len PySem.boot_len (pa_cons (pv 2) pa_nil)) pa_nil)) (pg_name (i := 9) sc__law_is_image.nd rfl (Or.inl rfl))
        (pss_cons (ps_set (i := 10) sc__law_is_image.nd rfl (Or.inl rfl) (pe_dget2 (by exact hu) (pv 4) (pe_tup (pa_cons (pv 8) (pa_cons (pv 9) pa_nil))) (pe_tup (pa_cons (pv 8) (pa_cons (pv 9) pa_nil))) ⟨by rfl, by rfl, by rfl, by rfl⟩))
      (pss_cons (ps_set (i := 11) sc__law_is_image.nd rfl (Or.inl rfl) (pe_dget2 (by exact hu) (pv 5) (pe_tup (pa_cons (pe_ix ix_tup (pv 2) (pv 8) (fun _ _ => rfl)) (pa_cons (pe_ix ix_tup (pv 2) (pv 9) (fun _ _ => rfl)) pa_nil))) (pe_tup (pa_cons (pe_ix ix_tup (pv 2) (pv 8) (fun _ _ => rfl)) (pa_cons (pe_ix ix_tup (pv 2) (pv 9) (fun _ _ => rfl)) pa_nil))) ⟨by rfl, by rfl, by rfl, by rfl⟩))
      (pss_one (ps_if (pt_cmpR (Vf.op_neIs hr.units) (pe_tup (pa_cons (pe_ix ix_tup (pv 2) (pe_ix ix_tup (pv 10) pe_int (fun _ _ => rfl)) (fun _ _ => rfl)) (pa_cons (pe_ix ix_tup (pv 2) (pe_ix ix_tup (pv 10) pe_int (fun _ _ => rfl)) (fun _ _ => rfl)) pa_nil))) (pv 11) (nomark _)) (pss_one (ps_ret pe_bl)) pss_nil)))))))
      (pss_one (ps_ret pe_bl)))))))))))), ?_⟩
  obtain ⟨ls, li, ll, lr, lo, xi, xr, h0, hls, hli, ti, hll, hlr, tr, hlo⟩ := id P
  obtain ⟨ls', li', ll', lr', lo', xi', xr', g0, gls, gli, ui, gll, glr, ur, glo⟩ := id P'
  have n4 := vM.n400
  have ol := vN.len
  have ol' := vM.len
  refine ⟨_, rfl, m, _, rfl, .inr hm, _, rfl, p, _, 0, .ref ls, rfl, rfl, SqT.of h0, atI_nat (j := 0) rfl, ls, _, rfl, .inl (SqL.of hls), rfl, _, rfl, Vf.ite_b (fun c => ?_) fun _ => ?_⟩
  · rw [List.length_map, List.length_map] at c
    simp [il] at c
  have no : ∀ H', Same H H' → (Vf.IsMap D D' ims → False) → Q (.bl false) H' := fun H' s h => q false H' ⟨fun h => (by cases h), fun z => (h z).elim⟩ s
  refine ⟨_, rfl, m, rfl, ⟨_, hm⟩, for_tup (K := K) (a := m) (xs := ims.map V.int) (fun i σ H' => (∃ v3 : Option V, σ = [some (.ref p), some (.ref p'), some (.ref m), v3, none, none, none, none, none, none, none, none, none, none]) ∧ H = H' ∧ ∀ y ∈ ims.take i, 0 ≤ y ∧ y < (D'.st.length : Int)) ⟨⟨none, rfl⟩, rfl, fun y hy => by simp at hy⟩ (fun i σ H' _ ⟨_, e, _⟩ => by rw [← e]; exact hm) ?_ ?_⟩
  · rintro i x σ H' hx ⟨⟨v3, rfl⟩, rfl, good⟩
    obtain ⟨y, hy, rfl⟩ := Vf.map_get hx
    have ym := List.mem_of_getElem? hy
    refine ⟨_, rfl, _, _, rfl, rfl, _, rfl, Vf.ite_d (fun c => ?_) fun c => ⟨_, rfl, _, rfl, p', _, 0, .ref ls', rfl, rfl, SqT.of g0, atI_nat (j := 0) rfl, ls', _, rfl, .inl (SqL.of gls), _, _, rfl, rfl, _, rfl, Vf.ite_d (fun c2 => ?_) fun c2 => ?_⟩⟩
    · exact no _ (Same.refl _) fun h => by
        have := h.im y ym
        omega
    · exact no _ (Same.refl _) fun h => by
        have := h.im y ym
        rw [List.length_map] at c2
        omega
    · refine ⟨⟨_, rfl⟩, rfl, fun z hz => ?_⟩
      rw [Vf.take_snoc hy, List.mem_append, List.mem_singleton] at hz
      rcases hz with hz | rfl
      · exact good z hz
      · rw [List.length_map] at c2
        omega
  rintro σ H' ⟨⟨v3, rfl⟩, rfl, good⟩
  rw [List.length_map, List.take_length] at good
  refine ⟨_, rfl, p, D, rfl, P, vN, ru1, fun d kvs H1 nd s1 hd pd => ?_⟩
  refine ⟨_, rfl, p', D', rfl, P'.same s1, vM, ru2, fun d' kvs' H2 nd' s2 hd' pd' => ?_⟩
  have s02 := s1.trans s2
  have hm2 := Vf.Same.seqT s02 hm
  dsimp only [gName]
  have imb : ∀ i : Nat, i < ims.length → 0 ≤ ims.getD i 0 ∧ ims.getD i 0 < (D'.st.length : Int) := fun i hi => good _ (by rw [List.getD_eq_getElem?_getD, List.getElem?_eq_getElem hi]; exact List.getElem_mem _)
  have lm : (ims.map V.int).length = ims.length := List.length_map ..
  refine ⟨_, rfl, m, _, rfl, .inr hm2, _, rfl, by rw [lm]; omega, by rw [lm]; omega, for_range (lo := 0) (n := _) (fun i σ H' => (∃ v6 : Option V, σ = [some (.ref p), some (.ref p'), some (.ref m), v3, some (.ref d), some (.ref d'), v6, none, none, none, none, none, none, none]) ∧ H2 = H' ∧ ∀ k < i, D.ou.getD k 0 = D'.ou.getD (ims.getD k 0).toNat 0) ⟨⟨none, rfl⟩, rfl, fun k hk => absurd hk (Nat.not_lt_zero k)⟩ ?_ ?_⟩
  · rintro k σ H' hk ⟨⟨v6, rfl⟩, rfl, out⟩
    rw [lm] at hk
    have kb := imb k (by omega)
    have z0 : ((0 : Int) + ((k : Nat) : Int)).toNat = k := by omega
    refine ⟨_, rfl, p, _, 4, .ref lo, rfl, rfl, SqT.of (s02 _ _ h0), atI_nat (j := 4) rfl, _, rfl, lo, _, _, _, rfl, rfl, SqL.of (s02 _ _ hlo), Vf.int_at (by omega) (by omega), ?_⟩
    refine ⟨_, rfl, p', _, 4, .ref lo', rfl, rfl, SqT.of (s02 _ _ g0), atI_nat (j := 4) rfl, _, rfl, _, rfl, m, _, _, _, rfl, rfl, hm2, Vf.int_at (by omega) (by omega), lo', _, _, _, rfl, rfl, SqL.of (s02 _ _ glo), Vf.int_at (by rw [z0]; omega) (by rw [z0, ol']; omega), rfl, ?_⟩
    rw [z0]
    refine ⟨_, rfl, Vf.ite_b (fun c => ?_) fun c => ?_⟩
    · refine no _ s02 fun h => ?_
      rw [Bool.not_eq_true', decide_eq_false_iff_not] at c
      refine c (congrArg V.int ?_)
      have e := congrArg (fun l : List Int => l.getD k 0) h.ou
      rw [show D.ou.getD k 0 = _ from e]
      rw [List.getD_eq_getElem?_getD, List.getElem?_map, List.getD_eq_getElem?_getD (l := ims), List.getElem?_eq_getElem (by omega : k < ims.length)]
      rfl
    · rw [Bool.not_eq_false', decide_eq_true_eq] at c
      refine ⟨⟨_, rfl⟩, rfl, fun j hj => ?_⟩
      by_cases e : j = k
      · subst e
        exact V.int.inj c
      · exact out j (by omega)
  rintro σ H' ⟨⟨v6, rfl⟩, rfl, out⟩
  rw [lm] at out
  have ou : D.ou = ims.map fun i => D'.ou.getD i.toNat 0 := by
    refine List.ext_getElem (by rw [List.length_map]; omega) fun k h1 h2 => ?_
    have e := out k (by omega)
    rw [List.getD_eq_getElem?_getD (l := D.ou), List.getD_eq_getElem?_getD (l := ims), List.getElem?_eq_getElem h1, List.getElem?_eq_getElem (by omega : k < ims.length)] at e
    rw [List.getElem_map]
    exact e
  clear out
  have n8 := vN.n8
  have m8 := vM.n8
  refine ⟨_, rfl, p, _, 1, .ref li, rfl, rfl, SqT.of (s02 _ _ h0), atI_nat (j := 1) rfl, li, rfl, ⟨_, SqL.of (s02 _ _ hli)⟩, fun L nL => Vf.lc_val (walk_list (K := K) (a := li) (xs := xi)) (fun i => .str ((D.ins.map Prod.fst).getD i Str.empty)) nL (by rw [ti.1]; omega) (fun H' s => SqL.of (s _ _ (s02 _ _ hli))) ?_ ?_⟩
  · rintro i x Ha Hb hi sa ⟨rfl, hx⟩ Q' q'
    obtain ⟨pr, t, ep, rfl, ht⟩ := (ti.same (s02.trans sa)).get hx
    have e : (D.ins.map Prod.fst).getD i Str.empty = pr.1 := by rw [List.getD_eq_getElem?_getD, List.getElem?_map, ep]; rfl
    rw [e] at q'
    exact ⟨rfl, _, rfl, t, _, 0, _, rfl, rfl, SqT.of ht, atI_nat (j := 0) rfl, q' _ (Same.refl _)⟩
  intro H3 s3 h3
  rw [Vf.range_map (D.ins.map Prod.fst) V.str Str.empty _ (by rw [List.length_map, ti.1])] at h3
  have s03 := s02.trans s3
  refine ⟨_, rfl, p', _, 1, .ref li', rfl, rfl, SqT.of (s03 _ _ g0), atI_nat (j := 1) rfl, li', rfl, ⟨_, SqL.of (s03 _ _ gli)⟩, fun M nM => Vf.lc_val (walk_list (K := K) (a := li') (xs := xi')) (fun i => .str ((D'.ins.map Prod.fst).getD i Str.empty)) nM (by rw [ui.1]; omega) (fun H' s => SqL.of (s _ _ (s03 _ _ gli))) ?_ ?_⟩
  · rintro i x Ha Hb hi sa ⟨rfl, hx⟩ Q' q'
    obtain ⟨pr, t, ep, rfl, ht⟩ := (ui.same (s03.trans sa)).get hx
    have e : (D'.ins.map Prod.fst).getD i Str.empty = pr.1 := by rw [List.getD_eq_getElem?_getD, List.getElem?_map, ep]; rfl
    rw [e] at q'
    exact ⟨rfl, _, rfl, t, _, 0, _, rfl, rfl, SqT.of ht, atI_nat (j := 0) rfl, q' _ (Same.refl _)⟩
  intro H4 s4 h4
  rw [Vf.range_map (D'.ins.map Prod.fst) V.str Str.empty _ (by rw [List.length_map, ui.1])] at h4
  have s04 := s03.trans s4
  refine ⟨_, _, .lst (SqL.of (s4 _ _ h3)) (Vf.dpAll_strs _), .lst (SqL.of h4) (Vf.dpAll_strs _), Vf.datum_pl (α := List Str) _ (by decide), Vf.datum_pl (α := List Str) _ (by decide), ?_⟩
  have ee : PyData.eqv (.list ((D.ins.map Prod.fst).map PySem.W.Datum.toD)) (.list ((D'.ins.map Prod.fst).map PySem.W.Datum.toD)) = decide (D.ins.map Prod.fst = D'.ins.map Prod.fst) := PySem.W.Datum.eqv (α := List Str) _ _
  rw [if_pos rfl, ee]
  refine ⟨_, rfl, Vf.ite_b (fun c => ?_) fun c => ?_⟩
  · refine no _ s04 fun h => ?_
    rw [Bool.not_eq_true', decide_eq_false_iff_not] at c
    exact c h.nm
  rw [Bool.not_eq_false', decide_eq_true_eq] at c
  have nm := c
  clear c ee
  have il' : D.ins.length = D'.ins.length := by
    have e := congrArg List.length nm
    rw [List.length_map, List.length_map] at e
    exact e
  have hm4 := Vf.Same.seqT s04 hm
  have xl : xi.length = D.ins.length := ti.1
  have xl' : xi'.length = D'.ins.length := ui.1
  refine ⟨_, rfl, p, _, 1, .ref li, rfl, rfl, SqT.of (s04 _ _ h0), atI_nat (j := 1) rfl, li, _, rfl, .inl (SqL.of (s04 _ _ hli)), _, rfl, by omega, by omega, for_range (lo := 0) (n := _) (fun i σ H' => (∃ v6 : Option V, σ = [some (.ref p), some (.ref p'), some (.ref m), v3, some (.ref d), some (.ref d'), v6, none, none, none, none, none, none, none]) ∧ H4 = H' ∧ ∀ k < i, ∀ z, (Vf.insIm D D')[k]? = some z → Vf.imAt ims z.1 = z.2) ⟨⟨_, rfl⟩, rfl, fun k hk => absurd hk (Nat.not_lt_zero k)⟩ ?_ ?_⟩
  · rintro k σ H' hk ⟨⟨v6', rfl⟩, rfl, good⟩
    have kl : k < D.ins.length := by omega
    have e1 := List.getElem?_eq_getElem kl
    have e2 := List.getElem?_eq_getElem (show k < D'.ins.length by omega)
    obtain ⟨t, et, ht⟩ := (ti.same s04).2 k _ e1
    obtain ⟨u, eu, hu'⟩ := (ui.same s04).2 k _ e2
    have m1 := (vN.inm _ (List.mem_of_getElem? e1)).2
    have m2 := (vM.inm _ (List.mem_of_getElem? e2)).2
    have b1 := Vf.ix_bd m1
    have ez : (Vf.insIm D D')[k]? = some (Vf.ix D.st D.ins[k].2, Vf.ix D'.st D'.ins[k].2) := by
      unfold Vf.insIm
      rw [List.getElem?_map, Vf.zip_get e1 e2]
      rfl
    refine ⟨_, rfl, _, rfl, p, _, 0, .ref ls, rfl, rfl, SqT.of (s04 _ _ h0), atI_nat (j := 0) rfl, Vf.tyL (s04 _ _ hls), _, rfl, p, _, 1, .ref li, rfl, rfl, SqT.of (s04 _ _ h0), atI_nat (j := 1) rfl, _, rfl, li, _, _, _, rfl, rfl, SqL.of (s04 _ _ hli), Vf.at0 et, t, _, 1, _, rfl, rfl, SqT.of ht, atI_nat (j := 1) rfl, ?_⟩
    refine ⟨ls, _, .str D.ins[k].2, D.st.idxOf D.ins[k].2, .str D.ins[k].2, rfl, rfl, SqL.of (s04 _ _ hls), rfl, Vf.flat_str _, (Vf.idx_get m1).1, beq_self_eq_true _, (Vf.idx_get m1).2, ?_⟩
    refine ⟨m, _, Vf.ix D.st D.ins[k].2, _, rfl, rfl, hm4, Vf.int_at b1.1 (by omega), ?_⟩
    refine ⟨_, rfl, p', _, 0, .ref ls', rfl, rfl, SqT.of (s04 _ _ g0), atI_nat (j := 0) rfl, Vf.tyL (s04 _ _ gls), _, rfl, p', _, 1, .ref li', rfl, rfl, SqT.of (s04 _ _ g0), atI_nat (j := 1) rfl, _, rfl, li', _, _, _, rfl, rfl, SqL.of (s04 _ _ gli), Vf.at0 eu, u, _, 1, _, rfl, rfl, SqT.of hu', atI_nat (j := 1) rfl, ?_⟩
    refine ⟨ls', _, .str D'.ins[k].2, D'.st.idxOf D'.ins[k].2, .str D'.ins[k].2, rfl, rfl, SqL.of (s04 _ _ gls), rfl, Vf.flat_str _, (Vf.idx_get m2).1, beq_self_eq_true _, (Vf.idx_get m2).2, rfl, ?_⟩
    refine ⟨_, rfl, Vf.ite_b (fun c => ?_) fun c => ?_⟩
    · refine no _ s04 fun h => ?_
      rw [Bool.not_eq_true', decide_eq_false_iff_not] at c
      exact c (congrArg V.int (h.ins _ (List.mem_of_getElem? ez)))
    · rw [Bool.not_eq_false', decide_eq_true_eq] at c
      refine ⟨⟨_, rfl⟩, rfl, fun j hj z hz => ?_⟩
      by_cases e : j = k
      · subst e
        rw [ez] at hz
        obtain rfl := Option.some.inj hz
        exact V.int.inj c
      · exact good j (by omega) z hz
  rintro σ H' ⟨⟨v6', rfl⟩, rfl, gd⟩
  have ins : ∀ z ∈ Vf.insIm D D', Vf.imAt ims z.1 = z.2 := fun z hz => by
    obtain ⟨k, hk⟩ := List.mem_iff_getElem?.mp hz
    have kl := (List.getElem?_eq_some_iff.mp hk).1
    unfold Vf.insIm at kl
    rw [List.length_map, List.length_zip] at kl
    exact gd k (by omega) z hk
  clear gd
  have n10 := vN.n10
  have m10 := vM.n10
  refine ⟨_, rfl, p, _, 2, .ref ll, rfl, rfl, SqT.of (s04 _ _ h0), atI_nat (j := 2) rfl, ll, rfl, ⟨_, SqL.of (s04 _ _ hll)⟩, fun L2 nL2 => Vf.lc_val (walk_list (K := K) (a := ll) (xs := D.ld.map V.str)) (fun i => .int (Vf.imAt ims (Vf.ix D.st (D.ld.getD i Str.empty)))) nL2 (by rw [List.length_map]; omega) (fun H' s => SqL.of (s _ _ (s04 _ _ hll))) ?_ ?_⟩
  · rintro i x Ha Hb hi sa ⟨rfl, hx⟩ Q' q'
    obtain ⟨s, hs, rfl⟩ := Vf.map_get hx
    have e : D.ld.getD i Str.empty = s := by rw [List.getD_eq_getElem?_getD, hs]; rfl
    have mem := vN.ldm s (List.mem_of_getElem? hs)
    have bd := Vf.ix_bd mem
    rw [e] at q'
    have sb := s04.trans sa
    refine ⟨rfl, _, rfl, _, rfl, p, _, 0, .ref ls, rfl, rfl, SqT.of (sb _ _ h0), atI_nat (j := 0) rfl, Vf.tyL (sb _ _ hls), _, rfl, ls, _, .str s, D.st.idxOf s, .str s, rfl, rfl, SqL.of (sb _ _ hls), rfl, Vf.flat_str _, (Vf.idx_get mem).1, beq_self_eq_true _, (Vf.idx_get mem).2, ?_⟩
    exact ⟨m, _, Vf.ix D.st s, _, rfl, rfl, Vf.Same.seqT sb hm, Vf.int_at bd.1 (by omega), q' _ (Same.refl _)⟩
  intro H5 s5 h5
  have hL2 : H5 L2 = some (.lst ((D.ld.map fun s => Vf.imAt ims (Vf.ix D.st s)).map V.int)) := by
    rw [h5, List.map_map]
    exact congrArg (fun l => some (HO.lst l)) (Vf.range_map D.ld (fun s => V.int (Vf.imAt ims (Vf.ix D.st s))) Str.empty _ (List.length_map ..))
  refine ⟨L2, _, rfl, SqL.of hL2, fun S1 z1 p1 w1 nS1 => ?_⟩
  have t1 := Vf.Same.new (o := .lst (S1.map V.int)) (Same.refl H5) nS1
  have hz1 : (upd H5 z1 (.lst (S1.map V.int))) z1 = some (.lst (S1.map V.int)) := upd_same
  generalize upd H5 z1 (.lst (S1.map V.int)) = H6 at t1 hz1 ⊢
  have s06 := (s04.trans s5).trans t1
  dsimp only [gName]
  refine ⟨_, rfl, _, rfl, p', _, 2, .ref ll', rfl, rfl, SqT.of (s06 _ _ g0), atI_nat (j := 2) rfl, ll', rfl, ⟨_, SqL.of (s06 _ _ gll)⟩, fun M2 nM2 => Vf.lc_val (walk_list (K := K) (a := ll') (xs := D'.ld.map V.str)) (fun i => .int (Vf.ix D'.st (D'.ld.getD i Str.empty))) nM2 (by rw [List.length_map]; omega) (fun H' s => SqL.of (s _ _ (s06 _ _ gll))) ?_ ?_⟩
  · rintro i x Ha Hb hi sa ⟨rfl, hx⟩ Q' q'
    obtain ⟨s, hs, rfl⟩ := Vf.map_get hx
    have e : D'.ld.getD i Str.empty = s := by rw [List.getD_eq_getElem?_getD, hs]; rfl
    have mem := vM.ldm s (List.mem_of_getElem? hs)
    rw [e] at q'
    have sb := s06.trans sa
    exact ⟨rfl, _, rfl, p', _, 0, .ref ls', rfl, rfl, SqT.of (sb _ _ g0), atI_nat (j := 0) rfl, Vf.tyL (sb _ _ gls), _, rfl, ls', _, .str s, D'.st.idxOf s, .str s, rfl, rfl, SqL.of (sb _ _ gls), rfl, Vf.flat_str _, (Vf.idx_get mem).1, beq_self_eq_true _, (Vf.idx_get mem).2, q' _ (Same.refl _)⟩
  intro H7 s7 h7
  have hM2 : H7 M2 = some (.lst ((D'.ld.map (Vf.ix D'.st)).map V.int)) := by
    rw [h7, List.map_map]
    exact congrArg (fun l => some (HO.lst l)) (Vf.range_map D'.ld (fun s => V.int (Vf.ix D'.st s)) Str.empty _ (List.length_map ..))
  refine ⟨M2, _, rfl, SqL.of hM2, fun S2 z2 p2 w2 nS2 => ?_⟩
  have t2 := Vf.Same.new (o := .lst (S2.map V.int)) (Same.refl H7) nS2
  have hz2 : (upd H7 z2 (.lst (S2.map V.int))) z2 = some (.lst (S2.map V.int)) := upd_same
  generalize upd H7 z2 (.lst (S2.map V.int)) = H8 at t2 hz2 ⊢
  have s08 := (s06.trans s7).trans t2
  refine ⟨S1, S2, ⟨z1, z2, rfl, rfl, .inl ⟨SqL.of ((s7.trans t2) _ _ hz1), SqL.of hz2⟩⟩, _, rfl, Vf.ite_b (fun c => ?_) fun c => ?_⟩
  · refine no _ s08 fun h => ?_
    rw [Bool.not_eq_true', decide_eq_false_iff_not] at c
    exact c (((p1.trans h.ld).trans p2.symm).eq_of_pairwise (fun _ _ _ _ a b => Int.le_antisymm a b) w1 w2)
  rw [Bool.not_eq_false', decide_eq_true_eq] at c
  have ld : Vf.ldIm D D' ims := by
    subst c
    exact p1.symm.trans p2
  clear c
  have s28 : Same H2 H8 := ((((s3.trans s4).trans s5).trans t1).trans s7).trans t2
  have hd8 := (s2.trans s28) _ _ hd
  have pd8 := pd.same (s2.trans s28)
  have hd8' := s28 _ _ hd'
  have pd8' := pd'.same s28
  have hm8 := Vf.Same.seqT s08 hm
  clear hm2 hm4 hd pd hd' pd' h3 h4 hL2 hM2 h5 h7
  refine ⟨_, rfl, m, _, rfl, .inr hm8, _, rfl, by rw [lm]; omega, by rw [lm]; omega, for_range (lo := 0) (n := _) (fun i σ H' => (∃ v8 v9 v10 v11 : Option V, σ = [some (.ref p), some (.ref p'), some (.ref m), v3, some (.ref d), some (.ref d'), v6', some (.ref z1), v8, v9, v10, v11, none, none]) ∧ Same H8 H' ∧ ∀ a < i, ∀ b < ims.length, Vf.Car D D' ims ((a : Int), (b : Int))) ⟨⟨_, _, _, _, rfl⟩, Same.refl H8, fun k hk => absurd hk (Nat.not_lt_zero k)⟩ ?_ ?_⟩
  rotate_left
  · rintro σ H9 ⟨⟨v8, v9, v10, v11, rfl⟩, s9, car⟩
    rw [lm] at car
    refine q true H9 ⟨fun _ => ⟨good, ou, nm, ins, ld, fun z hz => ?_⟩, fun _ => rfl⟩ (s08.trans s9)
    obtain ⟨a0, a1, b0, b1⟩ := hz
    have := car z.1.toNat (by omega) z.2.toNat (by omega)
    rw [show ((z.1.toNat : Nat) : Int) = z.1 by omega, show ((z.2.toNat : Nat) : Int) = z.2 by omega] at this
    exact this
  rintro i σ H9 hi ⟨⟨v8, v9, v10, v11, rfl⟩, s9, car⟩
  rw [lm] at hi
  refine ⟨_, rfl, m, _, rfl, .inr (Vf.Same.seqT s9 hm8), _, rfl, by rw [lm]; omega, by rw [lm]; omega, for_range (lo := 0) (n := _) (fun j σ H' => (∃ v9 v10 v11 : Option V, σ = [some (.ref p), some (.ref p'), some (.ref m), v3, some (.ref d), some (.ref d'), v6', some (.ref z1), some (.int (0 + (i : Int))), v9, v10, v11, none, none]) ∧ Same H8 H' ∧ (∀ a < i, ∀ b < ims.length, Vf.Car D D' ims ((a : Int), (b : Int))) ∧ ∀ b < j, Vf.Car D D' ims ((i : Int), (b : Int))) ⟨⟨_, _, _, rfl⟩, s9, car, fun k hk => absurd hk (Nat.not_lt_zero k)⟩ ?_ ?_⟩
  rotate_left
  · rintro σ Ha ⟨⟨v9', v10', v11', rfl⟩, sa, car', row⟩
    rw [lm] at row
    refine ⟨⟨_, _, _, _, rfl⟩, sa, fun a ha b hb => ?_⟩
    by_cases e : a = i
    · subst e
      exact row b hb
    · exact car' a (by omega) b hb
  rintro j σ Ha hj ⟨⟨v9', v10', v11', rfl⟩, sa, _, row⟩
  rw [lm] at hj
  have z0 : ∀ k : Nat, 0 + (k : Int) = (k : Int) := fun k => Int.zero_add _
  have s0a := s08.trans sa
  refine ⟨_, rfl, d, rfl, .inr ⟨kvs, .inl (sa _ _ hd8)⟩, _, rfl, _, rfl, (by show 2 ≤ sizeLine; decide), fun u nu => ?_⟩
  rw [z0, z0]
  have iR : Vf.InR D.st.length ((i : Int), (j : Int)) := ⟨Int.natCast_nonneg _, by show (i : Int) < _; omega, Int.natCast_nonneg _, by show (j : Int) < _; omega⟩
  have s1u := Vf.Same.new (o := .tup [.int (i : Int), .int (j : Int)]) (Same.refl Ha) nu
  have hu1 : (upd Ha u (.tup [.int (i : Int), .int (j : Int)])) u = some (.tup (Vf.encP ((i : Int), (j : Int)))) := upd_same
  generalize upd Ha u (.tup [.int (i : Int), .int (j : Int)]) = Hu at s1u hu1 ⊢
  refine ⟨_, rfl, _, rfl, (by show 2 ≤ sizeLine; decide), fun w nw => ?_⟩
  have s1w := Vf.Same.new (o := .tup [.int (i : Int), .int (j : Int)]) s1u nw
  have hw1 : (upd Hu w (.tup [.int (i : Int), .int (j : Int)])) w = some (.tup (Vf.encP ((i : Int), (j : Int)))) := upd_same
  have hu2 : (upd Hu w (.tup [.int (i : Int), .int (j : Int)])) u = some (.tup (Vf.encP ((i : Int), (j : Int)))) := Vf.Same.new (Same.refl Hu) nw _ _ hu1
  generalize upd Hu w (.tup [.int (i : Int), .int (j : Int)]) = Hw at s1w hw1 hu2 ⊢
  refine ⟨_, DGet.t (k := Vf.keyP ((i : Int), (j : Int))) ((sa.trans s1w) _ _ hd8) hu2, ?_⟩
  obtain ⟨t2', et, ht2⟩ := (pd8.same (sa.trans s1w)).got hw1
  rw [et]
  dsimp only [gName]
  have mR := Vf.meetOf_in vN iR
  have bi := imb i (by omega)
  have bj := imb j (by omega)
  have saw := sa.trans s1w
  have hmw := Vf.Same.seqT saw hm8
  refine ⟨_, rfl, d', rfl, .inr ⟨kvs', .inl (saw _ _ hd8')⟩, _, rfl, _, rfl, m, _, _, _, rfl, rfl, hmw, Vf.int_at (by omega) (by omega), _, rfl, _, rfl, m, _, _, _, rfl, rfl, hmw, Vf.int_at (by omega) (by omega), (by show 2 ≤ sizeLine; decide), fun x nx => ?_⟩
  have eM : ([.int (ims.getD ((i : Nat) : Int).toNat 0), .int (ims.getD ((j : Nat) : Int).toNat 0)] : List V) = Vf.encP (Vf.imM ims ((i : Int), (j : Int))) := rfl
  rw [eM]
  have s1x := Vf.Same.new (o := .tup (Vf.encP (Vf.imM ims ((i : Int), (j : Int))))) (Same.refl Hw) nx
  have hx1 : (upd Hw x (.tup (Vf.encP (Vf.imM ims ((i : Int), (j : Int)))))) x = some (.tup (Vf.encP (Vf.imM ims ((i : Int), (j : Int))))) := upd_same
  generalize upd Hw x (.tup (Vf.encP (Vf.imM ims ((i : Int), (j : Int))))) = Hx at s1x hx1 ⊢
  have sax := saw.trans s1x
  have hmx := Vf.Same.seqT sax hm8
  refine ⟨_, rfl, _, rfl, m, _, _, _, rfl, rfl, hmx, Vf.int_at (by omega) (by omega), _, rfl, _, rfl, m, _, _, _, rfl, rfl, hmx, Vf.int_at (by omega) (by omega), (by show 2 ≤ sizeLine; decide), fun y ny => ?_⟩
  rw [eM]
  have s1y := Vf.Same.new (o := .tup (Vf.encP (Vf.imM ims ((i : Int), (j : Int))))) s1x ny
  have hy1 : (upd Hx y (.tup (Vf.encP (Vf.imM ims ((i : Int), (j : Int)))))) y = some (.tup (Vf.encP (Vf.imM ims ((i : Int), (j : Int))))) := upd_same
  have hx2 : (upd Hx y (.tup (Vf.encP (Vf.imM ims ((i : Int), (j : Int)))))) x = some (.tup (Vf.encP (Vf.imM ims ((i : Int), (j : Int))))) := Vf.Same.new (Same.refl Hx) ny _ _ hx1
  generalize upd Hx y (.tup (Vf.encP (Vf.imM ims ((i : Int), (j : Int))))) = Hy at s1y hy1 hx2 ⊢
  have say := saw.trans s1y
  refine ⟨_, DGet.t (k := Vf.keyP (Vf.imM ims ((i : Int), (j : Int)))) (say _ _ hd8') hx2, ?_⟩
  obtain ⟨t3, et3, ht3⟩ := (pd8'.same say).got hy1
  rw [et3]
  dsimp only [gName]
  have ht2y := s1y _ _ ht2
  have hmy := Vf.Same.seqT say hm8
  change Vf.InR D.st.length (Vf.fD D ((i : Int), (j : Int))) at mR
  obtain ⟨f0, f1, g0', g1⟩ := mR
  refine ⟨_, rfl, _, rfl, t2', _, 0, .int (Vf.fD D ((i : Int), (j : Int))).1, rfl, rfl, SqT.of ht2y, atI_nat (j := 0) rfl, m, _, _, _, rfl, rfl, hmy, Vf.int_at f0 (by omega), ?_⟩
  refine ⟨_, rfl, _, rfl, t2', _, 1, .int (Vf.fD D ((i : Int), (j : Int))).2, rfl, rfl, SqT.of ht2y, atI_nat (j := 1) rfl, m, _, _, _, rfl, rfl, hmy, Vf.int_at g0' (by omega), (by show 2 ≤ sizeLine; decide), fun o no' => ?_⟩
  have eO : ([.int (ims.getD (Vf.fD D ((i : Int), (j : Int))).1.toNat 0), .int (ims.getD (Vf.fD D ((i : Int), (j : Int))).2.toNat 0)] : List V) = Vf.encP (Vf.imM ims (Vf.fD D ((i : Int), (j : Int)))) := rfl
  rw [eO]
  have s1o := Vf.Same.new (o := .tup (Vf.encP (Vf.imM ims (Vf.fD D ((i : Int), (j : Int)))))) (Same.refl Hy) no'
  have ho1 : (upd Hy o (.tup (Vf.encP (Vf.imM ims (Vf.fD D ((i : Int), (j : Int))))))) o = some (.tup (Vf.encP (Vf.imM ims (Vf.fD D ((i : Int), (j : Int)))))) := upd_same
  generalize upd Hy o (.tup (Vf.encP (Vf.imM ims (Vf.fD D ((i : Int), (j : Int)))))) = Ho at s1o ho1 ⊢
  have ht3o := s1o _ _ ht3
  have sao := say.trans s1o
  refine ⟨_, rfl, [(Vf.imM ims (Vf.fD D ((i : Int), (j : Int)))).1, (Vf.imM ims (Vf.fD D ((i : Int), (j : Int)))).2], [(Vf.fD D' (Vf.imM ims ((i : Int), (j : Int)))).1, (Vf.fD D' (Vf.imM ims ((i : Int), (j : Int)))).2], ⟨o, t3, rfl, rfl, .inr ⟨SqT.of ho1, SqT.of ht3o⟩⟩, _, rfl, Vf.ite_b (fun c => ?_) fun c => ?_⟩
  · refine no _ (s08.trans sao) fun h => ?_
    rw [Bool.not_eq_true', decide_eq_false_iff_not] at c
    obtain ⟨c1, c2⟩ := h.car _ iR
    unfold Vf.okR at c1 c2
    refine c ?_
    have e1 : (Vf.imM ims (Vf.fD D ((i : Int), (j : Int)))).1 = (Vf.fD D' (Vf.imM ims ((i : Int), (j : Int)))).1 := Classical.byContradiction fun n => c1 ⟨by omega, n⟩
    have e2 : (Vf.imM ims (Vf.fD D ((i : Int), (j : Int)))).2 = (Vf.fD D' (Vf.imM ims ((i : Int), (j : Int)))).2 := Classical.byContradiction fun n => c2 ⟨by omega, n⟩
    rw [e1, e2]
  · rw [Bool.not_eq_false', decide_eq_true_eq] at c
    have e1 := (List.cons.inj c).1
    have e2 := (List.cons.inj (List.cons.inj c).2).1
    refine ⟨⟨_, _, _, rfl⟩, sao, by assumption, fun b hb => ?_⟩
    by_cases e : b = j
    · subst e
      exact ⟨fun n => n.2 e1, fun n => n.2 e2⟩
    · exact row b (by omega)
end

def sp__have_same_names (K : PySem.W.Frag) (A : Ad) : Sp := fun vs H Q _ => ∃ (b c : Addr) (ra rc : Vf.RA) (D D' : Vf.DD), vs = [.ref b, .ref c] ∧ Vf.BookAt A.c_Rulebook H b ra D ∧ Vf.BookAt A.c_Rulebook H c rc D' ∧ D.ins.length ≤ 8 ∧ D'.ins.length ≤ 8 ∧ ∀ H', Same H H' → Q (.bl (decide (D.ins.map Prod.fst = D'.ins.map Prod.fst))) H'
theorem len__have_same_names {K : PySem.W.Frag} {A : Ad} (vs : List V) (H : Hp) (Q : VK) (E : XK) (h : sp__have_same_names K A vs H Q E) : vs.length = ["first", "second"].length := by
  obtain ⟨a1, a2, a3, a4, a5, a6, rfl, _⟩ := h
  rfl

section
variable {P : Program} {w : World} {K : PySem.W.Frag} {mg : Str → Option Value} {base : Heap}
set_option maxHeartbeats 4000000 in
theorem ok__have_same_names {A : Ad} (T : Txt P K mg A) : FnOk P w K mg base CX0 1 A.f__have_same_names A.d__have_same_names ["first", "second"] (sp__have_same_names K A) := by
  refine T.F__have_same_names.ok sc__have_same_names len__have_same_names (fun cdv Ar outer s H vs Q E hr h => ?_)
  have hu := hu_of hr
  obtain ⟨b, c, ra, rc, D, D', rfl, B, C', n1, n2, q⟩ := h
  refine ⟨_, (pss_one (ps_ret (pe_cmpR (Vf.op_eqP hr.units) (pe_lc (own := [("name", 2), ("_", 3)]) (g := (gTup K 2 (gCons (gName 2) (gCons (gName 3) gNil)))) (tt := tYes) rfl sc__have_same_names.nd (pi_tup (pe_fld (pv 0) (by rfl))) (blkOk_by (N := ["first", "second", "name", "_"]) (sc := defScope s__have_same_names) (by decide +kernel)) (fun _ _ _ _ _ => (pg_tup (by rfl) (pgs_cons (pg_name (i := 2) sc__have_same_names.nd rfl (Or.inl rfl)) (pgs_cons (pg_name (i := 3) sc__have_same_names.nd rfl (Or.inl rfl)) pgs_nil)))) (fun _ _ _ _ _ => pts_nil) (fun _ _ _ _ _ => (pv 2))) (pe_lc (own := [("name", 2), ("_", 3)]) (g := (gTup K 2 (gCons (gName 2) (gCons (gName 3) gNil)))) (tt := tYes) rfl sc__have_same_names.nd (pi_tup (pe_fld (pv 1) (by rfl))) (blkOk_by (N := ["first", "second", "name", "_"]) (sc := defScope s__have_same_names) (by decide +kernel)) (fun _ _ _ _ _ => (pg_tup (by rfl) (pgs_cons (pg_name (i := 2) sc__have_same_names.nd rfl (Or.inl rfl)) (pgs_cons (pg_name (i := 3) sc__have_same_names.nd rfl (Or.inl rfl)) pgs_nil)))) (fun _ _ _ _ _ => pts_nil) (fun _ _ _ _ _ => (pv 2))) (nomark _)))), ?_⟩
  obtain ⟨dx, h0⟩ := B.ob
  obtain ⟨dy, g0⟩ := C'.ob
  obtain ⟨xi, hi, ti⟩ := B.ins
  obtain ⟨yi, gi, ui⟩ := C'.ins
  refine ⟨_, rfl, b, A.c_Rulebook, dx, _, _, rfl, h0, T.C_Rulebook, T.A_Rulebook_inputs, rfl, ?_⟩
  refine ⟨_, rfl, ⟨_, SqT.of hi⟩, fun L nL => Vf.lc_val (walk_tup (K := K) (a := ra.t2) (xs := xi)) (fun i => .str ((D.ins.map Prod.fst).getD i Str.empty)) nL (by rw [ti.1]; omega) (fun H' s => SqT.of (s _ _ hi)) ?_ ?_⟩
  · rintro i x Ha Hb hi sa ⟨rfl, hx⟩ Q' q'
    obtain ⟨pr, t, ep, rfl, ht⟩ := (ti.same sa).get hx
    have e : (D.ins.map Prod.fst).getD i Str.empty = pr.1 := by rw [List.getD_eq_getElem?_getD, List.getElem?_map, ep]; rfl
    rw [e] at q'
    exact ⟨t, _, rfl, SqT.of ht, rfl, _, _, rfl, _, _, rfl, rfl, rfl, _, rfl, q' _ (Same.refl _)⟩
  intro H1 s1 h1
  rw [Vf.range_map (D.ins.map Prod.fst) V.str Str.empty _ (by rw [List.length_map, ti.1])] at h1
  refine ⟨_, rfl, c, A.c_Rulebook, dy, _, _, rfl, s1 _ _ g0, T.C_Rulebook, T.A_Rulebook_inputs, rfl, ?_⟩
  refine ⟨_, rfl, ⟨_, SqT.of (s1 _ _ gi)⟩, fun M nM => Vf.lc_val (walk_tup (K := K) (a := rc.t2) (xs := yi)) (fun i => .str ((D'.ins.map Prod.fst).getD i Str.empty)) nM (by rw [ui.1]; omega) (fun H' s => SqT.of (s _ _ (s1 _ _ gi))) ?_ ?_⟩
  · rintro i x Ha Hb hi sa ⟨rfl, hx⟩ Q' q'
    obtain ⟨pr, t, ep, rfl, ht⟩ := (ui.same (s1.trans sa)).get hx
    have e : (D'.ins.map Prod.fst).getD i Str.empty = pr.1 := by rw [List.getD_eq_getElem?_getD, List.getElem?_map, ep]; rfl
    rw [e] at q'
    exact ⟨t, _, rfl, SqT.of ht, rfl, _, _, rfl, _, _, rfl, rfl, rfl, _, rfl, q' _ (Same.refl _)⟩
  intro H2 s2 h2
  rw [Vf.range_map (D'.ins.map Prod.fst) V.str Str.empty _ (by rw [List.length_map, ui.1])] at h2
  refine ⟨_, _, .lst (SqL.of (s2 _ _ h1)) (Vf.dpAll_strs _), .lst (SqL.of h2) (Vf.dpAll_strs _), Vf.datum_pl (α := List Str) _ (by decide), Vf.datum_pl (α := List Str) _ (by decide), ?_⟩
  have ee : PyData.eqv (.list ((D.ins.map Prod.fst).map PySem.W.Datum.toD)) (.list ((D'.ins.map Prod.fst).map PySem.W.Datum.toD)) = decide (D.ins.map Prod.fst = D'.ins.map Prod.fst) := PySem.W.Datum.eqv (α := List Str) _ _
  rw [if_neg Bool.false_ne_true, ee]
  exact q _ (s1.trans s2)
end

def sp_UnknownState___init__ (K : PySem.W.Frag) (A : Ad) : Sp := fun vs H Q _ => ∃ (a : Addr) (s : Str), vs = [.ref a, .str s] ∧ s.length ≤ 1000000 ∧ H a = some (exo a A.c_UnknownState none) ∧ ∀ dx, H dx = none → dx ≠ a → Q .non (upd (upd H dx (exd dx [("name", .str s)])) a (exo a A.c_UnknownState (some dx)))
theorem len_UnknownState___init__ {K : PySem.W.Frag} {A : Ad} (vs : List V) (H : Hp) (Q : VK) (E : XK) (h : sp_UnknownState___init__ K A vs H Q E) : vs.length = ["self", "name"].length := by
  obtain ⟨a, b, rfl, _⟩ := h
  rfl

section
variable {P : Program} {w : World} {K : PySem.W.Frag} {mg : Str → Option Value} {base : Heap}
set_option maxHeartbeats 4000000 in
theorem ok_UnknownState___init__ {A : Ad} (T : Txt P K mg A) : FnOk P w K mg base CX0 1 A.f_UnknownState___init__ A.d_UnknownState___init__ ["self", "name"] (sp_UnknownState___init__ K A) := by
  refine Vf.init_of (k := 0) T.D_UnknownState___init__ sc_UnknownState___init__ rfl rfl rfl rfl (by decide +kernel) T.N_super T.O_UnknownState T.S_UnknownState len_UnknownState___init__ fun Ar outer s H vs Q E hr h => ?_
  obtain ⟨a, s1, rfl, hs, ha, q⟩ := h
  refine ⟨a, _, _, ⟨⟨_, rfl⟩, rfl, rfl, rfl, rfl⟩, rfl, ha, (pa_cons (Vf.pe_join (.cons pe_str (.cons (pe_fmt (pv 1)) .nil))) pa_nil), (pss_one (ps_ost (pv 0) (pv 1))), ?_⟩
  refine ⟨_, rfl, (by walk_at "fit"), _, rfl, .inl ⟨_, rfl, Vf.fits hs (by decide), _, rfl, (by walk_at "fit"), ?_⟩⟩
  refine ⟨(by show 1 ≤ 1000; decide), ha, ?_⟩
  exact ⟨_, rfl, _, rfl, a, A.c_UnknownState, rfl, T.O_UnknownState, T.N_UnknownState_name, .inl ⟨ha, fun dx n ne => q dx n ne⟩⟩
end

def sp_Rulebook_number (K : PySem.W.Frag) (A : Ad) : Sp := fun vs H Q E => ∃ (b : Addr) (ra : Vf.RA) (D : Vf.DD) (name : Str), vs = [.ref b, .str name] ∧ Vf.BookAt A.c_Rulebook H b ra D ∧ name.length ≤ 1000000 ∧ (name ∈ D.st → Q (.int (Vf.ix D.st name)) H) ∧ (name ∉ D.st → ∀ (d : Addr) (H' : Hp), Same H H' → H' d = some (.xd [("name", .str name)]) → E (.ref A.c_UnknownState) (some d) H')
theorem len_Rulebook_number {K : PySem.W.Frag} {A : Ad} (vs : List V) (H : Hp) (Q : VK) (E : XK) (h : sp_Rulebook_number K A vs H Q E) : vs.length = ["self", "name"].length := by
  obtain ⟨a, b, c, d, rfl, _⟩ := h
  rfl

section
variable {P : Program} {w : World} {K : PySem.W.Frag} {mg : Str → Option Value} {base : Heap}
set_option maxHeartbeats 4000000 in
theorem ok_Rulebook_number {A : Ad} (T : Txt P K mg A) : FnOk P w K mg base (L2.CX P w) 3 A.f_Rulebook_number A.d_Rulebook_number ["self", "name"] (sp_Rulebook_number K A) := by
  have G_UnknownState___init__ := ok_UnknownState___init__ (P := P) (w := w) (base := base) T
  refine T.F_Rulebook_number.okX sc_Rulebook_number len_Rulebook_number (fun cdv Ar outer s H vs Q E hr h => ?_)
  have hu := hu_of hr
  obtain ⟨b, ra, D, name, rfl, B, hn, q1, q2⟩ := h
  obtain ⟨dx, h0⟩ := B.ob
  refine ⟨_, (pss_cons (ps_if (pt_cmp (pc_dnotin hu (pv 1) (pe_fld (pv 0) (by rfl)))) (pss_one (ps_raise rfl (takes_of rfl rfl rfl rfl) (pmk_oex T.O_UnknownState T.I_UnknownState T.Y_UnknownState G_UnknownState___init__ hr T.B_UnknownState___init__ .nil pass0 (by rfl) T.G_UnknownState (pa_cons (pv 1) pa_nil)))) pss_nil)
      (pss_one (ps_ret (pe_dget (by exact hu) (pe_fld (pv 0) (by rfl)) (pv 1) (fun _ _ => rfl))))), ?_⟩
  refine ⟨_, rfl, _, rfl, b, A.c_Rulebook, dx, _, _, rfl, h0, T.C_Rulebook, T.A_Rulebook__numbers, rfl, ra.dn, _, rfl, DGet.k (k := Sum.inr name) B.dn, ?_⟩
  rw [Vf.num_val]
  by_cases m : name ∈ D.st
  · rw [if_pos m]
    refine ⟨_, rfl, Vf.ite_b (fun c => absurd c (by simp)) fun _ => ?_⟩
    exact ⟨_, rfl, b, A.c_Rulebook, dx, _, _, rfl, h0, T.C_Rulebook, T.A_Rulebook__numbers, rfl, _, rfl, ra.dn, .int (Vf.ix D.st name), rfl, (by rw [← Vf.num_in m]; exact DGet.k (k := Sum.inr name) B.dn), q1 m⟩
  · rw [if_neg m]
    refine ⟨_, rfl, Vf.ite_b (fun _ => ?_) fun c => absurd c (by simp)⟩
    refine ⟨_, rfl, (by show 1 ≤ 1000; decide), fun a na => ?_⟩
    refine ⟨a, name, rfl, hn, upd_same, fun d nd ne => ⟨rfl, d, [("name", .str name)], upd_same, ?_, ?_, ?_⟩⟩
    · rw [upd_ne ne, upd_same]
    · rw [upd_ne ne] at nd
      exact nd
    · rw [upd_ne ne] at nd
      refine q2 m d _ (fun x o e => ?_) upd_same
      have xd : x ≠ d := Vf.neq_none e nd
      have xa : x ≠ a := Vf.neq_none e na
      rw [upd_ne xd, del_ne xa, upd_ne xa, upd_ne xd, upd_ne xa]
      exact e
end

def sp__input_images (K : PySem.W.Frag) (A : Ad) : Sp := fun vs H Q _ => ∃ (b c : Addr) (ra rc : Vf.RA) (D D' : Vf.DD), vs = [.ref b, .ref c] ∧ Vf.BookAt A.c_Rulebook H b ra D ∧ Vf.BookAt A.c_Rulebook H c rc D' ∧ Vf.ValidN D ∧ Vf.ValidN D' ∧ D.ins.length = D'.ins.length ∧ ∀ (l : Addr) (xs : List V) (H' : Hp), H l = none → Same H H' → H' l = some (.lst xs) → Vf.Tups Vf.encP H' xs (Vf.insIm D D') → Q (.ref l) H'
theorem len__input_images {K : PySem.W.Frag} {A : Ad} (vs : List V) (H : Hp) (Q : VK) (E : XK) (h : sp__input_images K A vs H Q E) : vs.length = ["first", "second"].length := by
  obtain ⟨a1, a2, a3, a4, a5, a6, rfl, _⟩ := h
  rfl

section
variable {P : Program} {w : World} {K : PySem.W.Frag} {mg : Str → Option Value} {base : Heap}
set_option maxHeartbeats 4000000 in
theorem ok__input_images {A : Ad} (T : Txt P K mg A) : FnOk P w K mg base CX0 4 A.f__input_images A.d__input_images ["first", "second"] (sp__input_images K A) := by
  have G_Rulebook_number := ok_Rulebook_number (P := P) (w := w) (base := base) T
  refine T.F__input_images.ok sc__input_images len__input_images (fun cdv Ar outer s H vs Q E hr h => ?_)
  have hu := hu_of hr
  obtain ⟨b, c, ra, rc, D, D', rfl, B, C', vN, vM, nn, q⟩ := h
  refine ⟨_, (pss_one (ps_ret (pe_lc (own := [("_", 2), ("state", 3), ("image", 4)]) (g := (gTup K 2 (gCons (gTup K 2 (gCons (gName 2) (gCons (gName 3) gNil))) (gCons (gTup K 2 (gCons (gName 2) (gCons (gName 4) gNil))) gNil)))) (tt := tYes) rfl sc__input_images.nd (RZ.pi_zipA (by rfl) T.N_zip (pa_cons (pe_fld (pv 0) (by rfl)) (pa_cons (pe_fld (pv 1) (by rfl)) pa_nil))) (blkOk_by (N := ["first", "second", "_", "state", "image"]) (sc := defScope s__input_images) (by decide +kernel)) (fun _ _ _ _ _ => (pg_tup (by rfl) (pgs_cons (pg_tup (by rfl) (pgs_cons (pg_name (i := 2) sc__input_images.nd rfl (Or.inl rfl)) (pgs_cons (pg_name (i := 3) sc__input_images.nd rfl (Or.inl rfl)) pgs_nil))) (pgs_cons (pg_tup (by rfl) (pgs_cons (pg_name (i := 2) sc__input_images.nd rfl (Or.inl rfl)) (pgs_cons (pg_name (i := 4) sc__input_images.nd rfl (Or.inl rfl)) pgs_nil))) pgs_nil)))) (fun _ _ _ _ _ => pts_nil) (fun _ _ _ _ _ => (pe_tup (pa_cons (pe_meth (pv 0) T.C_Rulebook T.M_Rulebook_number G_Rulebook_number hr T.B_Rulebook_number .nil passL (pa_cons (pv 3) pa_nil)) (pa_cons (pe_meth (pv 1) T.C_Rulebook T.M_Rulebook_number G_Rulebook_number hr T.B_Rulebook_number .nil passL (pa_cons (pv 4) pa_nil)) pa_nil))))))), ?_⟩
  obtain ⟨dx, h0⟩ := B.ob
  obtain ⟨dy, g0⟩ := C'.ob
  obtain ⟨xi, hi, ti⟩ := B.ins
  obtain ⟨yi, gi, ui⟩ := C'.ins
  refine ⟨_, rfl, b, A.c_Rulebook, dx, _, _, rfl, h0, T.C_Rulebook, T.A_Rulebook_inputs, rfl, _, rfl, c, A.c_Rulebook, dy, _, _, rfl, g0, T.C_Rulebook, T.A_Rulebook_inputs, rfl, ?_⟩
  have xl := ti.1
  have yl := ui.1
  have n8 := vN.n8
  have il : (Vf.insIm D D').length = D.ins.length := by
    unfold Vf.insIm
    rw [List.length_map, List.length_zip, ← nn]
    exact Nat.min_self _
  refine ⟨ra.t2, rc.t2, xi, yi, rfl, .inr ⟨SqT.of hi, SqT.of gi, fun L nL => ?_⟩⟩
  refine lc_it (Vf.walk_zipT (K := K) (a := ra.t2) (b := rc.t2) (xs := xi) (ys := yi) (n := D.ins.length) xl (by rw [yl, nn])) (fun i H' => ∃ acc, H' L = some (.lst acc) ∧ Same H H' ∧ Vf.Tups Vf.encP H' acc ((Vf.insIm D D').take i)) ⟨[], upd_same, Vf.Same.new (Same.refl H) nL, Vf.Tups.nil⟩ (fun i H' _ ⟨_, _, s, _⟩ => ⟨SqT.of (s _ _ hi), SqT.of (s _ _ gi)⟩) ?_ ?_
  rotate_left
  · rintro H1 ⟨acc, h1, s1, t1⟩
    rw [List.take_of_length_le (by rw [il]; exact Nat.le_refl _)] at t1
    exact q L acc H1 nL s1 h1 t1
  rintro i x Ha Hb hj ⟨acc, hL, s1, t1⟩ ⟨T', x1, y1, rfl, nT, rfl, e1, e2⟩
  obtain ⟨p1, u1, ep, rfl, hu1⟩ := (ti.same s1).get e1
  obtain ⟨p2, u2, eq, rfl, hu2⟩ := (ui.same s1).get e2
  have sT := Vf.Same.new (o := .tup [.ref u1, .ref u2]) (Same.refl Ha) nT
  have hT : (upd Ha T' (.tup [.ref u1, .ref u2])) T' = some (.tup [.ref u1, .ref u2]) := upd_same
  have hL2 := sT _ _ hL
  have t2 := t1.same sT
  have h1 := sT _ _ hu1
  have h2 := sT _ _ hu2
  have s2 := s1.trans sT
  generalize upd Ha T' (.tup [.ref u1, .ref u2]) = Hc at sT hT hL2 t2 h1 h2 s2 ⊢
  have m1 := (vN.inm p1 (List.mem_of_getElem? ep)).2
  have m2 := (vM.inm p2 (List.mem_of_getElem? eq)).2
  have ez : (Vf.insIm D D')[i]? = some (Vf.ix D.st p1.2, Vf.ix D'.st p2.2) := by
    unfold Vf.insIm
    rw [List.getElem?_map, Vf.zip_get ep eq]
    rfl
  refine ⟨T', _, rfl, SqT.of hT, rfl, _, _, rfl, u1, _, rfl, SqT.of h1, rfl, _, _, rfl, _, _, rfl, rfl, _, _, rfl, u2, _, rfl, SqT.of h2, rfl, _, _, rfl, _, _, rfl, rfl, rfl, rfl, Vf.tyes ?_⟩
  refine ⟨_, rfl, b, dx, _, rfl, s2 _ _ h0, rfl, _, rfl, b, ra, D, p1.2, rfl, B.same s2, Nat.le_trans (vN.nl m1) (by decide), fun _ => ?_, fun z => absurd m1 z⟩
  refine ⟨_, rfl, c, dy, _, rfl, s2 _ _ g0, rfl, _, rfl, c, rc, D', p2.2, rfl, C'.same s2, Nat.le_trans (vM.nl m2) (by decide), fun _ => ?_, fun z => absurd m2 z⟩
  refine ⟨(by show 2 ≤ sizeLine; decide), fun t nt => ?_⟩
  have s3 := Vf.Same.new (o := .tup [.int (Vf.ix D.st p1.2), .int (Vf.ix D'.st p2.2)]) (Same.refl Hc) nt
  have ht : (upd Hc t (.tup [.int (Vf.ix D.st p1.2), .int (Vf.ix D'.st p2.2)])) t = some (.tup (Vf.encP (Vf.ix D.st p1.2, Vf.ix D'.st p2.2))) := upd_same
  generalize upd Hc t (.tup [.int (Vf.ix D.st p1.2), .int (Vf.ix D'.st p2.2)]) = Hd at s3 ht ⊢
  have hL3 := s3 _ _ hL2
  have al : acc.length ≤ 8 := by
    rw [t1.1, List.length_take]
    omega
  refine ⟨acc, hL3, Nat.lt_of_le_of_lt al (by decide), acc ++ [.ref t], upd_same, Vf.Same.chg (s2.trans s3) nL, ?_⟩
  rw [Vf.take_snoc ez]
  have up : ∀ w ys, Hd w = some (.tup ys) → (upd Hd L (.lst (acc ++ [.ref t]))) w = some (.tup ys) := fun w ys h => by
    rw [upd_ne (fun e => by rw [e, hL3] at h; cases h)]
    exact h
  exact ((t2.same s3).mono up).snoc (up _ _ ht)
end

def sp__late_pairs (K : PySem.W.Frag) (A : Ad) : Sp := fun vs H Q _ => ∃ (b : Addr) (ra : Vf.RA) (D : Vf.DD), vs = [.ref b] ∧ Vf.BookAt A.c_Rulebook H b ra D ∧ Vf.ValidN D ∧ D.ru.length ≤ 400 ∧ ∀ (L : Addr) (H' : Hp), H L = none → Same H H' → Vf.LateAt H' L D.st.length (Vf.LateRow D) → Q (.ref L) H'
theorem len__late_pairs {K : PySem.W.Frag} {A : Ad} (vs : List V) (H : Hp) (Q : VK) (E : XK) (h : sp__late_pairs K A vs H Q E) : vs.length = ["protocol"].length := by
  obtain ⟨a1, a2, a3, rfl, _⟩ := h
  rfl

section
variable {P : Program} {w : World} {K : PySem.W.Frag} {mg : Str → Option Value} {base : Heap}
set_option maxHeartbeats 4000000 in
theorem ok__late_pairs {A : Ad} (T : Txt P K mg A) : FnOk P w K mg base CX0 4 A.f__late_pairs A.d__late_pairs ["protocol"] (sp__late_pairs K A) := by
  have G_Rulebook_number := ok_Rulebook_number (P := P) (w := w) (base := base) T
  refine T.F__late_pairs.ok sc__late_pairs len__late_pairs (fun cdv Ar outer s H vs Q E hr h => ?_)
  have hu := hu_of hr
  obtain ⟨b, ra, D, rfl, B, vN, r4, q⟩ := h
  refine ⟨_, (pss_cons (ps_setLc (i := 1) (own := [("_", 8)]) (g := (gName 8)) (tt := tYes) rfl sc__late_pairs.nd rfl rfl (sw_true rfl rfl rfl (by decide +kernel)) (pi_tup (pe_fld (pv 0) (by rfl))) (blkOk_by (N := ["protocol", "rows", "rule", "first", "second", "third", "fourth", "result", "_", "name"]) (sc := defScope s__late_pairs) (by decide +kernel)) (fun _ _ _ _ _ => (pg_name (i := 8) sc__late_pairs.nd rfl (Or.inl rfl))) (fun _ _ _ _ _ => pts_nil) (fun _ _ _ _ _ => (pe_lst pa_nil)))
      (pss_cons (ps_for PassesOwn.never rfl (pi_tup (pe_fld (pv 0) (by rfl))) (pg_name (i := 2) sc__late_pairs.nd rfl (Or.inl rfl))
        (pss_cons (ps_asg (pe_lc (own := [("name", 9)]) (g := (gName 9)) (tt := tYes) rfl sc__late_pairs.nd (pi_tup (pv 2)) (blkOk_by (N := ["protocol", "rows", "rule", "first", "second", "third", "fourth", "result", "_", "name"]) (sc := defScope s__late_pairs) (by decide +kernel)) (fun _ _ _ _ _ => (pg_name (i := 9) sc__late_pairs.nd rfl (Or.inl rfl))) (fun _ _ _ _ _ => pts_nil) (fun _ _ _ _ _ => (pe_meth (pv 0) T.C_Rulebook T.M_Rulebook_number G_Rulebook_number hr T.B_Rulebook_number .nil passL (pa_cons (pv 9) pa_nil)))) (pg_unl (by rfl) (pgs_cons (pg_name (i := 3) sc__late_pairs.nd rfl (Or.inl rfl)) (pgs_cons (pg_name (i := 4) sc__late_pairs.nd rfl (Or.inl rfl)) (pgs_cons (pg_name (i := 5) sc__late_pairs.nd rfl (Or.inl rfl)) (pgs_cons (pg_name (i := 6) sc__late_pairs.nd rfl (Or.inl rfl)) pgs_nil))))))
      (pss_one (ps_for PassesOwn.never rfl (pi_tup (pe_tup (pa_cons (pv 5) (pa_cons (pv 6) pa_nil)))) (pg_name (i := 7) sc__late_pairs.nd rfl (Or.inl rfl))
        (pss_one (ps_if (pt_cmpR op_gt (pv 7) (pe_callB (call_max2 rfl) (by rfl) T.N_max (by decide +kernel) (pa_cons (pv 3) (pa_cons (pv 4) pa_nil))) (nomark _)) (pss_one (ps_expr (pe_bm PySem.F.plainAttrs_list PySem.F.slot_list_append PySem.F.type_list_append mt_append (pe_ix ix_list (pv 1) (pv 7) (fun _ _ => rfl)) (pa_cons (pe_tup (pa_cons (pv 3) (pa_cons (pv 4) pa_nil))) pa_nil)))) pss_nil))))))
      (pss_one (ps_ret (pv 1))))), ?_⟩
  obtain ⟨dx, h0⟩ := B.ob
  obtain ⟨xr, hr', tr⟩ := B.ru
  have n4 := vN.n400
  have lst : (D.st.map V.str).length = D.st.length := List.length_map ..
  refine ⟨_, rfl, b, A.c_Rulebook, dx, _, _, rfl, h0, T.C_Rulebook, T.A_Rulebook_states, rfl, ?_⟩
  refine ⟨_, rfl, ⟨_, SqT.of B.st⟩, fun C nC => lc_it (walk_tup (K := K) (a := ra.t1) (xs := D.st.map V.str)) (fun i H' => ∃ us : List Addr, us.length = i ∧ Vf.RowsK H H' C us (fun _ => [])) ⟨[], rfl, ⟨Vf.Same.new (Same.refl H) nC, upd_same, by simp, fun u hu => by rw [List.mem_singleton.mp hu]; exact nC, fun r u h => by simp at h⟩⟩ (fun i H' _ ⟨_, _, h⟩ => SqT.of (h.s _ _ B.st)) ?_ ?_⟩
  · rintro i x Ha Hb hi ⟨us, ul, RK⟩ ⟨rfl, hx⟩
    rw [lst] at hi
    refine ⟨rfl, Vf.tyes ⟨(by show 0 ≤ sizeLine; decide), fun u nu => ?_⟩⟩
    have s1 := Vf.Same.new (o := .lst []) (Same.refl Hb) nu
    have R1 := RK.same s1
    have nuC : u ∉ C :: us := fun m => by
      rcases List.mem_cons.mp m with e | m
      · rw [e, RK.c] at nu
        cases nu
      · obtain ⟨j, hj⟩ := List.mem_iff_getElem?.mp m
        obtain ⟨xs, g, _⟩ := RK.ats j u hj
        rw [g] at nu
        cases nu
    have uC : u ≠ C := fun e => nuC (by rw [e]; exact List.mem_cons_self)
    refine ⟨us.map V.ref, R1.c, Nat.lt_of_le_of_lt (show (us.map V.ref).length ≤ 400 by rw [List.length_map]; omega) (by decide), us ++ [u], by rw [List.length_append, ul]; rfl, ?_⟩
    have C0 : H C = none := nC
    refine ⟨Vf.Same.chg R1.s C0, by rw [upd_same, List.map_append]; rfl, ?_, fun w hw => ?_, fun r w hw => ?_⟩
    · rw [← List.cons_append, List.nodup_append]
      exact ⟨RK.nd, by simp, fun a ha c hc e => nuC (by rw [← List.mem_singleton.mp hc, ← e]; exact ha)⟩
    · rw [← List.cons_append] at hw
      rcases List.mem_append.mp hw with hw | hw
      · exact RK.nw w hw
      · rw [List.mem_singleton.mp hw]
        exact RK.s.free nu
    · rcases Nat.lt_or_ge r us.length with c | c
      · rw [List.getElem?_append_left c] at hw
        obtain ⟨xs, g, tg⟩ := R1.ats r w hw
        have wC : w ≠ C := fun e => (List.nodup_cons.mp RK.nd).1 (by rw [← e]; exact List.mem_of_getElem? hw)
        refine ⟨xs, by rw [upd_ne wC]; exact g, ?_⟩
        have e := tg.1
        rw [List.length_nil] at e
        rw [List.length_eq_zero_iff.mp e]
        exact Vf.Tups.nil
      · rw [List.getElem?_append_right c] at hw
        have e := (List.getElem?_eq_some_iff.mp hw).1
        have e0 : r - us.length = 0 := by simpa using e
        rw [e0] at hw
        obtain rfl := Option.some.inj hw
        exact ⟨[], by rw [upd_ne uC]; exact upd_same, Vf.Tups.nil⟩
  rintro H1 ⟨us, ul, RK⟩
  rw [lst] at ul
  dsimp only [gName]
  have SIG : ∀ {P : Prop}, P → P := id
  refine ⟨_, rfl, b, A.c_Rulebook, dx, _, _, rfl, RK.s _ _ h0, T.C_Rulebook, T.A_Rulebook_rules, rfl, ?_⟩
  refine ⟨_, rfl, ⟨_, SqT.of (RK.s _ _ hr')⟩, for_tup (K := K) (a := ra.t4) (xs := xr) (fun i σ H' => (∃ v2 v3 v4 v5 v6 v7 : Option V, σ = [some (.ref b), some (.ref C), v2, v3, v4, v5, v6, v7, none, none]) ∧ ∃ f, Vf.RowsK H H' C us f ∧ Vf.LpAt D i f) ⟨⟨none, none, none, none, none, none, rfl⟩, fun _ => [], RK, ⟨fun r p h => (by cases h), fun j h => absurd h (Nat.not_lt_zero j), fun r => Nat.zero_le _⟩⟩ (fun i σ H' _ ⟨_, f, h, _⟩ => SqT.of (h.s _ _ hr')) ?_ ?_⟩
  rotate_left
  · rintro σ H2 ⟨⟨v2, v3, v4, v5, v6, v7, rfl⟩, f, RF, LP⟩
    rw [tr.1] at LP
    refine ⟨_, rfl, q C H2 (RK.nw C List.mem_cons_self) RF.s ⟨us, RF.c, ul, fun r u hu => ?_⟩⟩
    obtain ⟨xs, g1, g2⟩ := RF.ats r u hu
    exact ⟨xs, f r, g1, g2, LP.late vN r, by have := LP.len r; omega⟩
  rintro i x σ H2 hx ⟨⟨v2, v3, v4, v5, v6, v7, rfl⟩, f, RF, LP⟩
  obtain ⟨x, t, ex, rfl, ht⟩ := (tr.same RF.s).get hx
  obtain ⟨m1, m2, m3, m4⟩ := vN.rum x (List.mem_of_getElem? ex)
  have il : i < D.ru.length := (List.getElem?_eq_some_iff.mp ex).1
  refine ⟨_, rfl, t, rfl, ⟨_, SqT.of ht⟩, fun C2 nC2 => Vf.lc_val (walk_tup (K := K) (a := t) (xs := Vf.enc4 x)) (fun j => .int (Vf.ix D.st ((Vf.r4 x).getD j Str.empty))) nC2 (by show 4 ≤ 1000000; decide) (fun H' s => SqT.of (s _ _ ht)) ?_ ?_⟩
  · rintro j y Ha Hb hj sa ⟨rfl, hy⟩ Q' q'
    obtain ⟨s, hs, rfl⟩ := Vf.map_get (show ((Vf.r4 x).map V.str)[j]? = some y from hy)
    have e : (Vf.r4 x).getD j Str.empty = s := by rw [List.getD_eq_getElem?_getD, hs]; rfl
    have mem : s ∈ D.st := by
      have h4 : s ∈ [x.1, x.2.1, x.2.2.1, x.2.2.2] := List.mem_of_getElem? hs
      have h5 : s = x.1 ∨ s = x.2.1 ∨ s = x.2.2.1 ∨ s = x.2.2.2 := by simpa using h4
      rcases h5 with rfl | rfl | rfl | rfl <;> assumption
    rw [e] at q'
    have sb := RF.s.trans sa
    exact ⟨rfl, _, rfl, b, dx, _, rfl, sb _ _ h0, rfl, _, rfl, b, ra, D, s, rfl, B.same sb, Nat.le_trans (vN.nl mem) (by decide), fun _ => q' _ (Same.refl _), fun z => absurd mem z⟩
  intro H3 s3 hC2
  have hC3 : H3 C2 = some (.lst [.int (Vf.ix D.st x.1), .int (Vf.ix D.st x.2.1), .int (Vf.ix D.st x.2.2.1), .int (Vf.ix D.st x.2.2.2)]) := hC2
  have R3 := RF.same s3
  have b1 := Vf.ix_bd m1
  have b2 := Vf.ix_bd m2
  have b3 := Vf.ix_bd m3
  have b4 := Vf.ix_bd m4
  obtain ⟨i1, e1⟩ : ∃ i, Vf.ix D.st x.1 = i := ⟨_, rfl⟩
  obtain ⟨i2, e2⟩ : ∃ i, Vf.ix D.st x.2.1 = i := ⟨_, rfl⟩
  obtain ⟨i3, e3⟩ : ∃ i, Vf.ix D.st x.2.2.1 = i := ⟨_, rfl⟩
  obtain ⟨i4, e4⟩ : ∃ i, Vf.ix D.st x.2.2.2 = i := ⟨_, rfl⟩
  rw [e1, e2, e3, e4] at hC3
  rw [e1] at b1
  rw [e2] at b2
  rw [e3] at b3
  rw [e4] at b4
  refine ⟨C2, _, rfl, SqL.of hC3, rfl, _, _, rfl, _, _, rfl, _, _, rfl, _, _, rfl, rfl, ?_⟩
  refine ⟨_, rfl, _, rfl, (by show 2 ≤ sizeLine; decide), fun w nw => ?_⟩
  have s4 := Vf.Same.new (o := .tup [.int i3, .int i4]) (Same.refl H3) nw
  have hw := upd_same (H := H3) (a := w) (o := .tup [.int i3, .int i4])
  generalize upd H3 w (.tup [.int i3, .int i4]) = H4 at s4 hw ⊢
  have R4 := R3.same s4
  refine ⟨w, rfl, ⟨_, SqT.of hw⟩, for_tup (K := K) (a := w) (xs := [i3, i4].map V.int) (fun k σ H' => (∃ v7 : Option V, σ = [some (.ref b), some (.ref C), some (.ref t), some (.int i1), some (.int i2), some (.int i3), some (.int i4), v7, none, none]) ∧ Same H4 H4 ∧ H' w = some (.tup [.int i3, .int i4]) ∧ ∃ f, Vf.RowsK H H' C us f ∧ ((∀ r p, p ∈ f r → Vf.InR r p) ∧ ∀ j < i, ∀ x, D.ru[j]? = some x → ∀ r : Nat, (Vf.ix D.st x.2.2.1 = (r : Int) ∨ Vf.ix D.st x.2.2.2 = (r : Int)) → Vf.ix D.st x.1 < (r : Int) → Vf.ix D.st x.2.1 < (r : Int) → (Vf.ix D.st x.1, Vf.ix D.st x.2.1) ∈ f r) ∧ (∀ r : Nat, (f r).length ≤ 2 * i + k) ∧ ∀ y ∈ [i3, i4].take k, ∀ r : Nat, y = (r : Int) → i1 < (r : Int) → i2 < (r : Int) → (i1, i2) ∈ f r) ⟨⟨_, rfl⟩, Same.refl H4, hw, f, R4, ⟨LP.inr, LP.all⟩, LP.len, fun y h => by simp at h⟩ (fun i σ H' _ ⟨_, _, h, _⟩ => SqT.of h) ?_ ?_⟩
  rotate_left
  · rintro σ H5 ⟨⟨v7', rfl⟩, _, hw5, g, RG, LG, lg, ag⟩
    refine ⟨⟨_, _, _, _, _, _, rfl⟩, g, RG, ⟨LG.1, fun j hj z hz r h1 h2 h3 => ?_, fun r => by have := lg r; show (g r).length ≤ 2 * (i + 1); simp at this; omega⟩⟩
    by_cases e : j = i
    · subst e
      rw [ex] at hz
      obtain rfl := Option.some.inj hz
      rw [e1] at h2
      rw [e2] at h3
      rw [e1, e2]
      rw [e3, e4] at h1
      rcases h1 with h1 | h1
      · exact ag i3 (by simp) r h1 h2 h3
      · exact ag i4 (by simp) r h1 h2 h3
    · exact LG.2 j (by omega) z hz r h1 h2 h3
  rintro k y σ H5 hy ⟨⟨v7', rfl⟩, _, hw5, g, RG, LG, lg, ag⟩
  obtain ⟨z, hz, rfl⟩ := Vf.map_get hy
  have zb : 0 ≤ z ∧ z < (D.st.length : Int) := by
    have hm := List.mem_of_getElem? hz
    have hm : z = i3 ∨ z = i4 := by simpa using hm
    rcases hm with rfl | rfl
    · exact b3
    · exact b4
  refine ⟨_, rfl, _, rfl, _, rfl, _, _, rfl, ?_⟩
  have mx : (if i2 > i1 then i2 else i1) < z ↔ i1 < z ∧ i2 < z := by
    by_cases h : i2 > i1
    · rw [if_pos h]
      omega
    · rw [if_neg h]
      omega
  refine ⟨_, _, rfl, rfl, _, rfl, Vf.ite_d (fun c => ?_) fun c => ?_⟩
  rotate_left
  · rw [mx] at c
    refine ⟨⟨_, rfl⟩, Same.refl _, hw5, g, RG, LG, fun r => by have := lg r; omega, fun y hy r hr h1 h2 => ?_⟩
    rw [Vf.take_snoc hz, List.mem_append, List.mem_singleton] at hy
    rcases hy with hy | rfl
    · exact ag y hy r hr h1 h2
    · exact absurd ⟨by omega, by omega⟩ c
  rw [mx] at c
  obtain ⟨r, rfl⟩ : ∃ r : Nat, z = (r : Int) := ⟨z.toNat, by omega⟩
  have rl : r < us.length := by omega
  obtain ⟨u, hu⟩ : ∃ u, us[r]? = some u := ⟨_, List.getElem?_eq_getElem rl⟩
  obtain ⟨ys, hys, tys⟩ := RG.ats r u hu
  refine ⟨_, rfl, _, rfl, C, _, _, .ref u, rfl, rfl, SqL.of RG.c, atI_nat (by rw [List.getElem?_map, hu]; rfl), Vf.tyL hys, _, rfl, _, rfl, (by show 2 ≤ sizeLine; decide), fun v nv => ?_⟩
  have s5 := Vf.Same.new (o := .tup [.int i1, .int i2]) (Same.refl H5) nv
  have hv := upd_same (H := H5) (a := v) (o := .tup [.int i1, .int i2])
  generalize upd H5 v (.tup [.int i1, .int i2]) = H6 at s5 hv ⊢
  have R6 := RG.same s5
  have hys6 := s5 _ _ hys
  have lgr := lg r
  have wu : w ≠ u := fun e => by rw [e, hys] at hw5; cases hw5
  refine ⟨u, ys, _, rfl, rfl, hys6, Nat.lt_of_le_of_lt (show ys.length ≤ 10000 by rw [tys.1]; have hk := (List.getElem?_eq_some_iff.mp hz).1; simp at hk; omega) (by decide), ?_⟩
  refine ⟨⟨_, rfl⟩, Same.refl _, by rw [upd_ne wu]; exact s5 _ _ hw5, _, R6.add hu hys6 (tys.same s5) (p := (i1, i2)) hv, ⟨fun r' p hp => ?_, fun j hj x' hx' r' h1 h2 h3 => ?_⟩, fun r' => ?_, fun y hy r' hr h1 h2 => ?_⟩
  · by_cases e : r' = r
    · subst e
      rw [if_pos rfl] at hp
      rcases List.mem_append.mp hp with hp | hp
      · exact LG.1 r' p hp
      · rw [List.mem_singleton.mp hp]
        exact ⟨b1.1, c.1, b2.1, c.2⟩
    · rw [if_neg e] at hp
      exact LG.1 r' p hp
  · have m := LG.2 j hj x' hx' r' h1 h2 h3
    by_cases e : r' = r
    · subst e
      rw [if_pos rfl]
      exact List.mem_append.mpr (.inl m)
    · rw [if_neg e]
      exact m
  · by_cases e : r' = r
    · subst e
      rw [if_pos rfl, List.length_append]
      show _ + 1 ≤ _
      omega
    · rw [if_neg e]
      have := lg r'
      omega
  · rw [Vf.take_snoc hz, List.mem_append, List.mem_singleton] at hy
    by_cases e : r' = r
    · subst e
      rw [if_pos rfl]
      rcases hy with hy | rfl
      · exact List.mem_append.mpr (.inl (ag y hy r' hr h1 h2))
      · exact List.mem_append.mpr (.inr (List.mem_singleton.mpr rfl))
    · rw [if_neg e]
      rcases hy with hy | rfl
      · exact ag y hy r' hr h1 h2
      · omega
end

def sp_Trial___init__ (K : PySem.W.Frag) (A : Ad) : Sp := fun vs H Q _ => ∃ (t b c dx : Addr) (ra rc : Vf.RA) (tw : Bool) (D D' : Vf.DD) (Hb : Hp), vs = [.ref t, .ref b, .ref c, .bl tw] ∧ Same Hb H ∧ Hb t = none ∧ H t = some (.ins A.c_Trial dx []) ∧ Vf.BookAt A.c_Rulebook Hb b ra D ∧ Vf.BookAt A.c_Rulebook Hb c rc D' ∧ Vf.ValidN D ∧ Vf.ValidN D' ∧ D.ins.length = D'.ins.length ∧ D.ru.length ≤ 400 ∧
  ∀ (lF lL li : Addr) (H0 H' : Hp), Vf.TrialAt A.c_Trial A.c_Rulebook H0 t b c lF lL li ra rc tw D D' → Same Hb H0 → Same H0 H' → H0 li = none → H' li = some (.lst []) → Q .non H'
theorem len_Trial___init__ {K : PySem.W.Frag} {A : Ad} (vs : List V) (H : Hp) (Q : VK) (E : XK) (h : sp_Trial___init__ K A vs H Q E) : vs.length = ["self", "first", "second", "twins"].length := by
  obtain ⟨a1, a2, a3, a4, a5, a6, a7, a8, a9, a10, rfl, _⟩ := h
  rfl

section
variable {P : Program} {w : World} {K : PySem.W.Frag} {mg : Str → Option Value} {base : Heap}
set_option maxHeartbeats 4000000 in
theorem ok_Trial___init__ {A : Ad} (T : Txt P K mg A) : FnOk P w K mg base CX0 5 A.f_Trial___init__ A.d_Trial___init__ ["self", "first", "second", "twins"] (sp_Trial___init__ K A) := by
  have G__input_images := ok__input_images (P := P) (w := w) (base := base) T
  have G__late_pairs := ok__late_pairs (P := P) (w := w) (base := base) T
  refine T.F_Trial___init__.ok sc_Trial___init__ len_Trial___init__ (fun cdv Ar outer s H vs Q E hr h => ?_)
  have hu := hu_of hr
  obtain ⟨t, b, c, dx, ra, rc, tw, D, D', Hb, rfl, sB, nt, ht, B, B', vN, vM, nn, ru4, q⟩ := h
  refine ⟨_, (pss_cons (ps_fld (pv 0) (pv 1) rfl)
      (pss_cons (ps_fld (pv 0) (pv 2) rfl)
      (pss_cons (ps_fld (pv 0) (pv 3) rfl)
      (pss_cons (ps_fld (pv 0) (pe_call G__input_images hr (by rfl) T.G__input_images T.F__input_images.kp T.B__input_images .nil pass0 (pa_cons (pv 1) (pa_cons (pv 2) pa_nil))) rfl)
      (pss_cons (ps_fld (pv 0) (pe_call G__late_pairs hr (by rfl) T.G__late_pairs T.F__late_pairs.kp T.B__late_pairs .nil pass0 (pa_cons (pv 1) pa_nil)) rfl)
      (pss_one (ps_fld (pv 0) (pe_lst pa_nil) rfl))))))), ?_⟩
  refine ⟨_, rfl, _, rfl, t, A.c_Trial, dx, [], rfl, ht, T.C_Trial, T.A_Trial__first, (by show 0 < 1000; decide), ?_⟩
  have s1 : Same Hb (upd H t (.ins A.c_Trial dx (putF "_first" (.ref b) []))) := Vf.Same.chg sB nt
  have h1 := upd_same (H := H) (a := t) (o := .ins A.c_Trial dx (putF "_first" (.ref b) []))
  generalize upd H t (.ins A.c_Trial dx (putF "_first" (.ref b) [])) = H1 at s1 h1 ⊢
  refine ⟨_, rfl, _, rfl, t, A.c_Trial, dx, _, rfl, h1, T.C_Trial, T.A_Trial__second, (by show 1 < 1000; decide), ?_⟩
  have s2 : Same Hb (upd H1 t (.ins A.c_Trial dx (putF "_second" (.ref c) (putF "_first" (.ref b) [])))) := Vf.Same.chg s1 nt
  have h2 := upd_same (H := H1) (a := t) (o := .ins A.c_Trial dx (putF "_second" (.ref c) (putF "_first" (.ref b) [])))
  generalize upd H1 t (.ins A.c_Trial dx (putF "_second" (.ref c) (putF "_first" (.ref b) []))) = H2 at s2 h2 ⊢
  refine ⟨_, rfl, _, rfl, t, A.c_Trial, dx, _, rfl, h2, T.C_Trial, T.A_Trial__twins, (by show 2 < 1000; decide), ?_⟩
  have s3 : Same Hb (upd H2 t (.ins A.c_Trial dx (putF "_twins" (.bl tw) (putF "_second" (.ref c) (putF "_first" (.ref b) []))))) := Vf.Same.chg s2 nt
  have h3 := upd_same (H := H2) (a := t) (o := .ins A.c_Trial dx (putF "_twins" (.bl tw) (putF "_second" (.ref c) (putF "_first" (.ref b) []))))
  generalize upd H2 t (.ins A.c_Trial dx (putF "_twins" (.bl tw) (putF "_second" (.ref c) (putF "_first" (.ref b) [])))) = H3 at s3 h3 ⊢
  refine ⟨_, rfl, _, rfl, b, c, ra, rc, D, D', rfl, B.same s3, B'.same s3, vN, vM, nn, fun lF xF H4 nlF s4 hF tF => ?_⟩
  refine ⟨_, rfl, t, A.c_Trial, dx, _, rfl, s4 _ _ h3, T.C_Trial, T.A_Trial__fixed, (by show 3 < 1000; decide), ?_⟩
  have tlF : lF ≠ t := fun e => by rw [e, h3] at nlF; cases nlF
  have h4 := s4 _ _ h3
  have s5 : Same Hb (upd H4 t (.ins A.c_Trial dx (putF "_fixed" (.ref lF) (putF "_twins" (.bl tw) (putF "_second" (.ref c) (putF "_first" (.ref b) [])))))) := Vf.Same.chg (s3.trans s4) nt
  have h5 := upd_same (H := H4) (a := t) (o := .ins A.c_Trial dx (putF "_fixed" (.ref lF) (putF "_twins" (.bl tw) (putF "_second" (.ref c) (putF "_first" (.ref b) [])))))
  have hF5 : (upd H4 t (.ins A.c_Trial dx (putF "_fixed" (.ref lF) (putF "_twins" (.bl tw) (putF "_second" (.ref c) (putF "_first" (.ref b) [])))))) lF = some (.lst xF) := by rw [upd_ne tlF]; exact hF
  have tF5 := Vf.tups_ins (o := .ins A.c_Trial dx (putF "_fixed" (.ref lF) (putF "_twins" (.bl tw) (putF "_second" (.ref c) (putF "_first" (.ref b) []))))) tF h4
  generalize upd H4 t (.ins A.c_Trial dx (putF "_fixed" (.ref lF) (putF "_twins" (.bl tw) (putF "_second" (.ref c) (putF "_first" (.ref b) []))))) = H5 at s5 h5 hF5 tF5 ⊢
  refine ⟨_, rfl, b, ra, D, rfl, B.same s5, vN, ru4, fun lL H6 nlL s6 LA => ?_⟩
  refine ⟨_, rfl, t, A.c_Trial, dx, _, rfl, s6 _ _ h5, T.C_Trial, T.A_Trial__late, (by show 4 < 1000; decide), ?_⟩
  have h6 := s6 _ _ h5
  have s7 : Same Hb (upd H6 t (.ins A.c_Trial dx (putF "_late" (.ref lL) (putF "_fixed" (.ref lF) (putF "_twins" (.bl tw) (putF "_second" (.ref c) (putF "_first" (.ref b) []))))))) := Vf.Same.chg (s5.trans s6) nt
  have h7 := upd_same (H := H6) (a := t) (o := .ins A.c_Trial dx (putF "_late" (.ref lL) (putF "_fixed" (.ref lF) (putF "_twins" (.bl tw) (putF "_second" (.ref c) (putF "_first" (.ref b) []))))))
  have hF7 : (upd H6 t (.ins A.c_Trial dx (putF "_late" (.ref lL) (putF "_fixed" (.ref lF) (putF "_twins" (.bl tw) (putF "_second" (.ref c) (putF "_first" (.ref b) []))))))) lF = some (.lst xF) := by rw [upd_ne tlF]; exact s6 _ _ hF5
  have tF7 := Vf.tups_ins (o := .ins A.c_Trial dx (putF "_late" (.ref lL) (putF "_fixed" (.ref lF) (putF "_twins" (.bl tw) (putF "_second" (.ref c) (putF "_first" (.ref b) [])))))) (tF5.same s6) h6
  have LA7 := LA.ins (o := .ins A.c_Trial dx (putF "_late" (.ref lL) (putF "_fixed" (.ref lF) (putF "_twins" (.bl tw) (putF "_second" (.ref c) (putF "_first" (.ref b) [])))))) h6
  generalize upd H6 t (.ins A.c_Trial dx (putF "_late" (.ref lL) (putF "_fixed" (.ref lF) (putF "_twins" (.bl tw) (putF "_second" (.ref c) (putF "_first" (.ref b) [])))))) = H7 at s7 h7 hF7 tF7 LA7 ⊢
  refine ⟨(by show 0 ≤ sizeLine; decide), fun li nli => ?_⟩
  have tli : li ≠ t := fun e => by rw [e, h7] at nli; cases nli
  refine ⟨_, rfl, t, A.c_Trial, dx, _, rfl, (by rw [upd_ne (Ne.symm tli)]; exact h7), T.C_Trial, T.A_Trial_images, (by show 5 < 1000; decide), ?_⟩
  refine q lF lL li (upd H7 t (.ins A.c_Trial dx (putF "images" (.ref li) (putF "_late" (.ref lL) (putF "_fixed" (.ref lF) (putF "_twins" (.bl tw) (putF "_second" (.ref c) (putF "_first" (.ref b) [])))))))) _ ⟨⟨dx, upd_same⟩, B.same (Vf.Same.chg s7 nt), B'.same (Vf.Same.chg s7 nt), ⟨xF, by rw [upd_ne tlF]; exact hF7, Vf.tups_ins tF7 h7⟩, LA7.ins h7⟩ (Vf.Same.chg s7 nt) (fun x o hx => ?_) (by rw [upd_ne tli]; exact nli) (by rw [upd_ne tli]; exact upd_same)
  by_cases e : x = t
  · subst e
    rw [upd_same] at hx ⊢
    exact hx
  · rw [upd_ne e] at hx ⊢
    rw [upd_ne (fun e' => by rw [e', nli] at hx; cases hx)]
    exact hx
end

def sp_Rulebook___len__ (K : PySem.W.Frag) (A : Ad) : Sp := fun vs H Q _ => ∃ (b : Addr) (ra : Vf.RA) (D : Vf.DD), vs = [.ref b] ∧ Vf.BookAt A.c_Rulebook H b ra D ∧ Q (.int D.st.length) H
theorem len_Rulebook___len__ {K : PySem.W.Frag} {A : Ad} (vs : List V) (H : Hp) (Q : VK) (E : XK) (h : sp_Rulebook___len__ K A vs H Q E) : vs.length = ["self"].length := by
  obtain ⟨a, b, c, rfl, _⟩ := h
  rfl

section
variable {P : Program} {w : World} {K : PySem.W.Frag} {mg : Str → Option Value} {base : Heap}
set_option maxHeartbeats 4000000 in
theorem ok_Rulebook___len__ {A : Ad} (T : Txt P K mg A) : FnOk P w K mg base CX0 1 A.f_Rulebook___len__ A.d_Rulebook___len__ ["self"] (sp_Rulebook___len__ K A) := by
  refine T.F_Rulebook___len__.ok sc_Rulebook___len__ len_Rulebook___len__ (fun cdv Ar outer s H vs Q E hr h => ?_)
  have hu := hu_of hr
  obtain ⟨b, ra, D, rfl, B, q⟩ := h
  obtain ⟨dx, h0⟩ := B.ob
  refine ⟨_, (pss_one (ps_ret (pe_callB call_len_seq (by rfl) T.N_len PySem.boot_len (pa_cons (pe_fld (pv 0) (by rfl)) pa_nil)))), ?_⟩
  refine ⟨_, rfl, b, A.c_Rulebook, dx, _, _, rfl, h0, T.C_Rulebook, T.A_Rulebook_states, rfl, ra.t1, _, rfl, .inr (SqT.of B.st), ?_⟩
  rw [List.length_map]
  exact q
end

def sp_Trial_is_full (K : PySem.W.Frag) (A : Ad) : Sp := fun vs H Q _ => ∃ (t b c lF lL li : Addr) (ra rc : Vf.RA) (tw : Bool) (D D' : Vf.DD) (ims : List Int), vs = [.ref t] ∧ Vf.TrialAt A.c_Trial A.c_Rulebook H t b c lF lL li ra rc tw D D' ∧ H li = some (.lst (ims.map V.int)) ∧ D.st.length ≤ 400 ∧ ∀ r : Bool, (r = true ↔ ims.length = D.st.length) → Q (.bl r) H
theorem len_Trial_is_full {K : PySem.W.Frag} {A : Ad} (vs : List V) (H : Hp) (Q : VK) (E : XK) (h : sp_Trial_is_full K A vs H Q E) : vs.length = ["self"].length := by
  obtain ⟨a1, a2, a3, a4, a5, a6, a7, a8, a9, a10, a11, a12, rfl, _⟩ := h
  rfl

section
variable {P : Program} {w : World} {K : PySem.W.Frag} {mg : Str → Option Value} {base : Heap}
set_option maxHeartbeats 4000000 in
theorem ok_Trial_is_full {A : Ad} (T : Txt P K mg A) : FnOk P w K mg base CX0 3 A.f_Trial_is_full A.d_Trial_is_full ["self"] (sp_Trial_is_full K A) := by
  have G_Rulebook___len__ := ok_Rulebook___len__ (P := P) (w := w) (base := base) T
  refine T.F_Trial_is_full.ok sc_Trial_is_full len_Trial_is_full (fun cdv Ar outer s H vs Q E hr h => ?_)
  have hu := hu_of hr
  obtain ⟨t, b, c, lF, lL, li, ra, rc, tw, D, D', ims, rfl, TA, hl, n4, q⟩ := h
  refine ⟨_, (pss_one (ps_ret (pe_cmpR op_eq (pe_callB call_len_seq (by rfl) T.N_len PySem.boot_len (pa_cons (pe_fld (pv 0) (by rfl)) pa_nil)) (pe_callB (Vf.call_lenOwn G_Rulebook___len__ hr T.M_Rulebook___len__.1 T.M_Rulebook___len__.2 T.B_Rulebook___len__ pass0) (by rfl) T.N_len PySem.boot_len (pa_cons (pe_fld (pv 0) (by rfl)) pa_nil)) (nomark _)))), ?_⟩
  obtain ⟨dx, h0⟩ := TA.ob
  obtain ⟨dy, g0⟩ := TA.bk.ob
  refine ⟨_, rfl, t, A.c_Trial, dx, _, _, rfl, h0, T.C_Trial, T.A_Trial_images, rfl, li, _, rfl, .inl (SqL.of hl), _, rfl, t, A.c_Trial, dx, _, _, rfl, h0, T.C_Trial, T.A_Trial__first, rfl, b, dy, _, rfl, g0, b, ra, D, rfl, TA.bk, _, rfl, Int.natCast_nonneg _, by omega, rfl, ?_⟩
  refine q _ ?_
  rw [decide_eq_true_iff, List.length_map]
  exact ⟨fun e => by have := V.int.inj e; omega, fun e => by rw [e]⟩
end

def sp__are_leaders (K : PySem.W.Frag) (A : Ad) : Sp := fun vs H Q _ => ∃ (b c m : Addr) (ra rc : Vf.RA) (D D' : Vf.DD) (ims : List Int), vs = [.ref b, .ref c, .ref m] ∧ Vf.BookAt A.c_Rulebook H b ra D ∧ Vf.BookAt A.c_Rulebook H c rc D' ∧ Vf.ValidN D ∧ Vf.ValidN D' ∧ (SqL K H m (ims.map V.int) ∨ SqT K H m (ims.map V.int)) ∧ ims.length = D.st.length ∧ ∀ (r : Bool) (H' : Hp), (r = true ↔ Vf.ldIm D D' ims) → Same H H' → Q (.bl r) H'
theorem len__are_leaders {K : PySem.W.Frag} {A : Ad} (vs : List V) (H : Hp) (Q : VK) (E : XK) (h : sp__are_leaders K A vs H Q E) : vs.length = ["first", "second", "images"].length := by
  obtain ⟨a1, a2, a3, a4, a5, a6, a7, a8, rfl, _⟩ := h
  rfl

section
variable {P : Program} {w : World} {K : PySem.W.Frag} {mg : Str → Option Value} {base : Heap}
set_option maxHeartbeats 4000000 in
theorem ok__are_leaders {A : Ad} (T : Txt P K mg A) : FnOk P w K mg base CX0 4 A.f__are_leaders A.d__are_leaders ["first", "second", "images"] (sp__are_leaders K A) := by
  have G_Rulebook_number := ok_Rulebook_number (P := P) (w := w) (base := base) T
  refine T.F__are_leaders.ok sc__are_leaders len__are_leaders (fun cdv Ar outer s H vs Q E hr h => ?_)
  have hu := hu_of hr
  obtain ⟨b, c, m, ra, rc, D, D', ims, rfl, B, C', vN, vM, hm, il, q⟩ := h
  refine ⟨_, (pss_cons (ps_setLc (i := 3) (own := [("state", 4)]) (g := (gName 4)) (tt := tYes) rfl sc__are_leaders.nd rfl rfl (sw_true rfl rfl rfl (by decide +kernel)) (pi_tup (pe_fld (pv 0) (by rfl))) (blkOk_by (N := ["first", "second", "images", "found", "state"]) (sc := defScope s__are_leaders) (by decide +kernel)) (fun _ _ _ _ _ => (pg_name (i := 4) sc__are_leaders.nd rfl (Or.inl rfl))) (fun _ _ _ _ _ => pts_nil) (fun _ _ _ _ _ => (pe_ix (Vf.ix_seqK (K := K) rfl) (pv 2) (pe_meth (pv 0) T.C_Rulebook T.M_Rulebook_number G_Rulebook_number hr T.B_Rulebook_number .nil passL (pa_cons (pv 4) pa_nil)) (fun _ _ => rfl))))
      (pss_one (ps_ret (pe_cmpR (Vf.op_eqIs hr.units) (pe_callB cr_sortedI (by rfl) T.N_sorted (by decide +kernel) (pa_cons (pv 3) pa_nil)) (pe_callB cr_sortedI (by rfl) T.N_sorted (by decide +kernel) (pa_cons (pe_lc (own := [("state", 4)]) (g := (gName 4)) (tt := tYes) rfl sc__are_leaders.nd (pi_tup (pe_fld (pv 1) (by rfl))) (blkOk_by (N := ["first", "second", "images", "found", "state"]) (sc := defScope s__are_leaders) (by decide +kernel)) (fun _ _ _ _ _ => (pg_name (i := 4) sc__are_leaders.nd rfl (Or.inl rfl))) (fun _ _ _ _ _ => pts_nil) (fun _ _ _ _ _ => (pe_meth (pv 1) T.C_Rulebook T.M_Rulebook_number G_Rulebook_number hr T.B_Rulebook_number .nil passL (pa_cons (pv 4) pa_nil)))) pa_nil)) (nomark _))))), ?_⟩
  obtain ⟨dx, h0⟩ := B.ob
  obtain ⟨dy, g0⟩ := C'.ob
  have n10 := vN.n10
  have m10 := vM.n10
  have hmS : ∀ H', Same H H' → (SqL K H' m (ims.map V.int) ∨ SqT K H' m (ims.map V.int)) := fun H' s => hm.elim (fun h => .inl (s.seq h)) (fun h => .inr (Vf.Same.seqT s h))
  refine ⟨_, rfl, b, A.c_Rulebook, dx, _, _, rfl, h0, T.C_Rulebook, T.A_Rulebook_leaders, rfl, ?_⟩
  refine ⟨_, rfl, ⟨_, SqT.of B.ld⟩, fun L nL => Vf.lc_val (walk_tup (K := K) (a := ra.t3) (xs := D.ld.map V.str)) (fun i => .int (Vf.imAt ims (Vf.ix D.st (D.ld.getD i Str.empty)))) nL (by rw [List.length_map]; omega) (fun H' s => SqT.of (s _ _ B.ld)) ?_ ?_⟩
  · rintro i x Ha Hb hi sa ⟨rfl, hx⟩ Q' q'
    obtain ⟨nm, hnm, rfl⟩ := Vf.map_get hx
    have e : D.ld.getD i Str.empty = nm := by rw [List.getD_eq_getElem?_getD, hnm]; rfl
    have mem := vN.ldm nm (List.mem_of_getElem? hnm)
    have bd := Vf.ix_bd mem
    rw [e] at q'
    refine ⟨rfl, ?_⟩
    refine ⟨_, rfl, _, rfl, b, dx, _, rfl, sa _ _ h0, rfl, _, rfl, b, ra, D, nm, rfl, B.same sa, Nat.le_trans (vN.nl mem) (by decide), fun _ => ?_, fun z => absurd mem z⟩
    exact ⟨m, _, _, _, rfl, rfl, hmS _ sa, Vf.int_at bd.1 (by rw [il]; exact bd.2), q' _ (Same.refl _)⟩
  intro H1 s1 h1
  have hL : H1 L = some (.lst ((D.ld.map fun s => Vf.imAt ims (Vf.ix D.st s)).map V.int)) := by
    rw [h1, List.map_map]
    exact congrArg (fun l => some (HO.lst l)) (Vf.range_map D.ld (fun s => V.int (Vf.imAt ims (Vf.ix D.st s))) Str.empty _ (List.length_map ..))
  dsimp only [gName]
  refine ⟨_, rfl, L, _, rfl, SqL.of hL, fun S1 z1 p1 w1 nS1 => ?_⟩
  have t1 := Vf.Same.new (o := .lst (S1.map V.int)) (Same.refl H1) nS1
  have hz1 : (upd H1 z1 (.lst (S1.map V.int))) z1 = some (.lst (S1.map V.int)) := upd_same
  generalize upd H1 z1 (.lst (S1.map V.int)) = H2 at t1 hz1 ⊢
  have s2 := s1.trans t1
  have C2 := C'.same s2
  refine ⟨_, rfl, c, A.c_Rulebook, dy, _, _, rfl, s2 _ _ g0, T.C_Rulebook, T.A_Rulebook_leaders, rfl, ?_⟩
  refine ⟨_, rfl, ⟨_, SqT.of C2.ld⟩, fun M nM => Vf.lc_val (walk_tup (K := K) (a := rc.t3) (xs := D'.ld.map V.str)) (fun i => .int (Vf.ix D'.st (D'.ld.getD i Str.empty))) nM (by rw [List.length_map]; omega) (fun H' s => SqT.of (s _ _ C2.ld)) ?_ ?_⟩
  · rintro i x Ha Hb hi sa ⟨rfl, hx⟩ Q' q'
    obtain ⟨nm, hnm, rfl⟩ := Vf.map_get hx
    have e : D'.ld.getD i Str.empty = nm := by rw [List.getD_eq_getElem?_getD, hnm]; rfl
    have mem := vM.ldm nm (List.mem_of_getElem? hnm)
    rw [e] at q'
    refine ⟨rfl, ?_⟩
    exact ⟨_, rfl, c, dy, _, rfl, (s2.trans sa) _ _ g0, rfl, _, rfl, c, rc, D', nm, rfl, C2.same sa, Nat.le_trans (vM.nl mem) (by decide), fun _ => q' _ (Same.refl _), fun z => absurd mem z⟩
  intro H3 s3 h3
  have hM : H3 M = some (.lst ((D'.ld.map (Vf.ix D'.st)).map V.int)) := by
    rw [h3, List.map_map]
    exact congrArg (fun l => some (HO.lst l)) (Vf.range_map D'.ld (fun s => V.int (Vf.ix D'.st s)) Str.empty _ (List.length_map ..))
  refine ⟨M, _, rfl, SqL.of hM, fun S2 z2 p2 w2 nS2 => ?_⟩
  have t4 := Vf.Same.new (o := .lst (S2.map V.int)) (Same.refl H3) nS2
  refine ⟨S1, S2, ⟨z1, z2, rfl, rfl, .inl ⟨SqL.of ((s3.trans t4) _ _ hz1), SqL.of upd_same⟩⟩, ?_⟩
  refine q _ _ ?_ ((s2.trans s3).trans t4)
  rw [decide_eq_true_iff]
  constructor
  · intro e
    subst e
    exact p1.symm.trans p2
  · intro h
    have pp : S1.Perm S2 := (p1.trans h).trans p2.symm
    exact pp.eq_of_pairwise (fun _ _ _ _ a b => Int.le_antisymm a b) w1 w2
end

def sp_Trial_is_done (K : PySem.W.Frag) (A : Ad) : Sp := fun vs H Q _ => ∃ (t b c lF lL li : Addr) (ra rc : Vf.RA) (tw : Bool) (D D' : Vf.DD) (ims : List Int), vs = [.ref t] ∧ Vf.TrialAt A.c_Trial A.c_Rulebook H t b c lF lL li ra rc tw D D' ∧ H li = some (.lst (ims.map V.int)) ∧ Vf.ValidN D ∧ Vf.ValidN D' ∧ ∀ (r : Bool) (H' : Hp), (r = true ↔ ims.length = D.st.length ∧ Vf.ldIm D D' ims ∧ (tw = true → ims.length = D'.st.length)) → Same H H' → Q (.bl r) H'
theorem len_Trial_is_done {K : PySem.W.Frag} {A : Ad} (vs : List V) (H : Hp) (Q : VK) (E : XK) (h : sp_Trial_is_done K A vs H Q E) : vs.length = ["self"].length := by
  obtain ⟨a1, a2, a3, a4, a5, a6, a7, a8, a9, a10, a11, a12, rfl, _⟩ := h
  rfl

section
variable {P : Program} {w : World} {K : PySem.W.Frag} {mg : Str → Option Value} {base : Heap}
set_option maxHeartbeats 4000000 in
theorem ok_Trial_is_done {A : Ad} (T : Txt P K mg A) : FnOk P w K mg base CX0 5 A.f_Trial_is_done A.d_Trial_is_done ["self"] (sp_Trial_is_done K A) := by
  have G_Trial_is_full := ok_Trial_is_full (P := P) (w := w) (base := base) T
  have G__are_leaders := ok__are_leaders (P := P) (w := w) (base := base) T
  have G_Rulebook___len__ := ok_Rulebook___len__ (P := P) (w := w) (base := base) T
  refine T.F_Trial_is_done.ok sc_Trial_is_done len_Trial_is_done (fun cdv Ar outer s H vs Q E hr h => ?_)
  have hu := hu_of hr
  obtain ⟨t, b, c, lF, lL, li, ra, rc, tw, D, D', ims, rfl, TA, hl, vN, vM, q⟩ := h
  refine ⟨_, (pss_cons (ps_if (PW.pt (pw_or (pt_not (pt_val (pe_meth0 (pv 0) T.C_Trial T.M_Trial_is_full G_Trial_is_full (hr.mono (by decide)) T.B_Trial_is_full .nil pass0))) (pw_or1 (pt_not (pt_val (pe_call G__are_leaders hr (by rfl) T.G__are_leaders T.F__are_leaders.kp T.B__are_leaders .nil pass0 (pa_cons (pe_fld (pv 0) (by rfl)) (pa_cons (pe_fld (pv 0) (by rfl)) (pa_cons (pe_fld (pv 0) (by rfl)) pa_nil))))))))) (pss_one (ps_ret pe_bl)) pss_nil)
      (pss_one (ps_ret (pe_or (pe_not (pe_fld (pv 0) (by rfl))) (pe_one (pe_cmpR op_eq (pe_callB call_len_seq (by rfl) T.N_len PySem.boot_len (pa_cons (pe_fld (pv 0) (by rfl)) pa_nil)) (pe_callB (Vf.call_lenOwn G_Rulebook___len__ (hr.mono (by decide)) T.M_Rulebook___len__.1 T.M_Rulebook___len__.2 T.B_Rulebook___len__ pass0) (by rfl) T.N_len PySem.boot_len (pa_cons (pe_fld (pv 0) (by rfl)) pa_nil)) (nomark _))))))), ?_⟩
  obtain ⟨dx, h0⟩ := TA.ob
  obtain ⟨dy, g0⟩ := TA.bk.ob
  obtain ⟨dz, k0⟩ := TA.bk'.ob
  have n4 := vN.n400
  have m4 := vM.n400
  refine ⟨_, rfl, t, dx, _, rfl, h0, rfl, t, b, c, lF, lL, li, ra, rc, tw, D, D', ims, rfl, TA, hl, n4, fun r hr => ?_⟩
  refine ⟨_, rfl, ?_⟩
  dsimp only
  refine Vf.ite_b (fun e => ?_) fun e => ?_
  · exact q false H ⟨fun h => (by cases h), fun h => absurd (hr.mpr h.1) (by rw [Bool.not_eq_true'] at e; rw [e]; decide)⟩ (Same.refl H)
  have full := hr.mp (by rw [Bool.not_eq_false'] at e; exact e)
  clear e hr
  refine ⟨_, rfl, t, A.c_Trial, dx, _, _, rfl, h0, T.C_Trial, T.A_Trial__first, rfl, _, rfl, t, A.c_Trial, dx, _, _, rfl, h0, T.C_Trial, T.A_Trial__second, rfl, _, rfl, t, A.c_Trial, dx, _, _, rfl, h0, T.C_Trial, T.A_Trial_images, rfl, b, c, li, ra, rc, D, D', ims, rfl, TA.bk, TA.bk', vN, vM, .inl (SqL.of hl), full, fun r' H1 hr' s1 => ⟨_, rfl, ?_⟩⟩
  dsimp only
  refine Vf.ite_b (fun e => ?_) fun e => ?_
  · exact q false H1 ⟨fun h => (by cases h), fun h => absurd (hr'.mpr h.2.1) (by rw [Bool.not_eq_true'] at e; rw [e]; decide)⟩ s1
  have ld := hr'.mp (by rw [Bool.not_eq_false'] at e; exact e)
  clear e hr'
  refine ⟨_, rfl, t, A.c_Trial, dx, _, _, rfl, s1 _ _ h0, T.C_Trial, T.A_Trial__twins, rfl, ?_⟩
  refine ⟨_, rfl, _, rfl, ?_⟩
  refine Vf.ite_b (fun e => ?_) fun e => ?_
  · exact q true H1 ⟨fun _ => ⟨full, ld, fun h => by rw [h] at e; cases e⟩, fun _ => rfl⟩ s1
  have tt : tw = true := by rw [Bool.not_eq_false'] at e; exact e
  refine ⟨_, rfl, t, A.c_Trial, dx, _, _, rfl, s1 _ _ h0, T.C_Trial, T.A_Trial_images, rfl, li, _, rfl, .inl (SqL.of (s1 _ _ hl)), _, rfl, t, A.c_Trial, dx, _, _, rfl, s1 _ _ h0, T.C_Trial, T.A_Trial__second, rfl, c, dz, _, rfl, s1 _ _ k0, c, rc, D', rfl, TA.bk'.same s1, _, rfl, Int.natCast_nonneg _, by omega, rfl, ?_⟩
  refine q _ H1 ?_ s1
  rw [decide_eq_true_iff, List.length_map]
  exact ⟨fun e => ⟨full, ld, fun _ => by have := V.int.inj e; omega⟩, fun h => by rw [h.2.2 tt]⟩
end

def sp_Trial_take_back (K : PySem.W.Frag) (A : Ad) : Sp := fun vs H Q _ => ∃ (H0 : Hp) (t b c lF lL li : Addr) (ra rc : Vf.RA) (tw : Bool) (D D' : Vf.DD) (ims : List Int) (y : Int), vs = [.ref t] ∧ Vf.TrialAt A.c_Trial A.c_Rulebook H0 t b c lF lL li ra rc tw D D' ∧ Same H0 H ∧ H0 li = none ∧ H li = some (.lst ((ims ++ [y]).map V.int)) ∧ ∀ (H' : Hp), Same H0 H' → H' li = some (.lst (ims.map V.int)) → Q (.int y) H'
theorem len_Trial_take_back {K : PySem.W.Frag} {A : Ad} (vs : List V) (H : Hp) (Q : VK) (E : XK) (h : sp_Trial_take_back K A vs H Q E) : vs.length = ["self"].length := by
  obtain ⟨a0, a1, a2, a3, a4, a5, a6, a7, a8, a9, a10, a11, a12, a13, rfl, _⟩ := h
  rfl

section
variable {P : Program} {w : World} {K : PySem.W.Frag} {mg : Str → Option Value} {base : Heap}
set_option maxHeartbeats 4000000 in
theorem ok_Trial_take_back {A : Ad} (T : Txt P K mg A) : FnOk P w K mg base CX0 1 A.f_Trial_take_back A.d_Trial_take_back ["self"] (sp_Trial_take_back K A) := by
  refine T.F_Trial_take_back.ok sc_Trial_take_back len_Trial_take_back (fun cdv Ar outer s H vs Q E hr h => ?_)
  have hu := hu_of hr
  obtain ⟨H0, t, b, c, lF, lL, li, ra, rc, tw, D, D', ims, y, rfl, TA, s0, nl, hl, q⟩ := h
  refine ⟨_, (pss_one (ps_ret (pe_bm0 PySem.F.plainAttrs_list PySem.F.slot_list_pop PySem.F.type_list_pop mt_pop (pe_fld (pv 0) (by rfl))))), ?_⟩
  obtain ⟨dx, h0⟩ := TA.ob
  refine ⟨_, rfl, t, A.c_Trial, dx, _, _, rfl, s0 _ _ h0, T.C_Trial, T.A_Trial_images, rfl, ?_⟩
  refine ⟨Vf.tyL hl, li, _, .int y, rfl, rfl, hl, ?_, ?_⟩
  · rw [List.length_map, List.length_append, List.getElem?_map, List.getElem?_append_right (by simp)]
    simp
  · refine q _ (Vf.Same.chg s0 nl) ?_
    rw [upd_same, List.map_append]
    simp
end

def sp_TooLarge___init__ (K : PySem.W.Frag) (A : Ad) : Sp := fun vs H Q _ => ∃ (a : Addr) (i : Int), vs = [.ref a, .int i] ∧ i.natAbs.log2 < 1920 ∧ H a = some (exo a A.c_TooLarge none) ∧ ∀ dx, H dx = none → dx ≠ a → Q .non (upd (upd H dx (exd dx [("limit", .int i)])) a (exo a A.c_TooLarge (some dx)))
theorem len_TooLarge___init__ {K : PySem.W.Frag} {A : Ad} (vs : List V) (H : Hp) (Q : VK) (E : XK) (h : sp_TooLarge___init__ K A vs H Q E) : vs.length = ["self", "limit"].length := by
  obtain ⟨a, b, rfl, _⟩ := h
  rfl

section
variable {P : Program} {w : World} {K : PySem.W.Frag} {mg : Str → Option Value} {base : Heap}
set_option maxHeartbeats 4000000 in
theorem ok_TooLarge___init__ {A : Ad} (T : Txt P K mg A) : FnOk P w K mg base CX0 1 A.f_TooLarge___init__ A.d_TooLarge___init__ ["self", "limit"] (sp_TooLarge___init__ K A) := by
  refine Vf.init_of (k := 0) T.D_TooLarge___init__ sc_TooLarge___init__ rfl rfl rfl rfl (by decide +kernel) T.N_super T.O_TooLarge T.S_TooLarge len_TooLarge___init__ fun Ar outer s H vs Q E hr h => ?_
  obtain ⟨a, i, rfl, hs, ha, q⟩ := h
  refine ⟨a, _, _, ⟨⟨_, rfl⟩, rfl, rfl, rfl, rfl⟩, rfl, ha, (pa_cons (Vf.pe_join (.cons pe_str (.cons (pe_fmt (pv 1)) (.cons pe_str .nil)))) pa_nil), (pss_one (ps_ost (pv 0) (pv 1))), ?_⟩
  
  refine ⟨_, rfl, (by walk_at "fit"), _, rfl, .inr ⟨i, rfl, hs, _, rfl, (by walk_at "fit"), _, rfl, (by walk_at "fit"), ?_⟩⟩
  refine ⟨(by show 1 ≤ 1000; decide), ha, ?_⟩
  exact ⟨_, rfl, _, rfl, a, A.c_TooLarge, rfl, T.O_TooLarge, T.N_TooLarge_limit, .inl ⟨ha, fun dx n ne => q dx n ne⟩⟩
end

def sp_Rulebook_meet (K : PySem.W.Frag) (A : Ad) : Sp := fun vs H Q _ => ∃ (b : Addr) (ra : Vf.RA) (D : Vf.DD) (i j : Int), vs = [.ref b, .int i, .int j] ∧ Vf.BookAt A.c_Rulebook H b ra D ∧ Vf.ValidN D ∧ ∀ (t : Addr) (H' : Hp), Same H H' → H' t = some (.tup (Vf.encP (Vf.meetOf (Vf.rks D) (Vf.rvs D) (i, j)))) → Q (.ref t) H'
theorem len_Rulebook_meet {K : PySem.W.Frag} {A : Ad} (vs : List V) (H : Hp) (Q : VK) (E : XK) (h : sp_Rulebook_meet K A vs H Q E) : vs.length = ["self", "first", "second"].length := by
  obtain ⟨a, b, c, d, e, rfl, _⟩ := h
  rfl

section
variable {P : Program} {w : World} {K : PySem.W.Frag} {mg : Str → Option Value} {base : Heap}
set_option maxHeartbeats 4000000 in
theorem ok_Rulebook_meet {A : Ad} (T : Txt P K mg A) : FnOk P w K mg base CX0 1 A.f_Rulebook_meet A.d_Rulebook_meet ["self", "first", "second"] (sp_Rulebook_meet K A) := by
  refine T.F_Rulebook_meet.ok sc_Rulebook_meet len_Rulebook_meet (fun cdv Ar outer s H vs Q E hr h => ?_)
  have hu := hu_of hr
  obtain ⟨b, ra, D, i, j, rfl, B, vN, q⟩ := h
  obtain ⟨dx, h0⟩ := B.ob
  obtain ⟨kvs, hk, R⟩ := B.dr
  refine ⟨_, (pss_one (ps_ret (pe_dget2 (by exact hu) (pe_fld (pv 0) (by rfl)) (pe_tup (pa_cons (pv 1) (pa_cons (pv 2) pa_nil))) (pe_tup (pa_cons (pv 1) (pa_cons (pv 2) pa_nil))) ⟨by rfl, by rfl, by rfl, by rfl⟩))), ?_⟩
  refine ⟨_, rfl, b, A.c_Rulebook, dx, _, _, rfl, h0, T.C_Rulebook, T.A_Rulebook__results, rfl, ra.dr, rfl, .inr ⟨kvs, .inl hk⟩, _, rfl, _, rfl, (by show 2 ≤ sizeLine; decide), fun t1 n1 => ?_⟩
  have e1 := Vf.Same.new (o := .tup [.int i, .int j]) (Same.refl H) n1
  refine ⟨_, rfl, _, rfl, (by show 2 ≤ sizeLine; decide), fun t2 n2 => ?_⟩
  have e2 := Vf.Same.new (o := .tup [.int i, .int j]) e1 n2
  have k1 : (upd (upd H t1 (.tup [.int i, .int j])) t2 (.tup [.int i, .int j])) t1 = some (.tup ((Vf.keyP (i, j)).map kV)) := by
    rw [upd_ne (Vf.neq_none upd_same n2), upd_same]
    rfl
  refine ⟨_, DGet.t (k := Vf.keyP (i, j)) (e2 _ _ hk) k1, ?_⟩
  have pp := (R.pp vN.valid.nd).same e2
  rcases pp.get (i, j) with ⟨g1, g2⟩ | ⟨t, g1, g2⟩
  · rw [g1]
    refine q t2 _ e2 ?_
    rw [g2, upd_same]
    rfl
  · rw [g1]
    exact q t _ e2 g2
end

def sp__carries (K : PySem.W.Frag) (A : Ad) : Sp := fun vs H Q _ => ∃ (b c m l : Addr) (ra rc : Vf.RA) (D D' : Vf.DD) (ims : List Int) (xs : List V) (ms : List (Int × Int)), vs = [.ref b, .ref c, .ref m, .ref l] ∧ Vf.BookAt A.c_Rulebook H b ra D ∧ Vf.BookAt A.c_Rulebook H c rc D' ∧ Vf.ValidN D ∧ Vf.ValidN D' ∧ (SqL K H m (ims.map V.int) ∨ SqT K H m (ims.map V.int)) ∧ SqL K H l xs ∧ Vf.Tups Vf.encP H xs ms ∧ (∀ p ∈ ms, Vf.InR D.st.length p ∧ Vf.InR ims.length p) ∧ ims.length ≤ 1000000 ∧ ∀ (r : Bool) (H' : Hp), (r = true ↔ ∀ p ∈ ms, Vf.Car D D' ims p) → Same H H' → Q (.bl r) H'
theorem len__carries {K : PySem.W.Frag} {A : Ad} (vs : List V) (H : Hp) (Q : VK) (E : XK) (h : sp__carries K A vs H Q E) : vs.length = ["first", "second", "images", "pairs"].length := by
  obtain ⟨a1, a2, a3, a4, a5, a6, a7, a8, a9, a10, a11, rfl, _⟩ := h
  rfl

section
variable {P : Program} {w : World} {K : PySem.W.Frag} {mg : Str → Option Value} {base : Heap}
set_option maxHeartbeats 4000000 in
theorem ok__carries {A : Ad} (T : Txt P K mg A) : FnOk P w K mg base CX0 2 A.f__carries A.d__carries ["first", "second", "images", "pairs"] (sp__carries K A) := by
  have G_Rulebook_meet := ok_Rulebook_meet (P := P) (w := w) (base := base) T
  refine T.F__carries.ok sc__carries len__carries (fun cdv Ar outer s H vs Q E hr h => ?_)
  have hu := hu_of hr
  obtain ⟨b, c, m, l, ra, rc, D, D', ims, xs, ms, rfl, B, C', vN, vM, hm, hl, tx, inr, il, q⟩ := h
  refine ⟨_, (pss_cons (ps_for PassesOwn.never rfl (pi_list (pv 3)) (pg_tup (by rfl) (pgs_cons (pg_name (i := 4) sc__carries.nd rfl (Or.inl rfl)) (pgs_cons (pg_name (i := 5) sc__carries.nd rfl (Or.inl rfl)) pgs_nil)))
        (pss_cons (ps_set (i := 6) sc__carries.nd rfl (Or.inl rfl) (pe_meth (pv 1) T.C_Rulebook T.M_Rulebook_meet G_Rulebook_meet hr T.B_Rulebook_meet .nil pass0 (pa_cons (pe_ix Vf.ix_seq (pv 2) (pv 4) (fun _ _ => rfl)) (pa_cons (pe_ix Vf.ix_seq (pv 2) (pv 5) (fun _ _ => rfl)) pa_nil))))
      (pss_one (ps_for PassesOwn.never rfl (RZ.pi_zipA (by rfl) T.N_zip (pa_cons (pe_meth (pv 0) T.C_Rulebook T.M_Rulebook_meet G_Rulebook_meet hr T.B_Rulebook_meet .nil pass0 (pa_cons (pv 4) (pa_cons (pv 5) pa_nil))) (pa_cons (pv 6) pa_nil))) (pg_tup (by rfl) (pgs_cons (pg_name (i := 7) sc__carries.nd rfl (Or.inl rfl)) (pgs_cons (pg_name (i := 8) sc__carries.nd rfl (Or.inl rfl)) pgs_nil)))
        (pss_one (ps_if (PW.pt (pw_and (pt_cmpR op_lt (pv 7) (pe_callB call_len_seq (by rfl) T.N_len PySem.boot_len (pa_cons (pv 2) pa_nil)) (nomark _)) (pw_and1 (pt_cmpR op_ne (pe_ix Vf.ix_seq (pv 2) (pv 7) (fun _ _ => rfl)) (pv 8) (nomark _))))) (pss_one (ps_ret pe_bl)) pss_nil))))))
      (pss_one (ps_ret pe_bl))), ?_⟩
  obtain ⟨dx, h0⟩ := B.ob
  obtain ⟨dy, g0⟩ := C'.ob
  have hmS : ∀ H', Same H H' → (SqL K H' m (ims.map V.int) ∨ SqT K H' m (ims.map V.int)) := fun H' s => hm.elim (fun h => .inl (s.seq h)) (fun h => .inr (Vf.Same.seqT s h))
  refine ⟨_, rfl, l, rfl, ⟨_, hl⟩, for_list (K := K) (a := l) (xs := xs) (fun i σ H' => (∃ v4 v5 v6 v7 v8 : Option V, σ = [some (.ref b), some (.ref c), some (.ref m), some (.ref l), v4, v5, v6, v7, v8]) ∧ Same H H' ∧ ∀ p ∈ ms.take i, Vf.Car D D' ims p) ⟨⟨none, none, none, none, none, rfl⟩, Same.refl H, fun p hp => by simp at hp⟩ (fun i σ H' _ ⟨_, s, _⟩ => s.seq hl) ?_ ?_⟩
  rotate_left
  · rintro σ H1 ⟨⟨v4, v5, v6, v7, v8, rfl⟩, s1, all⟩
    rw [tx.1, List.take_length] at all
    exact q true H1 ⟨fun _ => all, fun _ => rfl⟩ s1
  rintro i x σ H1 hx ⟨⟨v4, v5, v6, v7, v8, rfl⟩, s1, all⟩
  obtain ⟨p, t, ep, rfl, ht⟩ := (tx.same s1).get hx
  obtain ⟨i1, ⟨a0, a1, b0, b1⟩⟩ := inr p (List.mem_of_getElem? ep)
  have pm := List.mem_of_getElem? ep
  refine ⟨t, _, rfl, SqT.of ht, rfl, _, _, rfl, _, _, rfl, rfl, ?_⟩
  refine ⟨_, rfl, c, dy, _, rfl, s1 _ _ g0, rfl, _, rfl, _, rfl, m, _, _, _, rfl, rfl, hmS _ s1, Vf.int_at a0 a1, _, rfl, _, rfl, m, _, _, _, rfl, rfl, hmS _ s1, Vf.int_at b0 b1, c, rc, D', _, _, rfl, C'.same s1, vM, fun w Hw sw hw => ?_⟩
  have s2 := s1.trans sw
  refine ⟨_, rfl, b, dx, _, rfl, s2 _ _ h0, rfl, _, rfl, _, rfl, b, ra, D, _, _, rfl, B.same s2, vN, fun r Hr sr hr => ?_⟩
  have s3 := s2.trans sr
  have hw3 := sr _ _ hw
  have ir := Vf.meetOf_in vN i1
  have hw3 : Hr w = some (.tup (Vf.encP (Vf.fD D' (Vf.imM ims p)))) := hw3
  have hr : Hr r = some (.tup (Vf.encP (Vf.fD D p))) := hr
  have ir : Vf.InR D.st.length (Vf.fD D p) := ir
  refine ⟨_, rfl, r, w, _, _, rfl, .inr ⟨SqT.of hr, SqT.of hw3, ?_⟩⟩
  refine for_it (Vf.walk_zipT (K := K) (a := r) (b := w) (xs := Vf.encP (Vf.fD D p)) (ys := Vf.encP (Vf.fD D' (Vf.imM ims p))) (n := 2) rfl rfl) (fun k σ H' => (∃ v7 v8 : Option V, σ = [some (.ref b), some (.ref c), some (.ref m), some (.ref l), some (.int p.1), some (.int p.2), some (.ref w), v7, v8]) ∧ Same Hr H' ∧ (1 ≤ k → Vf.okR ims (Vf.fD D p).1 (Vf.fD D' (Vf.imM ims p)).1) ∧ (2 ≤ k → Vf.okR ims (Vf.fD D p).2 (Vf.fD D' (Vf.imM ims p)).2)) ⟨⟨_, _, rfl⟩, Same.refl Hr, fun h => by omega, fun h => by omega⟩ (fun k σ H' _ ⟨_, s, _⟩ => ⟨SqT.of (s _ _ hr), SqT.of (s _ _ hw3)⟩) ?_ ?_
  rotate_left
  · rintro σ Ha ⟨⟨v7, v8, rfl⟩, sa, k1, k2⟩
    refine ⟨⟨_, _, _, _, _, rfl⟩, s3.trans sa, fun p' hp => ?_⟩
    rw [Vf.take_snoc ep, List.mem_append, List.mem_singleton] at hp
    rcases hp with hp | rfl
    · exact all p' hp
    · exact ⟨k1 (by omega), k2 (by omega)⟩
  rintro k x σ Ha Hb hk ⟨⟨v7, v8, rfl⟩, sa, k1, k2⟩ ⟨T', x', y', rfl, nT, rfl, e1, e2⟩
  have val : ∃ rz wz : Int, x' = .int rz ∧ y' = .int wz ∧ 0 ≤ rz ∧ ((Vf.okR ims rz wz → (1 ≤ k + 1 → Vf.okR ims (Vf.fD D p).1 (Vf.fD D' (Vf.imM ims p)).1) ∧ (2 ≤ k + 1 → Vf.okR ims (Vf.fD D p).2 (Vf.fD D' (Vf.imM ims p)).2)) ∧ (¬ Vf.okR ims rz wz → ¬ Vf.Car D D' ims p)) := by
    obtain ⟨ra0, _, rb0, _⟩ := ir
    have : k = 0 ∨ k = 1 := by omega
    rcases this with rfl | rfl
    · have e1 : some (V.int (Vf.fD D p).1) = some x' := e1
      have e2 : some (V.int (Vf.fD D' (Vf.imM ims p)).1) = some y' := e2
      exact ⟨_, _, (Option.some.inj e1).symm, (Option.some.inj e2).symm, ra0, fun h => ⟨fun _ => h, fun h2 => by omega⟩, fun h z => h z.1⟩
    · have e1 : some (V.int (Vf.fD D p).2) = some x' := e1
      have e2 : some (V.int (Vf.fD D' (Vf.imM ims p)).2) = some y' := e2
      exact ⟨_, _, (Option.some.inj e1).symm, (Option.some.inj e2).symm, rb0, fun h => ⟨fun _ => k1 (by omega), fun _ => h⟩, fun h z => h z.2⟩
  obtain ⟨rz, wz, rfl, rfl, rz0, good, bad⟩ := val
  have sT := Vf.Same.new (o := .tup [.int rz, .int wz]) (Same.refl Ha) nT
  have hT : (upd Ha T' (.tup [.int rz, .int wz])) T' = some (.tup [.int rz, .int wz]) := upd_same
  have s4 := sa.trans sT
  generalize upd Ha T' (.tup [.int rz, .int wz]) = Hc at sT hT s4 ⊢
  have s5 := s3.trans s4
  have lb : ((ims.map V.int).length : Int) = (ims.length : Int) := by rw [List.length_map]
  refine ⟨T', _, rfl, SqT.of hT, rfl, _, _, rfl, _, _, rfl, rfl, ?_⟩
  refine ⟨_, rfl, _, rfl, m, _, rfl, hmS _ s5, ?_⟩
  rw [lb]
  refine ⟨_, _, rfl, rfl, _, rfl, Vf.ite_d (fun lt => ?_) (fun lt => ?_)⟩
  rotate_left
  · obtain ⟨g1, g2⟩ := good fun z => lt z.1
    exact ⟨⟨_, _, rfl⟩, s4, g1, g2⟩
  refine ⟨_, rfl, _, rfl, m, _, _, _, rfl, rfl, hmS _ s5, Vf.int_at rz0 lt, _, rfl, rfl, _, rfl, Vf.ite_b (fun e => ?_) (fun e => ?_)⟩
  · have ne : Vf.imAt ims rz ≠ wz := fun h => by
      have h : ims.getD rz.toNat 0 = wz := h
      rw [h, decide_eq_true rfl] at e
      cases e
    exact q false Hc ⟨fun h => (by cases h), fun h => absurd (h p pm) (bad fun z => z ⟨lt, ne⟩)⟩ s5
  · have eq : V.int (ims.getD rz.toNat 0) = V.int wz := by
      have : decide (V.int (ims.getD rz.toNat 0) = V.int wz) = true := by simpa using e
      exact of_decide_eq_true this
    obtain ⟨g1, g2⟩ := good fun z => z.2 (V.int.inj eq)
    exact ⟨⟨_, _, rfl⟩, s4, g1, g2⟩
end

def sp_Trial__carries_last (K : PySem.W.Frag) (A : Ad) : Sp := fun vs H Q _ => ∃ (t b c lF lL li : Addr) (ra rc : Vf.RA) (tw : Bool) (D D' : Vf.DD) (ims : List Int) (k : Nat), vs = [.ref t] ∧ Vf.TrialAt A.c_Trial A.c_Rulebook H t b c lF lL li ra rc tw D D' ∧ H li = some (.lst (ims.map V.int)) ∧ Vf.ValidN D ∧ Vf.ValidN D' ∧ ims.length = k + 1 ∧ k < D.st.length ∧
  ∀ (r : Bool) (H' : Hp), (r = true → ∀ q, Vf.InR (k + 1) q → (q.1 = (k : Int) ∨ q.2 = (k : Int) ∨ ((q.1 < (k : Int) ∧ q.2 < (k : Int)) ∧ ((Vf.fD D q).1 = (k : Int) ∨ (Vf.fD D q).2 = (k : Int)))) → Vf.Car D D' ims q) → ((∀ q, Vf.InR (k + 1) q → Vf.Car D D' ims q) → r = true) → Same H H' → Q (.bl r) H'
theorem len_Trial__carries_last {K : PySem.W.Frag} {A : Ad} (vs : List V) (H : Hp) (Q : VK) (E : XK) (h : sp_Trial__carries_last K A vs H Q E) : vs.length = ["self"].length := by
  obtain ⟨a1, a2, a3, a4, a5, a6, a7, a8, a9, a10, a11, a12, a13, rfl, _⟩ := h
  rfl

section
variable {P : Program} {w : World} {K : PySem.W.Frag} {mg : Str → Option Value} {base : Heap}
set_option maxHeartbeats 4000000 in
theorem ok_Trial__carries_last {A : Ad} (T : Txt P K mg A) : FnOk P w K mg base CX0 3 A.f_Trial__carries_last A.d_Trial__carries_last ["self"] (sp_Trial__carries_last K A) := by
  have G__carries := ok__carries (P := P) (w := w) (base := base) T
  refine T.F_Trial__carries_last.ok sc_Trial__carries_last len_Trial__carries_last (fun cdv Ar outer s H vs Q E hr h => ?_)
  have hu := hu_of hr
  obtain ⟨t, b, c, lF, lL, li, ra, rc, tw, D, D', ims, k, rfl, TA, hl, vN, vM, il, kD, q⟩ := h
  refine ⟨_, (pss_cons (ps_set (i := 1) sc_Trial__carries_last.nd rfl (Or.inr rfl) (pe_op op_sub (pe_callB call_len_seq (by rfl) T.N_len PySem.boot_len (pa_cons (pe_fld (pv 0) (by rfl)) pa_nil)) pe_int))
      (pss_cons (ps_set (i := 2) sc_Trial__carries_last.nd rfl (Or.inl rfl) (pe_op op_cat (pe_lc (own := [("other", 3)]) (g := (gName 3)) (tt := tYes) rfl sc_Trial__carries_last.nd (pi_range1 rfl T.N_range (pa_cons (pv 1) pa_nil)) (blkOk_by (N := ["self", "last", "pairs", "other"]) (sc := defScope s_Trial__carries_last) (by decide +kernel)) (fun _ _ _ _ _ => (pg_name (i := 3) sc_Trial__carries_last.nd rfl (Or.inl rfl))) (fun _ _ _ _ _ => pts_nil) (fun _ _ _ _ _ => (pe_tup (pa_cons (pv 1) (pa_cons (pv 3) pa_nil))))) (pe_lc (own := [("other", 3)]) (g := (gName 3)) (tt := tYes) rfl sc_Trial__carries_last.nd (pi_range1 rfl T.N_range (pa_cons (pe_op op_add (pv 1) pe_int) pa_nil)) (blkOk_by (N := ["self", "last", "pairs", "other"]) (sc := defScope s_Trial__carries_last) (by decide +kernel)) (fun _ _ _ _ _ => (pg_name (i := 3) sc_Trial__carries_last.nd rfl (Or.inl rfl))) (fun _ _ _ _ _ => pts_nil) (fun _ _ _ _ _ => (pe_tup (pa_cons (pv 3) (pa_cons (pv 1) pa_nil)))))))
      (pss_one (ps_ret (pe_call G__carries hr (by rfl) T.G__carries T.F__carries.kp T.B__carries .nil pass0 (pa_cons (pe_fld (pv 0) (by rfl)) (pa_cons (pe_fld (pv 0) (by rfl)) (pa_cons (pe_fld (pv 0) (by rfl)) (pa_cons (pe_op op_cat (pv 2) (pe_ix ix_list (pe_fld (pv 0) (by rfl)) (pv 1) (fun _ _ => rfl))) pa_nil))))))))), ?_⟩
  obtain ⟨dx, h0⟩ := TA.ob
  have n4 := vN.n400
  have lm : (ims.map V.int).length = k + 1 := by rw [List.length_map]; exact il
  refine ⟨_, rfl, t, A.c_Trial, dx, _, _, rfl, h0, T.C_Trial, T.A_Trial_images, rfl, li, _, rfl, .inl (SqL.of hl), _, _, rfl, rfl, ?_⟩
  rw [lm]
  dsimp only
  rw [show (((k + 1 : Nat) : Int) - 1) = (k : Int) by omega]
  dsimp only [gName]
  refine ⟨_, rfl, (k : Int), rfl, by omega, by omega, fun C nC => Vf.lc_tups (walk_range (lo := 0) (n := _)) Vf.encP (fun i p => p = ((k : Int), (i : Int))) nC (by omega) (fun _ _ => trivial) ?_ ?_⟩
  · rintro i x Ha Hb hi sa ⟨rfl, rfl⟩ Q' q'
    rw [show (fun (i : Nat) => V.int (0 + (i : Int))) i = V.int (i : Int) from congrArg V.int (Int.zero_add _)]
    exact ⟨rfl, _, rfl, _, rfl, (by show 2 ≤ sizeLine; decide), fun u nu => q' ((k : Int), (i : Int)) u _ (Vf.Same.new (Same.refl _) nu) upd_same rfl⟩
  intro m1 x1 H1 l1 s1 h1 t1 g1
  refine ⟨_, rfl, _, _, rfl, rfl, _, rfl, by omega, by omega, fun C2 nC2 => Vf.lc_tups (walk_range (lo := 0) (n := _)) Vf.encP (fun i p => p = ((i : Int), (k : Int))) nC2 (by omega) (fun _ _ => trivial) ?_ ?_⟩
  · rintro i x Ha Hb hi sa ⟨rfl, rfl⟩ Q' q'
    rw [show (fun (i : Nat) => V.int (0 + (i : Int))) i = V.int (i : Int) from congrArg V.int (Int.zero_add _)]
    exact ⟨rfl, _, rfl, _, rfl, (by show 2 ≤ sizeLine; decide), fun u nu => q' ((i : Int), (k : Int)) u _ (Vf.Same.new (Same.refl _) nu) upd_same rfl⟩
  intro m2 x2 H2 l2 s2 h2 t2 g2
  have xl1 : x1.length = m1.length := t1.1
  have xl2 : x2.length = m2.length := t2.1
  refine ⟨C, C2, x1, x2, rfl, rfl, s2 _ _ h1, h2, Nat.le_trans (show _ ≤ 1000 by omega) (by decide), fun P nP => ?_⟩
  have s3 := Vf.Same.new (o := .lst (x1 ++ x2)) (Same.refl H2) nP
  have h3 := upd_same (H := H2) (a := P) (o := .lst (x1 ++ x2))
  generalize upd H2 P (.lst (x1 ++ x2)) = H3 at s3 h3 ⊢
  have s03 := (s1.trans s2).trans s3
  have t3 := (((t1.same s2).append t2).same s3)
  have T3 := TA.same s03
  dsimp only [gName]
  have h03 := s03 _ _ h0
  obtain ⟨us, hL, ul, ats⟩ := T3.lt
  obtain ⟨u, hu⟩ : ∃ u, us[k]? = some u := ⟨_, List.getElem?_eq_getElem (by omega)⟩
  obtain ⟨xs, ms, g3, g4, g5, g6⟩ := ats k u hu
  have xl3 : xs.length = ms.length := g4.1
  refine ⟨_, rfl, t, A.c_Trial, dx, _, _, rfl, h03, T.C_Trial, T.A_Trial__first, rfl, _, rfl, t, A.c_Trial, dx, _, _, rfl, h03, T.C_Trial, T.A_Trial__second, rfl, _, rfl, t, A.c_Trial, dx, _, _, rfl, h03, T.C_Trial, T.A_Trial_images, rfl, ?_⟩
  refine ⟨_, rfl, _, rfl, t, A.c_Trial, dx, _, _, rfl, h03, T.C_Trial, T.A_Trial__late, rfl, _, rfl, lL, _, _, .ref u, rfl, rfl, SqL.of hL, atI_nat (by rw [List.getElem?_map, hu]; rfl), ?_⟩
  refine ⟨P, u, _, _, rfl, rfl, h3, g3, Nat.le_trans (show (x1 ++ x2).length + xs.length ≤ 3000 by rw [List.length_append]; omega) (by decide), fun Z nZ => ?_⟩
  have s4 := Vf.Same.new (o := .lst (x1 ++ x2 ++ xs)) (Same.refl H3) nZ
  have h4 := upd_same (H := H3) (a := Z) (o := .lst (x1 ++ x2 ++ xs))
  generalize upd H3 Z (.lst (x1 ++ x2 ++ xs)) = H4 at s4 h4 ⊢
  have s04 := s03.trans s4
  have e1 : ∀ p, p ∈ m1 ↔ ∃ i : Nat, i < k ∧ p = ((k : Int), (i : Int)) := fun p => by
    constructor
    · intro h
      obtain ⟨i, hi⟩ := List.mem_iff_getElem?.mp h
      exact ⟨i, by have := (List.getElem?_eq_some_iff.mp hi).1; omega, g1 i p hi⟩
    · rintro ⟨i, hi, rfl⟩
      obtain ⟨p, hp⟩ : ∃ p, m1[i]? = some p := ⟨_, List.getElem?_eq_getElem (by omega)⟩
      rw [← g1 i p hp]
      exact List.mem_of_getElem? hp
  have e2 : ∀ p, p ∈ m2 ↔ ∃ i : Nat, i < k + 1 ∧ p = ((i : Int), (k : Int)) := fun p => by
    constructor
    · intro h
      obtain ⟨i, hi⟩ := List.mem_iff_getElem?.mp h
      exact ⟨i, by have := (List.getElem?_eq_some_iff.mp hi).1; omega, g2 i p hi⟩
    · rintro ⟨i, hi, rfl⟩
      obtain ⟨p, hp⟩ : ∃ p, m2[i]? = some p := ⟨_, List.getElem?_eq_getElem (by omega)⟩
      rw [← g2 i p hp]
      exact List.mem_of_getElem? hp
  have inr : ∀ p ∈ m1 ++ m2 ++ ms, Vf.InR (k + 1) p := fun p hp => by
    rcases List.mem_append.mp hp with hp | hp
    · rcases List.mem_append.mp hp with hp | hp
      · obtain ⟨i, hi, rfl⟩ := (e1 p).mp hp
        exact ⟨by show (0 : Int) ≤ (k : Int); omega, by show (k : Int) < _; omega, by show (0 : Int) ≤ (i : Int); omega, by show (i : Int) < _; omega⟩
      · obtain ⟨i, hi, rfl⟩ := (e2 p).mp hp
        exact ⟨by show (0 : Int) ≤ (i : Int); omega, by show (i : Int) < _; omega, by show (0 : Int) ≤ (k : Int); omega, by show (k : Int) < _; omega⟩
    · obtain ⟨i1, i2, i3, i4⟩ := g5.inr p hp
      exact ⟨i1, by omega, i3, by omega⟩
  refine ⟨b, c, li, Z, ra, rc, D, D', ims, _, _, rfl, TA.bk.same s04, TA.bk'.same s04, vN, vM, .inl (SqL.of (s04 _ _ hl)), SqL.of h4, (t3.append g4).same s4, fun p hp => ?_, by omega, fun r H5 hr s5 => ?_⟩
  · have h := inr p hp
    refine ⟨⟨h.1, by have := h.2.1; omega, h.2.2.1, by have := h.2.2.2; omega⟩, ?_⟩
    rw [il]
    exact h
  refine q r H5 (fun e p hp hq => hr.mp e p ?_) (fun h => hr.mpr fun p hp => h p (inr p hp)) (s04.trans s5)
  obtain ⟨i1, i2, i3, i4⟩ := hp
  rcases hq with hq | hq | ⟨⟨hq1, hq2⟩, hq⟩
  · by_cases c : p.2 = (k : Int)
    · exact List.mem_append.mpr (.inl (List.mem_append.mpr (.inr ((e2 p).mpr ⟨k, by omega, Prod.ext hq c⟩))))
    · exact List.mem_append.mpr (.inl (List.mem_append.mpr (.inl ((e1 p).mpr ⟨p.2.toNat, by omega, Prod.ext hq (by show p.2 = ((p.2.toNat : Nat) : Int); omega)⟩))))
  · exact List.mem_append.mpr (.inl (List.mem_append.mpr (.inr ((e2 p).mpr ⟨p.1.toNat, by omega, Prod.ext (by show p.1 = ((p.1.toNat : Nat) : Int); omega) hq⟩))))
  · exact List.mem_append.mpr (.inr (g5.all p ⟨i1, hq1, i3, hq2⟩ hq))
end

def sp_Trial_give (K : PySem.W.Frag) (A : Ad) : Sp := fun vs H Q _ => ∃ (H0 : Hp) (t b c lF lL li : Addr) (ra rc : Vf.RA) (tw : Bool) (D D' : Vf.DD) (ims : List Int) (y : Int), vs = [.ref t, .int y] ∧ Vf.TrialAt A.c_Trial A.c_Rulebook H0 t b c lF lL li ra rc tw D D' ∧ Same H0 H ∧ H0 li = none ∧ H li = some (.lst (ims.map V.int)) ∧ Vf.ValidN D ∧ Vf.ValidN D' ∧ ims.length < D.st.length ∧ 0 ≤ y ∧ y < (D'.st.length : Int) ∧ Vf.Part D D' tw ims ∧
  (∀ H', Vf.Part D D' tw (ims ++ [y]) → Same H0 H' → H' li = some (.lst ((ims ++ [y]).map V.int)) → Q (.bl true) H') ∧ (∀ H', ¬ Vf.Part D D' tw (ims ++ [y]) → Same H0 H' → H' li = some (.lst (ims.map V.int)) → Q (.bl false) H')
theorem len_Trial_give {K : PySem.W.Frag} {A : Ad} (vs : List V) (H : Hp) (Q : VK) (E : XK) (h : sp_Trial_give K A vs H Q E) : vs.length = ["self", "image"].length := by
  obtain ⟨a0, a1, a2, a3, a4, a5, a6, a7, a8, a9, a10, a11, a12, a13, rfl, _⟩ := h
  rfl

section
variable {P : Program} {w : World} {K : PySem.W.Frag} {mg : Str → Option Value} {base : Heap}
set_option maxHeartbeats 4000000 in
theorem ok_Trial_give {A : Ad} (T : Txt P K mg A) : FnOk P w K mg base CX0 4 A.f_Trial_give A.d_Trial_give ["self", "image"] (sp_Trial_give K A) := by
  have G_Trial__carries_last := ok_Trial__carries_last (P := P) (w := w) (base := base) T
  refine T.F_Trial_give.ok sc_Trial_give len_Trial_give (fun cdv Ar outer s H vs Q E hr h => ?_)
  have hu := hu_of hr
  obtain ⟨H0, t, b, c, lF, lL, li, ra, rc, tw, D, D', ims, y, rfl, TA, s0, nl, hl, vN, vM, il, y0, y1, PT, q1, q2⟩ := h
  refine ⟨_, (pss_cons (ps_set (i := 2) sc_Trial_give.nd rfl (Or.inr rfl) (pe_callB call_len_seq (by rfl) T.N_len PySem.boot_len (pa_cons (pe_fld (pv 0) (by rfl)) pa_nil)))
      (pss_cons (ps_if (pt_cmpR op_ne (pe_ix ix_tup (pe_fld (pe_fld (pv 0) (by rfl)) (by rfl)) (pv 2) (fun _ _ => rfl)) (pe_ix ix_tup (pe_fld (pe_fld (pv 0) (by rfl)) (by rfl)) (pv 1) (fun _ _ => rfl)) (nomark _)) (pss_one (ps_ret pe_bl)) pss_nil)
      (pss_cons (ps_if (pt_not (pt_val (pe_callB (cr_all rfl) (by rfl) T.N_all (by decide +kernel) (pa_cons (pe_lc (own := [("known", 3), ("wanted", 4)]) (g := (gTup K 2 (gCons (gName 3) (gCons (gName 4) gNil)))) (tt := _) rfl sc_Trial_give.nd (pi_list (pe_fld (pv 0) (by rfl))) (blkOk_by (N := ["self", "image", "state", "known", "wanted"]) (sc := defScope s_Trial_give) (by decide +kernel)) (fun _ _ _ _ _ => (pg_tup (by rfl) (pgs_cons (pg_name (i := 3) sc_Trial_give.nd rfl (Or.inl rfl)) (pgs_cons (pg_name (i := 4) sc_Trial_give.nd rfl (Or.inl rfl)) pgs_nil)))) (fun _ _ _ _ _ => pts_one (pt_cmpR op_eq (pv 3) (pv 2) (nomark _))) (fun _ _ _ _ _ => (pe_cmpR op_eq (pv 1) (pv 4) (nomark _)))) pa_nil)))) (pss_one (ps_ret pe_bl)) pss_nil)
      (pss_cons (ps_if (PW.pt (pw_and (pt_val (pe_fld (pv 0) (by rfl))) (pw_and1 (pt_cmpR op_in_seq (pv 1) (pe_fld (pv 0) (by rfl)) (by rfl))))) (pss_one (ps_ret pe_bl)) pss_nil)
      (pss_cons (ps_expr (pe_bm PySem.F.plainAttrs_list PySem.F.slot_list_append PySem.F.type_list_append mt_append (pe_fld (pv 0) (by rfl)) (pa_cons (pv 1) pa_nil)))
      (pss_cons (ps_if (pt_val (pe_meth0 (pv 0) T.C_Trial T.M_Trial__carries_last G_Trial__carries_last hr T.B_Trial__carries_last .nil pass0)) (pss_one (ps_ret pe_bl)) pss_nil)
      (pss_cons (ps_expr (pe_bm0 PySem.F.plainAttrs_list PySem.F.slot_list_pop PySem.F.type_list_pop mt_pop (pe_fld (pv 0) (by rfl))))
      (pss_one (ps_ret pe_bl))))))))), ?_⟩
  obtain ⟨dx, t0⟩ := TA.ob
  obtain ⟨dy, b0⟩ := TA.bk.ob
  obtain ⟨dz, c0⟩ := TA.bk'.ob
  obtain ⟨xF, hF, tF⟩ := TA.fx
  have n4 := vN.n400
  have m4 := vM.n400
  have ol := vN.len
  have ol' := vM.len
  have n8 := vN.n8
  have lm : (ims.map V.int).length = ims.length := List.length_map ..
  have h0 := s0 _ _ t0
  have pl : (ims ++ [y]).length = ims.length + 1 := by rw [List.length_append]; rfl
  refine ⟨_, rfl, t, A.c_Trial, dx, _, _, rfl, h0, T.C_Trial, T.A_Trial_images, rfl, li, _, rfl, .inl (SqL.of hl), ?_⟩
  rw [lm]
  dsimp only [gName]
  refine ⟨_, rfl, t, A.c_Trial, dx, _, _, rfl, h0, T.C_Trial, T.A_Trial__first, rfl, b, A.c_Rulebook, dy, _, _, rfl, s0 _ _ b0, T.C_Rulebook, T.A_Rulebook_outputs, rfl, _, rfl, ra.t5, _, _, _, rfl, rfl, SqT.of (s0 _ _ TA.bk.ou), Vf.int_at (by omega) (by omega), ?_⟩
  refine ⟨_, rfl, t, A.c_Trial, dx, _, _, rfl, h0, T.C_Trial, T.A_Trial__second, rfl, c, A.c_Rulebook, dz, _, _, rfl, s0 _ _ c0, T.C_Rulebook, T.A_Rulebook_outputs, rfl, _, rfl, rc.t5, _, _, _, rfl, rfl, SqT.of (s0 _ _ TA.bk'.ou), Vf.int_at y0 (by omega), rfl, _, rfl, Vf.ite_b (fun e => ?_) fun e => ?_⟩
  · refine q2 H (fun P => ?_) s0 hl
    rw [Bool.not_eq_true', decide_eq_false_iff_not] at e
    refine e (congrArg V.int ?_)
    have h := P.ou ims.length (by rw [pl]; omega)
    rw [Vf.getD_lst] at h
    exact h
  rw [Bool.not_eq_false', decide_eq_true_eq] at e
  have ou : D.ou.getD ims.length 0 = D'.ou.getD y.toNat 0 := V.int.inj e
  clear e
  have xl : xF.length = (Vf.insIm D D').length := tF.1
  have insl : (Vf.insIm D D').length ≤ 8 := by
    unfold Vf.insIm
    rw [List.length_map, List.length_zip]
    omega
  refine ⟨_, rfl, t, A.c_Trial, dx, _, _, rfl, h0, T.C_Trial, T.A_Trial__fixed, rfl, ?_⟩
  refine ⟨_, rfl, ⟨_, SqL.of (s0 _ _ hF)⟩, fun C nC => lc_it (walk_list (K := K) (a := lF) (xs := xF)) (fun i H' => ∃ bs : List Bool, H' C = some (.lst (bs.map V.bl)) ∧ Same H H' ∧ bs.length ≤ i ∧ (bs.all id = true ↔ ∀ z ∈ (Vf.insIm D D').take i, z.1 = (ims.length : Int) → y = z.2)) ⟨[], upd_same, Vf.Same.new (Same.refl H) nC, Nat.zero_le _, ⟨fun _ z hz => (by simp at hz), fun _ => rfl⟩⟩ (fun i H' _ ⟨_, _, s, _⟩ => SqL.of (s _ _ (s0 _ _ hF))) ?_ ?_⟩
  · rintro i x Ha Hb hi ⟨bs, hC, sa, bl, be⟩ ⟨rfl, hx⟩
    obtain ⟨z, t', ez, rfl, ht'⟩ := (tF.same (s0.trans sa)).get hx
    refine ⟨t', _, rfl, SqT.of ht', rfl, _, _, rfl, _, _, rfl, rfl, ?_⟩
    refine ⟨rfl, _, rfl, _, rfl, rfl, _, rfl, Vf.ite_d (fun e => ?_) fun e => ?_⟩
    · refine ⟨_, rfl, _, rfl, rfl, bs.map V.bl, hC, Nat.lt_of_le_of_lt (show (bs.map V.bl).length ≤ 100 by rw [List.length_map]; omega) (by decide), bs ++ [decide (V.int y = V.int z.2)], ?_, Vf.Same.chg sa nC, by rw [List.length_append]; show _ + 1 ≤ _; omega, ?_⟩
      · rw [upd_same, List.map_append]
        rfl
      · rw [List.all_append, Bool.and_eq_true, be, Vf.take_snoc ez]
        have e' : z.1 = (ims.length : Int) := V.int.inj e
        constructor
        · rintro ⟨h1, h2⟩ w hw hk
          rcases List.mem_append.mp hw with hw | hw
          · exact h1 w hw hk
          · rw [List.mem_singleton.mp hw]
            have h3 : V.int y = V.int z.2 := by simpa using h2
            exact V.int.inj h3
        · intro h
          refine ⟨fun w hw => h w (List.mem_append.mpr (.inl hw)), ?_⟩
          have h3 := h z (List.mem_append.mpr (.inr (List.mem_singleton.mpr rfl))) e'
          simp [h3]
    · refine ⟨bs, hC, sa, by omega, ?_⟩
      rw [be, Vf.take_snoc ez]
      constructor
      · intro h w hw hk
        rcases List.mem_append.mp hw with hw | hw
        · exact h w hw hk
        · rw [List.mem_singleton.mp hw] at hk
          exact absurd (congrArg V.int hk) e
      · exact fun h w hw => h w (List.mem_append.mpr (.inl hw))
  rintro H1 ⟨bs, hC, s1, _, be⟩
  rw [xl, List.take_length] at be
  have s01 := s0.trans s1
  have h01 := s1 _ _ h0
  have hl1 := s1 _ _ hl
  refine ⟨C, bs, rfl, SqL.of hC, _, rfl, ?_⟩
  dsimp only
  refine Vf.ite_b (fun e => ?_) fun e => ?_
  · refine q2 H1 (fun P => ?_) s01 hl1
    have h := be.mpr fun z hz hk => by
      have h := P.ins z hz (by rw [pl]; omega)
      unfold Vf.imAt at h
      rw [hk, Int.toNat_natCast, Vf.getD_lst] at h
      exact h
    rw [h] at e
    cases e
  have ins := be.mp (by rw [Bool.not_eq_false'] at e; exact e)
  clear e be
  unfold tNext
  dsimp only
  refine Vf.seq_join (fun σ' H' => σ' = [some (.ref t), some (.int y), some (.int (ims.length : Int)), none, none] ∧ H1 = H' ∧ (tw = true → y ∉ ims)) (fun nx hn => ?_) ?_
  · refine ⟨_, rfl, t, A.c_Trial, dx, _, _, rfl, h01, T.C_Trial, T.A_Trial__twins, rfl, _, rfl, ?_⟩
    dsimp only
    refine Vf.ite_b (fun e => ?_) fun e => hn _ _ ⟨rfl, rfl, fun h => by rw [h] at e; cases e⟩
    refine ⟨_, rfl, _, rfl, t, A.c_Trial, dx, _, _, rfl, h01, T.C_Trial, T.A_Trial_images, rfl, li, _, rfl, .inl (SqL.of hl1), rfl, Vf.flat_int _, _, rfl, ?_⟩
    rw [if_neg Bool.false_ne_true, Vf.inV_int]
    refine Vf.ite_d (fun m => ?_) fun m => hn _ _ ⟨rfl, rfl, fun _ => m⟩
    refine q2 H1 (fun P => ?_) s01 hl1
    have h := P.tw e
    rw [List.nodup_append] at h
    exact h.2.2 y m y (by simp) rfl
  rintro σ' H' ⟨rfl, rfl, ntw⟩
  refine ⟨_, rfl, t, A.c_Trial, dx, _, _, rfl, h01, T.C_Trial, T.A_Trial_images, rfl, Vf.tyL hl1, _, rfl, li, _, _, rfl, rfl, hl1, Nat.lt_of_le_of_lt (show (ims.map V.int).length ≤ 400 by rw [lm]; omega) (by decide), ?_⟩
  have e1 : ims.map V.int ++ [V.int y] = (ims ++ [y]).map V.int := by rw [List.map_append]; rfl
  rw [e1]
  have s02 : Same H0 (upd H1 li (.lst ((ims ++ [y]).map V.int))) := Vf.Same.chg s01 nl
  have hl2 := upd_same (H := H1) (a := li) (o := .lst ((ims ++ [y]).map V.int))
  generalize upd H1 li (.lst ((ims ++ [y]).map V.int)) = H2 at s02 hl2 ⊢
  refine ⟨_, rfl, t, dx, _, rfl, s02 _ _ t0, rfl, t, b, c, lF, lL, li, ra, rc, tw, D, D', ims ++ [y], ims.length, rfl, TA.same s02, hl2, vN, vM, pl, il, fun r H3 r1 r2 s3 => ⟨_, rfl, ?_⟩⟩
  have hl3 := s3 _ _ hl2
  have s03 := s02.trans s3
  refine Vf.ite_b (fun e => ?_) fun e => ?_
  · exact q1 H3 (PT.add vN il y0 y1 ou (fun z hz hk => ins z hz hk) ntw (r1 e)) s03 hl3
  have no : ¬ Vf.Part D D' tw (ims ++ [y]) := fun P => by
    rw [r2 fun p hp => P.car p (by rw [pl]; exact hp)] at e
    cases e
  refine ⟨_, rfl, t, A.c_Trial, dx, _, _, rfl, s03 _ _ t0, T.C_Trial, T.A_Trial_images, rfl, Vf.tyL hl3, li, _, .int y, rfl, rfl, hl3, ?_, ?_⟩
  · rw [List.length_map, List.length_append, List.getElem?_map, List.getElem?_append_right (by simp)]
    simp
  refine q2 _ no (Vf.Same.chg s03 nl) ?_
  rw [upd_same, List.map_append]
  simp
end

def sp__first_map (K : PySem.W.Frag) (A : Ad) : Sp := fun vs H Q E => ∃ (b c : Addr) (ra rc : Vf.RA) (tw : Bool) (D D' : Vf.DD) (lim : Nat), vs = [.ref b, .ref c, .int (lim : Nat), .bl tw] ∧ Vf.BookAt A.c_Rulebook H b ra D ∧ Vf.BookAt A.c_Rulebook H c rc D' ∧ Vf.ValidN D ∧ Vf.ValidN D' ∧ D.ru.length ≤ 400 ∧ 1 ≤ D.st.length ∧ D.st.length ≤ 400 ∧ lim ≤ 1000000 ∧
  (∀ (d : Addr) (H' : Hp), lim < Vf.enoughK D'.st.length D.st.length → Same H H' → H' d = some (.xd [("limit", .int (lim : Nat))]) → E (.ref A.c_TooLarge) (some d) H') ∧
  ((∀ l, ¬ Vf.GoodM D D' tw l) → ∀ H', Same H H' → Q .non H') ∧
  (∀ r, Vf.GoodM D D' tw r → (∀ l, Vf.GoodM D D' tw l → Vf.Aft l r 0) → ∀ (a : Addr) (H' : Hp), Same H H' → H' a = some (.tup (r.map V.int)) → Q (.ref a) H')
theorem len__first_map {K : PySem.W.Frag} {A : Ad} (vs : List V) (H : Hp) (Q : VK) (E : XK) (h : sp__first_map K A vs H Q E) : vs.length = ["first", "second", "limit", "twins"].length := by
  obtain ⟨a1, a2, a3, a4, a5, a6, a7, a8, rfl, _⟩ := h
  rfl

section
variable {P : Program} {w : World} {K : PySem.W.Frag} {mg : Str → Option Value} {base : Heap}
set_option maxHeartbeats 4000000 in
theorem ok__first_map {A : Ad} (T : Txt P K mg A) : FnOk P w K mg base (L2.CX P w) 7 A.f__first_map A.d__first_map ["first", "second", "limit", "twins"] (sp__first_map K A) := by
  have G__have_same_names := ok__have_same_names (P := P) (w := w) (base := base) T
  have G_Trial___init__ := ok_Trial___init__ (P := P) (w := w) (base := base) T
  have G_Trial_is_done := ok_Trial_is_done (P := P) (w := w) (base := base) T
  have G_Trial_is_full := ok_Trial_is_full (P := P) (w := w) (base := base) T
  have G_Trial_take_back := ok_Trial_take_back (P := P) (w := w) (base := base) T
  have G_TooLarge___init__ := ok_TooLarge___init__ (P := P) (w := w) (base := base) T
  have G_Trial_give := ok_Trial_give (P := P) (w := w) (base := base) T
  have G_Rulebook___len__ := ok_Rulebook___len__ (P := P) (w := w) (base := base) T
  refine T.F__first_map.okX sc__first_map len__first_map (fun cdv Ar outer s H vs Q E hr h => ?_)
  have hu := hu_of hr
  obtain ⟨b, c, ra, rc, tw, D, D', lim, rfl, B, B', vN, vM, ru4, n1, n7, l6, q0, q1, q2⟩ := h
  refine ⟨_, (pss_cons (ps_if (pt_not (pt_val (pe_call G__have_same_names (hr.mono (by decide)) (by rfl) T.G__have_same_names T.F__have_same_names.kp T.B__have_same_names .nil pass0 (pa_cons (pv 0) (pa_cons (pv 1) pa_nil))))) (pss_one (ps_ret pe_non)) pss_nil)
      (pss_cons (ps_set (i := 4) sc__first_map.nd rfl (Or.inl rfl) (pe_makeK T.K_Trial G_Trial___init__ hr (by rfl) T.G_Trial (Vf.KB.toN (n := 3) T.KB_Trial___init__ rfl rfl) pass0 (pa_cons (pv 0) (pa_cons (pv 1) pa_nil)) (pk_cons (pv 3) pk_nil)))
      (pss_cons (ps_set (i := 5) sc__first_map.nd rfl (Or.inl rfl) pe_int)
      (pss_cons (ps_set (i := 6) sc__first_map.nd rfl (Or.inl rfl) pe_int)
      (pss_cons (ps_while (passes_of rfl) (pt_not (pt_val (pe_meth0 (pv 4) T.C_Trial T.M_Trial_is_done G_Trial_is_done (hr.mono (by decide)) T.B_Trial_is_done .nil pass0))) (pss_one (ps_if (PW.pt (pw_or (pt_val (pe_meth0 (pv 4) T.C_Trial T.M_Trial_is_full G_Trial_is_full (hr.mono (by decide)) T.B_Trial_is_full .nil pass0)) (pw_or1 (pt_cmpR op_eq (pv 6) (pe_callB (Vf.call_lenOwn G_Rulebook___len__ (hr.mono (by decide)) T.M_Rulebook___len__.1 T.M_Rulebook___len__.2 T.B_Rulebook___len__ pass0) (by rfl) T.N_len PySem.boot_len (pa_cons (pv 1) pa_nil)) (nomark _))))) (pss_cons (ps_if (pt_not (pt_truth (pe_fld (pv 4) (by rfl)) (by intro _; rfl))) (pss_one (ps_ret pe_non)) pss_nil)
      (pss_one (ps_set (i := 6) sc__first_map.nd rfl (Or.inl rfl) (pe_op op_add (pe_meth0 (pv 4) T.C_Trial T.M_Trial_take_back G_Trial_take_back (hr.mono (by decide)) T.B_Trial_take_back .nil pass0) pe_int)))) (pss_one (ps_if (pt_cmpR op_eq (pv 5) (pv 2) (nomark _)) (pss_one (ps_raise rfl (takes_of rfl rfl rfl rfl) (pmk_oex T.O_TooLarge T.I_TooLarge T.Y_TooLarge G_TooLarge___init__ (hr.mono (by decide)) T.B_TooLarge___init__ .nil pass0 (by rfl) T.G_TooLarge (pa_cons (pv 2) pa_nil)))) (pss_cons (ps_aug (i := 5) sc__first_map.nd rfl (.inl rfl) pe_int ip_add)
      (pss_one (ps_set (i := 6) sc__first_map.nd rfl (Or.inl rfl) (pe_ifExp (pt_val (pe_meth (pv 4) T.C_Trial T.M_Trial_give G_Trial_give (hr.mono (by decide)) T.B_Trial_give .nil pass0 (pa_cons (pv 6) pa_nil))) pe_int (pe_op op_add (pv 6) pe_int))))))))))
      (pss_one (ps_ret (pe_callTy call_tuple_of (by rfl) T.N_tuple (by decide +kernel) (pa_cons (pe_fld (pv 4) (by rfl)) pa_nil))))))))), ?_⟩
  have n4 := vN.n400
  have m4 := vM.n400
  refine ⟨_, rfl, _, rfl, b, c, ra, rc, D, D', rfl, B, B', vN.n8, vM.n8, fun H1 s1 => ⟨_, rfl, ?_⟩⟩
  dsimp only
  refine Vf.ite_b (fun e => ?_) fun e => ?_
  · refine q1 (fun l g => ?_) H1 s1
    rw [decide_eq_true g.map.nm] at e
    cases e
  have nm : D.ins.map Prod.fst = D'.ins.map Prod.fst := by
    rw [Bool.not_eq_false'] at e
    exact of_decide_eq_true e
  clear e
  have nn : D.ins.length = D'.ins.length := by
    have := congrArg List.length nm
    rwa [List.length_map, List.length_map] at this
  refine ⟨_, rfl, _, rfl, _, rfl, rfl, rfl, fun t dt nt nd nex => ?_⟩
  have s2 : Same H1 (upd (upd H1 dt (.own t)) t (.ins A.c_Trial dt [])) := Vf.Same.chg (Vf.Same.new (Same.refl H1) nd) nt
  refine ⟨t, b, c, dt, ra, rc, tw, D, D', H1, rfl, s2, nt, upd_same, B.same s1, B'.same s1, vN, vM, nn, ru4, fun lF lL li H0 H2 TA s10 s0 nl hl => ⟨rfl, ?_⟩⟩
  have sH0 := s1.trans s10
  obtain ⟨dx, t0⟩ := TA.ob
  obtain ⟨dz, c0⟩ := TA.bk'.ob
  obtain ⟨d, hd⟩ : ∃ d, D.st.length = d + 1 := ⟨D.st.length - 1, by omega⟩
  refine ⟨fun mm σ H' => ∃ (ims : List Int) (y tr : Nat), σ = [some (.ref b), some (.ref c), some (.int (lim : Nat)), some (.bl tw), some (.ref t), some (.int (tr : Int)), some (.int (y : Int))] ∧ Same H0 H' ∧ H' li = some (.lst (ims.map V.int)) ∧ Vf.Part D D' tw ims ∧ ims.length ≤ D.st.length ∧ y ≤ D'.st.length ∧ (ims.length = D.st.length → y = 0) ∧ tr ≤ Vf.tried D'.st.length d ims y ∧ tr ≤ lim ∧ (∀ l, Vf.GoodM D D' tw l → Vf.Aft l ims y) ∧ mm = Vf.farK D'.st.length d D.st.length ims y, ⟨_, [], 0, 0, rfl, s0, hl, Vf.Part.nil, Nat.zero_le _, Nat.zero_le _, fun _ => rfl, Nat.zero_le _, Nat.zero_le _, fun l g => Vf.aft_zero fun y hy => (g.map.im y hy).1, rfl⟩, ?_⟩
  rintro mm σ H3 ⟨ims, y, tr, rfl, s3, hl3, PT, il, yM, yf, tl, tlim, af, rfl⟩
  refine ⟨_, rfl, t, dx, _, rfl, s3 _ _ t0, rfl, t, b, c, lF, lL, li, ra, rc, tw, D, D', ims, rfl, TA.same s3, hl3, vN, vM, fun r H4 hr s4 => ⟨_, rfl, ?_⟩⟩
  dsimp only
  have s04 := s3.trans s4
  have hl4 := s4 _ _ hl3
  refine Vf.ite_b (fun e => ?_) fun e => ?_
  rotate_left
  · have ok := hr.mp (by rw [Bool.not_eq_false'] at e; exact e)
    have y0 := yf ok.1
    subst y0
    refine ⟨_, rfl, t, A.c_Trial, dx, _, _, rfl, s04 _ _ t0, T.C_Trial, T.A_Trial_images, rfl, li, _, rfl, .inl ⟨SqL.of hl4, fun a na => ?_⟩⟩
    exact q2 ims (PT.good vN ok.1 nm ok.2.1 ok.2.2) af a _ (sH0.trans (Vf.Same.new s04 na)) upd_same
  have nd : ¬ Vf.GoodM D D' tw ims := fun g => by
    rw [hr.mpr ⟨g.len, g.map.ld, fun t => (g.tw t).2⟩] at e
    cases e
  clear e hr
  refine ⟨_, fun σ' H' h => h, ?_⟩
  refine Vf.st_if (b := decide (ims.length = D.st.length) || decide (y = D'.st.length)) (Vf.ans_or2 (fun R r => ?_) (fun R r => ?_)) (fun e => ?_) (fun e => ?_)
  · refine ⟨_, rfl, t, dx, _, rfl, s04 _ _ t0, rfl, t, b, c, lF, lL, li, ra, rc, tw, D, D', ims, rfl, TA.same s04, hl4, n4, fun r' hr' => ⟨_, rfl, ?_⟩⟩
    rw [show r' = decide (ims.length = D.st.length) from Bool.eq_iff_iff.mpr (by rw [decide_eq_true_iff]; exact hr')]
    exact r
  · refine ⟨_, rfl, _, rfl, c, dz, _, rfl, s04 _ _ c0, c, rc, D', rfl, TA.bk'.same s04, _, rfl, Int.natCast_nonneg _, by omega, rfl, _, rfl, ?_⟩
    rw [show decide (V.int (y : Int) = V.int (D'.st.length : Int)) = decide (y = D'.st.length) from decide_eq_decide.mpr ⟨fun e => by have := V.int.inj e; omega, fun e => by rw [e]⟩]
    exact r
  · have e : ims.length = D.st.length ∨ y = D'.st.length := by simpa using e
    have nz : ∀ l, Vf.GoodM D D' tw l → ∀ z ∈ l, 0 ≤ z ∧ z < (D'.st.length : Int) := fun l g => g.map.im
    refine Vf.seq_join (fun σ' H' => σ' = [some (.ref b), some (.ref c), some (.int (lim : Nat)), some (.bl tw), some (.ref t), some (.int (tr : Int)), some (.int (y : Int))] ∧ H4 = H' ∧ ims ≠ []) (fun nx hn => ?_) ?_
    · refine ⟨_, rfl, t, A.c_Trial, dx, _, _, rfl, s04 _ _ t0, T.C_Trial, T.A_Trial_images, rfl, _, .inl ⟨_, SqL.of hl4, rfl⟩, ?_⟩
      refine Vf.ite_b (fun e2 => ?_) fun e2 => hn _ _ ⟨rfl, rfl, fun h => by rw [h] at e2; cases e2⟩
      have e3 : ims = [] := by
        cases ims with
        | nil => rfl
        | cons a l => cases e2
      subst e3
      refine q1 (fun l g => ?_) H4 (sH0.trans s04)
      have h := af l g
      have gl := g.len
      cases l with
      | nil => simp at gl; omega
      | cons a l =>
        have h1 : (y : Int) ≤ a := h
        have h2 := nz _ g a List.mem_cons_self
        rcases e with e | e
        · simp at e; omega
        · omega
    rintro σ' H' ⟨rfl, rfl, ne⟩
    obtain ⟨i, z, rfl⟩ : ∃ i z, ims = i ++ [z] := ⟨ims.dropLast, ims.getLast ne, (List.dropLast_concat_getLast ne).symm⟩
    have pl : (i ++ [z]).length = i.length + 1 := by rw [List.length_append]; rfl
    have zb := PT.im z (by simp)
    obtain ⟨z', rfl⟩ : ∃ z' : Nat, z = (z' : Int) := ⟨z.toNat, by omega⟩
    refine ⟨_, rfl, t, dx, _, rfl, s04 _ _ t0, rfl, H0, t, b, c, lF, lL, li, ra, rc, tw, D, D', i, (z' : Int), rfl, TA, s04, nl, hl4, fun H5 s05 hl5 => ?_⟩
    refine ⟨_, _, rfl, rfl, ?_⟩
    have ts : Vf.tried D'.st.length d (i ++ [(z' : Int)]) y = Vf.tried D'.st.length d i (z' + 1) := by
      rcases e with e | e
      · have y0 := yf e
        subst y0
        exact Vf.tried_full (by omega)
      · subst e
        by_cases f : (i ++ [(z' : Int)]).length = D.st.length
        · have y0 := yf f
          omega
        · exact Vf.tried_pop (by omega)
    refine ⟨_, Vf.far_pop ts, i, z' + 1, tr, rfl, s05, hl5, PT.init vN (by omega), by omega, by omega, fun h => by omega, by rw [← ts]; exact tl, tlim, fun l g => ?_, rfl⟩
    have gl := g.len
    have h := Vf.aft_pop (af l g) (fun l' el ha => ?_) (by omega)
    · exact h
    · have ll := congrArg List.length el
      rw [List.length_append, List.length_cons] at ll
      cases l' with
      | nil => exact nd (by rw [show i ++ [(z' : Int)] = l from el.symm]; exact g)
      | cons w l' =>
        have h1 : (y : Int) ≤ w := ha
        have h2 := nz l g w (by rw [el]; simp)
        simp at ll
        rcases e with e | e
        · omega
        · omega
  · have e : ims.length ≠ D.st.length ∧ y ≠ D'.st.length := by simpa using e
    have yl : y < D'.st.length := by omega
    have il2 : ims.length ≤ d := by omega
    have tlt := Vf.tried_lt (m := D'.st.length) (d := d) il2 PT.im yl
    have es := Vf.enough_sub D'.st.length d
    rw [← hd] at es
    refine ⟨_, rfl, _, rfl, rfl, _, rfl, Vf.ite_d (fun c1 => ?_) fun c1 => ?_⟩
    · have c2 : tr = lim := by have := V.int.inj c1; omega
      refine ⟨_, rfl, (by show 1 ≤ 1000; decide), fun a na => ?_⟩
      refine ⟨a, (lim : Nat), rfl, Vf.bits_small (by omega), upd_same, fun d' nd' ne => ⟨rfl, d', [("limit", .int (lim : Nat))], upd_same, ?_, ?_, ?_⟩⟩
      · rw [upd_ne ne, upd_same]
      · rw [upd_ne ne] at nd'
        exact nd'
      · rw [upd_ne ne] at nd'
        refine q0 d' _ (by omega) (fun y o e => ?_) upd_same
        have xe := (sH0.trans s04) _ _ e
        have xd : y ≠ d' := Vf.neq_none xe nd'
        have xa' : y ≠ a := Vf.neq_none xe na
        rw [upd_ne xd, del_ne xa', upd_ne xa', upd_ne xd, upd_ne xa']
        exact xe
    · have c2 : tr ≠ lim := fun h => c1 (by rw [h])
      refine ⟨_, rfl, _, _, rfl, rfl, ?_⟩
      dsimp only
      rw [show (tr : Int) + 1 = ((tr + 1 : Nat) : Int) from rfl]
      refine ⟨_, rfl, t, dx, _, rfl, s04 _ _ t0, rfl, _, rfl, H0, t, b, c, lF, lL, li, ra, rc, tw, D, D', ims, (y : Int), rfl, TA, s04, nl, hl4, vN, vM, by omega, Int.natCast_nonneg _, by omega, PT, fun H5 P s05 hl5 => ⟨_, rfl, ?_⟩, fun H5 nP s05 hl5 => ⟨_, rfl, ?_⟩⟩
      · refine Vf.ite_b (fun _ => ?_) fun h => absurd h (by decide)
        have pl : (ims ++ [(y : Int)]).length = ims.length + 1 := by rw [List.length_append]; rfl
        have tg := Vf.tried_give (m := D'.st.length) (d := d) (i := ims) (y := y)
        exact ⟨_, Vf.far_up (Nat.le_of_eq tg.symm) tlt n1 (Nat.le_of_eq pl), ims ++ [(y : Int)], 0, tr + 1, rfl, s05, hl5, P, by omega, Nat.zero_le _, fun _ => rfl, by omega, by omega, fun l g => Vf.aft_give (fun z hz => (g.map.im z hz).1) (af l g), rfl⟩
      · refine Vf.ite_b (fun h => absurd h (by decide)) fun _ => ?_
        have tn := Vf.tried_next (m := D'.st.length) (d := d) (i := ims) (y := y)
        refine ⟨_, rfl, _, _, rfl, rfl, ?_⟩
        dsimp only
        rw [show (y : Int) + 1 = ((y + 1 : Nat) : Int) from rfl]
        refine ⟨_, Vf.far_up tn tlt n1 (Nat.le_succ _), ims, y + 1, tr + 1, rfl, s05, hl5, PT, il, by omega, fun h => absurd h e.1, by omega, by omega, fun l g => ?_, rfl⟩
        have gl := g.len
        exact Vf.aft_next (by omega) (af l g) fun h => nP (by rw [← h]; exact g.part vN _)
end

def sp_find_map (K : PySem.W.Frag) (A : Ad) : Sp := fun vs H Q E => ∃ (b c : Addr) (ra rc : Vf.RA) (D D' : Vf.DD) (lim : Nat), vs = [.ref b, .ref c, .int (lim : Nat)] ∧ Vf.BookAt A.c_Rulebook H b ra D ∧ Vf.BookAt A.c_Rulebook H c rc D' ∧ Vf.ValidN D ∧ Vf.ValidN D' ∧ D.ru.length ≤ 400 ∧ 1 ≤ D.st.length ∧ D.st.length ≤ 400 ∧ lim ≤ 1000000 ∧
  (∀ (d : Addr) (H' : Hp), lim < Vf.enoughK D'.st.length D.st.length → Same H H' → H' d = some (.xd [("limit", .int (lim : Nat))]) → E (.ref A.c_TooLarge) (some d) H') ∧
  ((∀ l, ¬ Vf.GoodM D D' false l) → ∀ H', Same H H' → Q .non H') ∧
  (∀ r, Vf.GoodM D D' false r → (∀ l, Vf.GoodM D D' false l → Vf.Aft l r 0) → ∀ (a : Addr) (H' : Hp), Same H H' → H' a = some (.tup (r.map V.int)) → Q (.ref a) H')
theorem len_find_map {K : PySem.W.Frag} {A : Ad} (vs : List V) (H : Hp) (Q : VK) (E : XK) (h : sp_find_map K A vs H Q E) : vs.length = ["first", "second", "limit"].length := by
  obtain ⟨a1, a2, a3, a4, a5, a6, a7, rfl, _⟩ := h
  rfl

section
variable {P : Program} {w : World} {K : PySem.W.Frag} {mg : Str → Option Value} {base : Heap}
set_option maxHeartbeats 4000000 in
theorem ok_find_map {A : Ad} (T : Txt P K mg A) : FnOk P w K mg base (L2.CX P w) 8 A.f_find_map A.d_find_map ["first", "second", "limit"] (sp_find_map K A) := by
  have G__first_map := ok__first_map (P := P) (w := w) (base := base) T
  refine T.F_find_map.okX sc_find_map len_find_map (fun cdv Ar outer s H vs Q E hr h => ?_)
  have hu := hu_of hr
  obtain ⟨b, c, ra, rc, D, D', lim, rfl, B, B', vN, vM, ru4, n1, n7, l6, q0, q1, q2⟩ := h
  refine ⟨_, (pss_one (ps_ret (pe_call G__first_map hr (by rfl) T.G__first_map T.F__first_map.kp T.B__first_map .nil (passes_call (takes_of rfl rfl rfl rfl) fun _ _ _ _ h => h) (pa_cons (pv 0) (pa_cons (pv 1) (pa_cons (pv 2) (pa_cons pe_bl pa_nil))))))), ?_⟩
  exact ⟨_, rfl, _, rfl, _, rfl, b, c, ra, rc, false, D, D', lim, rfl, B, B', vN, vM, ru4, n1, n7, l6, q0, q1, q2⟩
end

def sp__demand (K : PySem.W.Frag) (A : Ad) : Sp := fun vs H Q E => ∃ (b : Bool) (why : Str), vs = [.bl b, .str why] ∧ (b = true → Q .non H) ∧ (b = false → E (.ref A.c_InvalidRulebook) none H)
theorem len__demand {K : PySem.W.Frag} {A : Ad} (vs : List V) (H : Hp) (Q : VK) (E : XK) (h : sp__demand K A vs H Q E) : vs.length = ["holds", "why"].length := by
  obtain ⟨a, b, rfl, _⟩ := h
  rfl

section
variable {P : Program} {w : World} {K : PySem.W.Frag} {mg : Str → Option Value} {base : Heap}
set_option maxHeartbeats 4000000 in
theorem ok__demand {A : Ad} (T : Txt P K mg A) : FnOk P w K mg base (L2.CX P w) 1 A.f__demand A.d__demand ["holds", "why"] (sp__demand K A) := by
  refine T.F__demand.okX sc__demand len__demand (fun cdv Ar outer s H vs Q E hr h => ?_)
  have hu := hu_of hr
  obtain ⟨b, why, rfl, q1, q2⟩ := h
  refine ⟨_, (pss_one (ps_if (pt_not (pt_val (pv 0))) (pss_one (ps_raise rfl (takes_of rfl rfl rfl rfl) (SkE.pmk_own1 PySem.F.excBase_ValueError T.x_InvalidRulebook T.G_InvalidRulebook T.k_InvalidRulebook (raises_own T.b_InvalidRulebook T.t_InvalidRulebook) (by rfl) (pv 1)))) pss_nil)), ?_⟩
  refine ⟨_, rfl, b, rfl, ?_⟩
  cases b with
  | true => exact iteF (q1 rfl)
  | false => exact iteT ⟨_, rfl, q2 rfl⟩
end

def sp_Draft___init__ (K : PySem.W.Frag) (A : Ad) : Sp := fun vs H Q _ => ∃ (p dx : Addr), vs = [.ref p] ∧ H p = some (.ins A.c_Draft dx []) ∧
  ∀ (a : Vf.DA) (H' : Hp), Vf.DraftAt A.c_Draft H' p a Vf.DD.nil → (∀ b ∈ a.foot, H b = none) → (∀ b o, H b = some o → b ≠ p → H' b = some o) → Q .non H'
theorem len_Draft___init__ {K : PySem.W.Frag} {A : Ad} (vs : List V) (H : Hp) (Q : VK) (E : XK) (h : sp_Draft___init__ K A vs H Q E) : vs.length = ["self"].length := by
  obtain ⟨a, b, rfl, _⟩ := h
  rfl

section
variable {P : Program} {w : World} {K : PySem.W.Frag} {mg : Str → Option Value} {base : Heap}
set_option maxHeartbeats 4000000 in
theorem ok_Draft___init__ {A : Ad} (T : Txt P K mg A) : FnOk P w K mg base CX0 1 A.f_Draft___init__ A.d_Draft___init__ ["self"] (sp_Draft___init__ K A) := by
  refine T.F_Draft___init__.ok sc_Draft___init__ len_Draft___init__ (fun cdv Ar outer s H vs Q E hr h => ?_)
  have hu := hu_of hr
  obtain ⟨p, dx, rfl, hp, q⟩ := h
  refine ⟨_, (pss_cons (ps_fld (pv 0) (pe_lst pa_nil) rfl)
      (pss_cons (ps_fld (pv 0) (pe_lst pa_nil) rfl)
      (pss_cons (ps_fld (pv 0) (pe_lst pa_nil) rfl)
      (pss_cons (ps_fld (pv 0) (pe_lst pa_nil) rfl)
      (pss_cons (ps_fld (pv 0) (pe_lst pa_nil) rfl)
      (pss_cons (ps_fld (pv 0) pe_dnewK rfl)
      (pss_one (ps_fld (pv 0) pe_dnewT rfl)))))))), ?_⟩
  refine ⟨(by show 0 ≤ sizeLine; decide), fun ls n1 => ?_⟩
  have p1 : p ≠ ls := ne_of_none hp n1
  refine ⟨_, rfl, p, A.c_Draft, dx, [], rfl, (by rw [upd_ne p1]; exact hp), T.C_Draft, T.A_Draft_states, (by show 0 < 1000; decide), ?_⟩
  refine ⟨(by show 0 ≤ sizeLine; decide), fun li n2 => ?_⟩
  have p2 : p ≠ li := ne_of_none upd_same n2
  refine ⟨_, rfl, p, A.c_Draft, dx, _, rfl, (by rw [upd_ne p2]; exact upd_same), T.C_Draft, T.A_Draft_inputs, (by show 1 < 1000; decide), ?_⟩
  refine ⟨(by show 0 ≤ sizeLine; decide), fun ll n3 => ?_⟩
  have p3 : p ≠ ll := ne_of_none upd_same n3
  refine ⟨_, rfl, p, A.c_Draft, dx, _, rfl, (by rw [upd_ne p3]; exact upd_same), T.C_Draft, T.A_Draft_leaders, (by show 2 < 1000; decide), ?_⟩
  refine ⟨(by show 0 ≤ sizeLine; decide), fun lr n4 => ?_⟩
  have p4 : p ≠ lr := ne_of_none upd_same n4
  refine ⟨_, rfl, p, A.c_Draft, dx, _, rfl, (by rw [upd_ne p4]; exact upd_same), T.C_Draft, T.A_Draft_rules, (by show 3 < 1000; decide), ?_⟩
  refine ⟨(by show 0 ≤ sizeLine; decide), fun lo n5 => ?_⟩
  have p5 : p ≠ lo := ne_of_none upd_same n5
  refine ⟨_, rfl, p, A.c_Draft, dx, _, rfl, (by rw [upd_ne p5]; exact upd_same), T.C_Draft, T.A_Draft_outputs, (by show 4 < 1000; decide), ?_⟩
  intro dn n6
  have p6 : p ≠ dn := ne_of_none upd_same n6
  refine ⟨_, rfl, p, A.c_Draft, dx, _, rfl, (by rw [upd_ne p6]; exact upd_same), T.C_Draft, T.A_Draft_numbers, (by show 5 < 1000; decide), ?_⟩
  intro dr n7
  have p7 : p ≠ dr := ne_of_none upd_same n7
  refine ⟨_, rfl, p, A.c_Draft, dx, _, rfl, (by rw [upd_ne p7]; exact upd_same), T.C_Draft, T.A_Draft_results, (by show 6 < 1000; decide), ?_⟩
  have m2 := Vf.upd_none n2
  have k2 := Vf.upd_none m2.2
  have m3 := Vf.upd_none n3
  have k3 := Vf.upd_none m3.2
  have l3 := Vf.upd_none k3.2
  have j3 := Vf.upd_none l3.2
  have m4 := Vf.upd_none n4
  have k4 := Vf.upd_none m4.2
  have l4 := Vf.upd_none k4.2
  have j4 := Vf.upd_none l4.2
  have i4 := Vf.upd_none j4.2
  have h4 := Vf.upd_none i4.2
  have m5 := Vf.upd_none n5
  have k5 := Vf.upd_none m5.2
  have l5 := Vf.upd_none k5.2
  have j5 := Vf.upd_none l5.2
  have i5 := Vf.upd_none j5.2
  have h5 := Vf.upd_none i5.2
  have g5 := Vf.upd_none h5.2
  have f5 := Vf.upd_none g5.2
  have m6 := Vf.upd_none n6
  have k6 := Vf.upd_none m6.2
  have l6 := Vf.upd_none k6.2
  have j6 := Vf.upd_none l6.2
  have i6 := Vf.upd_none j6.2
  have h6 := Vf.upd_none i6.2
  have g6 := Vf.upd_none h6.2
  have f6 := Vf.upd_none g6.2
  have e6 := Vf.upd_none f6.2
  have d6 := Vf.upd_none e6.2
  have m7 := Vf.upd_none n7
  have k7 := Vf.upd_none m7.2
  have l7 := Vf.upd_none k7.2
  have j7 := Vf.upd_none l7.2
  have i7 := Vf.upd_none j7.2
  have h7 := Vf.upd_none i7.2
  have g7 := Vf.upd_none h7.2
  have f7 := Vf.upd_none g7.2
  have e7 := Vf.upd_none f7.2
  have d7 := Vf.upd_none e7.2
  have c7 := Vf.upd_none d7.2
  have b7 := Vf.upd_none c7.2
  obtain ⟨q21, q22⟩ := k2
  obtain ⟨q31, q32⟩ := k3
  obtain ⟨q33, q34⟩ := j3
  obtain ⟨q41, q42⟩ := k4
  obtain ⟨q43, q44⟩ := j4
  obtain ⟨q45, q46⟩ := h4
  obtain ⟨q51, q52⟩ := k5
  obtain ⟨q53, q54⟩ := j5
  obtain ⟨q55, q56⟩ := h5
  obtain ⟨q57, q58⟩ := f5
  obtain ⟨q61, q62⟩ := k6
  obtain ⟨q63, q64⟩ := j6
  obtain ⟨q65, q66⟩ := h6
  obtain ⟨q67, q68⟩ := f6
  obtain ⟨q69, q60⟩ := d6
  obtain ⟨q71, q72⟩ := k7
  obtain ⟨q73, q74⟩ := j7
  obtain ⟨q75, q76⟩ := h7
  obtain ⟨q77, q78⟩ := f7
  obtain ⟨q79, q70⟩ := d7
  obtain ⟨q7a, q7b⟩ := b7
  refine q ⟨ls, li, ll, lr, lo, dn, dr⟩ _ ⟨⟨dx, ?_⟩, ?_, ⟨[], ?_, Vf.Tups.nil⟩, ?_, ⟨[], ?_, Vf.Tups.nil⟩, ?_, ?_, ⟨[], ?_, ⟨rfl, Vf.Tups.nil⟩⟩, ?_⟩ ?_ ?_
  · exact upd_same
  · walk_at "hp"
  · walk_at "hp"
  · walk_at "hp"
  · walk_at "hp"
  · walk_at "hp"
  · walk_at "hp"
  · walk_at "hp"
  · simp only [List.nodup_cons, List.mem_cons, List.not_mem_nil, or_false, not_or, not_false_eq_true, List.nodup_nil, and_true]
    refine ⟨⟨Ne.symm ?_, Ne.symm ?_, Ne.symm ?_, Ne.symm ?_⟩, ⟨Ne.symm ?_, Ne.symm ?_, Ne.symm ?_⟩, ⟨Ne.symm ?_, Ne.symm ?_⟩, Ne.symm ?_⟩ <;> assumption
  · intro b hb
    simp only [Vf.DA.foot, List.mem_cons, List.not_mem_nil, or_false] at hb
    rcases hb with rfl | rfl | rfl | rfl | rfl | rfl | rfl <;> assumption
  · intro b o e hb
    have u1 := ne_of_none e n1
    have u2 := ne_of_none e q22
    have u3 := ne_of_none e q34
    have u4 := ne_of_none e q46
    have u5 := ne_of_none e q58
    have u6 := ne_of_none e q60
    have u7 := ne_of_none e q7b
    walk_at "hp"
end

def sp_is_name (K : PySem.W.Frag) (A : Ad) : Sp := fun vs H Q _ => ∃ (s : Str), vs = [.str s] ∧ s.length ≤ 1000000 ∧ ∀ H', Same H H' → Q (.bl (Vf.isName s)) H'
theorem len_is_name {K : PySem.W.Frag} {A : Ad} (vs : List V) (H : Hp) (Q : VK) (E : XK) (h : sp_is_name K A vs H Q E) : vs.length = ["name"].length := by
  obtain ⟨a, rfl, _⟩ := h
  rfl

section
variable {P : Program} {w : World} {K : PySem.W.Frag} {mg : Str → Option Value} {base : Heap}
set_option maxHeartbeats 4000000 in
theorem ok_is_name {A : Ad} (T : Txt P K mg A) : FnOk P w K mg base CX0 1 A.f_is_name A.d_is_name ["name"] (sp_is_name K A) := by
  obtain ⟨_, v_DIGITS⟩ := T.V_DIGITS
  obtain ⟨_, v_LETTERS⟩ := T.V_LETTERS
  obtain ⟨_, v_LONGEST_NAME⟩ := T.V_LONGEST_NAME
  refine T.F_is_name.ok sc_is_name len_is_name (fun cdv Ar outer s H vs Q E hr h => ?_)
  have hu := hu_of hr
  obtain ⟨z, rfl, hz, q⟩ := h
  refine ⟨_, (pss_cons (ps_if (pt_not (pt_chain op_le op_le pe_int (pe_callB call_len_str (by rfl) T.N_len PySem.boot_len (pa_cons (pv 0) pa_nil)) (pe_glob (v := .int 12) rfl v_LONGEST_NAME ⟨_, rfl⟩))) (pss_one (ps_ret pe_bl)) pss_nil)
      (pss_one (ps_ret (pe_and (pe_cmpR op_inS (pe_ix ix_str (pv 0) pe_int (fun _ _ => rfl)) (pe_glob (v := .str "abcdefghijklmnopqrstuvwxyz") rfl v_LETTERS ⟨_, rfl⟩) (by rfl)) (pe_one (pe_callB (cr_all rfl) (by rfl) T.N_all (by decide +kernel) (pa_cons (pe_lc (own := [("sign", 1)]) (g := (gName 1)) (tt := tYes) rfl sc_is_name.nd (pi_str (pv 0)) (blkOk_by (N := ["name", "sign"]) (sc := defScope s_is_name) (by decide +kernel)) (fun _ _ _ _ _ => (pg_name (i := 1) sc_is_name.nd rfl (Or.inl rfl))) (fun _ _ _ _ _ => pts_nil) (fun _ _ _ _ _ => (pe_or (pe_cmpR op_inS (pv 1) (pe_glob (v := .str "abcdefghijklmnopqrstuvwxyz") rfl v_LETTERS ⟨_, rfl⟩) (by rfl)) (pe_one (pe_cmpR op_inS (pv 1) (pe_glob (v := .str "0123456789") rfl v_DIGITS ⟨_, rfl⟩) (by rfl)))))) pa_nil))))))), ?_⟩
  have hzl : z.length ≤ sizeLine := Vf.fits hz (by decide)
  have hsz : z.cps.size = z.cps.toList.length := by simp
  have hlen : z.length = z.cps.toList.length := hsz
  refine Vf.st_if (b := !(decide ((1 : Int) ≤ (z.length : Int)) && decide ((z.length : Int) ≤ 12))) (ans_not fun R r => ⟨_, rfl, z, rfl, hzl, _, _, rfl, rfl, _, rfl, ?_⟩) (fun hb => ?_) (fun hb => ?_)
  · by_cases h1 : (1 : Int) ≤ (z.length : Int)
    · rw [decide_eq_true h1] at r ⊢
      refine iteT ⟨_, _, rfl, rfl, _, rfl, ?_⟩
      simpa using r
    · rw [decide_eq_false h1] at r ⊢
      exact iteF ⟨_, rfl, r⟩
  · rw [hlen] at hb
    have e : Vf.isName z = false := Vf.isNameL_bad hb
    exact e ▸ q H (Same.refl H)
  · rw [hlen] at hb
    obtain ⟨c, r, hc, ei⟩ := Vf.isNameL_ok hb
    have ei : Vf.isName z = (Vf.lowC c && z.cps.toList.all fun c => Vf.lowC c || Vf.digC c) := ei
    refine ⟨_, rfl, z, 0, c, rfl, rfl, hzl, atI_nat (j := 0) (by rw [hc]; rfl), c, _, rfl, rfl, _, rfl, ?_⟩
    rw [show decide (c ∈ (Str.ofString "abcdefghijklmnopqrstuvwxyz").cps.toList) = Vf.lowC c from Vf.in_letters c]
    refine Vf.ite_b (fun hl => ?_) (fun hl => ?_)
    · refine ⟨_, rfl, z, rfl, fun D hD => ?_⟩
      refine Vf.lc_val (walk_str (z := z)) (fun i => .bl (Vf.lowC (z.cps.toList.getD i 0) || Vf.digC (z.cps.toList.getD i 0))) hD (by omega) (fun _ _ => trivial) ?_ ?_
      · rintro i x H1 H2 hi s1 ⟨rfl, c', hc', rfl⟩ Q' q'
        have ec : z.cps.toList.getD i 0 = c' := by
          rw [List.getD_eq_getElem?_getD, Array.getElem?_toList, hc']
          rfl
        rw [ec] at q'
        refine ⟨rfl, _, rfl, c', _, rfl, rfl, _, rfl, ?_⟩
        rw [show decide (c' ∈ (Str.ofString "abcdefghijklmnopqrstuvwxyz").cps.toList) = Vf.lowC c' from Vf.in_letters c']
        refine Vf.ite_b (fun h1 => ?_) (fun h1 => ?_)
        · rw [h1] at q'
          exact q' _ (Same.refl _)
        · refine ⟨_, rfl, c', _, rfl, rfl, ?_⟩
          rw [show decide (c' ∈ (Str.ofString "0123456789").cps.toList) = Vf.digC c' from Vf.in_digits c']
          rw [h1] at q'
          exact q' _ (Same.refl _)
      · intro H1 s1 hl1
        refine ⟨D, (List.range z.cps.size).map fun i => Vf.lowC (z.cps.toList.getD i 0) || Vf.digC (z.cps.toList.getD i 0), rfl, SqL.of (by rw [hl1, List.map_map]; rfl), ?_⟩
        rw [Vf.name_any _ _ hsz]
        have q2 := q H1 (fun a o e => s1 a o e)
        rw [ei, hl] at q2
        exact q2
    · rw [hl] at ei
      have q2 := q H (Same.refl H)
      rw [ei] at q2
      exact q2
end

def sp_Draft_add_state (K : PySem.W.Frag) (A : Ad) : Sp := fun vs H Q E => ∃ (p : Addr) (a : Vf.DA) (D : Vf.DD) (name : Str) (output : Int), vs = [.ref p, .str name, .int output] ∧ Vf.DraftAt A.c_Draft H p a D ∧ D.ru = [] ∧ D.ou.length = D.st.length ∧ name.length ≤ 1000000 ∧ output.natAbs.log2 < 1920 ∧
  (D.okState name output = true → ∀ H', Vf.DraftAt A.c_Draft H' p a (D.addState name output) → Vf.Keep a.foot H H' → Q .non H') ∧ (D.okState name output = false → ∀ H', Same H H' → E (.ref A.c_InvalidRulebook) none H')
theorem len_Draft_add_state {K : PySem.W.Frag} {A : Ad} (vs : List V) (H : Hp) (Q : VK) (E : XK) (h : sp_Draft_add_state K A vs H Q E) : vs.length = ["self", "name", "output"].length := by
  obtain ⟨a, b, c, d, e, rfl, _⟩ := h
  rfl

section
variable {P : Program} {w : World} {K : PySem.W.Frag} {mg : Str → Option Value} {base : Heap}
set_option maxHeartbeats 4000000 in
theorem ok_Draft_add_state {A : Ad} (T : Txt P K mg A) : FnOk P w K mg base (L2.CX P w) 2 A.f_Draft_add_state A.d_Draft_add_state ["self", "name", "output"] (sp_Draft_add_state K A) := by
  have G__demand := ok__demand (P := P) (w := w) (base := base) T
  have G_is_name := ok_is_name (P := P) (w := w) (base := base) T
  obtain ⟨_, v_GREATEST_OUTPUT⟩ := T.V_GREATEST_OUTPUT
  obtain ⟨_, v_MOST_STATES⟩ := T.V_MOST_STATES
  refine T.F_Draft_add_state.okX sc_Draft_add_state len_Draft_add_state (fun cdv Ar outer s H vs Q E hr h => ?_)
  have hu := hu_of hr
  obtain ⟨p, a, D, name, output, rfl, S, hru, hou, hn, ho, q1, q2⟩ := h
  obtain ⟨dx, h0⟩ := S.ob
  refine ⟨_, (pss_cons (ps_expr (pe_call G__demand hr (by rfl) T.G__demand T.F__demand.kp T.B__demand .nil (passes_call (takes_of rfl rfl rfl rfl) fun _ _ _ _ h => h) (pa_cons (pe_cmpR op_lt (pe_callB call_len_seq (by rfl) T.N_len PySem.boot_len (pa_cons (pe_fld (pv 0) (by rfl)) pa_nil)) (pe_glob (v := .int 400) rfl v_MOST_STATES ⟨_, rfl⟩) (nomark _)) (pa_cons (Vf.pe_join (.cons pe_str (.cons (pe_fmt (pe_glob (v := .int 400) rfl v_MOST_STATES ⟨_, rfl⟩)) (.cons pe_str .nil)))) pa_nil))))
      (pss_cons (ps_expr (pe_call G__demand hr (by rfl) T.G__demand T.F__demand.kp T.B__demand .nil (passes_call (takes_of rfl rfl rfl rfl) fun _ _ _ _ h => h) (pa_cons (pe_call G_is_name hr (by rfl) T.G_is_name T.F_is_name.kp T.B_is_name .nil pass0 (pa_cons (pv 1) pa_nil)) (pa_cons (Vf.pe_join (.cons (pe_fmt (pv 1)) (.cons pe_str .nil))) pa_nil))))
      (pss_cons (ps_expr (pe_call G__demand hr (by rfl) T.G__demand T.F__demand.kp T.B__demand .nil (passes_call (takes_of rfl rfl rfl rfl) fun _ _ _ _ h => h) (pa_cons (pe_cmp (pc_dnotin hu (pv 1) (pe_fld (pv 0) (by rfl)))) (pa_cons (Vf.pe_join (.cons pe_str (.cons (pe_fmt (pv 1)) (.cons pe_str .nil)))) pa_nil))))
      (pss_cons (ps_expr (pe_call G__demand hr (by rfl) T.G__demand T.F__demand.kp T.B__demand .nil (passes_call (takes_of rfl rfl rfl rfl) fun _ _ _ _ h => h) (pa_cons (pe_chain op_le op_le pe_int (pv 2) (pe_glob (v := .int 9) rfl v_GREATEST_OUTPUT ⟨_, rfl⟩)) (pa_cons (Vf.pe_join (.cons pe_str (.cons (pe_fmt (pv 2)) (.cons pe_str .nil)))) pa_nil))))
      (pss_cons (ps_dput hu (pe_fld (pv 0) (by rfl)) (pv 1) (pe_callB call_len_seq (by rfl) T.N_len PySem.boot_len (pa_cons (pe_fld (pv 0) (by rfl)) pa_nil)) rfl)
      (pss_cons (ps_expr (pe_bm PySem.F.plainAttrs_list PySem.F.slot_list_append PySem.F.type_list_append mt_append (pe_fld (pv 0) (by rfl)) (pa_cons (pv 1) pa_nil)))
      (pss_one (ps_expr (pe_bm PySem.F.plainAttrs_list PySem.F.slot_list_append PySem.F.type_list_append mt_append (pe_fld (pv 0) (by rfl)) (pa_cons (pv 2) pa_nil)))))))))), ?_⟩
  -- there is room
  refine ⟨_, rfl, p, A.c_Draft, dx, _, _, rfl, h0, T.C_Draft, T.A_Draft_states, rfl, a.ls, _, rfl, .inl (SqL.of S.ls), _, _, rfl, rfl, ?_⟩
  refine ⟨_, rfl, (by walk_at "fit"), .inr ⟨400, rfl, by decide +kernel, _, rfl, (by walk_at "fit"), _, rfl, (by walk_at "fit"), _, _, rfl, fun c1 => ?_, fun c1 => q2 ?_ H (Same.refl H)⟩⟩
  rotate_left
  · rw [List.length_map] at c1
    have c2 := of_decide_eq_false c1
    unfold Vf.DD.okState
    rw [decide_eq_false (show ¬ D.st.length < 400 by omega)]
    simp
  rw [List.length_map] at c1
  have c1 : D.st.length < 400 := by
    have := of_decide_eq_true c1
    omega
  -- it is a name
  refine ⟨_, rfl, name, rfl, hn, fun H1 s1 => ?_⟩
  have S1 := S.same s1
  refine ⟨_, rfl, .inl ⟨_, rfl, Vf.fits hn (by decide), _, rfl, (by walk_at "fit"), _, rfl, (by walk_at "fit"), _, _, rfl, fun c2 => ?_, fun c2 => q2 ?_ H1 s1⟩⟩
  rotate_left
  · unfold Vf.DD.okState
    rw [c2]
    simp
  -- it is a new one
  refine ⟨_, rfl, _, rfl, p, A.c_Draft, dx, _, _, rfl, s1 _ _ h0, T.C_Draft, T.A_Draft_numbers, rfl, a.dn, _, rfl, DGet.k (k := Sum.inr name) S1.dn, ?_⟩
  refine ⟨_, rfl, (by walk_at "fit"), _, rfl, .inl ⟨_, rfl, Vf.fits hn (by decide), _, rfl, (by walk_at "fit"), _, rfl, (by walk_at "fit"), _, _, rfl, fun c3 => ?_, fun c3 => q2 ?_ H1 s1⟩⟩
  rotate_left
  · rw [Vf.num_val] at c3
    by_cases hm : name ∈ D.st
    · unfold Vf.DD.okState
      rw [decide_eq_false (show ¬ name ∉ D.st from fun z => z hm)]
      simp
    · rw [if_neg hm] at c3
      cases c3
  have c3 : name ∉ D.st := fun hm => by
    rw [Vf.num_val, if_pos hm] at c3
    cases c3
  -- the output is in its range
  refine ⟨_, rfl, Vf.chain_le (fun R r => r) ?_⟩
  refine ⟨_, rfl, (by walk_at "fit"), _, rfl, .inr ⟨output, rfl, ho, _, rfl, (by walk_at "fit"), _, rfl, (by walk_at "fit"), _, _, rfl, fun c4 => ?_, fun c4 => q2 ?_ H1 s1⟩⟩
  rotate_left
  · unfold Vf.DD.okState
    rw [c4]
    simp
  have ok : D.okState name output = true := by
    unfold Vf.DD.okState
    rw [decide_eq_true c1, c2, decide_eq_true c3, c4]
    rfl
  have d := S1.dist
  have w1 := S1.ls
  have w2 := S1.lo
  have w3 := S1.dn
  have w0 := s1 _ _ h0
  obtain ⟨d1, d2, d3, d4, d5, d6, d7, d8, d9, d10, d11, d12, d13, d14, d15, d16, d17, d18, d19, d20, d21, d22, d23, d24, d25, d26, d27, d28⟩ := d
  -- the three stores
  refine ⟨_, rfl, p, A.c_Draft, dx, _, _, rfl, w0, T.C_Draft, T.A_Draft_states, rfl, a.ls, _, rfl, .inl (SqL.of w1), _, rfl, p, A.c_Draft, dx, _, _, rfl, w0, T.C_Draft, T.A_Draft_numbers, rfl, _, rfl, a.dn, _, rfl, DPut.k (k := Sum.inr name) w3 (by rw [Vf.numK_len]; exact Nat.lt_of_lt_of_le c1 (by decide)), ?_⟩
  refine ⟨_, rfl, p, A.c_Draft, dx, _, _, rfl, (by walk_at "hp"), T.C_Draft, T.A_Draft_states, rfl, Vf.tyL (a := a.ls) (xs := D.st.map V.str) (by walk_at "hp"), _, rfl, a.ls, D.st.map V.str, _, rfl, rfl, (by walk_at "hp"), (by rw [List.length_map]; exact Nat.lt_of_lt_of_le c1 (by decide)), ?_⟩
  refine ⟨_, rfl, p, A.c_Draft, dx, _, _, rfl, (by walk_at "hp"), T.C_Draft, T.A_Draft_outputs, rfl, Vf.tyL (a := a.lo) (xs := D.ou.map V.int) (by walk_at "hp"), _, rfl, a.lo, D.ou.map V.int, _, rfl, rfl, (by walk_at "hp"), (by rw [List.length_map, hou]; exact Nat.lt_of_lt_of_le c1 (by decide)), ?_⟩
  have e1 : putK (Vf.numK D.st) (Sum.inr name) (V.int ((D.st.map V.str).length : Int)) = Vf.numK (D.st ++ [name]) := by
    rw [Vf.numK_snoc, List.length_map, putK_new _ (by rw [Vf.num_val, if_neg c3])]
  have k : Vf.Keep a.foot H1 (upd (upd (upd H1 a.dn (.dK (putK (Vf.numK D.st) (Sum.inr name) (V.int ((D.st.map V.str).length : Int))))) a.ls (.lst (D.st.map V.str ++ [V.str name]))) a.lo (.lst (D.ou.map V.int ++ [V.int output]))) :=
    (((Vf.Keep.refl H1).put (by simp [Vf.DA.foot])).put (by simp [Vf.DA.foot])).put (by simp [Vf.DA.foot])
  refine q1 ok _ (S1.next k ?_ ?_ ?_ ?_ ?_ ?_ ?_) ((Vf.Keep.of s1).trans k)
  · rw [upd_ne d11, upd_same]
    simp [Vf.DD.addState]
  · exact S1.li' k (by rw [upd_ne d16, upd_ne (Ne.symm d8), upd_ne d17])
  · rw [upd_ne d20, upd_ne (Ne.symm d9), upd_ne d21]
    exact S1.ll
  · exact S1.lr' k (by rw [upd_ne d23, upd_ne (Ne.symm d10), upd_ne d24])
  · rw [upd_same]
    simp [Vf.DD.addState]
  · rw [upd_ne (Ne.symm d26), upd_ne (Ne.symm d12), upd_same, e1]
    rfl
  · obtain ⟨kvs, hk, R⟩ := S1.dr' k (by rw [upd_ne (Ne.symm d27), upd_ne (Ne.symm d13), upd_ne (Ne.symm d28)])
    refine ⟨kvs, hk, ?_⟩
    have hru' : (D.addState name output).ru = [] := hru
    rw [hru] at R
    rw [hru']
    have hk0 : kvs = [] := by
      have := R.keys
      simpa using this
    subst hk0
    exact ⟨rfl, Vf.Tups.nil⟩
end

def sp_Draft__demand_state (K : PySem.W.Frag) (A : Ad) : Sp := fun vs H Q E => ∃ (p : Addr) (a : Vf.DA) (D : Vf.DD) (name : Str), vs = [.ref p, .str name] ∧ Vf.DraftAt A.c_Draft H p a D ∧ name.length ≤ 1000000 ∧
  (name ∈ D.st → Q .non H) ∧ (name ∉ D.st → E (.ref A.c_InvalidRulebook) none H)
theorem len_Draft__demand_state {K : PySem.W.Frag} {A : Ad} (vs : List V) (H : Hp) (Q : VK) (E : XK) (h : sp_Draft__demand_state K A vs H Q E) : vs.length = ["self", "name"].length := by
  obtain ⟨a, b, c, d, rfl, _⟩ := h
  rfl

section
variable {P : Program} {w : World} {K : PySem.W.Frag} {mg : Str → Option Value} {base : Heap}
set_option maxHeartbeats 4000000 in
theorem ok_Draft__demand_state {A : Ad} (T : Txt P K mg A) : FnOk P w K mg base (L2.CX P w) 2 A.f_Draft__demand_state A.d_Draft__demand_state ["self", "name"] (sp_Draft__demand_state K A) := by
  have G__demand := ok__demand (P := P) (w := w) (base := base) T
  refine T.F_Draft__demand_state.okX sc_Draft__demand_state len_Draft__demand_state (fun cdv Ar outer s H vs Q E hr h => ?_)
  have hu := hu_of hr
  obtain ⟨p, a, D, name, rfl, S, hn, q1, q2⟩ := h
  obtain ⟨dx, h0⟩ := S.ob
  refine ⟨_, (pss_one (ps_expr (pe_call G__demand hr (by rfl) T.G__demand T.F__demand.kp T.B__demand .nil (passes_call (takes_of rfl rfl rfl rfl) fun _ _ _ _ h => h) (pa_cons (pe_cmp (pc_din hu (pv 1) (pe_fld (pv 0) (by rfl)))) (pa_cons (Vf.pe_join (.cons pe_str (.cons (pe_fmt (pv 1)) .nil))) pa_nil))))), ?_⟩
  refine ⟨_, rfl, _, rfl, p, A.c_Draft, dx, _, _, rfl, h0, T.C_Draft, T.A_Draft_numbers, rfl, a.dn, _, rfl, DGet.k (k := Sum.inr name) S.dn, ?_⟩
  refine ⟨_, rfl, (by walk_at "fit"), _, rfl, .inl ⟨_, rfl, Vf.fits hn (by decide), _, rfl, (by walk_at "fit"), _, _, rfl, ?_, ?_⟩⟩
  · intro hb
    refine q1 ?_
    rw [Vf.num_val] at hb
    by_cases hm : name ∈ D.st
    · exact hm
    · rw [if_neg hm] at hb
      cases hb
  · intro hb
    refine q2 fun hm => ?_
    rw [Vf.num_val, if_pos hm] at hb
    cases hb
end

def sp_Draft_add_input (K : PySem.W.Frag) (A : Ad) : Sp := fun vs H Q E => ∃ (p : Addr) (a : Vf.DA) (D : Vf.DD) (t : Addr) (pr : Str × Str), vs = [.ref p, .ref t] ∧ Vf.DraftAt A.c_Draft H p a D ∧ H t = some (.tup (Vf.enc2 pr)) ∧ pr.1.length ≤ 1000000 ∧ pr.2.length ≤ 1000000 ∧
  (D.okInput pr = true → ∀ H', Vf.DraftAt A.c_Draft H' p a (D.addInput pr) → Vf.Keep a.foot H H' → Q .non H') ∧ (D.okInput pr = false → ∀ H', Same H H' → E (.ref A.c_InvalidRulebook) none H')
theorem len_Draft_add_input {K : PySem.W.Frag} {A : Ad} (vs : List V) (H : Hp) (Q : VK) (E : XK) (h : sp_Draft_add_input K A vs H Q E) : vs.length = ["self", "pair"].length := by
  obtain ⟨a, b, c, d, e, rfl, _⟩ := h
  rfl

section
variable {P : Program} {w : World} {K : PySem.W.Frag} {mg : Str → Option Value} {base : Heap}
set_option maxHeartbeats 4000000 in
theorem ok_Draft_add_input {A : Ad} (T : Txt P K mg A) : FnOk P w K mg base (L2.CX P w) 3 A.f_Draft_add_input A.d_Draft_add_input ["self", "pair"] (sp_Draft_add_input K A) := by
  have G__demand := ok__demand (P := P) (w := w) (base := base) T
  have G_is_name := ok_is_name (P := P) (w := w) (base := base) T
  have G_Draft__demand_state := ok_Draft__demand_state (P := P) (w := w) (base := base) T
  obtain ⟨_, v_MOST_INPUTS⟩ := T.V_MOST_INPUTS
  refine T.F_Draft_add_input.okX sc_Draft_add_input len_Draft_add_input (fun cdv Ar outer s H vs Q E hr h => ?_)
  have hu := hu_of hr
  obtain ⟨p, a, D, t, ⟨name, state⟩, rfl, S, ht, hn, hs, q1, q2⟩ := h
  obtain ⟨dx, h0⟩ := S.ob
  obtain ⟨xs, hx, tx⟩ := S.li
  refine ⟨_, (pss_cons (ps_expr (pe_call G__demand (hr.mono (by decide)) (by rfl) T.G__demand T.F__demand.kp T.B__demand .nil (passes_call (takes_of rfl rfl rfl rfl) fun _ _ _ _ h => h) (pa_cons (pe_cmpR op_lt (pe_callB call_len_seq (by rfl) T.N_len PySem.boot_len (pa_cons (pe_fld (pv 0) (by rfl)) pa_nil)) (pe_glob (v := .int 8) rfl v_MOST_INPUTS ⟨_, rfl⟩) (nomark _)) (pa_cons (Vf.pe_join (.cons pe_str (.cons (pe_fmt (pe_glob (v := .int 8) rfl v_MOST_INPUTS ⟨_, rfl⟩)) (.cons pe_str .nil)))) pa_nil))))
      (pss_cons (ps_expr (pe_call G__demand (hr.mono (by decide)) (by rfl) T.G__demand T.F__demand.kp T.B__demand .nil (passes_call (takes_of rfl rfl rfl rfl) fun _ _ _ _ h => h) (pa_cons (pe_cmpR op_eq (pe_callB call_len_seq (by rfl) T.N_len PySem.boot_len (pa_cons (pv 1) pa_nil)) pe_int (nomark _)) (pa_cons pe_str pa_nil))))
      (pss_cons (ps_asg (pv 1) (pg_tup (by rfl) (pgs_cons (pg_name (i := 2) sc_Draft_add_input.nd rfl (Or.inl rfl)) (pgs_cons (pg_name (i := 3) sc_Draft_add_input.nd rfl (Or.inl rfl)) pgs_nil))))
      (pss_cons (ps_expr (pe_call G__demand (hr.mono (by decide)) (by rfl) T.G__demand T.F__demand.kp T.B__demand .nil (passes_call (takes_of rfl rfl rfl rfl) fun _ _ _ _ h => h) (pa_cons (pe_call G_is_name (hr.mono (by decide)) (by rfl) T.G_is_name T.F_is_name.kp T.B_is_name .nil pass0 (pa_cons (pv 2) pa_nil)) (pa_cons (Vf.pe_join (.cons (pe_fmt (pv 2)) (.cons pe_str .nil))) pa_nil))))
      (pss_cons (ps_expr (pe_call G__demand (hr.mono (by decide)) (by rfl) T.G__demand T.F__demand.kp T.B__demand .nil (passes_call (takes_of rfl rfl rfl rfl) fun _ _ _ _ h => h) (pa_cons (pe_cmpR op_notIn_seq (pv 2) (pe_lc (own := [("known", 4), ("_", 5)]) (g := (gTup K 2 (gCons (gName 4) (gCons (gName 5) gNil)))) (tt := tYes) rfl sc_Draft_add_input.nd (pi_list (pe_fld (pv 0) (by rfl))) (blkOk_by (N := ["self", "pair", "name", "state", "known", "_"]) (sc := defScope s_Draft_add_input) (by decide +kernel)) (fun _ _ _ _ _ => (pg_tup (by rfl) (pgs_cons (pg_name (i := 4) sc_Draft_add_input.nd rfl (Or.inl rfl)) (pgs_cons (pg_name (i := 5) sc_Draft_add_input.nd rfl (Or.inl rfl)) pgs_nil)))) (fun _ _ _ _ _ => pts_nil) (fun _ _ _ _ _ => (pv 4))) (by rfl)) (pa_cons (Vf.pe_join (.cons pe_str (.cons (pe_fmt (pv 2)) (.cons pe_str .nil)))) pa_nil))))
      (pss_cons (ps_expr (pe_meth (pv 0) T.C_Draft T.M_Draft__demand_state G_Draft__demand_state hr T.B_Draft__demand_state .nil (passes_call (takes_of rfl rfl rfl rfl) fun _ _ _ _ h => h) (pa_cons (pv 3) pa_nil)))
      (pss_one (ps_expr (pe_bm PySem.F.plainAttrs_list PySem.F.slot_list_append PySem.F.type_list_append mt_append (pe_fld (pv 0) (by rfl)) (pa_cons (pe_tup (pa_cons (pv 2) (pa_cons (pv 3) pa_nil))) pa_nil)))))))))), ?_⟩
  refine ⟨_, rfl, p, A.c_Draft, dx, _, _, rfl, h0, T.C_Draft, T.A_Draft_inputs, rfl, a.li, _, rfl, .inl (SqL.of hx), _, _, rfl, rfl, ?_⟩
  refine ⟨_, rfl, (by walk_at "fit"), .inr ⟨8, rfl, by decide +kernel, _, rfl, (by walk_at "fit"), _, rfl, (by walk_at "fit"), _, _, rfl, fun c1 => ?_, fun c1 => q2 ?_ H (Same.refl H)⟩⟩
  rotate_left
  · rw [tx.1] at c1
    have c2 := of_decide_eq_false c1
    unfold Vf.DD.okInput
    rw [decide_eq_false (show ¬ D.ins.length < 8 by omega)]
    simp
  rw [tx.1] at c1
  have c1 : D.ins.length < 8 := by
    have := of_decide_eq_true c1
    omega
  -- a pair
  refine ⟨_, rfl, t, _, rfl, .inr (SqT.of ht), rfl, _, _, rfl, fun _ => ?_, fun c => (by cases c)⟩
  refine ⟨_, rfl, t, _, rfl, SqT.of ht, rfl, _, _, rfl, _, _, rfl, rfl, ?_⟩
  -- a name
  refine ⟨_, rfl, name, rfl, hn, fun H1 s1 => ?_⟩
  refine ⟨_, rfl, .inl ⟨_, rfl, Vf.fits hn (by decide), _, rfl, (by walk_at "fit"), _, rfl, (by walk_at "fit"), _, _, rfl, fun c2 => ?_, fun c2 => q2 ?_ H1 s1⟩⟩
  rotate_left
  · unfold Vf.DD.okInput
    rw [c2]
    simp
  -- a new one
  refine ⟨_, rfl, _, rfl, p, A.c_Draft, dx, _, .ref a.li, rfl, s1 _ _ h0, T.C_Draft, T.A_Draft_inputs, rfl, a.li, rfl, ⟨_, SqL.of (s1 _ _ hx)⟩, fun L hL => ?_⟩
  refine Vf.lc_val (walk_list (K := K) (a := a.li) (xs := xs)) (fun i => .str ((D.ins.map (·.1)).getD i Str.empty)) hL (by rw [tx.1]; omega) (fun H2 s2 => SqL.of (s2 _ _ (s1 _ _ hx))) ?_ ?_
  · rintro i x H2 H3 hi s2 ⟨rfl, hxi⟩ Q' q'
    obtain ⟨pr, u, e1, rfl, hu1⟩ := tx.get hxi
    refine ⟨u, _, rfl, SqT.of (s2 _ _ (s1 _ _ hu1)), rfl, _, _, rfl, _, _, rfl, rfl, rfl, _, rfl, ?_⟩
    have e : (D.ins.map (·.1)).getD i Str.empty = pr.1 := by
      rw [List.getD_eq_getElem?_getD, List.getElem?_map, e1]
      rfl
    rw [e] at q'
    exact q' H3 (Same.refl H3)
  intro H2 s2 hL2
  rw [Vf.range_map (D.ins.map (·.1)) V.str Str.empty xs.length (by rw [tx.1, List.length_map])] at hL2
  refine ⟨L, _, rfl, .inl (SqL.of hL2), rfl, Vf.flat_str _, ?_⟩
  rw [Vf.inV_str]
  have s12 : Same H H2 := s1.trans s2
  refine ⟨_, rfl, (by walk_at "fit"), _, rfl, .inl ⟨_, rfl, Vf.fits hn (by decide), _, rfl, (by walk_at "fit"), _, rfl, (by walk_at "fit"), _, _, rfl, fun c3 => ?_, fun c3 => q2 ?_ H2 s12⟩⟩
  rotate_left
  · have hm : name ∈ D.ins.map (·.1) := by
      rw [if_pos rfl, Bool.not_eq_false'] at c3
      exact of_decide_eq_true c3
    unfold Vf.DD.okInput
    rw [decide_eq_false (fun z : name ∉ D.ins.map (·.1) => z hm)]
    simp
  have c3 : name ∉ D.ins.map (·.1) := by
    rw [if_pos rfl, Bool.not_eq_true'] at c3
    exact of_decide_eq_false c3
  have S2 := S.same s12
  -- its state is there
  refine ⟨_, rfl, p, dx, _, rfl, s12 _ _ h0, rfl, _, rfl, p, a, D, state, rfl, S2, hs, fun c4 => ?_, fun c4 => q2 ?_ H2 s12⟩
  rotate_left
  · unfold Vf.DD.okInput
    rw [decide_eq_false c4]
    simp
  have ok : D.okInput (name, state) = true := by
    unfold Vf.DD.okInput
    rw [decide_eq_true c1, c2, decide_eq_true c3, decide_eq_true c4]
    rfl
  obtain ⟨d1, d2, d3, d4, d5, d6, d7, d8, d9, d10, d11, d12, d13, d14, d15, d16, d17, d18, d19, d20, d21, d22, d23, d24, d25, d26, d27, d28⟩ := S.dist
  have w1 := s12 _ _ hx
  refine ⟨_, rfl, p, A.c_Draft, dx, _, _, rfl, s12 _ _ h0, T.C_Draft, T.A_Draft_inputs, rfl, Vf.tyL (a := a.li) (xs := xs) w1, _, rfl, _, rfl, (by show 2 ≤ sizeLine; decide), fun u hu2 => ?_⟩
  have nu : a.li ≠ u := ne_of_none w1 hu2
  refine ⟨a.li, xs, _, rfl, rfl, (by rw [upd_ne nu]; exact w1), (by rw [tx.1]; exact Nat.lt_of_lt_of_le c1 (by decide)), ?_⟩
  have s3 : Same H2 (upd H2 u (.tup [.str name, .str state])) := Vf.Same.new (Same.refl H2) hu2
  have k : Vf.Keep a.foot H2 (upd (upd H2 u (.tup [.str name, .str state])) a.li (.lst (xs ++ [.ref u]))) := (Vf.Keep.of s3).put (by simp [Vf.DA.foot])
  have w0 := S2.ls
  have w2 := S2.ll
  have w3 := S2.lo
  have w4 := S2.dn
  obtain ⟨y1, w5, _⟩ := S2.lr
  obtain ⟨y2, w6, _⟩ := S2.dr
  refine q1 ok _ (S2.next k ?_ ⟨xs ++ [.ref u], upd_same, ?_⟩ ?_ ?_ ?_ ?_ ?_) ((Vf.Keep.of s12).trans k)
  · rw [upd_ne d8, upd_ne (ne_of_none w0 hu2)]
    exact w0
  · refine (((tx.same s12).same s3).keep (S := [a.li]) ((Vf.Keep.refl _).put (by simp)) fun v ys hv m => ?_).snoc (t := u) (a := (name, state)) ?_
    · rw [List.mem_singleton] at m
      subst m
      rw [s3 _ _ w1] at hv
      cases hv
    · rw [upd_ne (Ne.symm nu), upd_same]
      rfl
  · rw [upd_ne (Ne.symm d14), upd_ne (ne_of_none w2 hu2)]
    exact w2
  · exact S2.lr' k (by rw [upd_ne (Ne.symm d15), upd_ne (ne_of_none w5 hu2)])
  · rw [upd_ne (Ne.symm d16), upd_ne (ne_of_none w3 hu2)]
    exact w3
  · rw [upd_ne (Ne.symm d17), upd_ne (ne_of_none w4 hu2)]
    exact w4
  · exact S2.dr' k (by rw [upd_ne (Ne.symm d18), upd_ne (ne_of_none w6 hu2)])
end

def sp_Draft_add_leader (K : PySem.W.Frag) (A : Ad) : Sp := fun vs H Q E => ∃ (p : Addr) (a : Vf.DA) (D : Vf.DD) (name : Str), vs = [.ref p, .str name] ∧ Vf.DraftAt A.c_Draft H p a D ∧ name.length ≤ 1000000 ∧
  (D.okLeader name = true → ∀ H', Vf.DraftAt A.c_Draft H' p a (D.addLeader name) → Vf.Keep a.foot H H' → Q .non H') ∧ (D.okLeader name = false → ∀ H', Same H H' → E (.ref A.c_InvalidRulebook) none H')
theorem len_Draft_add_leader {K : PySem.W.Frag} {A : Ad} (vs : List V) (H : Hp) (Q : VK) (E : XK) (h : sp_Draft_add_leader K A vs H Q E) : vs.length = ["self", "state"].length := by
  obtain ⟨a, b, c, d, rfl, _⟩ := h
  rfl

section
variable {P : Program} {w : World} {K : PySem.W.Frag} {mg : Str → Option Value} {base : Heap}
set_option maxHeartbeats 4000000 in
theorem ok_Draft_add_leader {A : Ad} (T : Txt P K mg A) : FnOk P w K mg base (L2.CX P w) 3 A.f_Draft_add_leader A.d_Draft_add_leader ["self", "state"] (sp_Draft_add_leader K A) := by
  have G__demand := ok__demand (P := P) (w := w) (base := base) T
  have G_Draft__demand_state := ok_Draft__demand_state (P := P) (w := w) (base := base) T
  obtain ⟨_, v_MOST_LEADERS⟩ := T.V_MOST_LEADERS
  refine T.F_Draft_add_leader.okX sc_Draft_add_leader len_Draft_add_leader (fun cdv Ar outer s H vs Q E hr h => ?_)
  have hu := hu_of hr
  obtain ⟨p, a, D, name, rfl, S, hn, q1, q2⟩ := h
  obtain ⟨dx, h0⟩ := S.ob
  refine ⟨_, (pss_cons (ps_expr (pe_call G__demand (hr.mono (by decide)) (by rfl) T.G__demand T.F__demand.kp T.B__demand .nil (passes_call (takes_of rfl rfl rfl rfl) fun _ _ _ _ h => h) (pa_cons (pe_cmpR op_lt (pe_callB call_len_seq (by rfl) T.N_len PySem.boot_len (pa_cons (pe_fld (pv 0) (by rfl)) pa_nil)) (pe_glob (v := .int 10) rfl v_MOST_LEADERS ⟨_, rfl⟩) (nomark _)) (pa_cons (Vf.pe_join (.cons pe_str (.cons (pe_fmt (pe_glob (v := .int 10) rfl v_MOST_LEADERS ⟨_, rfl⟩)) (.cons pe_str .nil)))) pa_nil))))
      (pss_cons (ps_expr (pe_meth (pv 0) T.C_Draft T.M_Draft__demand_state G_Draft__demand_state hr T.B_Draft__demand_state .nil (passes_call (takes_of rfl rfl rfl rfl) fun _ _ _ _ h => h) (pa_cons (pv 1) pa_nil)))
      (pss_one (ps_expr (pe_bm PySem.F.plainAttrs_list PySem.F.slot_list_append PySem.F.type_list_append mt_append (pe_fld (pv 0) (by rfl)) (pa_cons (pv 1) pa_nil)))))), ?_⟩
  refine ⟨_, rfl, p, A.c_Draft, dx, _, _, rfl, h0, T.C_Draft, T.A_Draft_leaders, rfl, a.ll, _, rfl, .inl (SqL.of S.ll), _, _, rfl, rfl, ?_⟩
  refine ⟨_, rfl, (by walk_at "fit"), .inr ⟨10, rfl, by decide +kernel, _, rfl, (by walk_at "fit"), _, rfl, (by walk_at "fit"), _, _, rfl, fun c1 => ?_, fun c1 => q2 ?_ H (Same.refl H)⟩⟩
  rotate_left
  · rw [List.length_map] at c1
    have c2 := of_decide_eq_false c1
    unfold Vf.DD.okLeader
    rw [decide_eq_false (show ¬ D.ld.length < 10 by omega)]
    simp
  rw [List.length_map] at c1
  have c1 : D.ld.length < 10 := by
    have := of_decide_eq_true c1
    omega
  refine ⟨_, rfl, p, dx, _, rfl, h0, rfl, _, rfl, p, a, D, name, rfl, S, hn, fun c2 => ?_, fun c2 => q2 ?_ H (Same.refl H)⟩
  rotate_left
  · unfold Vf.DD.okLeader
    rw [decide_eq_false c2]
    simp
  have ok : D.okLeader name = true := by
    unfold Vf.DD.okLeader
    rw [decide_eq_true c1, decide_eq_true c2]
    rfl
  have w1 := S.ll
  obtain ⟨d1, d2, d3, d4, d5, d6, d7, d8, d9, d10, d11, d12, d13, d14, d15, d16, d17, d18, d19, d20, d21, d22, d23, d24, d25, d26, d27, d28⟩ := S.dist
  refine ⟨_, rfl, p, A.c_Draft, dx, _, _, rfl, h0, T.C_Draft, T.A_Draft_leaders, rfl, Vf.tyL (a := a.ll) (xs := D.ld.map V.str) w1, _, rfl, a.ll, D.ld.map V.str, _, rfl, rfl, w1, (by rw [List.length_map]; exact Nat.lt_of_lt_of_le c1 (by decide)), ?_⟩
  have k : Vf.Keep a.foot H (upd H a.ll (.lst (D.ld.map V.str ++ [V.str name]))) := (Vf.Keep.refl H).put (by simp [Vf.DA.foot])
  refine q1 ok _ (S.next k ?_ ?_ ?_ ?_ ?_ ?_ ?_) k
  · rw [upd_ne d9]
    exact S.ls
  · exact S.li' k (by rw [upd_ne d14])
  · rw [upd_same]
    simp [Vf.DD.addLeader]
  · exact S.lr' k (by rw [upd_ne (Ne.symm d19)])
  · rw [upd_ne (Ne.symm d20)]
    exact S.lo
  · rw [upd_ne (Ne.symm d21)]
    exact S.dn
  · exact S.dr' k (by rw [upd_ne (Ne.symm d22)])
end

def sp_Draft_add_rule (K : PySem.W.Frag) (A : Ad) : Sp := fun vs H Q E => ∃ (p : Addr) (a : Vf.DA) (D : Vf.DD) (t : Addr) (r : Vf.S4), vs = [.ref p, .ref t] ∧ Vf.DraftAt A.c_Draft H p a D ∧ H t = some (.tup (Vf.enc4 r)) ∧ (∀ x ∈ Vf.r4 r, x.length ≤ 1000000) ∧
  (∀ x ∈ D.ru, x.1 ∈ D.st ∧ x.2.1 ∈ D.st) ∧ D.ru.length ≤ 1000000 ∧
  (D.okRule r = true → ∀ H', Vf.DraftAt A.c_Draft H' p a (D.addRule r) → Vf.Keep a.foot H H' → Q .non H') ∧ (D.okRule r = false → ∀ H', Same H H' → E (.ref A.c_InvalidRulebook) none H')
theorem len_Draft_add_rule {K : PySem.W.Frag} {A : Ad} (vs : List V) (H : Hp) (Q : VK) (E : XK) (h : sp_Draft_add_rule K A vs H Q E) : vs.length = ["self", "rule"].length := by
  obtain ⟨a, b, c, d, e, rfl, _⟩ := h
  rfl
theorem okRule_all {D : Vf.DD} {r : Vf.S4} {i : Nat} {s : Str} (h : (Vf.r4 r)[i]? = some s) (n : s ∉ D.st) : D.okRule r = false := by
  unfold Vf.DD.okRule
  match i, h with
  | 0, h =>
    have e : r.1 = s := Option.some.inj h
    rw [e, decide_eq_false n]
    simp
  | 1, h =>
    have e : r.2.1 = s := Option.some.inj h
    rw [e, decide_eq_false n]
    simp
  | 2, h =>
    have e : r.2.2.1 = s := Option.some.inj h
    rw [e, decide_eq_false n]
    simp
  | 3, h =>
    have e : r.2.2.2 = s := Option.some.inj h
    rw [e, decide_eq_false n]
    simp
  | n + 4, h => simp [Vf.r4] at h
theorem okRule_mem {D : Vf.DD} {r : Vf.S4} (h : ∀ j < 4, ∀ s, (Vf.r4 r)[j]? = some s → s ∈ D.st) : r.1 ∈ D.st ∧ r.2.1 ∈ D.st ∧ r.2.2.1 ∈ D.st ∧ r.2.2.2 ∈ D.st :=
  ⟨h 0 (by decide) _ rfl, h 1 (by decide) _ rfl, h 2 (by decide) _ rfl, h 3 (by decide) _ rfl⟩

section
variable {P : Program} {w : World} {K : PySem.W.Frag} {mg : Str → Option Value} {base : Heap}
set_option maxHeartbeats 4000000 in
theorem ok_Draft_add_rule {A : Ad} (T : Txt P K mg A) : FnOk P w K mg base (L2.CX P w) 3 A.f_Draft_add_rule A.d_Draft_add_rule ["self", "rule"] (sp_Draft_add_rule K A) := by
  have G__demand := ok__demand (P := P) (w := w) (base := base) T
  have G_Draft__demand_state := ok_Draft__demand_state (P := P) (w := w) (base := base) T
  refine T.F_Draft_add_rule.okX sc_Draft_add_rule len_Draft_add_rule (fun cdv Ar outer s H vs Q E hr h => ?_)
  have hu := hu_of hr
  obtain ⟨p, a, D, t, r, rfl, S, ht, hn, hw, hz, q1, q2⟩ := h
  obtain ⟨dx, h0⟩ := S.ob
  obtain ⟨kvs, hk, R⟩ := S.dr
  refine ⟨_, (pss_cons (ps_expr (pe_call G__demand (hr.mono (by decide)) (by rfl) T.G__demand T.F__demand.kp T.B__demand .nil (passes_call (takes_of rfl rfl rfl rfl) fun _ _ _ _ h => h) (pa_cons (pe_cmpR op_eq (pe_callB call_len_seq (by rfl) T.N_len PySem.boot_len (pa_cons (pv 1) pa_nil)) pe_int (nomark _)) (pa_cons pe_str pa_nil))))
      (pss_cons (ps_for (passes_of rfl) rfl (pi_tup (pv 1)) (pg_name (i := 2) sc_Draft_add_rule.nd rfl (Or.inl rfl))
        (pss_one (ps_expr (pe_meth (pv 0) T.C_Draft T.M_Draft__demand_state G_Draft__demand_state hr T.B_Draft__demand_state .nil (passes_call (takes_of rfl rfl rfl rfl) fun _ _ _ _ h => h) (pa_cons (pv 2) pa_nil)))))
      (pss_cons (ps_asg (pe_lc (own := [("state", 2)]) (g := (gName 2)) (tt := tYes) rfl sc_Draft_add_rule.nd (pi_tup (pv 1)) (blkOk_by (N := ["self", "rule", "state", "first", "second", "third", "fourth"]) (sc := defScope s_Draft_add_rule) (by decide +kernel)) (fun _ _ _ _ _ => (pg_name (i := 2) sc_Draft_add_rule.nd rfl (Or.inl rfl))) (fun _ _ _ _ _ => pts_nil) (fun _ _ _ _ _ => (pe_dget (by exact hu) (Vf.pe_fldK (K := K) rfl (pv 0) (by rfl)) (pv 2) (fun _ _ => rfl)))) (pg_unl (by rfl) (pgs_cons (pg_name (i := 3) sc_Draft_add_rule.nd rfl (Or.inl rfl)) (pgs_cons (pg_name (i := 4) sc_Draft_add_rule.nd rfl (Or.inl rfl)) (pgs_cons (pg_name (i := 5) sc_Draft_add_rule.nd rfl (Or.inl rfl)) (pgs_cons (pg_name (i := 6) sc_Draft_add_rule.nd rfl (Or.inl rfl)) pgs_nil))))))
      (pss_cons (ps_expr (pe_call G__demand (hr.mono (by decide)) (by rfl) T.G__demand T.F__demand.kp T.B__demand .nil (passes_call (takes_of rfl rfl rfl rfl) fun _ _ _ _ h => h) (pa_cons (pe_cmp (pc_dnotin hu (pe_tup (pa_cons (pv 3) (pa_cons (pv 4) pa_nil))) (pe_fld (pv 0) (by rfl)))) (pa_cons (Vf.pe_join (.cons pe_str (.cons (pe_fmt (pe_ix ix_tup (pv 1) pe_int (fun _ _ => rfl))) (.cons pe_str (.cons (pe_fmt (pe_ix ix_tup (pv 1) pe_int (fun _ _ => rfl))) .nil))))) pa_nil))))
      (pss_cons (ps_dput hu (pe_fld (pv 0) (by rfl)) (pe_tup (pa_cons (pv 3) (pa_cons (pv 4) pa_nil))) (pe_tup (pa_cons (pv 5) (pa_cons (pv 6) pa_nil))) rfl)
      (pss_one (ps_expr (pe_bm PySem.F.plainAttrs_list PySem.F.slot_list_append PySem.F.type_list_append mt_append (pe_fld (pv 0) (by rfl)) (pa_cons (pe_callTy call_tupleT (by rfl) T.N_tuple (by decide +kernel) (pa_cons (pv 1) pa_nil)) pa_nil))))))))), ?_⟩
  -- four states
  refine ⟨_, rfl, t, _, rfl, .inr (SqT.of ht), rfl, _, _, rfl, fun _ => ?_, fun c => (by cases c)⟩
  -- .. that are there
  refine ⟨_, rfl, t, rfl, ⟨_, SqT.of ht⟩, for_tup (K := K) (a := t) (xs := Vf.enc4 r) (fun i σ H' => H' = H ∧ (∃ v, σ = [some (.ref p), some (.ref t), v, none, none, none, none]) ∧ ∀ j < i, ∀ s, (Vf.r4 r)[j]? = some s → s ∈ D.st)
    ⟨rfl, ⟨none, rfl⟩, fun j hj => absurd hj (Nat.not_lt_zero j)⟩ (fun i σ H' _ ⟨e, _⟩ => by rw [e]; exact SqT.of ht) ?_ ?_⟩
  · rintro i x σ H' hi ⟨rfl, ⟨v, rfl⟩, hin⟩
    rw [Vf.enc4_eq, List.getElem?_map] at hi
    obtain ⟨nm, hnm, rfl⟩ : ∃ nm, (Vf.r4 r)[i]? = some nm ∧ x = V.str nm := by
      cases e : (Vf.r4 r)[i]? with
      | none => rw [e] at hi; cases hi
      | some nm => rw [e] at hi; exact ⟨nm, rfl, (Option.some.inj hi).symm⟩
    refine ⟨_, rfl, p, dx, _, rfl, h0, rfl, _, rfl, p, a, D, nm, rfl, S, hn nm (List.mem_of_getElem? hnm), fun c => ?_, fun c => q2 (okRule_all hnm c) H' (Same.refl H')⟩
    refine ⟨rfl, ⟨_, rfl⟩, fun j hj s hs => ?_⟩
    by_cases e : j = i
    · subst e
      rw [hnm] at hs
      cases hs
      exact c
    · exact hin j (by omega) s hs
  rintro σ H' ⟨rfl, ⟨v, rfl⟩, hin⟩
  obtain ⟨m1, m2, m3, m4⟩ := okRule_mem hin
  -- their numbers
  refine ⟨_, rfl, t, rfl, ⟨_, SqT.of ht⟩, fun L hL => ?_⟩
  refine Vf.lc_val (walk_tup (K := K) (a := t) (xs := Vf.enc4 r)) (fun i => .int (Vf.ix D.st ((Vf.r4 r).getD i Str.empty))) hL (by show 4 ≤ 1000000; decide) (fun H2 s2 => SqT.of (s2 _ _ ht)) ?_ ?_
  · rintro i x H2 H3 hi s2 ⟨rfl, hxi⟩ Q' q'
    rw [Vf.enc4_eq, List.getElem?_map] at hxi
    obtain ⟨nm, hnm, rfl⟩ : ∃ nm, (Vf.r4 r)[i]? = some nm ∧ x = V.str nm := by
      cases e : (Vf.r4 r)[i]? with
      | none => rw [e] at hxi; cases hxi
      | some nm => rw [e] at hxi; exact ⟨nm, rfl, (Option.some.inj hxi).symm⟩
    have hi4 : i < 4 := hi
    refine ⟨rfl, _, rfl, p, A.c_Draft, dx, _, _, rfl, s2 _ _ h0, T.C_Draft, T.A_Draft_numbers, rfl, _, rfl, a.dn, .int (Vf.ix D.st nm), rfl, ?_, ?_⟩
    · rw [← Vf.num_in (hin i hi4 nm hnm)]
      exact DGet.k (k := Sum.inr nm) (s2 _ _ S.dn)
    · have e : (Vf.r4 r).getD i Str.empty = nm := by rw [List.getD_eq_getElem?_getD, hnm]; rfl
      have q2' := q' H3 (Same.refl H3)
      rw [e] at q2'
      exact q2'
  intro H2 s2 hL2
  refine ⟨L, _, rfl, SqL.of hL2, rfl, _, _, rfl, _, _, rfl, _, _, rfl, _, _, rfl, rfl, ?_⟩
  -- the first two don't have a rule
  refine ⟨_, rfl, _, rfl, (by show 2 ≤ sizeLine; decide), fun u hu1 => ?_⟩
  have s3 : Same H' (upd H2 u (.tup [.int (Vf.ix D.st r.1), .int (Vf.ix D.st r.2.1)])) := Vf.Same.new s2 hu1
  refine ⟨_, rfl, p, A.c_Draft, dx, _, _, rfl, s3 _ _ h0, T.C_Draft, T.A_Draft_results, rfl, a.dr, _, rfl, DGet.t (k := Vf.ruKey D.st r) (b := u) (s3 _ _ hk) upd_same, ?_⟩
  rw [Vf.key_none R m1 m2 hw]
  have hz1 : r.1.length ≤ 1000000 := hn r.1 (by simp [Vf.r4])
  have hz2 : r.2.1.length ≤ 1000000 := hn r.2.1 (by simp [Vf.r4])
  refine ⟨_, rfl, (by walk_at "fit"), _, rfl, t, Vf.enc4 r, 0, .str r.1, rfl, rfl, SqT.of (s3 _ _ ht), atI_nat (j := 0) rfl, .inl ⟨_, rfl, Vf.fits hz1 (by decide), _, rfl, (by walk_at "fit"), _, rfl, (by walk_at "fit"), _, rfl, t, Vf.enc4 r, 1, .str r.2.1, rfl, rfl, SqT.of (s3 _ _ ht), atI_nat (j := 1) rfl, .inl ⟨_, rfl, Vf.fits hz2 (by decide), _, rfl, (by walk_at "fit"), _, _, rfl, fun c => ?_, fun c => q2 ?_ _ s3⟩⟩⟩
  rotate_left
  · have c' := of_decide_eq_false c
    unfold Vf.DD.okRule
    rw [decide_eq_false c']
    simp
  have c' := of_decide_eq_true c
  have ok : D.okRule r = true := by
    unfold Vf.DD.okRule
    rw [decide_eq_true m1, decide_eq_true m2, decide_eq_true m3, decide_eq_true m4, decide_eq_true c']
    rfl
  have S3 := S.same s3
  obtain ⟨d1, d2, d3, d4, d5, d6, d7, d8, d9, d10, d11, d12, d13, d14, d15, d16, d17, d18, d19, d20, d21, d22, d23, d24, d25, d26, d27, d28⟩ := S.dist
  -- the two stores
  refine ⟨_, rfl, _, rfl, (by show 2 ≤ sizeLine; decide), fun x hx => ?_⟩
  refine ⟨_, rfl, p, A.c_Draft, dx, _, _, rfl, (Vf.Same.new s3 hx) _ _ h0, T.C_Draft, T.A_Draft_results, rfl, _, rfl, _, rfl, (by show 2 ≤ sizeLine; decide), fun y hy => ?_⟩
  have s5 : Same (upd H2 u (.tup [.int (Vf.ix D.st r.1), .int (Vf.ix D.st r.2.1)])) (upd (upd (upd H2 u (.tup [.int (Vf.ix D.st r.1), .int (Vf.ix D.st r.2.1)])) x (.tup (Vf.encR D.st r))) y (.tup [.int (Vf.ix D.st r.1), .int (Vf.ix D.st r.2.1)])) := Vf.Same.new (Vf.Same.new (Same.refl (upd H2 u (.tup [.int (Vf.ix D.st r.1), .int (Vf.ix D.st r.2.1)]))) hx) hy
  have yx := (Vf.upd_none hy).1
  have hx5 : (upd (upd (upd H2 u (.tup [.int (Vf.ix D.st r.1), .int (Vf.ix D.st r.2.1)])) x (.tup (Vf.encR D.st r))) y (.tup [.int (Vf.ix D.st r.1), .int (Vf.ix D.st r.2.1)])) x = some (.tup (Vf.encR D.st r)) := by rw [upd_ne (Ne.symm yx), upd_same]
  have hy5 : (upd (upd (upd H2 u (.tup [.int (Vf.ix D.st r.1), .int (Vf.ix D.st r.2.1)])) x (.tup (Vf.encR D.st r))) y (.tup [.int (Vf.ix D.st r.1), .int (Vf.ix D.st r.2.1)])) y = some (.tup [.int (Vf.ix D.st r.1), .int (Vf.ix D.st r.2.1)]) := upd_same
  refine ⟨a.dr, _, rfl, DPut.t (kvs := kvs) (k := Vf.ruKey D.st r) (b := y) (s5 _ _ (s3 _ _ hk)) hy5 (by rw [R.len]; exact Nat.lt_of_le_of_lt hz (by decide)), ?_⟩
  have S5 := S3.same s5
  have s05 := s3.trans s5
  obtain ⟨xr, hxr, txr⟩ := S5.lr
  have hp5 := s05 _ _ h0
  have ht5 := s05 _ _ ht
  have ntr : t ≠ a.dr := ne_of ht5 (s05 _ _ hk) (by intro z; cases z)
  refine ⟨_, rfl, p, A.c_Draft, dx, _, _, rfl, (by walk_at "hp"), T.C_Draft, T.A_Draft_rules, rfl, Vf.tyL (a := a.lr) (xs := xr) (by walk_at "hp"), _, rfl, t, Vf.enc4 r, rfl, SqT.of (by rw [upd_ne ntr]; exact ht5), a.lr, xr, _, rfl, rfl, (by walk_at "hp"), (by rw [txr.1]; exact Nat.lt_of_le_of_lt hz (by decide)), ?_⟩
  have kk : Vf.Keep a.foot (upd (upd (upd H2 u (.tup [.int (Vf.ix D.st r.1), .int (Vf.ix D.st r.2.1)])) x (.tup (Vf.encR D.st r))) y (.tup [.int (Vf.ix D.st r.1), .int (Vf.ix D.st r.2.1)])) (upd (upd (upd (upd (upd H2 u (.tup [.int (Vf.ix D.st r.1), .int (Vf.ix D.st r.2.1)])) x (.tup (Vf.encR D.st r))) y (.tup [.int (Vf.ix D.st r.1), .int (Vf.ix D.st r.2.1)])) a.dr (.dT (putK kvs (Vf.ruKey D.st r) (.ref x)))) a.lr (.lst (xr ++ [.ref t]))) := ((Vf.Keep.refl (upd (upd (upd H2 u (.tup [.int (Vf.ix D.st r.1), .int (Vf.ix D.st r.2.1)])) x (.tup (Vf.encR D.st r))) y (.tup [.int (Vf.ix D.st r.1), .int (Vf.ix D.st r.2.1)]))).put (by simp [Vf.DA.foot])).put (by simp [Vf.DA.foot])
  have nt5 : ∀ t ys, (upd (upd (upd H2 u (.tup [.int (Vf.ix D.st r.1), .int (Vf.ix D.st r.2.1)])) x (.tup (Vf.encR D.st r))) y (.tup [.int (Vf.ix D.st r.1), .int (Vf.ix D.st r.2.1)])) t = some (.tup ys) → (upd (upd (upd (upd (upd H2 u (.tup [.int (Vf.ix D.st r.1), .int (Vf.ix D.st r.2.1)])) x (.tup (Vf.encR D.st r))) y (.tup [.int (Vf.ix D.st r.1), .int (Vf.ix D.st r.2.1)])) a.dr (.dT (putK kvs (Vf.ruKey D.st r) (.ref x)))) a.lr (.lst (xr ++ [.ref t]))) t = some (.tup ys) := fun v ys hv => by
    have nv := S5.notup v ys hv
    simp only [Vf.DA.foot, List.mem_cons, List.not_mem_nil, or_false, not_or] at nv
    rw [upd_ne nv.2.2.2.1, upd_ne nv.2.2.2.2.2.2]
    exact hv
  have ek : putK kvs (Vf.ruKey D.st r) (.ref x) = kvs ++ [(Vf.ruKey D.st r, .ref x)] := putK_new _ (Vf.key_new R m1 m2 hw c')
  have R5 : Vf.Res (upd (upd (upd H2 u (.tup [.int (Vf.ix D.st r.1), .int (Vf.ix D.st r.2.1)])) x (.tup (Vf.encR D.st r))) y (.tup [.int (Vf.ix D.st r.1), .int (Vf.ix D.st r.2.1)])) D.st D.ru kvs := R.same fun v ys hv => s05 v _ hv
  have kt : ∀ v ys, (upd (upd (upd H2 u (.tup [.int (Vf.ix D.st r.1), .int (Vf.ix D.st r.2.1)])) x (.tup (Vf.encR D.st r))) y (.tup [.int (Vf.ix D.st r.1), .int (Vf.ix D.st r.2.1)])) v = some (.tup ys) → (upd (upd (upd (upd (upd H2 u (.tup [.int (Vf.ix D.st r.1), .int (Vf.ix D.st r.2.1)])) x (.tup (Vf.encR D.st r))) y (.tup [.int (Vf.ix D.st r.1), .int (Vf.ix D.st r.2.1)])) a.dr (.dT (putK kvs (Vf.ruKey D.st r) (.ref x)))) a.lr (.lst (xr ++ [.ref t]))) v = some (.tup ys) := fun v ys hv => by
    have nv := S5.notup v ys hv
    simp only [Vf.DA.foot, List.mem_cons, List.not_mem_nil, or_false, not_or] at nv
    rw [upd_ne nv.2.2.2.1, upd_ne nv.2.2.2.2.2.2]
    exact hv
  refine q1 ok _ (S5.next kk ?_ ?_ ?_ ⟨_, upd_same, ?_⟩ ?_ ?_ ⟨_, (by rw [upd_ne (Ne.symm d25), upd_same]), ?_⟩) ((Vf.Keep.of s05).trans kk)
  · rw [upd_ne d10, upd_ne d13]
    exact S5.ls
  · exact S5.li' kk (by rw [upd_ne d15, upd_ne d18] <;> rfl)
  · rw [upd_ne d19, upd_ne d22]
    exact S5.ll
  · exact (txr.mono kt).snoc (a := r) (kt t _ ht5)
  · rw [upd_ne (Ne.symm d23), upd_ne d27]
    exact S5.lo
  · rw [upd_ne (Ne.symm d24), upd_ne d28]
    exact S5.dn
  · have RR := R5.snoc kt (kt x _ hx5)
    rw [← ek] at RR
    exact RR
end

def sp__drafted (K : PySem.W.Frag) (A : Ad) : Sp := fun vs H Q E => ∃ (ls li ll lr lo : Addr) (D : Vf.DD) (xi xr : List V), vs = [.ref ls, .ref li, .ref ll, .ref lr, .ref lo] ∧
  H ls = some (.lst (D.st.map V.str)) ∧ H li = some (.lst xi) ∧ Vf.Tups Vf.enc2 H xi D.ins ∧ H ll = some (.lst (D.ld.map V.str)) ∧ H lr = some (.lst xr) ∧ Vf.Tups Vf.enc4 H xr D.ru ∧ H lo = some (.lst (D.ou.map V.int)) ∧ Vf.Short D ∧
  (Vf.Valid D → ∀ (p : Addr) (a : Vf.DA) (H' : Hp), Vf.DraftAt A.c_Draft H' p a D → Same H H' → H p = none → (∀ b ∈ a.foot, H b = none) → Q (.ref p) H') ∧ (¬ Vf.Valid D → ∀ H', Same H H' → E (.ref A.c_InvalidRulebook) none H')
theorem len__drafted {K : PySem.W.Frag} {A : Ad} (vs : List V) (H : Hp) (Q : VK) (E : XK) (h : sp__drafted K A vs H Q E) : vs.length = ["states", "inputs", "leaders", "rules", "outputs"].length := by
  obtain ⟨a, b, c, d, e, D, x, y, rfl, _⟩ := h
  rfl

section
variable {P : Program} {w : World} {K : PySem.W.Frag} {mg : Str → Option Value} {base : Heap}
set_option maxHeartbeats 4000000 in
theorem ok__drafted {A : Ad} (T : Txt P K mg A) : FnOk P w K mg base (L2.CX P w) 4 A.f__drafted A.d__drafted ["states", "inputs", "leaders", "rules", "outputs"] (sp__drafted K A) := by
  have G__demand := ok__demand (P := P) (w := w) (base := base) T
  have G_Draft___init__ := ok_Draft___init__ (P := P) (w := w) (base := base) T
  have G_Draft_add_state := ok_Draft_add_state (P := P) (w := w) (base := base) T
  have G_Draft_add_input := ok_Draft_add_input (P := P) (w := w) (base := base) T
  have G_Draft_add_leader := ok_Draft_add_leader (P := P) (w := w) (base := base) T
  have G_Draft_add_rule := ok_Draft_add_rule (P := P) (w := w) (base := base) T
  refine T.F__drafted.okX sc__drafted len__drafted (fun cdv Ar outer s H vs Q E hr h => ?_)
  have hu := hu_of hr
  obtain ⟨ls, li, ll, lr, lo, D, xi, xr, rfl, hls, hli, ti, hll, hlr, tr, hlo, Z, q1, q2⟩ := h
  refine ⟨_, (pss_cons (ps_expr (pe_call G__demand (hr.mono (by decide)) (by rfl) T.G__demand T.F__demand.kp T.B__demand .nil (passes_call (takes_of rfl rfl rfl rfl) fun _ _ _ _ h => h) (pa_cons (pe_cmpR op_eq (pe_callB call_len_seq (by rfl) T.N_len PySem.boot_len (pa_cons (pv 4) pa_nil)) (pe_callB call_len_seq (by rfl) T.N_len PySem.boot_len (pa_cons (pv 0) pa_nil)) (nomark _)) (pa_cons pe_str pa_nil))))
      (pss_cons (ps_set (i := 5) sc__drafted.nd rfl (Or.inl rfl) (pe_make0 T.K_Draft G_Draft___init__ (hr.mono (by decide)) (by rfl) T.G_Draft T.B_Draft___init__ .nil pass0))
      (pss_cons (ps_for (passes_of rfl) rfl (pi_zip (by rfl) T.N_zip (pa_cons (pv 0) (pa_cons (pv 4) pa_nil))) (pg_tup (by rfl) (pgs_cons (pg_name (i := 6) sc__drafted.nd rfl (Or.inl rfl)) (pgs_cons (pg_name (i := 7) sc__drafted.nd rfl (Or.inl rfl)) pgs_nil)))
        (pss_one (ps_expr (pe_meth (pv 5) T.C_Draft T.M_Draft_add_state G_Draft_add_state (hr.mono (by decide)) T.B_Draft_add_state .nil (passes_call (takes_of rfl rfl rfl rfl) fun _ _ _ _ h => h) (pa_cons (pv 6) (pa_cons (pv 7) pa_nil))))))
      (pss_cons (ps_for (passes_of rfl) rfl (pi_list (pv 1)) (pg_name (i := 8) sc__drafted.nd rfl (Or.inl rfl))
        (pss_one (ps_expr (pe_meth (pv 5) T.C_Draft T.M_Draft_add_input G_Draft_add_input hr T.B_Draft_add_input .nil (passes_call (takes_of rfl rfl rfl rfl) fun _ _ _ _ h => h) (pa_cons (pv 8) pa_nil)))))
      (pss_cons (ps_for (passes_of rfl) rfl (pi_list (pv 2)) (pg_name (i := 9) sc__drafted.nd rfl (Or.inl rfl))
        (pss_one (ps_expr (pe_meth (pv 5) T.C_Draft T.M_Draft_add_leader G_Draft_add_leader hr T.B_Draft_add_leader .nil (passes_call (takes_of rfl rfl rfl rfl) fun _ _ _ _ h => h) (pa_cons (pv 9) pa_nil)))))
      (pss_cons (ps_for (passes_of rfl) rfl (pi_list (pv 3)) (pg_name (i := 10) sc__drafted.nd rfl (Or.inl rfl))
        (pss_one (ps_expr (pe_meth (pv 5) T.C_Draft T.M_Draft_add_rule G_Draft_add_rule hr T.B_Draft_add_rule .nil (passes_call (takes_of rfl rfl rfl rfl) fun _ _ _ _ h => h) (pa_cons (pv 10) pa_nil)))))
      (pss_one (ps_ret (pv 5))))))))), ?_⟩
  -- as many outputs
  refine ⟨_, rfl, lo, _, rfl, .inl (SqL.of hlo), _, rfl, ls, _, rfl, .inl (SqL.of hls), rfl, _, _, rfl, fun c1 => ?_, fun c1 => q2 (fun v => ?_) H (Same.refl H)⟩
  rotate_left
  · have c2 := of_decide_eq_false c1
    rw [List.length_map, List.length_map, v.len] at c2
    exact c2 rfl
  have c1 : D.ou.length = D.st.length := by
    have c2 := of_decide_eq_true c1
    rw [List.length_map, List.length_map] at c2
    have := V.int.inj c2
    omega
  -- a draft
  intro p dx np nd nex
  refine ⟨p, dx, rfl, upd_same, fun a H1 S1 fr kp => ⟨rfl, ?_⟩⟩
  have s0 : Same H (upd (upd H dx (.own p)) p (.ins A.c_Draft dx [])) := Vf.Same.chg (Vf.Same.new (Same.refl H) nd) np
  have s1 : Same H H1 := fun b o e => kp b o (s0 b o e) (ne_of_none e np)
  have fr0 : ∀ b ∈ a.foot, H b = none := fun b hb => s0.free (fr b hb)
  -- the states
  refine ⟨_, rfl, _, rfl, ls, lo, _, _, rfl, SqL.of (s1 _ _ hls), SqL.of (s1 _ _ hlo), ?_⟩
  refine for_it (walk_zip (K := K) (a := ls) (b := lo) (xs := D.st.map V.str) (ys := D.ou.map V.int) (n := D.st.length) (by rw [List.length_map, List.length_map, c1]; omega)) (fun i σ H' => ∃ v6 v7 : Option V, σ = [some (.ref ls), some (.ref li), some (.ref ll), some (.ref lr), some (.ref lo), some (.ref p), v6, v7, none, none, none] ∧ Same H H' ∧ Vf.DraftAt A.c_Draft H' p a ⟨D.st.take i, [], [], [], D.ou.take i⟩ ∧
    ∀ j < i, ∀ s o, D.st[j]? = some s → D.ou[j]? = some o → Vf.DD.okState ⟨D.st.take j, [], [], [], D.ou.take j⟩ s o = true) ⟨none, none, rfl, s1, S1, fun j hj => absurd hj (Nat.not_lt_zero j)⟩ (fun i σ H' _ ⟨_, _, _, s, _⟩ => ⟨SqL.of (s _ _ hls), SqL.of (s _ _ hlo)⟩) ?_ ?_
  · rintro i x σ H' H'' hi ⟨v6, v7, rfl, s, S, ok⟩ ⟨T', x', y', rfl, hT, rfl, hx, hy⟩
    obtain ⟨nm, hnm, rfl⟩ := Vf.map_get hx
    obtain ⟨o, ho, rfl⟩ := Vf.map_get hy
    have sT : Same H' (upd H' T' (.tup [.str nm, .int o])) := Vf.Same.new (Same.refl H') hT
    have ST := S.same sT
    obtain ⟨dy, hp⟩ := ST.ob
    refine ⟨T', _, rfl, SqT.of upd_same, rfl, _, _, rfl, _, _, rfl, rfl, ?_⟩
    refine ⟨_, rfl, p, dy, _, rfl, hp, rfl, _, rfl, _, rfl, p, a, _, nm, o, rfl, ST, rfl, (by rw [List.length_take, List.length_take, c1]), Z.st nm (List.mem_of_getElem? hnm), Z.ou o (List.mem_of_getElem? ho), fun c H3 S3 k3 => ?_, fun c H3 s3 => q2 (fun v => ?_) H3 ((s.trans sT).trans s3)⟩
    · refine ⟨_, _, rfl, Vf.Same.but (s.trans sT) k3 fr0, ?_, fun j hj s' o' e1 e2 => ?_⟩
      · rw [Vf.take_snoc hnm, Vf.take_snoc ho]
        exact S3
      · by_cases e : j = i
        · subst e
          rw [hnm] at e1
          rw [ho] at e2
          cases e1
          cases e2
          exact c
        · exact ok j (by omega) s' o' e1 e2
    · rw [v.st i nm o hnm ho] at c
      cases c
  rintro σ H2 ⟨v6, v7, rfl, s2, S2, ok1⟩
  have S2 : Vf.DraftAt A.c_Draft H2 p a ⟨D.st, [], [], [], D.ou⟩ := by
    have e1 : D.st.take D.st.length = D.st := List.take_length
    have e2 : D.ou.take D.st.length = D.ou := by rw [← c1]; exact List.take_length
    rw [e1, e2] at S2
    exact S2
  have ok1 : ∀ i s o, D.st[i]? = some s → D.ou[i]? = some o → Vf.DD.okState ⟨D.st.take i, [], [], [], D.ou.take i⟩ s o = true := fun i s o e1 e2 => ok1 i (List.getElem?_eq_some_iff.mp e1).1 s o e1 e2
  -- the inputs
  refine ⟨_, rfl, li, rfl, ⟨_, SqL.of (s2 _ _ hli)⟩, for_list (K := K) (a := li) (xs := xi) (fun i σ H' => ∃ v8 : Option V, σ = [some (.ref ls), some (.ref li), some (.ref ll), some (.ref lr), some (.ref lo), some (.ref p), v6, v7, v8, none, none] ∧ Same H H' ∧ Vf.DraftAt A.c_Draft H' p a ⟨D.st, D.ins.take i, [], [], D.ou⟩ ∧
    ∀ j < i, ∀ x, D.ins[j]? = some x → Vf.DD.okInput ⟨D.st, D.ins.take j, [], [], D.ou⟩ x = true) ⟨none, rfl, s2, S2, fun j hj => absurd hj (Nat.not_lt_zero j)⟩ (fun i σ H' _ ⟨_, _, s, _⟩ => SqL.of (s _ _ hli)) ?_ ?_⟩
  · rintro i x σ H' hi ⟨v8, rfl, s, S, ok⟩
    obtain ⟨pr, t, hpr, rfl, ht⟩ := ti.get hi
    obtain ⟨dy, hp⟩ := S.ob
    have zz := Z.ins pr (List.mem_of_getElem? hpr)
    refine ⟨_, rfl, p, dy, _, rfl, hp, rfl, _, rfl, p, a, _, t, pr, rfl, S, s _ _ ht, zz.1, zz.2, fun c H3 S3 k3 => ?_, fun c H3 s3 => q2 (fun v => ?_) H3 (s.trans s3)⟩
    · refine ⟨_, rfl, Vf.Same.but s k3 fr0, ?_, fun j hj x e1 => ?_⟩
      · rw [Vf.take_snoc hpr]
        exact S3
      · by_cases e : j = i
        · subst e
          rw [hpr] at e1
          cases e1
          exact c
        · exact ok j (by omega) x e1
    · rw [v.ins i pr hpr] at c
      cases c
  rintro σ H3 ⟨v8, rfl, s3, S3, ok2⟩
  have S3 : Vf.DraftAt A.c_Draft H3 p a ⟨D.st, D.ins, [], [], D.ou⟩ := by
    rw [ti.1, List.take_length] at S3
    exact S3
  have ok2 : ∀ i x, D.ins[i]? = some x → Vf.DD.okInput ⟨D.st, D.ins.take i, [], [], D.ou⟩ x = true := fun i x e1 => ok2 i (by rw [ti.1]; exact (List.getElem?_eq_some_iff.mp e1).1) x e1
  -- the leaders
  refine ⟨_, rfl, ll, rfl, ⟨_, SqL.of (s3 _ _ hll)⟩, for_list (K := K) (a := ll) (xs := D.ld.map V.str) (fun i σ H' => ∃ v9 : Option V, σ = [some (.ref ls), some (.ref li), some (.ref ll), some (.ref lr), some (.ref lo), some (.ref p), v6, v7, v8, v9, none] ∧ Same H H' ∧ Vf.DraftAt A.c_Draft H' p a ⟨D.st, D.ins, D.ld.take i, [], D.ou⟩ ∧
    ∀ j < i, ∀ x, D.ld[j]? = some x → Vf.DD.okLeader ⟨D.st, D.ins, D.ld.take j, [], D.ou⟩ x = true) ⟨none, rfl, s3, S3, fun j hj => absurd hj (Nat.not_lt_zero j)⟩ (fun i σ H' _ ⟨_, _, s, _⟩ => SqL.of (s _ _ hll)) ?_ ?_⟩
  · rintro i x σ H' hi ⟨v9, rfl, s, S, ok⟩
    obtain ⟨nm, hnm, rfl⟩ := Vf.map_get hi
    obtain ⟨dy, hp⟩ := S.ob
    refine ⟨_, rfl, p, dy, _, rfl, hp, rfl, _, rfl, p, a, _, nm, rfl, S, Z.ld nm (List.mem_of_getElem? hnm), fun c H4 S4 k4 => ?_, fun c H4 s4 => q2 (fun v => ?_) H4 (s.trans s4)⟩
    · refine ⟨_, rfl, Vf.Same.but s k4 fr0, ?_, fun j hj x e1 => ?_⟩
      · rw [Vf.take_snoc hnm]
        exact S4
      · by_cases e : j = i
        · subst e
          rw [hnm] at e1
          cases e1
          exact c
        · exact ok j (by omega) x e1
    · rw [v.ld i nm hnm] at c
      cases c
  rintro σ H4 ⟨v9, rfl, s4, S4, ok3⟩
  have S4 : Vf.DraftAt A.c_Draft H4 p a ⟨D.st, D.ins, D.ld, [], D.ou⟩ := by
    rw [List.length_map, List.take_length] at S4
    exact S4
  have ok3 : ∀ i x, D.ld[i]? = some x → Vf.DD.okLeader ⟨D.st, D.ins, D.ld.take i, [], D.ou⟩ x = true := fun i x e1 => ok3 i (by rw [List.length_map]; exact (List.getElem?_eq_some_iff.mp e1).1) x e1
  -- the rules
  refine ⟨_, rfl, lr, rfl, ⟨_, SqL.of (s4 _ _ hlr)⟩, for_list (K := K) (a := lr) (xs := xr) (fun i σ H' => ∃ v10 : Option V, σ = [some (.ref ls), some (.ref li), some (.ref ll), some (.ref lr), some (.ref lo), some (.ref p), v6, v7, v8, v9, v10] ∧ Same H H' ∧ Vf.DraftAt A.c_Draft H' p a ⟨D.st, D.ins, D.ld, D.ru.take i, D.ou⟩ ∧
    ∀ j < i, ∀ x, D.ru[j]? = some x → Vf.DD.okRule ⟨D.st, D.ins, D.ld, D.ru.take j, D.ou⟩ x = true) ⟨none, rfl, s4, S4, fun j hj => absurd hj (Nat.not_lt_zero j)⟩ (fun i σ H' _ ⟨_, _, s, _⟩ => SqL.of (s _ _ hlr)) ?_ ?_⟩
  · rintro i x σ H' hi ⟨v10, rfl, s, S, ok⟩
    obtain ⟨r, t, hr', rfl, ht⟩ := tr.get hi
    obtain ⟨dy, hp⟩ := S.ob
    have il : i < D.ru.length := (List.getElem?_eq_some_iff.mp hr').1
    have hw : ∀ x ∈ D.ru.take i, x.1 ∈ D.st ∧ x.2.1 ∈ D.st := fun x hx => by
      obtain ⟨j, hj⟩ := List.mem_iff_getElem?.mp hx
      have jl : j < i := by
        have := (List.getElem?_eq_some_iff.mp hj).1
        rw [List.length_take] at this
        omega
      rw [List.getElem?_take_of_lt jl] at hj
      exact Vf.okRule_in (D := ⟨D.st, D.ins, D.ld, D.ru.take j, D.ou⟩) (ok j jl x hj)
    refine ⟨_, rfl, p, dy, _, rfl, hp, rfl, _, rfl, p, a, _, t, r, rfl, S, s _ _ ht, Z.ru r (List.mem_of_getElem? hr'), hw, (by have := Z.nru; rw [List.length_take]; omega), fun c H5 S5 k5 => ?_, fun c H5 s5 => q2 (fun v => ?_) H5 (s.trans s5)⟩
    · refine ⟨_, rfl, Vf.Same.but s k5 fr0, ?_, fun j hj x e1 => ?_⟩
      · rw [Vf.take_snoc hr']
        exact S5
      · by_cases e : j = i
        · subst e
          rw [hr'] at e1
          cases e1
          exact c
        · exact ok j (by omega) x e1
    · rw [v.ru i r hr'] at c
      cases c
  rintro σ H5 ⟨v10, rfl, s5, S5, ok4⟩
  have S5 : Vf.DraftAt A.c_Draft H5 p a D := by
    rw [tr.1, List.take_length] at S5
    exact S5
  have ok4 : ∀ i x, D.ru[i]? = some x → Vf.DD.okRule ⟨D.st, D.ins, D.ld, D.ru.take i, D.ou⟩ x = true := fun i x e1 => ok4 i (by rw [tr.1]; exact (List.getElem?_eq_some_iff.mp e1).1) x e1
  exact ⟨_, rfl, q1 ⟨c1, ok1, ok2, ok3, ok4⟩ p a H5 S5 s5 np fr0⟩
end

def sp__partners (K : PySem.W.Frag) (A : Ad) : Sp := fun vs H Q _ => ∃ (d : Addr) (m : Nat) (kvs : List (List Key × V)) (ks vl : List (Int × Int)), vs = [.ref d, .int (m : Int)] ∧ H d = some (.dT kvs) ∧ Vf.PP H kvs ks vl ∧ m ≤ 1000000 ∧ ks.length ≤ 1000000 ∧ (∀ k ∈ ks, 0 ≤ k.1 ∧ k.1 < (m : Int)) ∧
  ∀ (p : Addr) (H' : Hp) (xs : List V) (rows : Nat → List Int), H p = none → Same H H' → H' p = some (.tup xs) → xs.length = m → (∀ i x, xs[i]? = some x → ∃ t, x = .ref t ∧ H' t = some (.tup ((rows i).map V.int))) →
    (∀ i, (rows i).Pairwise (· < ·)) → (∀ (i : Nat) (j : Int), j ∈ rows i ↔ ∃ (n : Nat) (v : Int × Int), ks[n]? = some ((i : Int), j) ∧ vl[n]? = some v ∧ v ≠ ((i : Int), j)) → Q (.ref p) H'
theorem len__partners {K : PySem.W.Frag} {A : Ad} (vs : List V) (H : Hp) (Q : VK) (E : XK) (h : sp__partners K A vs H Q E) : vs.length = ["results", "many"].length := by
  obtain ⟨a, b, c, d, e, rfl, _⟩ := h
  rfl
/-- the lists of the rows, behind some pairs -/
structure RowsAt (H : Hp) (R : Addr) (m : Nat) (as : List Addr) (rows : Nat → List Int) : Prop where
  at_ : H R = some (.lst (as.map V.ref))
  len : as.length = m
  nd : as.Nodup
  row : ∀ i a, as[i]? = some a → H a = some (.lst ((rows i).map V.int)) ∧ a ≠ R

section
variable {P : Program} {w : World} {K : PySem.W.Frag} {mg : Str → Option Value} {base : Heap}
set_option maxHeartbeats 4000000 in
theorem ok__partners {A : Ad} (T : Txt P K mg A) : FnOk P w K mg base CX0 1 A.f__partners A.d__partners ["results", "many"] (sp__partners K A) := by
  refine T.F__partners.ok sc__partners len__partners (fun cdv Ar outer s H vs Q E hr h => ?_)
  have hu := hu_of hr
  obtain ⟨d, m, kvs, ks, vl, rfl, hd, pp, hm, hk, hb, q⟩ := h
  refine ⟨_, (pss_cons (ps_setLc (i := 2) (own := [("_", 4)]) (g := (gName 4)) (tt := tYes) rfl sc__partners.nd rfl rfl (sw_true rfl rfl rfl (by decide +kernel)) (pi_range1 rfl T.N_range (pa_cons (pv 1) pa_nil)) (blkOk_by (N := ["results", "many", "rows", "pair", "_", "row"]) (sc := defScope s__partners) (by decide +kernel)) (fun _ _ _ _ _ => (pg_name (i := 4) sc__partners.nd rfl (Or.inl rfl))) (fun _ _ _ _ _ => pts_nil) (fun _ _ _ _ _ => (pe_lst pa_nil)))
      (pss_cons (ps_for PassesOwn.never rfl (pi_list (pe_callB (Vf.cr_sortedDT rfl) (by rfl) T.N_sorted (by decide +kernel) (pa_cons (pv 0) pa_nil))) (pg_name (i := 3) sc__partners.nd rfl (Or.inl rfl))
        (pss_one (ps_if (pt_cmpR (Vf.op_neIs hr.units) (pe_dget (by exact hu) (pv 0) (pv 3) (fun _ _ => rfl)) (pv 3) (nomark _)) (pss_one (ps_expr (pe_bm PySem.F.plainAttrs_list PySem.F.slot_list_append PySem.F.type_list_append mt_append (pe_ix ix_list (pv 2) (pe_ix ix_tup (pv 3) pe_int (fun _ _ => rfl)) (fun _ _ => rfl)) (pa_cons (pe_ix ix_tup (pv 3) pe_int (fun _ _ => rfl)) pa_nil)))) pss_nil)))
      (pss_one (ps_ret (pe_callTy call_tuple_of (by rfl) T.N_tuple (by decide +kernel) (pa_cons (pe_lc (own := [("row", 5)]) (g := (gName 5)) (tt := tYes) rfl sc__partners.nd (pi_list (pv 2)) (blkOk_by (N := ["results", "many", "rows", "pair", "_", "row"]) (sc := defScope s__partners) (by decide +kernel)) (fun _ _ _ _ _ => (pg_name (i := 5) sc__partners.nd rfl (Or.inl rfl))) (fun _ _ _ _ _ => pts_nil) (fun _ _ _ _ _ => (pe_callTy (Vf.call_tuple_ofK (K := K) rfl) (by rfl) T.N_tuple (by decide +kernel) (pa_cons (pv 5) pa_nil)))) pa_nil)))))), ?_⟩
  -- rows = [[] for _ in range(many)]
  refine ⟨_, rfl, _, rfl, by omega, by omega, fun R hR => ?_⟩
  refine lc_it (walk_range (lo := 0) (n := ((m : Int)).toNat)) (fun i H' => Same H H' ∧ ∃ as, RowsAt H' R i as (fun _ => []) ∧ ∀ a ∈ as, H a = none) ⟨Vf.Same.new (Same.refl H) hR, [], ⟨upd_same, rfl, List.nodup_nil, fun i a h => by simp at h⟩, fun a h => nomatch h⟩ (fun _ _ _ _ => trivial) ?_ ?_
  · rintro i x H1 H2 hi ⟨s, as, W, fr⟩ ⟨rfl, rfl⟩
    refine ⟨rfl, ?_⟩
    refine Vf.tyes ?_
    refine ⟨(by show 0 ≤ sizeLine; decide), fun b hb' => ?_⟩
    have nb : R ≠ b := ne_of_none W.at_ hb'
    refine ⟨as.map V.ref, (by rw [upd_ne nb]; exact W.at_), (by rw [List.length_map, W.len]; exact Nat.lt_of_lt_of_le (show i < 1000000 by omega) (by decide)), Vf.Same.chg (Vf.Same.new s hb') hR, as ++ [b], ⟨(by rw [upd_same, List.map_append]; rfl), (by simp [W.len]), ?_, ?_⟩, ?_⟩
    · rw [List.nodup_append]
      refine ⟨W.nd, by simp, fun a ha c hc => ?_⟩
      rw [List.mem_singleton] at hc
      subst hc
      obtain ⟨n, hn⟩ := List.mem_iff_getElem?.mp ha
      exact ne_of_none (W.row n a hn).1 hb'
    · intro n a hn
      by_cases hl : n < as.length
      · rw [List.getElem?_append_left hl] at hn
        obtain ⟨h1, h2⟩ := W.row n a hn
        exact ⟨by rw [upd_ne h2, upd_ne (ne_of_none h1 hb')]; exact h1, h2⟩
      · rw [List.getElem?_append_right (by omega)] at hn
        have e0 : n - as.length = 0 := by
          cases q' : n - as.length with
          | zero => rfl
          | succ k => rw [q'] at hn; simp at hn
        rw [e0] at hn
        have e : b = a := Option.some.inj hn
        subst e
        exact ⟨by rw [upd_ne (Ne.symm nb), upd_same]; rfl, Ne.symm nb⟩
    · intro a ha
      rw [List.mem_append, List.mem_singleton] at ha
      rcases ha with ha | rfl
      · exact fr a ha
      · exact s.free hb'
  rintro H1 ⟨s1, as, W1, fr1⟩
  have em : ((m : Int)).toNat = m := by omega
  rw [em] at W1
  -- for pair in sorted(results)
  refine ⟨_, rfl, d, kvs, ks, rfl, .inl (s1 _ _ hd), pp.keys, fun S bs hS pm sd hat => ?_⟩
  have s2 : Same H (upd H1 S (.lst (bs.map V.ref))) := Vf.Same.new s1 hS
  have hin : ∀ b ∈ bs, Vf.prAt H1 b ∈ ks := fun b hb' => pm.mem_iff.mp (List.mem_map.mpr ⟨b, hb', rfl⟩)
  -- what is changed by a key's pair
  have hch : ∀ k ∈ ks, ∃ n v t, ks[n]? = some k ∧ vl[n]? = some v ∧ valV kvs (Vf.keyP k) = some (.ref t) ∧ H t = some (.tup (Vf.encP v)) ∧ Vf.toP kvs H k = v := fun k hk' => by
    obtain ⟨n, hn⟩ := List.mem_iff_getElem?.mp hk'
    obtain ⟨v, t, h1, h2, h3⟩ := pp.at_ hn
    exact ⟨n, v, t, hn, h1, h2, h3, Vf.toP_at pp hn h1⟩
  have nRS : R ≠ S := ne_of_none W1.at_ hS
  have nS : S ∉ R :: as := fun h => by
    rcases List.mem_cons.mp h with h | h
    · exact nRS h.symm
    · obtain ⟨n, hn⟩ := List.mem_iff_getElem?.mp h
      exact ne_of_none (W1.row n S hn).1 hS rfl
  have ntup : ∀ (t : Addr) (ys : List V), H1 t = some (.tup ys) → t ∉ R :: as := fun t ys ht h => by
    rcases List.mem_cons.mp h with h | h
    · rw [h, W1.at_] at ht
      cases ht
    · obtain ⟨n, hn⟩ := List.mem_iff_getElem?.mp h
      rw [(W1.row n t hn).1] at ht
      cases ht
  have old : ∀ {H' : Hp}, Vf.Keep (R :: as) (upd H1 S (.lst (bs.map V.ref))) H' → Same H H' := fun k a o e => k a o (fun h => by
    rcases List.mem_cons.mp h with h | h
    · rw [h, hR] at e
      cases e
    · rw [fr1 a h] at e
      cases e) (s2 a o e)
  refine ⟨S, rfl, ⟨_, SqL.of upd_same⟩, for_list (K := K) (a := S) (xs := bs.map V.ref) (fun i σ H' => (∃ v : Option V, σ = [some (.ref d), some (.int (m : Int)), some (.ref R), v, none, none]) ∧ Vf.Keep (R :: as) (upd H1 S (.lst (bs.map V.ref))) H' ∧
    RowsAt H' R m as (fun j => Vf.rowOf ((bs.take i).map (Vf.prAt H1)) (fun k => decide (Vf.toP kvs H k ≠ k)) (j : Int))) ?_ ?_ ?_ ?_⟩
  · refine ⟨⟨none, rfl⟩, Vf.Keep.refl _, ?_, W1.len, W1.nd, fun i a h => ?_⟩
    · rw [upd_ne nRS]
      exact W1.at_
    · obtain ⟨h1, h2⟩ := W1.row i a h
      exact ⟨by rw [upd_ne (ne_of_none h1 hS)]; exact h1, h2⟩
  · rintro i σ H' _ ⟨_, k, _⟩
    exact SqL.of (k S _ nS upd_same)
  · rintro i x σ H' hi ⟨⟨v, rfl⟩, k, W⟩
    obtain ⟨b, hbi, rfl⟩ := Vf.map_get hi
    have hbm : b ∈ bs := List.mem_of_getElem? hbi
    obtain ⟨i1, j1, hij⟩ := hat b hbm
    have ep : Vf.prAt H1 b = (i1, j1) := Vf.prAt_of hij
    have hkm := hin b hbm
    rw [ep] at hkm
    obtain ⟨n, w, t, hn, hw, hv, ht, hP⟩ := hch _ hkm
    have hb' : H' b = some (.tup (Vf.encP (i1, j1))) := k b _ (ntup b _ hij) (by rw [upd_ne (ne_of_none hij hS)]; exact hij)
    have ht' : H' t = some (.tup (Vf.encP w)) := old k t _ ht
    have hd' := old k d _ hd
    obtain ⟨b0, b1⟩ := hb _ hkm
    refine ⟨_, rfl, _, rfl, d, .ref t, rfl, ?_, _, rfl, [w.1, w.2], [i1, j1], ⟨t, b, rfl, rfl, .inr ⟨SqT.of ht', SqT.of hb'⟩⟩, _, rfl, ?_⟩
    · rw [← hv]
      exact DGet.t (k := Vf.keyP (i1, j1)) hd' hb'
    have et : bs.take (i + 1) = bs.take i ++ [b] := Vf.take_snoc hbi
    have eq1 : (!decide ([w.1, w.2] = [i1, j1])) = decide (Vf.toP kvs H (i1, j1) ≠ (i1, j1)) := by
      rw [hP]
      exact Vf.pair_ne (a := w) (b := (i1, j1))
    rw [eq1]
    have row1 : ∀ c : Int, Vf.rowOf ((bs.take (i + 1)).map (Vf.prAt H1)) (fun k => decide (Vf.toP kvs H k ≠ k)) c = Vf.rowOf ((bs.take i).map (Vf.prAt H1)) (fun k => decide (Vf.toP kvs H k ≠ k)) c ++ if (decide (i1 = c) && decide (Vf.toP kvs H (i1, j1) ≠ (i1, j1))) = true then [j1] else [] := fun c => by
      rw [et, List.map_append]
      show Vf.rowOf (_ ++ [Vf.prAt H1 b]) _ c = _
      rw [ep, Vf.rowOf_snoc]
    refine Vf.ite_b (fun hc => ?_) (fun hc => ?_)
    · -- a row grows
      obtain ⟨r, rfl⟩ : ∃ r : Nat, i1 = (r : Int) := ⟨i1.toNat, by omega⟩
      have hr : r < as.length := by rw [W.len]; omega
      obtain ⟨a, ha⟩ : ∃ a, as[r]? = some a := ⟨as[r], List.getElem?_eq_getElem hr⟩
      obtain ⟨ha1, ha2⟩ := W.row r a ha
      refine ⟨_, rfl, _, rfl, b, _, 0, .int (r : Int), rfl, rfl, SqT.of hb', atI_nat (j := 0) rfl, R, _, _, .ref a, rfl, rfl, SqL.of W.at_, atI_nat (j := r) (by rw [List.getElem?_map, ha]; rfl), Vf.tyL ha1, _, rfl, b, _, 1, .int j1, rfl, rfl, SqT.of hb', atI_nat (j := 1) rfl, a, _, _, rfl, rfl, ha1, ?_, ?_⟩
      · have h1 := Vf.rowOf_len ((bs.take i).map (Vf.prAt H1)) (fun k => decide (Vf.toP kvs H k ≠ k)) (r : Int)
        have h2 := pm.length_eq
        rw [List.length_map] at h2
        rw [List.length_map, List.length_take] at h1
        rw [List.length_map]
        exact Nat.lt_of_le_of_lt (Nat.le_trans h1 (Nat.le_trans (Nat.min_le_right _ _) (by rw [h2]; exact hk))) (by decide)
      refine ⟨⟨_, rfl⟩, k.put (List.mem_cons_of_mem _ (List.mem_of_getElem? ha)), ?_, W.len, W.nd, fun c a' ha' => ?_⟩
      · rw [upd_ne (Ne.symm ha2)]
        exact W.at_
      · obtain ⟨h1, h2⟩ := W.row c a' ha'
        by_cases e : a' = a
        · subst e
          have ec : c = r := Vf.nodup_ix W.nd ha' ha
          subst ec
          refine ⟨?_, h2⟩
          rw [upd_same, row1, if_pos (by rw [hc]; simp), List.map_append]
          rfl
        · refine ⟨?_, h2⟩
          have ec : ¬ (r : Int) = (c : Int) := fun z => by
            have z' : r = c := by omega
            subst z'
            rw [ha] at ha'
            exact e (Option.some.inj ha').symm
          rw [upd_ne e, row1, if_neg (by simp [ec]), List.append_nil]
          exact h1
    · refine ⟨⟨_, rfl⟩, k, W.at_, W.len, W.nd, fun c a' ha' => ?_⟩
      obtain ⟨h1, h2⟩ := W.row c a' ha'
      refine ⟨?_, h2⟩
      rw [row1, if_neg (by rw [hc]; simp), List.append_nil]
      exact h1
  rintro σ H2 ⟨⟨v, rfl⟩, k, W⟩
  have s3 := old k
  rw [List.length_map, List.take_length] at W
  -- the rows as tuples
  refine ⟨_, rfl, R, rfl, ⟨_, SqL.of W.at_⟩, fun L hL => ?_⟩
  refine Vf.lc_rel (walk_list (K := K) (a := R) (xs := as.map V.ref)) (fun i y H' => ∃ t, y = .ref t ∧ H' t = some (.tup ((Vf.rowOf (bs.map (Vf.prAt H1)) (fun k => decide (Vf.toP kvs H k ≠ k)) (i : Int)).map V.int))) hL ?_ (by rw [List.length_map, W.len]; exact hm) (fun H' s => SqL.of (s _ _ W.at_)) ?_ ?_
  · rintro i y Ha Hb acc hacc kk ⟨t, rfl, ht⟩
    exact ⟨t, rfl, kk t _ (fun z => by rw [z, hacc] at ht; cases ht) ht⟩
  · rintro i x Ha Hb acc hi s hacc ⟨rfl, hx⟩ Q' q'
    obtain ⟨a, ha, rfl⟩ := Vf.map_get hx
    obtain ⟨h1, _⟩ := W.row i a ha
    exact ⟨rfl, _, rfl, a, _, rfl, .inl ⟨SqL.of (s _ _ h1), fun t ht => q' _ _ (Vf.Same.new (Same.refl _) ht) ⟨t, rfl, upd_same⟩⟩⟩
  intro xs H3 hxl s4 hL3 hP
  refine ⟨L, _, rfl, .inl ⟨SqL.of hL3, fun p hp => ?_⟩⟩
  have s34 : Same H H3 := s3.trans s4
  refine q p _ xs (fun i => Vf.rowOf (bs.map (Vf.prAt H1)) (fun k => decide (Vf.toP kvs H k ≠ k)) (i : Int)) (s34.free hp) (Vf.Same.new s34 hp) upd_same (by rw [hxl, List.length_map, W.len]) (fun i x hx => ?_) (fun i => ?_) (fun i j => ?_)
  · obtain ⟨t, rfl, ht⟩ := hP i x hx
    exact ⟨t, rfl, (Vf.Same.new (Same.refl _) hp) _ _ ht⟩
  · refine Vf.rowOf_asc (by rw [List.pairwise_map]; exact sd) (pm.nodup_iff.mpr pp.nd)
  · rw [Vf.rowOf_mem, pm.mem_iff]
    constructor
    · rintro ⟨h1, h2⟩
      obtain ⟨n, v, t, hn, hv, _, _, hP⟩ := hch _ h1
      rw [hP] at h2
      exact ⟨n, v, hn, hv, of_decide_eq_true h2⟩
    · rintro ⟨n, v, hn, hv, hne⟩
      refine ⟨List.mem_of_getElem? hn, ?_⟩
      rw [Vf.toP_at pp hn hv]
      exact decide_eq_true hne
end

def sp_Rulebook___init__ (K : PySem.W.Frag) (A : Ad) : Sp := fun vs H Q E => ∃ (p dx ls li ll lr lo : Addr) (D : Vf.DD) (xi xr : List V), vs = [.ref p, .ref ls, .ref li, .ref ll, .ref lr, .ref lo] ∧ H p = some (.ins A.c_Rulebook dx []) ∧
  H ls = some (.lst (D.st.map V.str)) ∧ H li = some (.lst xi) ∧ Vf.Tups Vf.enc2 H xi D.ins ∧ H ll = some (.lst (D.ld.map V.str)) ∧ H lr = some (.lst xr) ∧ Vf.Tups Vf.enc4 H xr D.ru ∧ H lo = some (.lst (D.ou.map V.int)) ∧ Vf.Short D ∧
  (Vf.Valid D → ∀ (a : Vf.RA) (H' : Hp), Vf.BookAt A.c_Rulebook H' p a D → Vf.Keep [p] H H' → Q .non H') ∧ (¬ Vf.Valid D → ∀ H', Same H H' → E (.ref A.c_InvalidRulebook) none H')
theorem len_Rulebook___init__ {K : PySem.W.Frag} {A : Ad} (vs : List V) (H : Hp) (Q : VK) (E : XK) (h : sp_Rulebook___init__ K A vs H Q E) : vs.length = ["self", "states", "inputs", "leaders", "rules", "outputs"].length := by
  obtain ⟨p, a, b, c, d, e, dx, D, x, y, rfl, _⟩ := h
  rfl

section
variable {P : Program} {w : World} {K : PySem.W.Frag} {mg : Str → Option Value} {base : Heap}
set_option maxHeartbeats 4000000 in
theorem ok_Rulebook___init__ {A : Ad} (T : Txt P K mg A) : FnOk P w K mg base (L2.CX P w) 5 A.f_Rulebook___init__ A.d_Rulebook___init__ ["self", "states", "inputs", "leaders", "rules", "outputs"] (sp_Rulebook___init__ K A) := by
  have G__drafted := ok__drafted (P := P) (w := w) (base := base) T
  have G__partners := ok__partners (P := P) (w := w) (base := base) T
  refine T.F_Rulebook___init__.okX sc_Rulebook___init__ len_Rulebook___init__ (fun cdv Ar outer s H vs Q E hr h => ?_)
  have hu := hu_of hr
  obtain ⟨p, dx, ls, li, ll, lr, lo, D, xi, xr, rfl, hp, hls, hli, ti, hll, hlr, tr, hlo, Z, q1, q2⟩ := h
  refine ⟨_, (pss_cons (ps_set (i := 6) sc_Rulebook___init__.nd rfl (Or.inl rfl) (pe_call G__drafted hr (by rfl) T.G__drafted T.F__drafted.kp T.B__drafted .nil (passes_call (takes_of rfl rfl rfl rfl) fun _ _ _ _ h => h) (pa_cons (pv 1) (pa_cons (pv 2) (pa_cons (pv 3) (pa_cons (pv 4) (pa_cons (pv 5) pa_nil)))))))
      (pss_cons (ps_fld (pv 0) (pe_callTy call_tuple_of (by rfl) T.N_tuple (by decide +kernel) (pa_cons (pe_fld (pv 6) (by rfl)) pa_nil)) rfl)
      (pss_cons (ps_fld (pv 0) (pe_callTy call_tuple_of (by rfl) T.N_tuple (by decide +kernel) (pa_cons (pe_fld (pv 6) (by rfl)) pa_nil)) rfl)
      (pss_cons (ps_fld (pv 0) (pe_callTy call_tuple_of (by rfl) T.N_tuple (by decide +kernel) (pa_cons (pe_fld (pv 6) (by rfl)) pa_nil)) rfl)
      (pss_cons (ps_fld (pv 0) (pe_callTy call_tuple_of (by rfl) T.N_tuple (by decide +kernel) (pa_cons (pe_fld (pv 6) (by rfl)) pa_nil)) rfl)
      (pss_cons (ps_fld (pv 0) (pe_callTy call_tuple_of (by rfl) T.N_tuple (by decide +kernel) (pa_cons (pe_fld (pv 6) (by rfl)) pa_nil)) rfl)
      (pss_cons (ps_fld (pv 0) (pe_fld (pv 6) (by rfl)) rfl)
      (pss_cons (ps_fld (pv 0) (pe_fld (pv 6) (by rfl)) rfl)
      (pss_one (ps_fld (pv 0) (pe_call G__partners (hr.mono (by decide)) (by rfl) T.G__partners T.F__partners.kp T.B__partners .nil pass0 (pa_cons (pe_fld (pv 6) (by rfl)) (pa_cons (pe_callB call_len_seq (by rfl) T.N_len PySem.boot_len (pa_cons (pe_fld (pv 6) (by rfl)) pa_nil)) pa_nil))) rfl)))))))))), ?_⟩
  refine ⟨_, rfl, _, rfl, _, rfl, _, rfl, _, rfl, ls, li, ll, lr, lo, D, xi, xr, rfl, hls, hli, ti, hll, hlr, tr, hlo, Z, fun v q a0 H1 S s1 nq fr => ?_, fun nv H' s => q2 nv H' s⟩
  obtain ⟨dq, hq⟩ := S.ob
  obtain ⟨x2, h2, T2⟩ := S.li
  obtain ⟨x4, h4, T4⟩ := S.lr
  obtain ⟨kvs, hk, R⟩ := S.dr
  have pin : ∀ {b : Addr}, H b = none → b ∉ [p] := fun hb m => by
    rw [List.mem_singleton] at m
    rw [m, hp] at hb
    cases hb
  have nqp : q ∉ [p] := pin nq
  have n1 : a0.ls ∉ [p] := pin (fr _ (by simp [Vf.DA.foot]))
  have n2 : a0.li ∉ [p] := pin (fr _ (by simp [Vf.DA.foot]))
  have n3 : a0.ll ∉ [p] := pin (fr _ (by simp [Vf.DA.foot]))
  have n4 : a0.lr ∉ [p] := pin (fr _ (by simp [Vf.DA.foot]))
  have n5 : a0.lo ∉ [p] := pin (fr _ (by simp [Vf.DA.foot]))
  have n6 : a0.dn ∉ [p] := pin (fr _ (by simp [Vf.DA.foot]))
  have n7 : a0.dr ∉ [p] := pin (fr _ (by simp [Vf.DA.foot]))
  have pm : p ∈ [p] := List.mem_singleton.mpr rfl
  have hp1 := s1 _ _ hp
  have ntp : ∀ {t : Addr} {ys : List V}, H1 t = some (.tup ys) → t ∉ [p] := fun ht m => by
    rw [List.mem_singleton] at m
    rw [m, hp1] at ht
    cases ht
  -- states
  refine ⟨_, rfl, q, A.c_Draft, dq, _, _, rfl, hq, T.C_Draft, T.A_Draft_states, rfl, a0.ls, _, rfl, .inl ⟨SqL.of S.ls, fun t1 m1 => ?_⟩⟩
  have e1 : p ≠ t1 := ne_of_none hp1 m1
  refine ⟨_, rfl, p, A.c_Rulebook, dx, [], rfl, (by rw [upd_ne e1]; exact hp1), T.C_Rulebook, T.A_Rulebook_states, (by show 0 < 1000; decide), ?_⟩
  have k1 : Vf.Keep [p] H1 (upd (upd H1 t1 (.tup (D.st.map V.str))) p (.ins A.c_Rulebook dx (putF "states" (.ref t1) []))) := ((Vf.Keep.refl H1).new m1).put pm
  have y1 : (upd (upd H1 t1 (.tup (D.st.map V.str))) p (.ins A.c_Rulebook dx (putF "states" (.ref t1) []))) t1 = some (.tup (D.st.map V.str)) := by rw [upd_ne (Ne.symm e1), upd_same]
  have z1 : t1 ∉ [p] := fun m => e1 (List.mem_singleton.mp m).symm
  -- inputs
  refine ⟨_, rfl, q, A.c_Draft, dq, _, _, rfl, k1 q _ nqp hq, T.C_Draft, T.A_Draft_inputs, rfl, a0.li, _, rfl, .inl ⟨SqL.of (k1 _ _ n2 h2), fun t2 m2 => ?_⟩⟩
  have e2 : p ≠ t2 := ne_of_none upd_same m2
  refine ⟨_, rfl, p, A.c_Rulebook, dx, _, rfl, (by rw [upd_ne e2]; exact upd_same), T.C_Rulebook, T.A_Rulebook_inputs, (by show 1 < 1000; decide), ?_⟩
  have j2 := ((Vf.Keep.refl _).new m2 (o := .tup x2)).put pm (o := .ins A.c_Rulebook dx (putF "inputs" (.ref t2) (putF "states" (.ref t1) [])))
  have k2 := k1.trans j2
  have z2 : t2 ∉ [p] := fun m => e2 (List.mem_singleton.mp m).symm
  -- leaders
  refine ⟨_, rfl, q, A.c_Draft, dq, _, _, rfl, k2 q _ nqp hq, T.C_Draft, T.A_Draft_leaders, rfl, a0.ll, _, rfl, .inl ⟨SqL.of (k2 _ _ n3 S.ll), fun t3 m3 => ?_⟩⟩
  have e3 : p ≠ t3 := ne_of_none upd_same m3
  refine ⟨_, rfl, p, A.c_Rulebook, dx, _, rfl, (by rw [upd_ne e3]; exact upd_same), T.C_Rulebook, T.A_Rulebook_leaders, (by show 2 < 1000; decide), ?_⟩
  have j3 := ((Vf.Keep.refl _).new m3 (o := .tup (D.ld.map V.str))).put pm (o := .ins A.c_Rulebook dx (putF "leaders" (.ref t3) (putF "inputs" (.ref t2) (putF "states" (.ref t1) []))))
  have k3 := k2.trans j3
  have z3 : t3 ∉ [p] := fun m => e3 (List.mem_singleton.mp m).symm
  -- rules
  refine ⟨_, rfl, q, A.c_Draft, dq, _, _, rfl, k3 q _ nqp hq, T.C_Draft, T.A_Draft_rules, rfl, a0.lr, _, rfl, .inl ⟨SqL.of (k3 _ _ n4 h4), fun t4 m4 => ?_⟩⟩
  have e4 : p ≠ t4 := ne_of_none upd_same m4
  refine ⟨_, rfl, p, A.c_Rulebook, dx, _, rfl, (by rw [upd_ne e4]; exact upd_same), T.C_Rulebook, T.A_Rulebook_rules, (by show 3 < 1000; decide), ?_⟩
  have j4 := ((Vf.Keep.refl _).new m4 (o := .tup x4)).put pm (o := .ins A.c_Rulebook dx (putF "rules" (.ref t4) (putF "leaders" (.ref t3) (putF "inputs" (.ref t2) (putF "states" (.ref t1) [])))))
  have k4 := k3.trans j4
  have z4 : t4 ∉ [p] := fun m => e4 (List.mem_singleton.mp m).symm
  -- outputs
  refine ⟨_, rfl, q, A.c_Draft, dq, _, _, rfl, k4 q _ nqp hq, T.C_Draft, T.A_Draft_outputs, rfl, a0.lo, _, rfl, .inl ⟨SqL.of (k4 _ _ n5 S.lo), fun t5 m5 => ?_⟩⟩
  have e5 : p ≠ t5 := ne_of_none upd_same m5
  refine ⟨_, rfl, p, A.c_Rulebook, dx, _, rfl, (by rw [upd_ne e5]; exact upd_same), T.C_Rulebook, T.A_Rulebook_outputs, (by show 4 < 1000; decide), ?_⟩
  have j5 := ((Vf.Keep.refl _).new m5 (o := .tup (D.ou.map V.int))).put pm (o := .ins A.c_Rulebook dx (putF "outputs" (.ref t5) (putF "rules" (.ref t4) (putF "leaders" (.ref t3) (putF "inputs" (.ref t2) (putF "states" (.ref t1) []))))))
  have k5 := k4.trans j5
  have z5 : t5 ∉ [p] := fun m => e5 (List.mem_singleton.mp m).symm
  -- numbers, results
  refine ⟨_, rfl, q, A.c_Draft, dq, _, _, rfl, k5 q _ nqp hq, T.C_Draft, T.A_Draft_numbers, rfl, _, rfl, p, A.c_Rulebook, dx, _, rfl, upd_same, T.C_Rulebook, T.A_Rulebook__numbers, (by show 5 < 1000; decide), ?_⟩
  have j6 := k5.self.put pm (o := .ins A.c_Rulebook dx (putF "_numbers" (.ref a0.dn) (putF "outputs" (.ref t5) (putF "rules" (.ref t4) (putF "leaders" (.ref t3) (putF "inputs" (.ref t2) (putF "states" (.ref t1) [])))))))
  have k6 := k5.trans j6
  refine ⟨_, rfl, q, A.c_Draft, dq, _, _, rfl, k6 q _ nqp hq, T.C_Draft, T.A_Draft_results, rfl, _, rfl, p, A.c_Rulebook, dx, _, rfl, upd_same, T.C_Rulebook, T.A_Rulebook__results, (by show 6 < 1000; decide), ?_⟩
  have j7 := k6.self.put pm (o := .ins A.c_Rulebook dx (putF "_results" (.ref a0.dr) (putF "_numbers" (.ref a0.dn) (putF "outputs" (.ref t5) (putF "rules" (.ref t4) (putF "leaders" (.ref t3) (putF "inputs" (.ref t2) (putF "states" (.ref t1) []))))))))
  have k7 := k6.trans j7
  -- the rows
  have lst : D.st.length ≤ 400 := by
    cases e : D.st.length with
    | zero => omega
    | succ n =>
      have hl : n < D.st.length := by omega
      have ho : n < D.ou.length := by rw [v.len]; exact hl
      have h := v.st n _ _ (List.getElem?_eq_getElem hl) (List.getElem?_eq_getElem ho)
      unfold Vf.DD.okState at h
      simp only [Bool.and_eq_true, decide_eq_true_eq, List.length_take] at h
      omega
  refine ⟨_, rfl, q, A.c_Draft, dq, _, _, rfl, k7 q _ nqp hq, T.C_Draft, T.A_Draft_results, rfl, _, rfl, q, A.c_Draft, dq, _, _, rfl, k7 q _ nqp hq, T.C_Draft, T.A_Draft_states, rfl, a0.ls, _, rfl, .inl (SqL.of (k7 _ _ n1 S.ls)), ?_⟩
  have R7 := (R.pp v.nd)
  refine ⟨a0.dr, D.st.length, kvs, Vf.rks D, Vf.rvs D, (by rw [List.length_map]; rfl), k7 _ _ n7 hk, ⟨R7.keys, R7.vals.mono fun t ys ht => k7 t _ (ntp ht) ht, R7.nd⟩, by omega, (by unfold Vf.rks; rw [List.length_map]; exact Z.nru), ?_, ?_⟩
  · intro k hkm
    unfold Vf.rks at hkm
    obtain ⟨r, hr', rfl⟩ := List.mem_map.mp hkm
    exact Vf.ix_bd (v.rule hr').1
  intro t8 H8 xs rows m8 s8 y8 l8 r8 a8 c8
  have hp8 := s8 p _ upd_same
  have e8 : p ≠ t8 := fun e => by
    rw [← e, upd_same] at m8
    cases m8
  refine ⟨_, rfl, p, A.c_Rulebook, dx, _, rfl, hp8, T.C_Rulebook, T.A_Rulebook__rows, (by show 7 < 1000; decide), ?_⟩
  have k8 := (k7.same s8).put pm (o := .ins A.c_Rulebook dx (putF "_rows" (.ref t8) (putF "_results" (.ref a0.dr) (putF "_numbers" (.ref a0.dn) (putF "outputs" (.ref t5) (putF "rules" (.ref t4) (putF "leaders" (.ref t3) (putF "inputs" (.ref t2) (putF "states" (.ref t1) [])))))))))
  have end8 := (k7.self.same s8).put pm (o := .ins A.c_Rulebook dx (putF "_rows" (.ref t8) (putF "_results" (.ref a0.dr) (putF "_numbers" (.ref a0.dn) (putF "outputs" (.ref t5) (putF "rules" (.ref t4) (putF "leaders" (.ref t3) (putF "inputs" (.ref t2) (putF "states" (.ref t1) [])))))))))
  have f7 := j7.trans end8
  have f6 := j6.trans f7
  have f5 := j5.trans f6
  have f4 := j4.trans f5
  have f3 := j3.trans f4
  have f2 := j2.trans f3
  have z8 : t8 ∉ [p] := fun m => e8 (List.mem_singleton.mp m).symm
  refine q1 v ⟨t1, t2, t3, t4, t5, a0.dn, a0.dr, t8⟩ _ ⟨⟨dx, upd_same⟩, f2 t1 _ z1 y1, ⟨x2, f3 t2 _ z2 (by rw [upd_ne (Ne.symm e2), upd_same]), T2.mono fun t ys ht => k8 t _ (ntp ht) ht⟩, f4 t3 _ z3 (by rw [upd_ne (Ne.symm e3), upd_same]), ⟨x4, f5 t4 _ z4 (by rw [upd_ne (Ne.symm e4), upd_same]), T4.mono fun t ys ht => k8 t _ (ntp ht) ht⟩,
    f6 t5 _ z5 (by rw [upd_ne (Ne.symm e5), upd_same]), k8 _ _ n6 S.dn, ⟨kvs, k8 _ _ n7 hk, R.same fun t ys ht => k8 t _ (ntp ht) ht⟩, ⟨xs, rows, (by rw [upd_ne (Ne.symm e8)]; exact y8), l8, fun i x hx => ?_, a8, c8⟩⟩ (Vf.Keep.trans (Vf.Keep.of s1) k8)
  obtain ⟨t, rfl, ht⟩ := r8 i x hx
  refine ⟨t, rfl, ?_⟩
  rw [upd_ne (fun e => by rw [e, hp8] at ht; cases ht)]
  exact ht
end

def sp__law_made (K : PySem.W.Frag) (A : Ad) : Sp := fun vs H Q _ => ∃ (p : Addr) (D : Vf.DD), vs = [.ref p] ∧ Vf.PartsAt H p D ∧ Vf.Valid D ∧ Vf.Short D ∧ ∀ (b : Addr) (a : Vf.RA) (H' : Hp), Vf.BookAt A.c_Rulebook H' b a D → Same H H' → H b = none → Q (.ref b) H'
theorem len__law_made {K : PySem.W.Frag} {A : Ad} (vs : List V) (H : Hp) (Q : VK) (E : XK) (h : sp__law_made K A vs H Q E) : vs.length = ["parts"].length := by
  obtain ⟨a, b, rfl, _⟩ := h
  rfl

section
variable {P : Program} {w : World} {K : PySem.W.Frag} {mg : Str → Option Value} {base : Heap}
set_option maxHeartbeats 4000000 in
theorem ok__law_made {A : Ad} (T : Txt P K mg A) : FnOk P w K mg base CX0 7 A.f__law_made A.d__law_made ["parts"] (sp__law_made K A) := by
  have G_Rulebook___init__ := ok_Rulebook___init__ (P := P) (w := w) (base := base) T
  refine T.F__law_made.ok sc__law_made len__law_made (fun cdv Ar outer s H vs Q E hr h => ?_)
  have hu := hu_of hr
  obtain ⟨p, D, rfl, P5, v, Z, q⟩ := h
  obtain ⟨ls, li, ll, lr, lo, xi, xr, hp, hls, hli, ti, hll, hlr, tr, hlo⟩ := P5
  refine ⟨_, (pss_one (ps_ret (pe_make T.K_Rulebook G_Rulebook___init__ hr (by rfl) T.G_Rulebook T.B_Rulebook___init__ .nil passL (pa_cons (pe_callTy call_list_of (by rfl) T.N_list (by decide +kernel) (pa_cons (pe_ix ix_tup (pv 0) pe_int (fun _ _ => rfl)) pa_nil)) (pa_cons (pe_callTy call_list_of (by rfl) T.N_list (by decide +kernel) (pa_cons (pe_ix ix_tup (pv 0) pe_int (fun _ _ => rfl)) pa_nil)) (pa_cons (pe_callTy call_list_of (by rfl) T.N_list (by decide +kernel) (pa_cons (pe_ix ix_tup (pv 0) pe_int (fun _ _ => rfl)) pa_nil)) (pa_cons (pe_callTy call_list_of (by rfl) T.N_list (by decide +kernel) (pa_cons (pe_ix ix_tup (pv 0) pe_int (fun _ _ => rfl)) pa_nil)) (pa_cons (pe_callTy call_list_of (by rfl) T.N_list (by decide +kernel) (pa_cons (pe_ix ix_tup (pv 0) pe_int (fun _ _ => rfl)) pa_nil)) pa_nil)))))))), ?_⟩
  refine ⟨_, rfl, p, _, 0, .ref ls, rfl, rfl, SqT.of hp, atI_nat (j := 0) rfl, ls, _, rfl, .inl (SqL.of hls), fun a1 n1 => ?_⟩
  have s1 := Vf.Same.new (o := .lst (D.st.map V.str)) (Same.refl H) n1
  refine ⟨_, rfl, p, _, 1, .ref li, rfl, rfl, SqT.of (s1 _ _ hp), atI_nat (j := 1) rfl, li, _, rfl, .inl (SqL.of (s1 _ _ hli)), fun a2 n2 => ?_⟩
  have s2 := Vf.Same.new (o := .lst xi) s1 n2
  refine ⟨_, rfl, p, _, 2, .ref ll, rfl, rfl, SqT.of (s2 _ _ hp), atI_nat (j := 2) rfl, ll, _, rfl, .inl (SqL.of (s2 _ _ hll)), fun a3 n3 => ?_⟩
  have s3 := Vf.Same.new (o := .lst (D.ld.map V.str)) s2 n3
  refine ⟨_, rfl, p, _, 3, .ref lr, rfl, rfl, SqT.of (s3 _ _ hp), atI_nat (j := 3) rfl, lr, _, rfl, .inl (SqL.of (s3 _ _ hlr)), fun a4 n4 => ?_⟩
  have s4 := Vf.Same.new (o := .lst xr) s3 n4
  refine ⟨_, rfl, p, _, 4, .ref lo, rfl, rfl, SqT.of (s4 _ _ hp), atI_nat (j := 4) rfl, lo, _, rfl, .inl (SqL.of (s4 _ _ hlo)), fun a5 n5 => ?_⟩
  have s5 := Vf.Same.new (o := .lst (D.ou.map V.int)) s4 n5
  have f4 := Vf.Same.new (o := .lst (D.ou.map V.int)) (Same.refl _) n5
  have f3 := Vf.Same.new (o := .lst (D.ou.map V.int)) (Vf.Same.new (o := .lst xr) (Same.refl _) n4) n5
  have f2 := Vf.Same.new (o := .lst (D.ou.map V.int)) (Vf.Same.new (o := .lst xr) (Vf.Same.new (o := .lst (D.ld.map V.str)) (Same.refl _) n3) n4) n5
  have f1 := Vf.Same.new (o := .lst (D.ou.map V.int)) (Vf.Same.new (o := .lst xr) (Vf.Same.new (o := .lst (D.ld.map V.str)) (Vf.Same.new (o := .lst xi) (Same.refl _) n2) n3) n4) n5
  intro x dx nx nd nex
  have s6 := Vf.Same.new (o := .own x) s5 nd
  have nx6 : (upd (upd (upd (upd (upd (upd H a1 (.lst (D.st.map V.str))) a2 (.lst xi)) a3 (.lst (D.ld.map V.str))) a4 (.lst xr)) a5 (.lst (D.ou.map V.int))) dx (.own x)) x = none := by rw [upd_ne (Ne.symm nex)]; exact nx
  have s7 := Vf.Same.new (o := .ins A.c_Rulebook dx []) s6 nx6
  have g5 := Vf.Same.new (o := .ins A.c_Rulebook dx []) (Vf.Same.new (o := .own x) (Same.refl _) nd) nx6
  refine ⟨x, dx, a1, a2, a3, a4, a5, D, xi, xr, rfl, upd_same, g5 _ _ (f1 _ _ upd_same), g5 _ _ (f2 _ _ upd_same), ti.same s7, g5 _ _ (f3 _ _ upd_same), g5 _ _ (f4 _ _ upd_same), tr.same s7, g5 _ _ upd_same, Z, fun _ a H' B k => ⟨rfl, ?_⟩, fun nv => absurd v nv⟩
  have nxH : H x = none := s5.free nx
  refine q x a H' B (fun b o e => k b o (fun m => ?_) (s7 b o e)) nxH
  rw [List.mem_singleton] at m
  rw [m, nxH] at e
  cases e
end

def sp_find_twin_map (K : PySem.W.Frag) (A : Ad) : Sp := fun vs H Q E => ∃ (b c : Addr) (ra rc : Vf.RA) (D D' : Vf.DD) (lim : Nat), vs = [.ref b, .ref c, .int (lim : Nat)] ∧ Vf.BookAt A.c_Rulebook H b ra D ∧ Vf.BookAt A.c_Rulebook H c rc D' ∧ Vf.ValidN D ∧ Vf.ValidN D' ∧ D.ru.length ≤ 400 ∧ 1 ≤ D.st.length ∧ D.st.length ≤ 400 ∧ lim ≤ 1000000 ∧
  (∀ (d : Addr) (H' : Hp), lim < Vf.enoughK D'.st.length D.st.length → Same H H' → H' d = some (.xd [("limit", .int (lim : Nat))]) → E (.ref A.c_TooLarge) (some d) H') ∧
  ((∀ l, ¬ Vf.GoodM D D' true l) → ∀ H', Same H H' → Q .non H') ∧
  (∀ r, Vf.GoodM D D' true r → (∀ l, Vf.GoodM D D' true l → Vf.Aft l r 0) → ∀ (a : Addr) (H' : Hp), Same H H' → H' a = some (.tup (r.map V.int)) → Q (.ref a) H')
theorem len_find_twin_map {K : PySem.W.Frag} {A : Ad} (vs : List V) (H : Hp) (Q : VK) (E : XK) (h : sp_find_twin_map K A vs H Q E) : vs.length = ["first", "second", "limit"].length := by
  obtain ⟨a1, a2, a3, a4, a5, a6, a7, rfl, _⟩ := h
  rfl

section
variable {P : Program} {w : World} {K : PySem.W.Frag} {mg : Str → Option Value} {base : Heap}
set_option maxHeartbeats 4000000 in
theorem ok_find_twin_map {A : Ad} (T : Txt P K mg A) : FnOk P w K mg base (L2.CX P w) 8 A.f_find_twin_map A.d_find_twin_map ["first", "second", "limit"] (sp_find_twin_map K A) := by
  have G__first_map := ok__first_map (P := P) (w := w) (base := base) T
  refine T.F_find_twin_map.okX sc_find_twin_map len_find_twin_map (fun cdv Ar outer s H vs Q E hr h => ?_)
  have hu := hu_of hr
  obtain ⟨b, c, ra, rc, D, D', lim, rfl, B, B', vN, vM, ru4, n1, n7, l6, q0, q1, q2⟩ := h
  refine ⟨_, (pss_one (ps_ret (pe_call G__first_map hr (by rfl) T.G__first_map T.F__first_map.kp T.B__first_map .nil (passes_call (takes_of rfl rfl rfl rfl) fun _ _ _ _ h => h) (pa_cons (pv 0) (pa_cons (pv 1) (pa_cons (pv 2) (pa_cons pe_bl pa_nil))))))), ?_⟩
  exact ⟨_, rfl, _, rfl, _, rfl, b, c, ra, rc, true, D, D', lim, rfl, B, B', vN, vM, ru4, n1, n7, l6, q0, q1, q2⟩
end

def sp__law_is_int (K : PySem.W.Frag) (A : Ad) : Sp := fun vs H Q _ => ∃ i : Int, vs = [.int i] ∧ Q (.bl true) H
theorem len__law_is_int {K : PySem.W.Frag} {A : Ad} (vs : List V) (H : Hp) (Q : VK) (E : XK) (h : sp__law_is_int K A vs H Q E) : vs.length = ["x"].length := by
  obtain ⟨a, rfl, _⟩ := h
  rfl

section
variable {P : Program} {w : World} {K : PySem.W.Frag} {mg : Str → Option Value} {base : Heap}
set_option maxHeartbeats 4000000 in
theorem ok__law_is_int {A : Ad} (T : Txt P K mg A) : FnOk P w K mg base CX0 1 A.f__law_is_int A.d__law_is_int ["x"] (sp__law_is_int K A) := by
  refine T.F__law_is_int.ok sc__law_is_int len__law_is_int (fun cdv Ar outer s H vs Q E hr h => ?_)
  have hu := hu_of hr
  obtain ⟨i, rfl, q⟩ := h
  refine ⟨_, (pss_one (ps_ret (pe_and (pe_callB call_isi (by rfl) T.N_isinstance (by decide +kernel) (pa_cons (pv 0) (pa_cons (pe_bltn (v := .ty "int") (u := .type "int") (by rfl) T.N_int (by decide +kernel) rfl) pa_nil))) (pe_one (pe_not (pe_callB call_isi (by rfl) T.N_isinstance (by decide +kernel) (pa_cons (pv 0) (pa_cons (pe_bltn (v := .ty "bool") (u := .type "bool") (by rfl) T.N_bool (by decide +kernel) rfl) pa_nil)))))))), ?_⟩
  refine ⟨_, rfl, _, _, .type "int", .type "int", true, rfl, ClsV.ty _, TyX.base (TyOf.int i), rfl, _, rfl, ?_⟩
  refine iteT ⟨_, rfl, _, _, .type "int", .type "bool", false, rfl, ClsV.ty _, TyX.base (TyOf.int i), rfl, _, rfl, ?_⟩
  exact q
end

def sp__law_ints (K : PySem.W.Frag) (A : Ad) : Sp := fun vs H Q _ => ∃ (a : Addr) (ns : List Int), (vs = [.ref a, .str "tuple"] ∧ H a = some (.tup (ns.map V.int)) ∨ vs = [.ref a, .str "list"] ∧ H a = some (.lst (ns.map V.int))) ∧ ns.length ≤ 1000000 ∧ Q (.bl true) H
theorem len__law_ints {K : PySem.W.Frag} {A : Ad} (vs : List V) (H : Hp) (Q : VK) (E : XK) (h : sp__law_ints K A vs H Q E) : vs.length = ["x", "kind"].length := by
  obtain ⟨a, ns, ⟨rfl, _⟩ | ⟨rfl, _⟩, _⟩ := h
  · rfl
  · rfl

section
variable {P : Program} {w : World} {K : PySem.W.Frag} {mg : Str → Option Value} {base : Heap}
set_option maxHeartbeats 4000000 in
theorem ok__law_ints {A : Ad} (T : Txt P K mg A) : FnOk P w K mg base CX0 2 A.f__law_ints A.d__law_ints ["x", "kind"] (sp__law_ints K A) := by
  have G__law_is_int := ok__law_is_int (P := P) (w := w) (base := base) T
  refine T.F__law_ints.ok sc__law_ints len__law_ints (fun cdv Ar outer s H vs Q E hr h => ?_)
  have hu := hu_of hr
  obtain ⟨a, ns, h2, small, q⟩ := h
  refine ⟨_, (pss_cons (ps_if (pt_cmpR op_eq (pv 1) pe_str (nomark _)) (pss_one (ps_if (pt_not (pt_val (pe_callB call_isi (by rfl) T.N_isinstance (by decide +kernel) (pa_cons (pv 0) (pa_cons (pe_bltn (v := .ty "list") (u := .type "list") (by rfl) T.N_list (by decide +kernel) rfl) pa_nil))))) (pss_one (ps_ret pe_bl)) pss_nil)) (pss_one (ps_if (pt_not (pt_val (pe_callB call_isi (by rfl) T.N_isinstance (by decide +kernel) (pa_cons (pv 0) (pa_cons (pe_bltn (v := .ty "tuple") (u := .type "tuple") (by rfl) T.N_tuple (by decide +kernel) rfl) pa_nil))))) (pss_one (ps_ret pe_bl)) pss_nil)))
      (pss_cons (ps_for PassesOwn.never rfl (pi_range1 rfl T.N_range (pa_cons (pe_callB call_len_seq (by rfl) T.N_len PySem.boot_len (pa_cons (pv 0) pa_nil)) pa_nil)) (pg_name (i := 2) sc__law_ints.nd rfl (Or.inl rfl))
        (pss_one (ps_if (pt_not (pt_val (pe_call G__law_is_int hr (by rfl) T.G__law_is_int T.F__law_is_int.kp T.B__law_is_int .nil pass0 (pa_cons (pe_ix Vf.ix_seq (pv 0) (pv 2) (fun _ _ => rfl)) pa_nil)))) (pss_one (ps_ret pe_bl)) pss_nil)))
      (pss_one (ps_ret pe_bl)))), ?_⟩
  rcases h2 with ⟨rfl, h2⟩ | ⟨rfl, h2⟩
  · refine ⟨_, rfl, rfl, _, rfl, Vf.ite_d (fun c => absurd c (by decide +kernel)) fun _ => ?_⟩
    refine ⟨_, rfl, _, _, .type "tuple", .type "tuple", true, rfl, ClsV.ty _, TyX.base (TyOf.tup h2), rfl, _, rfl, Vf.ite_b (fun c => absurd c (by decide)) fun _ => ?_⟩
    refine ⟨_, rfl, a, _, rfl, .inr (SqT.of h2), _, rfl, Int.natCast_nonneg _, ?_, for_range (lo := 0) (n := ((ns.map V.int).length : Int).toNat) (fun i σ H' => (∃ k, σ = [some (.ref a), some (.str "tuple"), k]) ∧ H' = H) ⟨⟨none, rfl⟩, rfl⟩ ?_ ?_⟩
    · rw [List.length_map]
      omega
    · rintro i σ H' hi ⟨⟨k, rfl⟩, rfl⟩
      rw [List.length_map, Int.toNat_natCast] at hi
      have hx : ns[i]? = some ns[i] := List.getElem?_eq_getElem hi
      refine ⟨_, rfl, _, rfl, a, _, _, .int ns[i], rfl, rfl, .inr (SqT.of h2), ?_, ?_⟩
      · rw [show (0 : Int) + (i : Int) = (i : Int) by omega]
        refine atI_nat ?_
        rw [List.getElem?_map, hx]
        rfl
      · exact ⟨_, rfl, _, rfl, Vf.ite_b (fun c => absurd c (by decide)) fun _ => ⟨⟨_, rfl⟩, rfl⟩⟩
    · rintro σ H' ⟨⟨k, rfl⟩, rfl⟩
      exact q
  · refine ⟨_, rfl, rfl, _, rfl, Vf.ite_d (fun _ => ?_) fun c => absurd rfl c⟩
    refine ⟨_, rfl, _, _, .type "list", .type "list", true, rfl, ClsV.ty _, TyX.base (TyOf.lst h2), rfl, _, rfl, Vf.ite_b (fun c => absurd c (by decide)) fun _ => ?_⟩
    refine ⟨_, rfl, a, _, rfl, .inl (SqL.of h2), _, rfl, Int.natCast_nonneg _, ?_, for_range (lo := 0) (n := ((ns.map V.int).length : Int).toNat) (fun i σ H' => (∃ k, σ = [some (.ref a), some (.str "list"), k]) ∧ H' = H) ⟨⟨none, rfl⟩, rfl⟩ ?_ ?_⟩
    · rw [List.length_map]
      omega
    · rintro i σ H' hi ⟨⟨k, rfl⟩, rfl⟩
      rw [List.length_map, Int.toNat_natCast] at hi
      have hx : ns[i]? = some ns[i] := List.getElem?_eq_getElem hi
      refine ⟨_, rfl, _, rfl, a, _, _, .int ns[i], rfl, rfl, .inl (SqL.of h2), ?_, ?_⟩
      · rw [show (0 : Int) + (i : Int) = (i : Int) by omega]
        refine atI_nat ?_
        rw [List.getElem?_map, hx]
        rfl
      · exact ⟨_, rfl, _, rfl, Vf.ite_b (fun c => absurd c (by decide)) fun _ => ⟨⟨_, rfl⟩, rfl⟩⟩
    · rintro σ H' ⟨⟨k, rfl⟩, rfl⟩
      exact q
end

def sp__law_is_tuple (K : PySem.W.Frag) (A : Ad) : Sp := fun vs H Q _ => ∃ (a b : Addr) (ns ms : List Int), vs = [.ref a, .ref b] ∧ H a = some (.tup (ns.map V.int)) ∧ H b = some (.tup (ms.map V.int)) ∧ ns.length ≤ 1000000 ∧ Q (.bl (decide (ns = ms))) H
theorem len__law_is_tuple {K : PySem.W.Frag} {A : Ad} (vs : List V) (H : Hp) (Q : VK) (E : XK) (h : sp__law_is_tuple K A vs H Q E) : vs.length = ["x", "due"].length := by
  obtain ⟨a, b, ns, ms, rfl, _⟩ := h
  rfl

section
variable {P : Program} {w : World} {K : PySem.W.Frag} {mg : Str → Option Value} {base : Heap}
set_option maxHeartbeats 4000000 in
theorem ok__law_is_tuple {A : Ad} (T : Txt P K mg A) : FnOk P w K mg base CX0 3 A.f__law_is_tuple A.d__law_is_tuple ["x", "due"] (sp__law_is_tuple K A) := by
  have G__law_ints := ok__law_ints (P := P) (w := w) (base := base) T
  refine T.F__law_is_tuple.ok sc__law_is_tuple len__law_is_tuple (fun cdv Ar outer s H vs Q E hr h => ?_)
  have hu := hu_of hr
  obtain ⟨a, b, ns, ms, rfl, h1, h2, small, q⟩ := h
  refine ⟨_, (pss_one (ps_ret (pe_and (pe_call G__law_ints hr (by rfl) T.G__law_ints T.F__law_ints.kp T.B__law_ints .nil pass0 (pa_cons (pv 0) (pa_cons pe_str pa_nil))) (pe_one (pe_cmpR (Vf.op_eqIs hr.units) (pv 0) (pv 1) (nomark _)))))), ?_⟩
  refine ⟨_, rfl, a, ns, .inl ⟨rfl, h1⟩, small, _, rfl, iteT ⟨_, rfl, _, rfl, ns, ms, ⟨a, b, rfl, rfl, .inr ⟨SqT.of h1, SqT.of h2⟩⟩, q⟩⟩
end

def sp_law (K : PySem.W.Frag) (_ : Ad) : Sp := Vf.spLaw K
theorem len_law {K : PySem.W.Frag} {A : Ad} (vs : List V) (H : Hp) (Q : VK) (E : XK) (h : sp_law K A vs H Q E) : vs.length = ["script"].length := by
  obtain ⟨a, ns, rfl, _⟩ := h
  rfl

section
variable {P : Program} {w : World} {K : PySem.W.Frag} {mg : Str → Option Value} {base : Heap}
set_option maxHeartbeats 4000000 in
theorem ok_law {A : Ad} (T : Txt P K mg A) : FnOk P w K mg base CX0 9 A.f_law A.d_law ["script"] (sp_law K A) := by
  have G__law_two_parts := ok__law_two_parts (P := P) (w := w) (base := base) T
  have G__law_cell := ok__law_cell (P := P) (w := w) (base := base) T
  have G__law_tuples := ok__law_tuples (P := P) (w := w) (base := base) T
  have G__law_is_image := ok__law_is_image (P := P) (w := w) (base := base) T
  have G_find_map := ok_find_map (P := P) (w := w) (base := base) T
  have G__law_made := ok__law_made (P := P) (w := w) (base := base) T
  have G_find_twin_map := ok_find_twin_map (P := P) (w := w) (base := base) T
  have G__law_is_tuple := ok__law_is_tuple (P := P) (w := w) (base := base) T
  obtain ⟨_, db_find_map⟩ := T.DB_find_map
  obtain ⟨_, db_find_twin_map⟩ := T.DB_find_twin_map
  refine T.F_law.ok sc_law len_law (fun cdv Ar outer s H vs Q E hr h => ?_)
  have hu := hu_of hr
  obtain ⟨a, ns, rfl, hS, hn63, q⟩ := h
  refine ⟨_, (pss_cons (ps_asg (pe_call G__law_two_parts (hr.mono (by decide)) (by rfl) T.G__law_two_parts T.F__law_two_parts.kp T.B__law_two_parts .nil pass0 (pa_cons (pe_call G__law_cell (hr.mono (by decide)) (by rfl) T.G__law_cell T.F__law_cell.kp T.B__law_cell .nil pass0 (pa_cons (pv 0) (pa_cons pe_int pa_nil))) (pa_cons (pe_call G__law_cell (hr.mono (by decide)) (by rfl) T.G__law_cell T.F__law_cell.kp T.B__law_cell .nil pass0 (pa_cons (pv 0) (pa_cons pe_int pa_nil))) pa_nil))) (pg_unl (by rfl) (pgs_cons (pg_name (i := 1) sc_law.nd rfl (Or.inl rfl)) (pgs_cons (pg_name (i := 2) sc_law.nd rfl (Or.inl rfl)) (pgs_cons (pg_name (i := 3) sc_law.nd rfl (Or.inl rfl)) pgs_nil)))))
      (pss_cons (ps_if (pt_cmpR op_eq (pe_op op_mod (pe_callTy call_int1 (by rfl) T.N_int (by decide +kernel) (pa_cons (pe_call G__law_cell (hr.mono (by decide)) (by rfl) T.G__law_cell T.F__law_cell.kp T.B__law_cell .nil pass0 (pa_cons (pv 0) (pa_cons pe_int pa_nil))) pa_nil)) pe_int) pe_int (nomark _)) (pss_one (ps_set (i := 1) sc_law.nd rfl (Or.inl rfl) (pv 2))) pss_nil)
      (pss_cons (ps_set (i := 4) sc_law.nd rfl (Or.inl rfl) pe_non)
      (pss_cons (ps_set (i := 5) sc_law.nd rfl (Or.inl rfl) pe_non)
      (pss_cons (ps_for PassesOwn.never rfl (pi_list (pe_revL (pe_call G__law_tuples (hr.mono (by decide)) (by rfl) T.G__law_tuples T.F__law_tuples.kp T.B__law_tuples .nil pass0 (pa_cons (pe_callB call_len_seq (by rfl) T.N_len PySem.boot_len (pa_cons (pe_ix ix_tup (pv 1) pe_int (fun _ _ => rfl)) pa_nil)) (pa_cons (pe_callB call_len_seq (by rfl) T.N_len PySem.boot_len (pa_cons (pe_ix ix_tup (pv 2) pe_int (fun _ _ => rfl)) pa_nil)) pa_nil))))) (pg_name (i := 6) sc_law.nd rfl (Or.inl rfl))
        (pss_one (ps_if (pt_val (pe_call G__law_is_image (hr.mono (by decide)) (by rfl) T.G__law_is_image T.F__law_is_image.kp T.B__law_is_image .nil pass0 (pa_cons (pv 1) (pa_cons (pv 2) (pa_cons (pv 6) pa_nil))))) (pss_cons (ps_set (i := 4) sc_law.nd rfl (Or.inl rfl) (pv 6))
      (pss_one (ps_if (pt_cmpR (Vf.op_eqIs hr.units) (pe_callB Vf.cr_sortedIT (by rfl) T.N_sorted (by decide +kernel) (pa_cons (pv 6) pa_nil)) (pe_listRg rfl (by rfl) T.N_list (prg_1 (by rfl) T.N_range (pe_callB call_len_seq (by rfl) T.N_len PySem.boot_len (pa_cons (pe_ix ix_tup (pv 2) pe_int (fun _ _ => rfl)) pa_nil)))) (nomark _)) (pss_one (ps_set (i := 5) sc_law.nd rfl (Or.inl rfl) (pv 6))) pss_nil))) pss_nil)))
      (pss_cons (ps_set (i := 7) sc_law.nd rfl (Or.inl rfl) (pe_call G_find_map hr (by rfl) T.G_find_map T.F_find_map.kp db_find_map.2 db_find_map.1 passL (pa_cons (pe_call G__law_made (hr.mono (by decide)) (by rfl) T.G__law_made T.F__law_made.kp T.B__law_made .nil pass0 (pa_cons (pv 1) pa_nil)) (pa_cons (pe_call G__law_made (hr.mono (by decide)) (by rfl) T.G__law_made T.F__law_made.kp T.B__law_made .nil pass0 (pa_cons (pv 2) pa_nil)) pa_nil))))
      (pss_cons (ps_set (i := 8) sc_law.nd rfl (Or.inl rfl) (pe_call G_find_twin_map hr (by rfl) T.G_find_twin_map T.F_find_twin_map.kp db_find_twin_map.2 db_find_twin_map.1 passL (pa_cons (pe_call G__law_made (hr.mono (by decide)) (by rfl) T.G__law_made T.F__law_made.kp T.B__law_made .nil pass0 (pa_cons (pv 1) pa_nil)) (pa_cons (pe_call G__law_made (hr.mono (by decide)) (by rfl) T.G__law_made T.F__law_made.kp T.B__law_made .nil pass0 (pa_cons (pv 2) pa_nil)) pa_nil))))
      (pss_cons (ps_if (PW.pt (pw_or (PW.pt (pw_and (pt_cmpR op_isN (pv 4) pe_non (nomark _)) (pw_and1 (pt_cmpR op_notN (pv 7) pe_non (nomark _))))) (pw_or1 (PW.pt (pw_and (pt_cmpR op_notN (pv 4) pe_non (nomark _)) (pw_and1 (pt_not (pt_val (pe_call G__law_is_tuple (hr.mono (by decide)) (by rfl) T.G__law_is_tuple T.F__law_is_tuple.kp T.B__law_is_tuple .nil pass0 (pa_cons (pv 7) (pa_cons (pv 4) pa_nil))))))))))) (pss_one (ps_ret pe_bl)) pss_nil)
      (pss_cons (ps_if (pt_cmpR op_isN (pv 5) pe_non (nomark _)) (pss_one (ps_ret (pe_cmpR op_isN (pv 8) pe_non (nomark _)))) pss_nil)
      (pss_one (ps_ret (pe_call G__law_is_tuple (hr.mono (by decide)) (by rfl) T.G__law_is_tuple T.F__law_is_tuple.kp T.B__law_is_tuple .nil pass0 (pa_cons (pv 8) (pa_cons (pv 5) pa_nil)))))))))))))), ?_⟩
  refine ⟨_, rfl, a, ns, _, rfl, hS, by omega, _, rfl, a, ns, _, rfl, hS, by omega, ?_⟩
  refine ⟨_, _, rfl, fun L p0 p' m0 H1 D0 D' ims hL P0 P' _ ⟨T2, m3, d4⟩ s1 nL => ?_⟩
  refine ⟨L, _, rfl, SqL.of hL, rfl, _, _, rfl, _, _, rfl, _, _, rfl, rfl, ?_⟩
  have m1 := T2.st0
  have vM := T2.v'
  have ruM := T2.ru'
  dsimp only
  refine Vf.seq_join (fun σ' H' => ∃ (p : Addr) (D : Vf.DD), σ' = [some (.ref a), some (.ref p), some (.ref p'), some (.ref m0), none, none, none, none, none] ∧ H1 = H' ∧ Vf.PartsAt H1 p D ∧ Vf.ValidN D ∧ D.ru.length ≤ 100 ∧ 1 ≤ D.st.length ∧ D.st.length ≤ 4) (fun nx hn => ?_) ?_
  · refine ⟨_, rfl, a, ns, _, rfl, s1.seq hS, by omega, .inl ⟨_, rfl, _, _, rfl, rfl, (by show (0 : Int) < 3; decide), rfl, _, rfl, Vf.ite_d (fun _ => ?_) fun _ => ?_⟩⟩
    · exact ⟨_, rfl, hn _ _ ⟨p', D', rfl, rfl, P', vM, ruM, m1, by omega⟩⟩
    · exact hn _ _ ⟨p0, D0, rfl, rfl, P0, T2.v, T2.ru, T2.n1, d4⟩
  rintro σ' H' ⟨p, D, rfl, rfl, P, vN, ruN, n1, n4⟩
  clear T2 P0
  obtain ⟨ls, li, ll, lr, lo, xi, xr, h0, hls, _⟩ := id P
  obtain ⟨ls', li', ll', lr', lo', xi', xr', g0, gls, _⟩ := id P'
  have lst : (D.st.map V.str).length = D.st.length := List.length_map ..
  have lst' : (D'.st.map V.str).length = D'.st.length := List.length_map ..
  refine ⟨_, rfl, p, _, 0, .ref ls, rfl, rfl, SqT.of h0, atI_nat (j := 0) rfl, ls, _, rfl, .inl (SqL.of hls), _, rfl, p', _, 0, .ref ls', rfl, rfl, SqT.of g0, atI_nat (j := 0) rfl, ls', _, rfl, .inl (SqL.of gls), ?_⟩
  rw [lst, lst']
  refine ⟨D.st.length, D'.st.length, rfl, by omega, by omega, fun LT xs H4 nLT s4 hLT tT => ⟨LT, xs, rfl, SqL.of hLT, fun R nR => ?_⟩⟩
  have s5 := Vf.Same.new (o := .lst xs.reverse) (Same.refl H4) nR
  have hR := upd_same (H := H4) (a := R) (o := .lst xs.reverse)
  generalize upd H4 R (.lst xs.reverse) = H5 at s5 hR ⊢
  have s15 := s4.trans s5
  have t5 := tT.same s5
  have xl : xs.length = (Vf.tupsK D'.st.length D.st.length).length := tT.1
  refine ⟨R, rfl, ⟨_, SqL.of hR⟩, for_list (K := K) (a := R) (xs := xs.reverse) (fun i σ H' => ∃ (dv tv : V) (v6 : Option V), σ = [some (.ref a), some (.ref p), some (.ref p'), some (.ref m0), some dv, some tv, v6, none, none] ∧ Same H5 H' ∧ Vf.DueAt H' dv (Vf.firstM D D' ((Vf.tupsK D'.st.length D.st.length).drop ((Vf.tupsK D'.st.length D.st.length).length - i))) ∧ Vf.DueAt H' tv (Vf.firstT D D' ((Vf.tupsK D'.st.length D.st.length).drop ((Vf.tupsK D'.st.length D.st.length).length - i)))) ⟨.non, .non, none, rfl, Same.refl H5, by rw [Nat.sub_zero, List.drop_length]; rfl, by rw [Nat.sub_zero, List.drop_length]; rfl⟩ (fun i σ H' _ ⟨_, _, _, _, s, _⟩ => SqL.of (s _ _ hR)) ?_ ?_⟩
  · rintro i x σ H6 hx ⟨dv, tv, v6, rfl, s6, due, twi⟩
    have il : i < xs.length := by
      have := (List.getElem?_eq_some_iff.mp hx).1
      rwa [List.length_reverse] at this
    rw [List.getElem?_reverse il] at hx
    obtain ⟨j, hj⟩ : ∃ j, j = xs.length - 1 - i := ⟨_, rfl⟩
    rw [← hj] at hx
    obtain ⟨row, t, er, rfl, ht⟩ := (t5.same s6).get hx
    have rowm := Vf.tupsK_mem.mp (List.mem_of_getElem? er)
    have jl : j < (Vf.tupsK D'.st.length D.st.length).length := (List.getElem?_eq_some_iff.mp er).1
    have ej : (Vf.tupsK D'.st.length D.st.length).drop ((Vf.tupsK D'.st.length D.st.length).length - (i + 1)) = row :: (Vf.tupsK D'.st.length D.st.length).drop ((Vf.tupsK D'.st.length D.st.length).length - i) := by
      rw [show (Vf.tupsK D'.st.length D.st.length).length - (i + 1) = j by omega, show (Vf.tupsK D'.st.length D.st.length).length - i = j + 1 by omega, List.drop_eq_getElem_cons jl, (List.getElem?_eq_some_iff.mp er).2]
    have s16 := s15.trans s6
    refine ⟨_, rfl, _, rfl, _, rfl, p, p', t, D, D', row, rfl, P.same s16, P'.same s16, vN, vM, by omega, by omega, SqT.of ht, rowm.1, by omega, fun r H7 hr s7 => ⟨_, rfl, Vf.ite_b (fun e => ?_) fun e => ?_⟩⟩
    rotate_left
    · have ni : ¬ Vf.IsMap D D' row := fun h => by rw [hr.mpr h] at e; cases e
      refine ⟨dv, tv, _, rfl, s6.trans s7, ?_, ?_⟩
      · rw [ej, Vf.firstM_cons.2 ni]
        exact due.same s7
      · rw [ej, Vf.firstT_cons.2 fun h => ni h.1]
        exact twi.same s7
    have im := hr.mp e
    have ht7 := s7 _ _ ht
    have g07 := (s16.trans s7) _ _ g0
    have gl7 := (s16.trans s7) _ _ gls
    refine ⟨_, rfl, _, rfl, t, row, rfl, SqT.of ht7, by omega, fun ms z pm pw nz => ?_⟩
    have s8 := Vf.Same.new (o := .lst (ms.map V.int)) (Same.refl H7) nz
    have hz := upd_same (H := H7) (a := z) (o := .lst (ms.map V.int))
    generalize upd H7 z (.lst (ms.map V.int)) = H8 at s8 hz ⊢
    refine ⟨_, rfl, p', _, 0, .ref ls', rfl, rfl, SqT.of (s8 _ _ g07), atI_nat (j := 0) rfl, ls', _, rfl, .inl (SqL.of (s8 _ _ gl7)), _, rfl, ?_⟩
    refine ⟨⟨by first | omega | (rw [lst']; omega), by first | omega | (rw [lst']; omega), by first | omega | (rw [lst']; omega), by first | omega | (rw [lst']; omega)⟩, fun u nu => ?_⟩
    rw [lst', Vf.rgV_nat]
    have s9 := Vf.Same.new (o := .lst (((List.range D'.st.length).map fun (i : Nat) => (i : Int)).map V.int)) (Same.refl H8) nu
    have hu' := upd_same (H := H8) (a := u) (o := .lst (((List.range D'.st.length).map fun (i : Nat) => (i : Int)).map V.int))
    generalize upd H8 u (.lst (((List.range D'.st.length).map fun (i : Nat) => (i : Int)).map V.int)) = H9 at s9 hu' ⊢
    have ad := Vf.all_diff rowm.2 pm pw
    have s69 := ((s6.trans s7).trans s8).trans s9
    have ht9 := (s8.trans s9) _ _ ht7
    refine ⟨ms, _, ⟨z, u, rfl, rfl, .inl ⟨SqL.of (s9 _ _ hz), SqL.of hu'⟩⟩, _, rfl, Vf.ite_d (fun e2 => ?_) fun e2 => ?_⟩
    · refine ⟨_, rfl, .ref t, .ref t, _, rfl, s69, ?_, ?_⟩
      · rw [ej, Vf.firstM_cons.1 im]
        exact ⟨t, rfl, ht9⟩
      · rw [ej, Vf.firstT_cons.1 ⟨im, ad.mp e2⟩]
        exact ⟨t, rfl, ht9⟩
    · refine ⟨.ref t, tv, _, rfl, s69, ?_, ?_⟩
      · rw [ej, Vf.firstM_cons.1 im]
        exact ⟨t, rfl, ht9⟩
      · rw [ej, Vf.firstT_cons.2 fun h => e2 (ad.mpr h.2)]
        exact (twi.same s7).same (s8.trans s9)
  rintro σ H6 ⟨dv, tv, v6, rfl, s6, due, twi⟩
  rw [List.length_reverse, xl, Nat.sub_self, List.drop_zero] at due twi
  have s16 := s15.trans s6
  have P6 := P.same s16
  have P6' := P'.same s16
  have Z := vN.short (by omega)
  have Z' := vM.short (by omega)
  have en := Vf.enough_ten (m := D'.st.length) (n := D.st.length) m3 n4
  dsimp only
  refine Vf.seq_join (fun σ' H' => ∃ fv : V, σ' = [some (.ref a), some (.ref p), some (.ref p'), some (.ref m0), some dv, some tv, v6, some fv, none] ∧ Same H6 H' ∧ Vf.DueAt H' fv (Vf.firstM D D' (Vf.tupsK D'.st.length D.st.length))) (fun nx hn => ?_) ?_
  · refine ⟨_, rfl, p, D, rfl, P6, vN.valid, Z, fun b ra H7 B s7 nb => ?_⟩
    refine ⟨_, rfl, p', D', rfl, P6'.same s7, vM.valid, Z', fun c rc H8 B' s8 nc => ?_⟩
    refine ⟨b, c, ra, rc, D, D', 10000, rfl, B.same s8, B', vN, vM, by omega, n1, by omega, by decide, fun d H' lt _ _ => absurd en (by omega), fun no H9 s9 => ?_, fun r g f a' H9 s9 ha => ?_⟩
    · exact hn _ _ ⟨.non, rfl, (s7.trans s8).trans s9, by rw [Vf.firstM_none no rfl]; rfl⟩
    · exact hn _ _ ⟨.ref a', rfl, (s7.trans s8).trans s9, by rw [Vf.firstM_some g f]; exact ⟨a', rfl, ha⟩⟩
  rintro σ' H7 ⟨fv, rfl, s7, fnd⟩
  have P7 := P6.same s7
  have P7' := P6'.same s7
  refine Vf.seq_join (fun σ' H' => ∃ ov : V, σ' = [some (.ref a), some (.ref p), some (.ref p'), some (.ref m0), some dv, some tv, v6, some fv, some ov] ∧ Same H7 H' ∧ Vf.DueAt H' ov (Vf.firstT D D' (Vf.tupsK D'.st.length D.st.length))) (fun nx hn => ?_) ?_
  · refine ⟨_, rfl, p, D, rfl, P7, vN.valid, Z, fun b ra H8 B s8 nb => ?_⟩
    refine ⟨_, rfl, p', D', rfl, P7'.same s8, vM.valid, Z', fun c rc H9 B' s9 nc => ?_⟩
    refine ⟨b, c, ra, rc, D, D', 10000, rfl, B.same s9, B', vN, vM, by omega, n1, by omega, by decide, fun d H' lt _ _ => absurd en (by omega), fun no Ha sa => ?_, fun r g f a' Ha sa ha => ?_⟩
    · exact hn _ _ ⟨.non, rfl, (s8.trans s9).trans sa, by rw [Vf.firstT_none no rfl]; rfl⟩
    · exact hn _ _ ⟨.ref a', rfl, (s8.trans s9).trans sa, by rw [Vf.firstT_some g f]; exact ⟨a', rfl, ha⟩⟩
  rintro σ' H8 ⟨ov, rfl, s8, oth⟩
  have due8 := due.same (s7.trans s8)
  have twi8 := twi.same (s7.trans s8)
  have fnd8 := fnd.same s8
  clear due twi fnd
  have small : ∀ l, Vf.firstM D D' (Vf.tupsK D'.st.length D.st.length) = some l → l.length ≤ 1000000 := fun l h => by
    unfold Vf.firstM at h
    have := (Vf.tupsK_mem.mp (List.mem_of_find?_eq_some h)).1
    omega
  have smallT : ∀ l, Vf.firstT D D' (Vf.tupsK D'.st.length D.st.length) = some l → l.length ≤ 1000000 := fun l h => by
    unfold Vf.firstT at h
    have := (Vf.tupsK_mem.mp (List.mem_of_find?_eq_some h)).1
    omega
  refine Vf.seq_join (fun σ' H' => σ' = [some (.ref a), some (.ref p), some (.ref p'), some (.ref m0), some dv, some tv, v6, some fv, some ov] ∧ H8 = H') (fun nx hn => ?_) ?_
  · cases e : Vf.firstM D D' (Vf.tupsK D'.st.length D.st.length) with
    | none =>
      rw [e] at due8 fnd8
      obtain rfl : dv = .non := due8
      obtain rfl : fv = .non := fnd8
      refine ⟨_, rfl, rfl, _, rfl, Vf.ite_d (fun _ => ⟨_, rfl, rfl, _, rfl, ?_⟩) fun h => absurd rfl h⟩
      rw [decide_eq_true rfl]
      refine Vf.ite_b (fun h => absurd h (by decide)) fun _ => ⟨_, rfl, rfl, _, rfl, ?_⟩
      rw [decide_eq_true rfl]
      dsimp only
      refine Vf.ite_b (fun h => absurd h (by decide)) fun _ => ?_
      exact Vf.ite_b (fun h => absurd h (by decide)) fun _ => hn _ _ ⟨rfl, rfl⟩
    | some l =>
      have sl := small l e
      rw [e] at due8 fnd8
      obtain ⟨a1, rfl, h1⟩ := due8
      obtain ⟨a2, rfl, h2⟩ := fnd8
      have nr : ∀ x : Addr, decide (V.ref x = V.non) = false := fun x => decide_eq_false fun h => by cases h
      refine ⟨_, rfl, rfl, _, rfl, ?_⟩
      rw [nr]
      refine Vf.ite_b (fun h => absurd h (by decide)) fun _ => ?_
      dsimp only
      refine Vf.ite_b (fun h => absurd h (by decide)) fun _ => ?_
      refine ⟨_, rfl, rfl, _, rfl, ?_⟩
      rw [nr]
      refine Vf.ite_b (fun _ => ?_) fun h => absurd h (by decide)
      refine ⟨_, rfl, _, rfl, a2, a1, l, l, rfl, h2, h1, sl, _, rfl, ?_⟩
      rw [decide_eq_true rfl]
      dsimp only [Bool.not_true]
      exact Vf.ite_b (fun h => absurd h (by decide)) fun _ => hn _ _ ⟨rfl, rfl⟩
  rintro σ' H' ⟨rfl, rfl⟩
  cases e : Vf.firstT D D' (Vf.tupsK D'.st.length D.st.length) with
  | none =>
    rw [e] at twi8 oth
    obtain rfl : tv = .non := twi8
    obtain rfl : ov = .non := oth
    refine ⟨_, rfl, rfl, _, rfl, Vf.ite_d (fun _ => ?_) fun h => absurd rfl h⟩
    refine ⟨_, rfl, rfl, ?_⟩
    rw [decide_eq_true rfl]
    exact q _
  | some l =>
    have sl := smallT l e
    rw [e] at twi8 oth
    obtain ⟨a1, rfl, h1⟩ := twi8
    obtain ⟨a2, rfl, h2⟩ := oth
    refine ⟨_, rfl, rfl, _, rfl, Vf.ite_d (fun h => by cases h) fun _ => ?_⟩
    refine ⟨_, rfl, _, rfl, a2, a1, l, l, rfl, h2, h1, sl, ?_⟩
    rw [decide_eq_true rfl]
    exact q _
end

theorem all_mk {P : Program} {w : World} {K : PySem.W.Frag} {h : Heap} {mg : Str → Option Value} {fa : Addr} (X : K.In h) (G : h.Ns mainGlobals mg) (hfa : mg "law" = some (.ref fa))
    {f__law_draws f__law_parts f__law_table f__law_two_parts f__law_cell f__law_tuples f__law_is_image f__have_same_names f_UnknownState___init__ f_Rulebook_number f__input_images f__late_pairs f_Trial___init__ f_Rulebook___len__ f_Trial_is_full f__are_leaders f_Trial_is_done f_Trial_take_back f_TooLarge___init__ f_Rulebook_meet f__carries f_Trial__carries_last f_Trial_give f__first_map f_find_map f__demand f_Draft___init__ f_is_name f_Draft_add_state f_Draft__demand_state f_Draft_add_input f_Draft_add_leader f_Draft_add_rule f__drafted f__partners f_Rulebook___init__ f__law_made f_find_twin_map f__law_is_int f__law_ints f__law_is_tuple f_law cc_UnknownState___init__ cda_UnknownState___init__ cc_TooLarge___init__ cda_TooLarge___init__ c_Trial c_Draft c_Rulebook c_InvalidRulebook c_UnknownState c_TooLarge : Addr}
    {tv_DIGITS tv_GREATEST_OUTPUT tv_LETTERS tv_LONGEST_NAME tv_MOST_INPUTS tv_MOST_LEADERS tv_MOST_STATES : Tok}
    (ac_Trial : PySem.W.nsIn K mainGlobals "Trial" = some (some (.ref c_Trial)))
    (ac_Draft : PySem.W.nsIn K mainGlobals "Draft" = some (some (.ref c_Draft)))
    (ac_Rulebook : PySem.W.nsIn K mainGlobals "Rulebook" = some (some (.ref c_Rulebook)))
    (ac_InvalidRulebook : PySem.W.nsIn K mainGlobals "InvalidRulebook" = some (some (.ref c_InvalidRulebook)))
    (ac_UnknownState : PySem.W.nsIn K mainGlobals "UnknownState" = some (some (.ref c_UnknownState)))
    (ac_TooLarge : PySem.W.nsIn K mainGlobals "TooLarge" = some (some (.ref c_TooLarge)))
    (a__law_draws : PySem.W.nsIn K mainGlobals "_law_draws" = some (some (.ref f__law_draws)))
    (l__law_draws : Vf.FunAt K "_law_draws" "_law_draws" s__law_draws f__law_draws)
    (a__law_parts : PySem.W.nsIn K mainGlobals "_law_parts" = some (some (.ref f__law_parts)))
    (l__law_parts : Vf.FunAt K "_law_parts" "_law_parts" s__law_parts f__law_parts)
    (a__law_table : PySem.W.nsIn K mainGlobals "_law_table" = some (some (.ref f__law_table)))
    (l__law_table : Vf.FunAt K "_law_table" "_law_table" s__law_table f__law_table)
    (a__law_two_parts : PySem.W.nsIn K mainGlobals "_law_two_parts" = some (some (.ref f__law_two_parts)))
    (l__law_two_parts : Vf.FunAt K "_law_two_parts" "_law_two_parts" s__law_two_parts f__law_two_parts)
    (a__law_cell : PySem.W.nsIn K mainGlobals "_law_cell" = some (some (.ref f__law_cell)))
    (l__law_cell : Vf.FunAt K "_law_cell" "_law_cell" s__law_cell f__law_cell)
    (a__law_tuples : PySem.W.nsIn K mainGlobals "_law_tuples" = some (some (.ref f__law_tuples)))
    (l__law_tuples : Vf.FunAt K "_law_tuples" "_law_tuples" s__law_tuples f__law_tuples)
    (a__law_is_image : PySem.W.nsIn K mainGlobals "_law_is_image" = some (some (.ref f__law_is_image)))
    (l__law_is_image : Vf.FunAt K "_law_is_image" "_law_is_image" s__law_is_image f__law_is_image)
    (a__have_same_names : PySem.W.nsIn K mainGlobals "_have_same_names" = some (some (.ref f__have_same_names)))
    (l__have_same_names : Vf.FunAt K "_have_same_names" "_have_same_names" s__have_same_names f__have_same_names)
    (I_UnknownState : PySem.W.findIn K (.ref c_UnknownState) "__init__" = some (some (.ref f_UnknownState___init__)))
    (Y_UnknownState : PySem.W.typeIn K (.ref f_UnknownState___init__) = some (.type "function"))
    (l_UnknownState___init__ : ∃ fd, Vf.InitAt P K "UnknownState.__init__" s_UnknownState___init__ c_UnknownState f_UnknownState___init__ cc_UnknownState___init__ cda_UnknownState___init__ fd)
    (O_UnknownState : OexC K c_UnknownState)
    (S_UnknownState : Vf.SupCls K c_UnknownState)
    (X_UnknownState : XfC K c_UnknownState)
    (N_UnknownState_name : PySem.W.findIn K (.ref c_UnknownState) "name" = some none)
    (a_Rulebook_number : PySem.W.findIn K (.ref c_Rulebook) "number" = some (some (.ref f_Rulebook_number)))
    (i_Rulebook_number : PySem.W.isFn K (.ref f_Rulebook_number) = true)
    (l_Rulebook_number : Vf.FunAt K "number" "Rulebook.number" s_Rulebook_number f_Rulebook_number)
    (a__input_images : PySem.W.nsIn K mainGlobals "_input_images" = some (some (.ref f__input_images)))
    (l__input_images : Vf.FunAt K "_input_images" "_input_images" s__input_images f__input_images)
    (a__late_pairs : PySem.W.nsIn K mainGlobals "_late_pairs" = some (some (.ref f__late_pairs)))
    (l__late_pairs : Vf.FunAt K "_late_pairs" "_late_pairs" s__late_pairs f__late_pairs)
    (a_Trial___init__ : PySem.W.findIn K (.ref c_Trial) "__init__" = some (some (.ref f_Trial___init__)))
    (i_Trial___init__ : PySem.W.isFn K (.ref f_Trial___init__) = true)
    (l_Trial___init__ : Vf.FunAt K "__init__" "Trial.__init__" s_Trial___init__ f_Trial___init__)
    (a_Rulebook___len__ : PySem.W.findIn K (.ref c_Rulebook) "__len__" = some (some (.ref f_Rulebook___len__)))
    (i_Rulebook___len__ : PySem.W.isFn K (.ref f_Rulebook___len__) = true)
    (l_Rulebook___len__ : Vf.FunAt K "__len__" "Rulebook.__len__" s_Rulebook___len__ f_Rulebook___len__)
    (a_Trial_is_full : PySem.W.findIn K (.ref c_Trial) "is_full" = some (some (.ref f_Trial_is_full)))
    (i_Trial_is_full : PySem.W.isFn K (.ref f_Trial_is_full) = true)
    (l_Trial_is_full : Vf.FunAt K "is_full" "Trial.is_full" s_Trial_is_full f_Trial_is_full)
    (a__are_leaders : PySem.W.nsIn K mainGlobals "_are_leaders" = some (some (.ref f__are_leaders)))
    (l__are_leaders : Vf.FunAt K "_are_leaders" "_are_leaders" s__are_leaders f__are_leaders)
    (a_Trial_is_done : PySem.W.findIn K (.ref c_Trial) "is_done" = some (some (.ref f_Trial_is_done)))
    (i_Trial_is_done : PySem.W.isFn K (.ref f_Trial_is_done) = true)
    (l_Trial_is_done : Vf.FunAt K "is_done" "Trial.is_done" s_Trial_is_done f_Trial_is_done)
    (a_Trial_take_back : PySem.W.findIn K (.ref c_Trial) "take_back" = some (some (.ref f_Trial_take_back)))
    (i_Trial_take_back : PySem.W.isFn K (.ref f_Trial_take_back) = true)
    (l_Trial_take_back : Vf.FunAt K "take_back" "Trial.take_back" s_Trial_take_back f_Trial_take_back)
    (I_TooLarge : PySem.W.findIn K (.ref c_TooLarge) "__init__" = some (some (.ref f_TooLarge___init__)))
    (Y_TooLarge : PySem.W.typeIn K (.ref f_TooLarge___init__) = some (.type "function"))
    (l_TooLarge___init__ : ∃ fd, Vf.InitAt P K "TooLarge.__init__" s_TooLarge___init__ c_TooLarge f_TooLarge___init__ cc_TooLarge___init__ cda_TooLarge___init__ fd)
    (O_TooLarge : OexC K c_TooLarge)
    (S_TooLarge : Vf.SupCls K c_TooLarge)
    (X_TooLarge : XfC K c_TooLarge)
    (N_TooLarge_limit : PySem.W.findIn K (.ref c_TooLarge) "limit" = some none)
    (a_Rulebook_meet : PySem.W.findIn K (.ref c_Rulebook) "meet" = some (some (.ref f_Rulebook_meet)))
    (i_Rulebook_meet : PySem.W.isFn K (.ref f_Rulebook_meet) = true)
    (l_Rulebook_meet : Vf.FunAt K "meet" "Rulebook.meet" s_Rulebook_meet f_Rulebook_meet)
    (a__carries : PySem.W.nsIn K mainGlobals "_carries" = some (some (.ref f__carries)))
    (l__carries : Vf.FunAt K "_carries" "_carries" s__carries f__carries)
    (a_Trial__carries_last : PySem.W.findIn K (.ref c_Trial) "_carries_last" = some (some (.ref f_Trial__carries_last)))
    (i_Trial__carries_last : PySem.W.isFn K (.ref f_Trial__carries_last) = true)
    (l_Trial__carries_last : Vf.FunAt K "_carries_last" "Trial._carries_last" s_Trial__carries_last f_Trial__carries_last)
    (a_Trial_give : PySem.W.findIn K (.ref c_Trial) "give" = some (some (.ref f_Trial_give)))
    (i_Trial_give : PySem.W.isFn K (.ref f_Trial_give) = true)
    (l_Trial_give : Vf.FunAt K "give" "Trial.give" s_Trial_give f_Trial_give)
    (a__first_map : PySem.W.nsIn K mainGlobals "_first_map" = some (some (.ref f__first_map)))
    (l__first_map : Vf.FunAt K "_first_map" "_first_map" s__first_map f__first_map)
    (a_find_map : PySem.W.nsIn K mainGlobals "find_map" = some (some (.ref f_find_map)))
    (l_find_map : Vf.FunKw K "find_map" "find_map" s_find_map f_find_map "limit" 10000)
    (a__demand : PySem.W.nsIn K mainGlobals "_demand" = some (some (.ref f__demand)))
    (l__demand : Vf.FunAt K "_demand" "_demand" s__demand f__demand)
    (a_Draft___init__ : PySem.W.findIn K (.ref c_Draft) "__init__" = some (some (.ref f_Draft___init__)))
    (i_Draft___init__ : PySem.W.isFn K (.ref f_Draft___init__) = true)
    (l_Draft___init__ : Vf.FunAt K "__init__" "Draft.__init__" s_Draft___init__ f_Draft___init__)
    (a_is_name : PySem.W.nsIn K mainGlobals "is_name" = some (some (.ref f_is_name)))
    (l_is_name : Vf.FunAt K "is_name" "is_name" s_is_name f_is_name)
    (a_Draft_add_state : PySem.W.findIn K (.ref c_Draft) "add_state" = some (some (.ref f_Draft_add_state)))
    (i_Draft_add_state : PySem.W.isFn K (.ref f_Draft_add_state) = true)
    (l_Draft_add_state : Vf.FunAt K "add_state" "Draft.add_state" s_Draft_add_state f_Draft_add_state)
    (a_Draft__demand_state : PySem.W.findIn K (.ref c_Draft) "_demand_state" = some (some (.ref f_Draft__demand_state)))
    (i_Draft__demand_state : PySem.W.isFn K (.ref f_Draft__demand_state) = true)
    (l_Draft__demand_state : Vf.FunAt K "_demand_state" "Draft._demand_state" s_Draft__demand_state f_Draft__demand_state)
    (a_Draft_add_input : PySem.W.findIn K (.ref c_Draft) "add_input" = some (some (.ref f_Draft_add_input)))
    (i_Draft_add_input : PySem.W.isFn K (.ref f_Draft_add_input) = true)
    (l_Draft_add_input : Vf.FunAt K "add_input" "Draft.add_input" s_Draft_add_input f_Draft_add_input)
    (a_Draft_add_leader : PySem.W.findIn K (.ref c_Draft) "add_leader" = some (some (.ref f_Draft_add_leader)))
    (i_Draft_add_leader : PySem.W.isFn K (.ref f_Draft_add_leader) = true)
    (l_Draft_add_leader : Vf.FunAt K "add_leader" "Draft.add_leader" s_Draft_add_leader f_Draft_add_leader)
    (a_Draft_add_rule : PySem.W.findIn K (.ref c_Draft) "add_rule" = some (some (.ref f_Draft_add_rule)))
    (i_Draft_add_rule : PySem.W.isFn K (.ref f_Draft_add_rule) = true)
    (l_Draft_add_rule : Vf.FunAt K "add_rule" "Draft.add_rule" s_Draft_add_rule f_Draft_add_rule)
    (a__drafted : PySem.W.nsIn K mainGlobals "_drafted" = some (some (.ref f__drafted)))
    (l__drafted : Vf.FunAt K "_drafted" "_drafted" s__drafted f__drafted)
    (a__partners : PySem.W.nsIn K mainGlobals "_partners" = some (some (.ref f__partners)))
    (l__partners : Vf.FunAt K "_partners" "_partners" s__partners f__partners)
    (a_Rulebook___init__ : PySem.W.findIn K (.ref c_Rulebook) "__init__" = some (some (.ref f_Rulebook___init__)))
    (i_Rulebook___init__ : PySem.W.isFn K (.ref f_Rulebook___init__) = true)
    (l_Rulebook___init__ : Vf.FunAt K "__init__" "Rulebook.__init__" s_Rulebook___init__ f_Rulebook___init__)
    (a__law_made : PySem.W.nsIn K mainGlobals "_law_made" = some (some (.ref f__law_made)))
    (l__law_made : Vf.FunAt K "_law_made" "_law_made" s__law_made f__law_made)
    (a_find_twin_map : PySem.W.nsIn K mainGlobals "find_twin_map" = some (some (.ref f_find_twin_map)))
    (l_find_twin_map : Vf.FunKw K "find_twin_map" "find_twin_map" s_find_twin_map f_find_twin_map "limit" 10000)
    (a__law_is_int : PySem.W.nsIn K mainGlobals "_law_is_int" = some (some (.ref f__law_is_int)))
    (l__law_is_int : Vf.FunAt K "_law_is_int" "_law_is_int" s__law_is_int f__law_is_int)
    (a__law_ints : PySem.W.nsIn K mainGlobals "_law_ints" = some (some (.ref f__law_ints)))
    (l__law_ints : Vf.FunAt K "_law_ints" "_law_ints" s__law_ints f__law_ints)
    (a__law_is_tuple : PySem.W.nsIn K mainGlobals "_law_is_tuple" = some (some (.ref f__law_is_tuple)))
    (l__law_is_tuple : Vf.FunAt K "_law_is_tuple" "_law_is_tuple" s__law_is_tuple f__law_is_tuple)
    (a_law : PySem.W.nsIn K mainGlobals "law" = some (some (.ref f_law)))
    (l_law : Vf.FunAt K "law" "law" s_law f_law)
    (pg_Trial : PySem.W.plainGet K c_Trial Str.empty = true)
    (hd_Trial : PySem.W.hasDictIn K c_Trial = true)
    (po_Trial : PySem.W.plainOver K c_Trial = true)
    (sa_Trial : PySem.W.findIn K (.ref c_Trial) "__setattr__" = some (some (.builtin "object.__setattr__")))
    (mk_Trial : PySem.W.makesIn K c_Trial = true)
    (kc_Trial : PySem.W.keepIn K (.ref c_Trial) = true)
    (n_Trial__first : PySem.W.findIn K (.ref c_Trial) "_first" = some none)
    (n_Trial__fixed : PySem.W.findIn K (.ref c_Trial) "_fixed" = some none)
    (n_Trial__late : PySem.W.findIn K (.ref c_Trial) "_late" = some none)
    (n_Trial__second : PySem.W.findIn K (.ref c_Trial) "_second" = some none)
    (n_Trial__twins : PySem.W.findIn K (.ref c_Trial) "_twins" = some none)
    (n_Trial_images : PySem.W.findIn K (.ref c_Trial) "images" = some none)
    (pg_Draft : PySem.W.plainGet K c_Draft Str.empty = true)
    (hd_Draft : PySem.W.hasDictIn K c_Draft = true)
    (po_Draft : PySem.W.plainOver K c_Draft = true)
    (sa_Draft : PySem.W.findIn K (.ref c_Draft) "__setattr__" = some (some (.builtin "object.__setattr__")))
    (mk_Draft : PySem.W.makesIn K c_Draft = true)
    (kc_Draft : PySem.W.keepIn K (.ref c_Draft) = true)
    (n_Draft_inputs : PySem.W.findIn K (.ref c_Draft) "inputs" = some none)
    (n_Draft_leaders : PySem.W.findIn K (.ref c_Draft) "leaders" = some none)
    (n_Draft_numbers : PySem.W.findIn K (.ref c_Draft) "numbers" = some none)
    (n_Draft_outputs : PySem.W.findIn K (.ref c_Draft) "outputs" = some none)
    (n_Draft_results : PySem.W.findIn K (.ref c_Draft) "results" = some none)
    (n_Draft_rules : PySem.W.findIn K (.ref c_Draft) "rules" = some none)
    (n_Draft_states : PySem.W.findIn K (.ref c_Draft) "states" = some none)
    (pg_Rulebook : PySem.W.plainGet K c_Rulebook Str.empty = true)
    (hd_Rulebook : PySem.W.hasDictIn K c_Rulebook = true)
    (po_Rulebook : PySem.W.plainOver K c_Rulebook = true)
    (sa_Rulebook : PySem.W.findIn K (.ref c_Rulebook) "__setattr__" = some (some (.builtin "object.__setattr__")))
    (mk_Rulebook : PySem.W.makesIn K c_Rulebook = true)
    (kc_Rulebook : PySem.W.keepIn K (.ref c_Rulebook) = true)
    (n_Rulebook__numbers : PySem.W.findIn K (.ref c_Rulebook) "_numbers" = some none)
    (n_Rulebook__results : PySem.W.findIn K (.ref c_Rulebook) "_results" = some none)
    (n_Rulebook__rows : PySem.W.findIn K (.ref c_Rulebook) "_rows" = some none)
    (n_Rulebook_inputs : PySem.W.findIn K (.ref c_Rulebook) "inputs" = some none)
    (n_Rulebook_leaders : PySem.W.findIn K (.ref c_Rulebook) "leaders" = some none)
    (n_Rulebook_outputs : PySem.W.findIn K (.ref c_Rulebook) "outputs" = some none)
    (n_Rulebook_rules : PySem.W.findIn K (.ref c_Rulebook) "rules" = some none)
    (n_Rulebook_states : PySem.W.findIn K (.ref c_Rulebook) "states" = some none)
    (x_InvalidRulebook : PySem.W.excIn K c_InvalidRulebook [.type "ValueError", .type "Exception", .type "BaseException", .type "object"] "ValueError.__new__" = true)
    (k_InvalidRulebook : PySem.W.keepIn K (.ref c_InvalidRulebook) = true)
    (b_InvalidRulebook : PySem.W.subIn K (.ref c_InvalidRulebook) (.type "BaseException") = some true)
    (t_InvalidRulebook : PySem.W.typeIn K (.ref c_InvalidRulebook) = some (.type "type"))
    (ic_InvalidRulebook : PySem.W.isClsIn K c_InvalidRulebook = true)
    (s_InvalidRulebook : PySem.W.subIn K (.ref c_InvalidRulebook) (.ref c_InvalidRulebook) = some true)
    (k_UnknownState : PySem.W.keepIn K (.ref c_UnknownState) = true)
    (b_UnknownState : PySem.W.subIn K (.ref c_UnknownState) (.type "BaseException") = some true)
    (t_UnknownState : PySem.W.typeIn K (.ref c_UnknownState) = some (.type "type"))
    (ic_UnknownState : PySem.W.isClsIn K c_UnknownState = true)
    (s_UnknownState : PySem.W.subIn K (.ref c_UnknownState) (.ref c_UnknownState) = some true)
    (k_TooLarge : PySem.W.keepIn K (.ref c_TooLarge) = true)
    (b_TooLarge : PySem.W.subIn K (.ref c_TooLarge) (.type "BaseException") = some true)
    (t_TooLarge : PySem.W.typeIn K (.ref c_TooLarge) = some (.type "type"))
    (ic_TooLarge : PySem.W.isClsIn K c_TooLarge = true)
    (s_TooLarge : PySem.W.subIn K (.ref c_TooLarge) (.ref c_TooLarge) = some true)
    (z_all : PySem.W.nsIn K mainGlobals "all" = some none)
    (z_bool : PySem.W.nsIn K mainGlobals "bool" = some none)
    (z_int : PySem.W.nsIn K mainGlobals "int" = some none)
    (z_isinstance : PySem.W.nsIn K mainGlobals "isinstance" = some none)
    (z_len : PySem.W.nsIn K mainGlobals "len" = some none)
    (z_list : PySem.W.nsIn K mainGlobals "list" = some none)
    (z_max : PySem.W.nsIn K mainGlobals "max" = some none)
    (z_range : PySem.W.nsIn K mainGlobals "range" = some none)
    (z_sorted : PySem.W.nsIn K mainGlobals "sorted" = some none)
    (z_str : PySem.W.nsIn K mainGlobals "str" = some none)
    (z_super : PySem.W.nsIn K mainGlobals "super" = some none)
    (z_tuple : PySem.W.nsIn K mainGlobals "tuple" = some none)
    (z_zip : PySem.W.nsIn K mainGlobals "zip" = some none)
    (v_DIGITS : PySem.W.nsIn K mainGlobals "DIGITS" = some (some (.str "0123456789" tv_DIGITS)))
    (v_GREATEST_OUTPUT : PySem.W.nsIn K mainGlobals "GREATEST_OUTPUT" = some (some (.int 9 tv_GREATEST_OUTPUT)))
    (v_LETTERS : PySem.W.nsIn K mainGlobals "LETTERS" = some (some (.str "abcdefghijklmnopqrstuvwxyz" tv_LETTERS)))
    (v_LONGEST_NAME : PySem.W.nsIn K mainGlobals "LONGEST_NAME" = some (some (.int 12 tv_LONGEST_NAME)))
    (v_MOST_INPUTS : PySem.W.nsIn K mainGlobals "MOST_INPUTS" = some (some (.int 8 tv_MOST_INPUTS)))
    (v_MOST_LEADERS : PySem.W.nsIn K mainGlobals "MOST_LEADERS" = some (some (.int 10 tv_MOST_LEADERS)))
    (v_MOST_STATES : PySem.W.nsIn K mainGlobals "MOST_STATES" = some (some (.int 400 tv_MOST_STATES))) :
    ∃ fd : FuncData, (∀ (s : Shared) (u : Value), BindsTo s fd ⟨[u], []⟩ [("script", u)]) ∧ ∀ base : Heap, K.In base → base.Ns mainGlobals mg → FnOk P w K mg base CX0 9 fa fd ["script"] (Vf.spLaw K) := by
  have e := hfa.symm.trans (PySem.W.mg_of X G a_law)
  cases e
  obtain ⟨d__law_draws, F__law_draws⟩ := l__law_draws.get
  have B__law_draws := F__law_draws.binds (ps := ["cell", "count"]) fun _ _ _ _ _ _ us hl => match us, hl with | [_, _], _ => rfl
  obtain ⟨d__law_parts, F__law_parts⟩ := l__law_parts.get
  have B__law_parts := F__law_parts.binds (ps := ["cell", "most"]) fun _ _ _ _ _ _ us hl => match us, hl with | [_, _], _ => rfl
  obtain ⟨d__law_table, F__law_table⟩ := l__law_table.get
  have B__law_table := F__law_table.binds (ps := ["parts"]) fun _ _ _ _ _ _ us hl => match us, hl with | [_], _ => rfl
  obtain ⟨d__law_two_parts, F__law_two_parts⟩ := l__law_two_parts.get
  have B__law_two_parts := F__law_two_parts.binds (ps := ["cell", "other"]) fun _ _ _ _ _ _ us hl => match us, hl with | [_, _], _ => rfl
  obtain ⟨d__law_cell, F__law_cell⟩ := l__law_cell.get
  have B__law_cell := F__law_cell.binds (ps := ["script", "k"]) fun _ _ _ _ _ _ us hl => match us, hl with | [_, _], _ => rfl
  obtain ⟨d__law_tuples, F__law_tuples⟩ := l__law_tuples.get
  have B__law_tuples := F__law_tuples.binds (ps := ["count", "size"]) fun _ _ _ _ _ _ us hl => match us, hl with | [_, _], _ => rfl
  obtain ⟨d__law_is_image, F__law_is_image⟩ := l__law_is_image.get
  have B__law_is_image := F__law_is_image.binds (ps := ["first", "second", "images"]) fun _ _ _ _ _ _ us hl => match us, hl with | [_, _, _], _ => rfl
  obtain ⟨d__have_same_names, F__have_same_names⟩ := l__have_same_names.get
  have B__have_same_names := F__have_same_names.binds (ps := ["first", "second"]) fun _ _ _ _ _ _ us hl => match us, hl with | [_, _], _ => rfl
  obtain ⟨d_UnknownState___init__, D_UnknownState___init__⟩ := l_UnknownState___init__
  have B_UnknownState___init__ := D_UnknownState___init__.binds (ps := ["self", "name"]) fun _ _ _ _ _ us hl => match us, hl with | [_, _], _ => rfl
  obtain ⟨d_Rulebook_number, F_Rulebook_number⟩ := l_Rulebook_number.get
  have B_Rulebook_number := F_Rulebook_number.binds (ps := ["self", "name"]) fun _ _ _ _ _ _ us hl => match us, hl with | [_, _], _ => rfl
  obtain ⟨d__input_images, F__input_images⟩ := l__input_images.get
  have B__input_images := F__input_images.binds (ps := ["first", "second"]) fun _ _ _ _ _ _ us hl => match us, hl with | [_, _], _ => rfl
  obtain ⟨d__late_pairs, F__late_pairs⟩ := l__late_pairs.get
  have B__late_pairs := F__late_pairs.binds (ps := ["protocol"]) fun _ _ _ _ _ _ us hl => match us, hl with | [_], _ => rfl
  obtain ⟨d_Trial___init__, F_Trial___init__⟩ := l_Trial___init__.get
  have KB_Trial___init__ : Vf.KB K d_Trial___init__ ["self", "first", "second", "twins"] ["twins"] 3 1 := Vf.kbinds F_Trial___init__ (by decide) fun _ _ _ _ _ _ us ws h1 h2 => match us, ws, h1, h2 with | [_, _, _], [_], _, _ => rfl
  obtain ⟨d_Rulebook___len__, F_Rulebook___len__⟩ := l_Rulebook___len__.get
  have B_Rulebook___len__ := F_Rulebook___len__.binds (ps := ["self"]) fun _ _ _ _ _ _ us hl => match us, hl with | [_], _ => rfl
  obtain ⟨d_Trial_is_full, F_Trial_is_full⟩ := l_Trial_is_full.get
  have B_Trial_is_full := F_Trial_is_full.binds (ps := ["self"]) fun _ _ _ _ _ _ us hl => match us, hl with | [_], _ => rfl
  obtain ⟨d__are_leaders, F__are_leaders⟩ := l__are_leaders.get
  have B__are_leaders := F__are_leaders.binds (ps := ["first", "second", "images"]) fun _ _ _ _ _ _ us hl => match us, hl with | [_, _, _], _ => rfl
  obtain ⟨d_Trial_is_done, F_Trial_is_done⟩ := l_Trial_is_done.get
  have B_Trial_is_done := F_Trial_is_done.binds (ps := ["self"]) fun _ _ _ _ _ _ us hl => match us, hl with | [_], _ => rfl
  obtain ⟨d_Trial_take_back, F_Trial_take_back⟩ := l_Trial_take_back.get
  have B_Trial_take_back := F_Trial_take_back.binds (ps := ["self"]) fun _ _ _ _ _ _ us hl => match us, hl with | [_], _ => rfl
  obtain ⟨d_TooLarge___init__, D_TooLarge___init__⟩ := l_TooLarge___init__
  have B_TooLarge___init__ := D_TooLarge___init__.binds (ps := ["self", "limit"]) fun _ _ _ _ _ us hl => match us, hl with | [_, _], _ => rfl
  obtain ⟨d_Rulebook_meet, F_Rulebook_meet⟩ := l_Rulebook_meet.get
  have B_Rulebook_meet := F_Rulebook_meet.binds (ps := ["self", "first", "second"]) fun _ _ _ _ _ _ us hl => match us, hl with | [_, _, _], _ => rfl
  obtain ⟨d__carries, F__carries⟩ := l__carries.get
  have B__carries := F__carries.binds (ps := ["first", "second", "images", "pairs"]) fun _ _ _ _ _ _ us hl => match us, hl with | [_, _, _, _], _ => rfl
  obtain ⟨d_Trial__carries_last, F_Trial__carries_last⟩ := l_Trial__carries_last.get
  have B_Trial__carries_last := F_Trial__carries_last.binds (ps := ["self"]) fun _ _ _ _ _ _ us hl => match us, hl with | [_], _ => rfl
  obtain ⟨d_Trial_give, F_Trial_give⟩ := l_Trial_give.get
  have B_Trial_give := F_Trial_give.binds (ps := ["self", "image"]) fun _ _ _ _ _ _ us hl => match us, hl with | [_, _], _ => rfl
  obtain ⟨d__first_map, F__first_map⟩ := l__first_map.get
  have B__first_map := F__first_map.binds (ps := ["first", "second", "limit", "twins"]) fun _ _ _ _ _ _ us hl => match us, hl with | [_, _, _, _], _ => rfl
  obtain ⟨d_find_map, F_find_map, k_find_map⟩ := l_find_map.get
  have DB_find_map := Vf.kwDef (ps := ["first", "second", "limit"]) 2 F_find_map k_find_map rfl fun _ _ _ _ _ _ us u hl => match us, hl with | [_, _], _ => ⟨_, _, _, _, _, _, rfl, rfl, rfl⟩
  obtain ⟨d__demand, F__demand⟩ := l__demand.get
  have B__demand := F__demand.binds (ps := ["holds", "why"]) fun _ _ _ _ _ _ us hl => match us, hl with | [_, _], _ => rfl
  obtain ⟨d_Draft___init__, F_Draft___init__⟩ := l_Draft___init__.get
  have B_Draft___init__ := F_Draft___init__.binds (ps := ["self"]) fun _ _ _ _ _ _ us hl => match us, hl with | [_], _ => rfl
  obtain ⟨d_is_name, F_is_name⟩ := l_is_name.get
  have B_is_name := F_is_name.binds (ps := ["name"]) fun _ _ _ _ _ _ us hl => match us, hl with | [_], _ => rfl
  obtain ⟨d_Draft_add_state, F_Draft_add_state⟩ := l_Draft_add_state.get
  have B_Draft_add_state := F_Draft_add_state.binds (ps := ["self", "name", "output"]) fun _ _ _ _ _ _ us hl => match us, hl with | [_, _, _], _ => rfl
  obtain ⟨d_Draft__demand_state, F_Draft__demand_state⟩ := l_Draft__demand_state.get
  have B_Draft__demand_state := F_Draft__demand_state.binds (ps := ["self", "name"]) fun _ _ _ _ _ _ us hl => match us, hl with | [_, _], _ => rfl
  obtain ⟨d_Draft_add_input, F_Draft_add_input⟩ := l_Draft_add_input.get
  have B_Draft_add_input := F_Draft_add_input.binds (ps := ["self", "pair"]) fun _ _ _ _ _ _ us hl => match us, hl with | [_, _], _ => rfl
  obtain ⟨d_Draft_add_leader, F_Draft_add_leader⟩ := l_Draft_add_leader.get
  have B_Draft_add_leader := F_Draft_add_leader.binds (ps := ["self", "state"]) fun _ _ _ _ _ _ us hl => match us, hl with | [_, _], _ => rfl
  obtain ⟨d_Draft_add_rule, F_Draft_add_rule⟩ := l_Draft_add_rule.get
  have B_Draft_add_rule := F_Draft_add_rule.binds (ps := ["self", "rule"]) fun _ _ _ _ _ _ us hl => match us, hl with | [_, _], _ => rfl
  obtain ⟨d__drafted, F__drafted⟩ := l__drafted.get
  have B__drafted := F__drafted.binds (ps := ["states", "inputs", "leaders", "rules", "outputs"]) fun _ _ _ _ _ _ us hl => match us, hl with | [_, _, _, _, _], _ => rfl
  obtain ⟨d__partners, F__partners⟩ := l__partners.get
  have B__partners := F__partners.binds (ps := ["results", "many"]) fun _ _ _ _ _ _ us hl => match us, hl with | [_, _], _ => rfl
  obtain ⟨d_Rulebook___init__, F_Rulebook___init__⟩ := l_Rulebook___init__.get
  have B_Rulebook___init__ := F_Rulebook___init__.binds (ps := ["self", "states", "inputs", "leaders", "rules", "outputs"]) fun _ _ _ _ _ _ us hl => match us, hl with | [_, _, _, _, _, _], _ => rfl
  obtain ⟨d__law_made, F__law_made⟩ := l__law_made.get
  have B__law_made := F__law_made.binds (ps := ["parts"]) fun _ _ _ _ _ _ us hl => match us, hl with | [_], _ => rfl
  obtain ⟨d_find_twin_map, F_find_twin_map, k_find_twin_map⟩ := l_find_twin_map.get
  have DB_find_twin_map := Vf.kwDef (ps := ["first", "second", "limit"]) 2 F_find_twin_map k_find_twin_map rfl fun _ _ _ _ _ _ us u hl => match us, hl with | [_, _], _ => ⟨_, _, _, _, _, _, rfl, rfl, rfl⟩
  obtain ⟨d__law_is_int, F__law_is_int⟩ := l__law_is_int.get
  have B__law_is_int := F__law_is_int.binds (ps := ["x"]) fun _ _ _ _ _ _ us hl => match us, hl with | [_], _ => rfl
  obtain ⟨d__law_ints, F__law_ints⟩ := l__law_ints.get
  have B__law_ints := F__law_ints.binds (ps := ["x", "kind"]) fun _ _ _ _ _ _ us hl => match us, hl with | [_, _], _ => rfl
  obtain ⟨d__law_is_tuple, F__law_is_tuple⟩ := l__law_is_tuple.get
  have B__law_is_tuple := F__law_is_tuple.binds (ps := ["x", "due"]) fun _ _ _ _ _ _ us hl => match us, hl with | [_, _], _ => rfl
  obtain ⟨oc, od, kV, doc, pm, an, cdv, ct, osl, q1, q2, q3⟩ := l_law
  have F_law := fun_mk (st := s_law) q1 q2 q3
  have T : Txt P K mg ⟨f__law_draws, d__law_draws, f__law_parts, d__law_parts, f__law_table, d__law_table, f__law_two_parts, d__law_two_parts, f__law_cell, d__law_cell, f__law_tuples, d__law_tuples, f__law_is_image, d__law_is_image, f__have_same_names, d__have_same_names, f_UnknownState___init__, d_UnknownState___init__, cc_UnknownState___init__, cda_UnknownState___init__, f_Rulebook_number, d_Rulebook_number, f__input_images, d__input_images, f__late_pairs, d__late_pairs, f_Trial___init__, d_Trial___init__, f_Rulebook___len__, d_Rulebook___len__, f_Trial_is_full, d_Trial_is_full, f__are_leaders, d__are_leaders, f_Trial_is_done, d_Trial_is_done, f_Trial_take_back, d_Trial_take_back, f_TooLarge___init__, d_TooLarge___init__, cc_TooLarge___init__, cda_TooLarge___init__, f_Rulebook_meet, d_Rulebook_meet, f__carries, d__carries, f_Trial__carries_last, d_Trial__carries_last, f_Trial_give, d_Trial_give, f__first_map, d__first_map, f_find_map, d_find_map, f__demand, d__demand, f_Draft___init__, d_Draft___init__, f_is_name, d_is_name, f_Draft_add_state, d_Draft_add_state, f_Draft__demand_state, d_Draft__demand_state, f_Draft_add_input, d_Draft_add_input, f_Draft_add_leader, d_Draft_add_leader, f_Draft_add_rule, d_Draft_add_rule, f__drafted, d__drafted, f__partners, d__partners, f_Rulebook___init__, d_Rulebook___init__, f__law_made, d__law_made, f_find_twin_map, d_find_twin_map, f__law_is_int, d__law_is_int, f__law_ints, d__law_ints, f__law_is_tuple, d__law_is_tuple, _, _, c_Trial, c_Draft, c_Rulebook, c_InvalidRulebook, c_UnknownState, c_TooLarge⟩ := {
    F__law_draws := F__law_draws,
    B__law_draws := B__law_draws,
    G__law_draws := PySem.W.mg_of X G a__law_draws,
    F__law_parts := F__law_parts,
    B__law_parts := B__law_parts,
    G__law_parts := PySem.W.mg_of X G a__law_parts,
    F__law_table := F__law_table,
    B__law_table := B__law_table,
    G__law_table := PySem.W.mg_of X G a__law_table,
    F__law_two_parts := F__law_two_parts,
    B__law_two_parts := B__law_two_parts,
    G__law_two_parts := PySem.W.mg_of X G a__law_two_parts,
    F__law_cell := F__law_cell,
    B__law_cell := B__law_cell,
    G__law_cell := PySem.W.mg_of X G a__law_cell,
    F__law_tuples := F__law_tuples,
    B__law_tuples := B__law_tuples,
    G__law_tuples := PySem.W.mg_of X G a__law_tuples,
    F__law_is_image := F__law_is_image,
    B__law_is_image := B__law_is_image,
    G__law_is_image := PySem.W.mg_of X G a__law_is_image,
    F__have_same_names := F__have_same_names,
    B__have_same_names := B__have_same_names,
    G__have_same_names := PySem.W.mg_of X G a__have_same_names,
    D_UnknownState___init__ := D_UnknownState___init__,
    B_UnknownState___init__ := B_UnknownState___init__,
    O_UnknownState := O_UnknownState,
    S_UnknownState := S_UnknownState,
    X_UnknownState := X_UnknownState,
    I_UnknownState := I_UnknownState,
    Y_UnknownState := Y_UnknownState,
    N_UnknownState_name := N_UnknownState_name,
    F_Rulebook_number := F_Rulebook_number,
    B_Rulebook_number := B_Rulebook_number,
    M_Rulebook_number := ⟨a_Rulebook_number, i_Rulebook_number, F_Rulebook_number.kp⟩,
    F__input_images := F__input_images,
    B__input_images := B__input_images,
    G__input_images := PySem.W.mg_of X G a__input_images,
    F__late_pairs := F__late_pairs,
    B__late_pairs := B__late_pairs,
    G__late_pairs := PySem.W.mg_of X G a__late_pairs,
    F_Trial___init__ := F_Trial___init__,
    KB_Trial___init__ := KB_Trial___init__,
    F_Rulebook___len__ := F_Rulebook___len__,
    B_Rulebook___len__ := B_Rulebook___len__,
    M_Rulebook___len__ := ⟨a_Rulebook___len__, i_Rulebook___len__, F_Rulebook___len__.kp⟩,
    F_Trial_is_full := F_Trial_is_full,
    B_Trial_is_full := B_Trial_is_full,
    M_Trial_is_full := ⟨a_Trial_is_full, i_Trial_is_full, F_Trial_is_full.kp⟩,
    F__are_leaders := F__are_leaders,
    B__are_leaders := B__are_leaders,
    G__are_leaders := PySem.W.mg_of X G a__are_leaders,
    F_Trial_is_done := F_Trial_is_done,
    B_Trial_is_done := B_Trial_is_done,
    M_Trial_is_done := ⟨a_Trial_is_done, i_Trial_is_done, F_Trial_is_done.kp⟩,
    F_Trial_take_back := F_Trial_take_back,
    B_Trial_take_back := B_Trial_take_back,
    M_Trial_take_back := ⟨a_Trial_take_back, i_Trial_take_back, F_Trial_take_back.kp⟩,
    D_TooLarge___init__ := D_TooLarge___init__,
    B_TooLarge___init__ := B_TooLarge___init__,
    O_TooLarge := O_TooLarge,
    S_TooLarge := S_TooLarge,
    X_TooLarge := X_TooLarge,
    I_TooLarge := I_TooLarge,
    Y_TooLarge := Y_TooLarge,
    N_TooLarge_limit := N_TooLarge_limit,
    F_Rulebook_meet := F_Rulebook_meet,
    B_Rulebook_meet := B_Rulebook_meet,
    M_Rulebook_meet := ⟨a_Rulebook_meet, i_Rulebook_meet, F_Rulebook_meet.kp⟩,
    F__carries := F__carries,
    B__carries := B__carries,
    G__carries := PySem.W.mg_of X G a__carries,
    F_Trial__carries_last := F_Trial__carries_last,
    B_Trial__carries_last := B_Trial__carries_last,
    M_Trial__carries_last := ⟨a_Trial__carries_last, i_Trial__carries_last, F_Trial__carries_last.kp⟩,
    F_Trial_give := F_Trial_give,
    B_Trial_give := B_Trial_give,
    M_Trial_give := ⟨a_Trial_give, i_Trial_give, F_Trial_give.kp⟩,
    F__first_map := F__first_map,
    B__first_map := B__first_map,
    G__first_map := PySem.W.mg_of X G a__first_map,
    F_find_map := F_find_map,
    DB_find_map := DB_find_map,
    G_find_map := PySem.W.mg_of X G a_find_map,
    F__demand := F__demand,
    B__demand := B__demand,
    G__demand := PySem.W.mg_of X G a__demand,
    F_Draft___init__ := F_Draft___init__,
    B_Draft___init__ := B_Draft___init__,
    F_is_name := F_is_name,
    B_is_name := B_is_name,
    G_is_name := PySem.W.mg_of X G a_is_name,
    F_Draft_add_state := F_Draft_add_state,
    B_Draft_add_state := B_Draft_add_state,
    M_Draft_add_state := ⟨a_Draft_add_state, i_Draft_add_state, F_Draft_add_state.kp⟩,
    F_Draft__demand_state := F_Draft__demand_state,
    B_Draft__demand_state := B_Draft__demand_state,
    M_Draft__demand_state := ⟨a_Draft__demand_state, i_Draft__demand_state, F_Draft__demand_state.kp⟩,
    F_Draft_add_input := F_Draft_add_input,
    B_Draft_add_input := B_Draft_add_input,
    M_Draft_add_input := ⟨a_Draft_add_input, i_Draft_add_input, F_Draft_add_input.kp⟩,
    F_Draft_add_leader := F_Draft_add_leader,
    B_Draft_add_leader := B_Draft_add_leader,
    M_Draft_add_leader := ⟨a_Draft_add_leader, i_Draft_add_leader, F_Draft_add_leader.kp⟩,
    F_Draft_add_rule := F_Draft_add_rule,
    B_Draft_add_rule := B_Draft_add_rule,
    M_Draft_add_rule := ⟨a_Draft_add_rule, i_Draft_add_rule, F_Draft_add_rule.kp⟩,
    F__drafted := F__drafted,
    B__drafted := B__drafted,
    G__drafted := PySem.W.mg_of X G a__drafted,
    F__partners := F__partners,
    B__partners := B__partners,
    G__partners := PySem.W.mg_of X G a__partners,
    F_Rulebook___init__ := F_Rulebook___init__,
    B_Rulebook___init__ := B_Rulebook___init__,
    F__law_made := F__law_made,
    B__law_made := B__law_made,
    G__law_made := PySem.W.mg_of X G a__law_made,
    F_find_twin_map := F_find_twin_map,
    DB_find_twin_map := DB_find_twin_map,
    G_find_twin_map := PySem.W.mg_of X G a_find_twin_map,
    F__law_is_int := F__law_is_int,
    B__law_is_int := B__law_is_int,
    G__law_is_int := PySem.W.mg_of X G a__law_is_int,
    F__law_ints := F__law_ints,
    B__law_ints := B__law_ints,
    G__law_ints := PySem.W.mg_of X G a__law_ints,
    F__law_is_tuple := F__law_is_tuple,
    B__law_is_tuple := B__law_is_tuple,
    G__law_is_tuple := PySem.W.mg_of X G a__law_is_tuple,
    F_law := F_law,
    G_law := PySem.W.mg_of X G a_law,
    C_Trial := ⟨pg_Trial, hd_Trial, po_Trial, sa_Trial⟩,
    G_Trial := PySem.W.mg_of X G ac_Trial,
    K_Trial := ⟨mk_Trial, a_Trial___init__, i_Trial___init__, kc_Trial⟩,
    A_Trial__first := n_Trial__first,
    A_Trial__fixed := n_Trial__fixed,
    A_Trial__late := n_Trial__late,
    A_Trial__second := n_Trial__second,
    A_Trial__twins := n_Trial__twins,
    A_Trial_images := n_Trial_images,
    C_Draft := ⟨pg_Draft, hd_Draft, po_Draft, sa_Draft⟩,
    G_Draft := PySem.W.mg_of X G ac_Draft,
    K_Draft := ⟨mk_Draft, a_Draft___init__, i_Draft___init__, kc_Draft⟩,
    A_Draft_inputs := n_Draft_inputs,
    A_Draft_leaders := n_Draft_leaders,
    A_Draft_numbers := n_Draft_numbers,
    A_Draft_outputs := n_Draft_outputs,
    A_Draft_results := n_Draft_results,
    A_Draft_rules := n_Draft_rules,
    A_Draft_states := n_Draft_states,
    C_Rulebook := ⟨pg_Rulebook, hd_Rulebook, po_Rulebook, sa_Rulebook⟩,
    G_Rulebook := PySem.W.mg_of X G ac_Rulebook,
    K_Rulebook := ⟨mk_Rulebook, a_Rulebook___init__, i_Rulebook___init__, kc_Rulebook⟩,
    A_Rulebook__numbers := n_Rulebook__numbers,
    A_Rulebook__results := n_Rulebook__results,
    A_Rulebook__rows := n_Rulebook__rows,
    A_Rulebook_inputs := n_Rulebook_inputs,
    A_Rulebook_leaders := n_Rulebook_leaders,
    A_Rulebook_outputs := n_Rulebook_outputs,
    A_Rulebook_rules := n_Rulebook_rules,
    A_Rulebook_states := n_Rulebook_states,
    G_InvalidRulebook := PySem.W.mg_of X G ac_InvalidRulebook,
    x_InvalidRulebook := x_InvalidRulebook,
    k_InvalidRulebook := k_InvalidRulebook,
    b_InvalidRulebook := b_InvalidRulebook,
    t_InvalidRulebook := t_InvalidRulebook,
    e_InvalidRulebook := Vf.exm_self b_InvalidRulebook ic_InvalidRulebook t_InvalidRulebook s_InvalidRulebook,
    G_UnknownState := PySem.W.mg_of X G ac_UnknownState,
    k_UnknownState := k_UnknownState,
    b_UnknownState := b_UnknownState,
    t_UnknownState := t_UnknownState,
    e_UnknownState := Vf.exm_self b_UnknownState ic_UnknownState t_UnknownState s_UnknownState,
    G_TooLarge := PySem.W.mg_of X G ac_TooLarge,
    k_TooLarge := k_TooLarge,
    b_TooLarge := b_TooLarge,
    t_TooLarge := t_TooLarge,
    e_TooLarge := Vf.exm_self b_TooLarge ic_TooLarge t_TooLarge s_TooLarge,
    N_all := PySem.W.mg_none_of X G z_all,
    N_bool := PySem.W.mg_none_of X G z_bool,
    N_int := PySem.W.mg_none_of X G z_int,
    N_isinstance := PySem.W.mg_none_of X G z_isinstance,
    N_len := PySem.W.mg_none_of X G z_len,
    N_list := PySem.W.mg_none_of X G z_list,
    N_max := PySem.W.mg_none_of X G z_max,
    N_range := PySem.W.mg_none_of X G z_range,
    N_sorted := PySem.W.mg_none_of X G z_sorted,
    N_str := PySem.W.mg_none_of X G z_str,
    N_super := PySem.W.mg_none_of X G z_super,
    N_tuple := PySem.W.mg_none_of X G z_tuple,
    N_zip := PySem.W.mg_none_of X G z_zip,
    V_DIGITS := ⟨_, PySem.W.mg_of X G v_DIGITS⟩,
    V_GREATEST_OUTPUT := ⟨_, PySem.W.mg_of X G v_GREATEST_OUTPUT⟩,
    V_LETTERS := ⟨_, PySem.W.mg_of X G v_LETTERS⟩,
    V_LONGEST_NAME := ⟨_, PySem.W.mg_of X G v_LONGEST_NAME⟩,
    V_MOST_INPUTS := ⟨_, PySem.W.mg_of X G v_MOST_INPUTS⟩,
    V_MOST_LEADERS := ⟨_, PySem.W.mg_of X G v_MOST_LEADERS⟩,
    V_MOST_STATES := ⟨_, PySem.W.mg_of X G v_MOST_STATES⟩ }
  exact ⟨_, fun s u => .of_eq rfl, fun base _ _ => ok_law T⟩
theorem walk {l : PySem.W.OpenLaw} {q : Program} {loose : List Str} {XP : (Str → Option Value) → Heap → Prop} {YP : World → Heap → Prop} {d : DefRec} {K : Params → PySem.W.Frag} (hn : l.most = some 63) (hdf : d.params.defaults = [])
    (hY : ∀ (w : World) (h : Heap), YP w h → (K w.params).In h)
    (F : ∀ (w : World) (mg : Str → Option Value) (fa : Addr) (h : Heap), (K w.params).In h → h.Ns mainGlobals mg → mg d.name = some (.ref fa) →
      ∃ fd : FuncData, (∀ (s : Shared) (u : Value), BindsTo s fd ⟨[u], []⟩ [("script", u)]) ∧ ∀ base : Heap, (K w.params).In base → base.Ns mainGlobals mg → FnOk l.prog w (K w.params) mg base CX0 9 fa fd ["script"] (Vf.spLaw (K w.params))) :
    PySem.W.WalkO q loose XP YP l.row.toRowW d [] (fun f vs => PySem.call f vs) :=
  L2.walk_of (n := 63) (k := 9) (x := "script") (CX := fun _ => CX0) (sp := fun w => Vf.spLaw (K w.params)) hn (by decide) hdf ⟨rfl, by decide, by decide⟩ hY F (fun _ _ a ns hl _ hS => ⟨a, ns, rfl, hS, hl, fun _ => rfl⟩) fun _ _ _ _ _ z => z
end Pf
open PySem PySem.W PyProof.Rows
set_option maxRecDepth 100000 in
set_option maxHeartbeats 0 in
theorem PySem.Challenge.cw_mingle_k90_first_maps_holds : PySem.Challenge.rw_mingle_k90_first_maps.Holds := by
  w_on; o_law; k_head; (case hw => w_witness2)
  k_fill
  refine Pf.walk (l := PySem.Challenge.rw_mingle_k90_first_maps) rfl rfl (fun w h Y => PySem.W.kIn_of Y) ?F
  case F =>
    intro w mg fa h KX G hmg
    refine' Pf.all_mk KX G hmg ?ac_Trial ?ac_Draft ?ac_Rulebook ?ac_InvalidRulebook ?ac_UnknownState ?ac_TooLarge ?a__law_draws ?l__law_draws ?a__law_parts ?l__law_parts ?a__law_table ?l__law_table ?a__law_two_parts ?l__law_two_parts ?a__law_cell ?l__law_cell ?a__law_tuples ?l__law_tuples ?a__law_is_image ?l__law_is_image ?a__have_same_names ?l__have_same_names ?I_UnknownState ?Y_UnknownState ?l_UnknownState___init__ ?O_UnknownState ?S_UnknownState ?X_UnknownState ?N_UnknownState_name ?a_Rulebook_number ?i_Rulebook_number ?l_Rulebook_number ?a__input_images ?l__input_images ?a__late_pairs ?l__late_pairs ?a_Trial___init__ ?i_Trial___init__ ?l_Trial___init__ ?a_Rulebook___len__ ?i_Rulebook___len__ ?l_Rulebook___len__ ?a_Trial_is_full ?i_Trial_is_full ?l_Trial_is_full ?a__are_leaders ?l__are_leaders ?a_Trial_is_done ?i_Trial_is_done ?l_Trial_is_done ?a_Trial_take_back ?i_Trial_take_back ?l_Trial_take_back ?I_TooLarge ?Y_TooLarge ?l_TooLarge___init__ ?O_TooLarge ?S_TooLarge ?X_TooLarge ?N_TooLarge_limit ?a_Rulebook_meet ?i_Rulebook_meet ?l_Rulebook_meet ?a__carries ?l__carries ?a_Trial__carries_last ?i_Trial__carries_last ?l_Trial__carries_last ?a_Trial_give ?i_Trial_give ?l_Trial_give ?a__first_map ?l__first_map ?a_find_map ?l_find_map ?a__demand ?l__demand ?a_Draft___init__ ?i_Draft___init__ ?l_Draft___init__ ?a_is_name ?l_is_name ?a_Draft_add_state ?i_Draft_add_state ?l_Draft_add_state ?a_Draft__demand_state ?i_Draft__demand_state ?l_Draft__demand_state ?a_Draft_add_input ?i_Draft_add_input ?l_Draft_add_input ?a_Draft_add_leader ?i_Draft_add_leader ?l_Draft_add_leader ?a_Draft_add_rule ?i_Draft_add_rule ?l_Draft_add_rule ?a__drafted ?l__drafted ?a__partners ?l__partners ?a_Rulebook___init__ ?i_Rulebook___init__ ?l_Rulebook___init__ ?a__law_made ?l__law_made ?a_find_twin_map ?l_find_twin_map ?a__law_is_int ?l__law_is_int ?a__law_ints ?l__law_ints ?a__law_is_tuple ?l__law_is_tuple ?a_law ?l_law ?pg_Trial ?hd_Trial ?po_Trial ?sa_Trial ?mk_Trial ?kc_Trial ?n_Trial__first ?n_Trial__fixed ?n_Trial__late ?n_Trial__second ?n_Trial__twins ?n_Trial_images ?pg_Draft ?hd_Draft ?po_Draft ?sa_Draft ?mk_Draft ?kc_Draft ?n_Draft_inputs ?n_Draft_leaders ?n_Draft_numbers ?n_Draft_outputs ?n_Draft_results ?n_Draft_rules ?n_Draft_states ?pg_Rulebook ?hd_Rulebook ?po_Rulebook ?sa_Rulebook ?mk_Rulebook ?kc_Rulebook ?n_Rulebook__numbers ?n_Rulebook__results ?n_Rulebook__rows ?n_Rulebook_inputs ?n_Rulebook_leaders ?n_Rulebook_outputs ?n_Rulebook_rules ?n_Rulebook_states ?x_InvalidRulebook ?k_InvalidRulebook ?b_InvalidRulebook ?t_InvalidRulebook ?ic_InvalidRulebook ?s_InvalidRulebook ?k_UnknownState ?b_UnknownState ?t_UnknownState ?ic_UnknownState ?s_UnknownState ?k_TooLarge ?b_TooLarge ?t_TooLarge ?ic_TooLarge ?s_TooLarge ?z_all ?z_bool ?z_int ?z_isinstance ?z_len ?z_list ?z_max ?z_range ?z_sorted ?z_str ?z_super ?z_tuple ?z_zip ?v_DIGITS ?v_GREATEST_OUTPUT ?v_LETTERS ?v_LONGEST_NAME ?v_MOST_INPUTS ?v_MOST_LEADERS ?v_MOST_STATES
    (case ac_Trial => k_is)
    (case ac_Draft => k_is)
    (case ac_Rulebook => k_is)
    (case ac_InvalidRulebook => k_is)
    (case ac_UnknownState => k_is)
    (case ac_TooLarge => k_is)
    (case a__law_draws => k_is)
    (case l__law_draws => exact ⟨_, _, _, _, _, _, _, _, _, by k_is, by k_is, by k_is⟩)
    (case a__law_parts => k_is)
    (case l__law_parts => exact ⟨_, _, _, _, _, _, _, _, _, by k_is, by k_is, by k_is⟩)
    (case a__law_table => k_is)
    (case l__law_table => exact ⟨_, _, _, _, _, _, _, _, _, by k_is, by k_is, by k_is⟩)
    (case a__law_two_parts => k_is)
    (case l__law_two_parts => exact ⟨_, _, _, _, _, _, _, _, _, by k_is, by k_is, by k_is⟩)
    (case a__law_cell => k_is)
    (case l__law_cell => exact ⟨_, _, _, _, _, _, _, _, _, by k_is, by k_is, by k_is⟩)
    (case a__law_tuples => k_is)
    (case l__law_tuples => exact ⟨_, _, _, _, _, _, _, _, _, by k_is, by k_is, by k_is⟩)
    (case a__law_is_image => k_is)
    (case l__law_is_image => exact ⟨_, _, _, _, _, _, _, _, _, by k_is, by k_is, by k_is⟩)
    (case a__have_same_names => k_is)
    (case l__have_same_names => exact ⟨_, _, _, _, _, _, _, _, _, by k_is, by k_is, by k_is⟩)
    (case I_UnknownState => k_is)
    (case Y_UnknownState => k_is)
    (case l_UnknownState___init__ => exact ⟨_, _, _, _, _, _, _, _, _, _, _, _, _, _, _, _, _, _, rfl, by k_is, by k_is, by k_is, by k_is, by rfl, by decide +kernel, by decide +kernel⟩)
    (case O_UnknownState => exact ⟨⟨_, _, _, _, _, _, _, _, _, _, _, _, _, _, _, by k_is, by rfl⟩, by k_is, by k_is, by k_is, by k_is⟩)
    (case S_UnknownState => exact ⟨by k_is, by first | rfl | (unfold PySem.W.ks_superIn; rfl) | decide +kernel, by k_is, by k_is⟩)
    (case X_UnknownState => exact ⟨by k_is, by k_is, by k_is, by k_is⟩)
    (case N_UnknownState_name => k_is)
    (case a_Rulebook_number => k_is)
    (case i_Rulebook_number => k_is)
    (case l_Rulebook_number => exact ⟨_, _, _, _, _, _, _, _, _, by k_is, by k_is, by k_is⟩)
    (case a__input_images => k_is)
    (case l__input_images => exact ⟨_, _, _, _, _, _, _, _, _, by k_is, by k_is, by k_is⟩)
    (case a__late_pairs => k_is)
    (case l__late_pairs => exact ⟨_, _, _, _, _, _, _, _, _, by k_is, by k_is, by k_is⟩)
    (case a_Trial___init__ => k_is)
    (case i_Trial___init__ => k_is)
    (case l_Trial___init__ => exact ⟨_, _, _, _, _, _, _, _, _, by k_is, by k_is, by k_is⟩)
    (case a_Rulebook___len__ => k_is)
    (case i_Rulebook___len__ => k_is)
    (case l_Rulebook___len__ => exact ⟨_, _, _, _, _, _, _, _, _, by k_is, by k_is, by k_is⟩)
    (case a_Trial_is_full => k_is)
    (case i_Trial_is_full => k_is)
    (case l_Trial_is_full => exact ⟨_, _, _, _, _, _, _, _, _, by k_is, by k_is, by k_is⟩)
    (case a__are_leaders => k_is)
    (case l__are_leaders => exact ⟨_, _, _, _, _, _, _, _, _, by k_is, by k_is, by k_is⟩)
    (case a_Trial_is_done => k_is)
    (case i_Trial_is_done => k_is)
    (case l_Trial_is_done => exact ⟨_, _, _, _, _, _, _, _, _, by k_is, by k_is, by k_is⟩)
    (case a_Trial_take_back => k_is)
    (case i_Trial_take_back => k_is)
    (case l_Trial_take_back => exact ⟨_, _, _, _, _, _, _, _, _, by k_is, by k_is, by k_is⟩)
    (case I_TooLarge => k_is)
    (case Y_TooLarge => k_is)
    (case l_TooLarge___init__ => exact ⟨_, _, _, _, _, _, _, _, _, _, _, _, _, _, _, _, _, _, rfl, by k_is, by k_is, by k_is, by k_is, by rfl, by decide +kernel, by decide +kernel⟩)
    (case O_TooLarge => exact ⟨⟨_, _, _, _, _, _, _, _, _, _, _, _, _, _, _, by k_is, by rfl⟩, by k_is, by k_is, by k_is, by k_is⟩)
    (case S_TooLarge => exact ⟨by k_is, by first | rfl | (unfold PySem.W.ks_superIn; rfl) | decide +kernel, by k_is, by k_is⟩)
    (case X_TooLarge => exact ⟨by k_is, by k_is, by k_is, by k_is⟩)
    (case N_TooLarge_limit => k_is)
    (case a_Rulebook_meet => k_is)
    (case i_Rulebook_meet => k_is)
    (case l_Rulebook_meet => exact ⟨_, _, _, _, _, _, _, _, _, by k_is, by k_is, by k_is⟩)
    (case a__carries => k_is)
    (case l__carries => exact ⟨_, _, _, _, _, _, _, _, _, by k_is, by k_is, by k_is⟩)
    (case a_Trial__carries_last => k_is)
    (case i_Trial__carries_last => k_is)
    (case l_Trial__carries_last => exact ⟨_, _, _, _, _, _, _, _, _, by k_is, by k_is, by k_is⟩)
    (case a_Trial_give => k_is)
    (case i_Trial_give => k_is)
    (case l_Trial_give => exact ⟨_, _, _, _, _, _, _, _, _, by k_is, by k_is, by k_is⟩)
    (case a__first_map => k_is)
    (case l__first_map => exact ⟨_, _, _, _, _, _, _, _, _, by k_is, by k_is, by k_is⟩)
    (case a_find_map => k_is)
    (case l_find_map => exact ⟨_, _, _, _, _, _, _, _, _, _, by k_is, by k_is, by k_is, by k_is⟩)
    (case a__demand => k_is)
    (case l__demand => exact ⟨_, _, _, _, _, _, _, _, _, by k_is, by k_is, by k_is⟩)
    (case a_Draft___init__ => k_is)
    (case i_Draft___init__ => k_is)
    (case l_Draft___init__ => exact ⟨_, _, _, _, _, _, _, _, _, by k_is, by k_is, by k_is⟩)
    (case a_is_name => k_is)
    (case l_is_name => exact ⟨_, _, _, _, _, _, _, _, _, by k_is, by k_is, by k_is⟩)
    (case a_Draft_add_state => k_is)
    (case i_Draft_add_state => k_is)
    (case l_Draft_add_state => exact ⟨_, _, _, _, _, _, _, _, _, by k_is, by k_is, by k_is⟩)
    (case a_Draft__demand_state => k_is)
    (case i_Draft__demand_state => k_is)
    (case l_Draft__demand_state => exact ⟨_, _, _, _, _, _, _, _, _, by k_is, by k_is, by k_is⟩)
    (case a_Draft_add_input => k_is)
    (case i_Draft_add_input => k_is)
    (case l_Draft_add_input => exact ⟨_, _, _, _, _, _, _, _, _, by k_is, by k_is, by k_is⟩)
    (case a_Draft_add_leader => k_is)
    (case i_Draft_add_leader => k_is)
    (case l_Draft_add_leader => exact ⟨_, _, _, _, _, _, _, _, _, by k_is, by k_is, by k_is⟩)
    (case a_Draft_add_rule => k_is)
    (case i_Draft_add_rule => k_is)
    (case l_Draft_add_rule => exact ⟨_, _, _, _, _, _, _, _, _, by k_is, by k_is, by k_is⟩)
    (case a__drafted => k_is)
    (case l__drafted => exact ⟨_, _, _, _, _, _, _, _, _, by k_is, by k_is, by k_is⟩)
    (case a__partners => k_is)
    (case l__partners => exact ⟨_, _, _, _, _, _, _, _, _, by k_is, by k_is, by k_is⟩)
    (case a_Rulebook___init__ => k_is)
    (case i_Rulebook___init__ => k_is)
    (case l_Rulebook___init__ => exact ⟨_, _, _, _, _, _, _, _, _, by k_is, by k_is, by k_is⟩)
    (case a__law_made => k_is)
    (case l__law_made => exact ⟨_, _, _, _, _, _, _, _, _, by k_is, by k_is, by k_is⟩)
    (case a_find_twin_map => k_is)
    (case l_find_twin_map => exact ⟨_, _, _, _, _, _, _, _, _, _, by k_is, by k_is, by k_is, by k_is⟩)
    (case a__law_is_int => k_is)
    (case l__law_is_int => exact ⟨_, _, _, _, _, _, _, _, _, by k_is, by k_is, by k_is⟩)
    (case a__law_ints => k_is)
    (case l__law_ints => exact ⟨_, _, _, _, _, _, _, _, _, by k_is, by k_is, by k_is⟩)
    (case a__law_is_tuple => k_is)
    (case l__law_is_tuple => exact ⟨_, _, _, _, _, _, _, _, _, by k_is, by k_is, by k_is⟩)
    (case a_law => k_is)
    (case l_law => exact ⟨_, _, _, _, _, _, _, _, _, by k_is, by k_is, by k_is⟩)
    (case pg_Trial => k_is)
    (case hd_Trial => k_is)
    (case po_Trial => k_is)
    (case sa_Trial => k_is)
    (case mk_Trial => k_is)
    (case kc_Trial => k_is)
    (case n_Trial__first => k_is)
    (case n_Trial__fixed => k_is)
    (case n_Trial__late => k_is)
    (case n_Trial__second => k_is)
    (case n_Trial__twins => k_is)
    (case n_Trial_images => k_is)
    (case pg_Draft => k_is)
    (case hd_Draft => k_is)
    (case po_Draft => k_is)
    (case sa_Draft => k_is)
    (case mk_Draft => k_is)
    (case kc_Draft => k_is)
    (case n_Draft_inputs => k_is)
    (case n_Draft_leaders => k_is)
    (case n_Draft_numbers => k_is)
    (case n_Draft_outputs => k_is)
    (case n_Draft_results => k_is)
    (case n_Draft_rules => k_is)
    (case n_Draft_states => k_is)
    (case pg_Rulebook => k_is)
    (case hd_Rulebook => k_is)
    (case po_Rulebook => k_is)
    (case sa_Rulebook => k_is)
    (case mk_Rulebook => k_is)
    (case kc_Rulebook => k_is)
    (case n_Rulebook__numbers => k_is)
    (case n_Rulebook__results => k_is)
    (case n_Rulebook__rows => k_is)
    (case n_Rulebook_inputs => k_is)
    (case n_Rulebook_leaders => k_is)
    (case n_Rulebook_outputs => k_is)
    (case n_Rulebook_rules => k_is)
    (case n_Rulebook_states => k_is)
    (case x_InvalidRulebook => k_exc)
    (case k_InvalidRulebook => k_is)
    (case b_InvalidRulebook => k_is)
    (case t_InvalidRulebook => k_is)
    (case ic_InvalidRulebook => k_is)
    (case s_InvalidRulebook => first | rfl | k_is)
    (case k_UnknownState => k_is)
    (case b_UnknownState => k_is)
    (case t_UnknownState => k_is)
    (case ic_UnknownState => k_is)
    (case s_UnknownState => first | rfl | k_is)
    (case k_TooLarge => k_is)
    (case b_TooLarge => k_is)
    (case t_TooLarge => k_is)
    (case ic_TooLarge => k_is)
    (case s_TooLarge => first | rfl | k_is)
    (case z_all => k_is)
    (case z_bool => k_is)
    (case z_int => k_is)
    (case z_isinstance => k_is)
    (case z_len => k_is)
    (case z_list => k_is)
    (case z_max => k_is)
    (case z_range => k_is)
    (case z_sorted => k_is)
    (case z_str => k_is)
    (case z_super => k_is)
    (case z_tuple => k_is)
    (case z_zip => k_is)
    (case v_DIGITS => k_is)
    (case v_GREATEST_OUTPUT => k_is)
    (case v_LETTERS => k_is)
    (case v_LONGEST_NAME => k_is)
    (case v_MOST_INPUTS => k_is)
    (case v_MOST_LEADERS => k_is)
    (case v_MOST_STATES => k_is)
