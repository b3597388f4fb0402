import PyProof.Rows.All
import Wide.All
import OpenK.AllK
import Wide.FinOn
import VbcsahSpec
import Open.SpecLaws
import KE.OsGo
import HandS.ForSpec
import HandS.ForMost
import HandS.TryMany
import HandS.Deep
import HandS.More
import HandS.Small
import HandS.NoneIn
import HandS.CallLocal
import HandS.TupLe
import HandS.Conv
import HandS.TupLen
import HandS.Strs
import HandS.SortInts
import HandS.SetFor
import HandS.WrittenGet
import PySem.Challenge.RW_formoffices_s01_answers
import KE.KeyNested
import KE.KDictKeyed
import HandS.SortRule
import HandS.Walk
import KE.KEqDict
import PyVbcsah
set_option Elab.async false
set_option linter.all false
set_option maxRecDepth 100000
set_option maxHeartbeats 4000000
-- FoBook
/-! Books: strictly sorted lists of items, one item put in, many put in one behind another. -/
namespace Fo
open Vbcsah

def Srt (b : Book) : Prop := b.Pairwise fun x y => x.number < y.number
def InR20 (i : Item) : Prop := 1 ≤ i.number ∧ i.number ≤ 20
structure OkB (b : Book) : Prop where
  srt : Srt b
  rg : ∀ i ∈ b, InR20 i

theorem formOf_nil (n : Nat) : formOf [] n = none := rfl
theorem formOf_pos {x : Item} {b : Book} {n : Nat} (h : x.number = n) : formOf (x :: b) n = some x := by
  simp [formOf, h]
theorem formOf_neg {x : Item} {b : Book} {n : Nat} (h : x.number ≠ n) : formOf (x :: b) n = formOf b n := by
  simp [formOf, h]
theorem formOf_mem {b : Book} {n : Nat} {i : Item} (h : formOf b n = some i) : i ∈ b ∧ i.number = n := by
  refine ⟨List.mem_of_find?_eq_some h, ?_⟩
  have := List.find?_some h
  simpa using this
theorem formOf_of_mem : ∀ {b : Book} {i : Item}, Srt b → i ∈ b → formOf b i.number = some i
  | x :: b, i, hs, hm => by
    rcases List.mem_cons.mp hm with rfl | hm
    · exact formOf_pos rfl
    · have := (List.pairwise_cons.mp hs).1 i hm
      rw [formOf_neg (by omega)]
      exact formOf_of_mem (List.pairwise_cons.mp hs).2 hm
theorem formOf_none {b : Book} {n : Nat} (h : formOf b n = none) : ∀ i ∈ b, i.number ≠ n := by
  intro i hi e
  have := List.find?_eq_none.mp h i hi
  simp [e] at this
theorem formOf_none_of {b : Book} {n : Nat} (h : ∀ i ∈ b, i.number ≠ n) : formOf b n = none := by
  apply List.find?_eq_none.mpr
  intro i hi
  simpa using h i hi
theorem Srt.tail {x : Item} {b : Book} (h : Srt (x :: b)) : Srt b := (List.pairwise_cons.mp h).2
theorem Srt.head {x : Item} {b : Book} (h : Srt (x :: b)) : ∀ y ∈ b, x.number < y.number := (List.pairwise_cons.mp h).1

theorem put_nil (x : Item) : put x [] = [x] := rfl
theorem put_lt {x y : Item} {b : Book} (h : x.number < y.number) : put x (y :: b) = x :: y :: b := by
  simp [put, h]
theorem put_gt {x y : Item} {b : Book} (h : y.number < x.number) : put x (y :: b) = y :: put x b := by
  have h1 : ¬ x.number < y.number := by omega
  have h2 : ¬ x.number = y.number := by omega
  simp [put, h1, h2]
theorem put_eqG {x y : Item} {b : Book} (h : x.number = y.number) (g : greater x y = true) : put x (y :: b) = x :: b := by
  simp [put, h, g]
theorem put_eqL {x y : Item} {b : Book} (h : x.number = y.number) (g : ¬ greater x y = true) : put x (y :: b) = y :: b := by
  simp [put, h, g]

theorem put_mem {x : Item} : ∀ {b : Book} {i : Item}, i ∈ put x b → i = x ∨ i ∈ b
  | [], i, h => by simp [put_nil] at h; exact .inl h
  | y :: b, i, h => by
    rcases Nat.lt_trichotomy x.number y.number with l | e | g
    · rw [put_lt l] at h
      rcases List.mem_cons.mp h with h | h
      · exact .inl h
      · exact .inr h
    · by_cases q : greater x y = true
      · rw [put_eqG e q] at h
        rcases List.mem_cons.mp h with h | h
        · exact .inl h
        · exact .inr (List.mem_cons_of_mem _ h)
      · rw [put_eqL e q] at h
        exact .inr h
    · rw [put_gt g] at h
      rcases List.mem_cons.mp h with h | h
      · exact .inr (by rw [h]; exact List.mem_cons_self ..)
      · rcases put_mem h with h | h
        · exact .inl h
        · exact .inr (List.mem_cons_of_mem _ h)
theorem put_srt {x : Item} : ∀ {b : Book}, Srt b → Srt (put x b)
  | [], _ => by simp [put_nil, Srt]
  | y :: b, h => by
    rcases Nat.lt_trichotomy x.number y.number with l | e | g
    · rw [put_lt l]
      refine List.pairwise_cons.mpr ⟨fun z hz => ?_, h⟩
      rcases List.mem_cons.mp hz with rfl | hz
      · exact l
      · exact Nat.lt_trans l (h.head z hz)
    · by_cases q : greater x y = true
      · rw [put_eqG e q]
        exact List.pairwise_cons.mpr ⟨fun z hz => by rw [e]; exact h.head z hz, h.tail⟩
      · rw [put_eqL e q]
        exact h
    · rw [put_gt g]
      refine List.pairwise_cons.mpr ⟨fun z hz => ?_, put_srt h.tail⟩
      rcases put_mem hz with rfl | hz
      · exact g
      · exact h.head z hz
theorem put_okB {x : Item} {b : Book} (h : OkB b) (hx : InR20 x) : OkB (put x b) :=
  ⟨put_srt h.srt, fun i hi => by
    rcases put_mem hi with rfl | hi
    · exact hx
    · exact h.rg i hi⟩

/-- of two that may be there the one that stands -/
def over (x : Item) (o : Option Item) : Item := match o with
  | none => x
  | some y => if greater x y = true then x else y
theorem formOf_put {x : Item} : ∀ {b : Book} (n : Nat), Srt b → formOf (put x b) n = if n = x.number then some (over x (formOf b x.number)) else formOf b n
  | [], n, _ => by
    rw [put_nil]
    by_cases h : n = x.number
    · rw [if_pos h, formOf_pos h.symm]; rfl
    · rw [if_neg h, formOf_neg (fun e => h e.symm)]
  | y :: b, n, hs => by
    rcases Nat.lt_trichotomy x.number y.number with l | e | g
    · rw [put_lt l]
      by_cases h : n = x.number
      · rw [if_pos h, formOf_pos h.symm, formOf_none_of (b := y :: b)]
        · rfl
        · intro i hi
          rcases List.mem_cons.mp hi with rfl | hi
          · omega
          · have := hs.head i hi; omega
      · rw [if_neg h, formOf_neg (fun e => h e.symm)]
    · have hy : formOf (y :: b) x.number = some y := formOf_pos e.symm
      by_cases q : greater x y = true
      · rw [put_eqG e q]
        by_cases h : n = x.number
        · rw [if_pos h, formOf_pos h.symm, hy]; simp [over, q]
        · rw [if_neg h, formOf_neg (fun e => h e.symm), formOf_neg (fun z => h (by rw [e, z]))]
      · rw [put_eqL e q]
        by_cases h : n = x.number
        · rw [if_pos h, h, hy]; simp [over, q]
        · rw [if_neg h]
    · rw [put_gt g]
      by_cases h : n = y.number
      · rw [if_neg (by omega), formOf_pos h.symm, formOf_pos h.symm]
      · rw [formOf_neg (fun e => h e.symm), formOf_neg (fun e => h e.symm), formOf_put n hs.tail, formOf_neg (b := b) (n := x.number) (by omega)]

/-- two sorted books that say the same of every form are one -/
theorem book_ext : ∀ {a b : Book}, Srt a → Srt b → (∀ n, formOf a n = formOf b n) → a = b
  | [], [], _, _, _ => rfl
  | [], y :: b, _, _, h => by
    have := h y.number
    rw [formOf_pos rfl] at this; cases this
  | x :: a, [], _, _, h => by
    have := h x.number
    rw [formOf_pos rfl] at this; cases this
  | x :: a, y :: b, ha, hb, h => by
    have e : x.number = y.number := by
      rcases Nat.lt_trichotomy x.number y.number with l | e | g
      · have := h x.number
        rw [formOf_pos rfl, formOf_none_of] at this
        · cases this
        · intro i hi
          rcases List.mem_cons.mp hi with rfl | hi
          · omega
          · have := hb.head i hi; omega
      · exact e
      · have := h y.number
        rw [formOf_pos (x := y) rfl, formOf_none_of] at this
        · cases this
        · intro i hi
          rcases List.mem_cons.mp hi with rfl | hi
          · omega
          · have := ha.head i hi; omega
    have exy : x = y := by
      have := h x.number
      rw [formOf_pos rfl, formOf_pos e.symm] at this
      exact Option.some.inj this
    subst exy
    congr 1
    refine book_ext ha.tail hb.tail fun n => ?_
    by_cases hn : n = x.number
    · rw [formOf_none_of, formOf_none_of]
      · intro i hi; have := hb.head i hi; omega
      · intro i hi; have := ha.head i hi; omega
    · have := h n
      rwa [formOf_neg (fun e => hn e.symm), formOf_neg (fun e => hn e.symm)] at this

/-- one behind another, the first first -/
def bring (b : Book) (l : List Item) : Book := l.foldl (fun c x => put x c) b
theorem bring_nil (b : Book) : bring b [] = b := rfl
theorem bring_snoc (b : Book) (l : List Item) (x : Item) : bring b (l ++ [x]) = put x (bring b l) := by
  simp [bring, List.foldl_append]
theorem bring_srt : ∀ {l : List Item} {b : Book}, Srt b → Srt (bring b l)
  | [], _, h => h
  | _ :: l, _, h => bring_srt (l := l) (put_srt h)
theorem bring_okB : ∀ {l : List Item} {b : Book}, OkB b → (∀ i ∈ l, InR20 i) → OkB (bring b l)
  | [], _, h, _ => h
  | x :: l, _, h, hl => bring_okB (l := l) (put_okB h (hl x (List.mem_cons_self ..))) fun i hi => hl i (List.mem_cons_of_mem _ hi)
theorem join_srt : ∀ {l : List Item} {b : Book}, Srt b → Srt (join b l)
  | [], _, h => h
  | x :: l, b, h => put_srt (join_srt (l := l) h)
theorem formOf_bring : ∀ {l : List Item} {b : Book} (n : Nat), Srt b → Srt l → formOf (bring b l) n = match formOf l n with
    | none => formOf b n
    | some x => some (over x (formOf b n))
  | [], _, _, _, _ => rfl
  | x :: l, b, n, hb, hl => by
    show formOf (bring (put x b) l) n = _
    rw [formOf_bring n (put_srt hb) hl.tail, formOf_put n hb]
    by_cases h : n = x.number
    · rw [if_pos h, formOf_pos h.symm, formOf_none_of (b := l) (n := n), h]
      intro i hi; have := hl.head i hi; omega
    · rw [if_neg h, formOf_neg (fun e => h e.symm)]
theorem formOf_join : ∀ {l : List Item} {b : Book} (n : Nat), Srt b → Srt l → formOf (join b l) n = match formOf l n with
    | none => formOf b n
    | some x => some (over x (formOf b n))
  | [], _, _, _, _ => rfl
  | x :: l, b, n, hb, hl => by
    show formOf (put x (join b l)) n = _
    rw [formOf_put n (join_srt hb), formOf_join x.number hb hl.tail, formOf_join n hb hl.tail]
    by_cases h : n = x.number
    · rw [if_pos h, formOf_pos h.symm, formOf_none_of (b := l) (n := x.number), h]
      intro i hi; have := hl.head i hi; omega
    · rw [if_neg h, formOf_neg (fun e => h e.symm)]
/-- for items of different forms, by their numbers, the order doesn't matter -/
theorem bring_join {l : List Item} {b : Book} (hb : Srt b) (hl : Srt l) : bring b l = join b l :=
  book_ext (bring_srt hb) (join_srt hb) fun n => by rw [formOf_bring n hb hl, formOf_join n hb hl]
theorem bring_empty {l : List Item} (hl : Srt l) : bring [] l = l :=
  book_ext (bring_srt (by simp [Srt])) hl fun n => by
    rw [formOf_bring n (by simp [Srt]) hl]
    cases formOf l n <;> rfl
theorem join_okB {l : List Item} {b : Book} (hb : OkB b) (hl : OkB l) : OkB (join b l) := by
  rw [← bring_join hb.srt hl.srt]; exact bring_okB hb hl.rg

theorem news_srt {a b : Book} (h : Srt a) : Srt (news a b) := List.Pairwise.filter _ h
theorem news_okB {a b : Book} (h : OkB a) : OkB (news a b) := ⟨news_srt h.srt, fun i hi => h.rg i ((List.mem_filter.mp hi).1)⟩
theorem filter_okB {a : Book} {p : Item → Bool} (h : OkB a) : OkB (a.filter p) := ⟨List.Pairwise.filter _ h.srt, fun i hi => h.rg i ((List.mem_filter.mp hi).1)⟩
theorem okB_nil : OkB [] := ⟨by simp [Srt], by simp⟩

theorem nodup_numbers {b : Book} (h : Srt b) : (b.map fun i => i.number).Nodup := by
  rw [List.nodup_iff_pairwise_ne]
  exact List.Pairwise.map _ (fun _ _ h => Nat.ne_of_lt h) h
theorem srt_len : ∀ {b : Book} (k : Nat), Srt b → (∀ i ∈ b, k < i.number ∧ i.number ≤ 20) → b.length ≤ 20 - k
  | [], _, _, _ => by simp
  | x :: b, k, h, hr => by
    have hx := hr x (List.mem_cons_self ..)
    have ih := srt_len x.number h.tail fun i hi => ⟨h.head i hi, (hr i (List.mem_cons_of_mem _ hi)).2⟩
    rw [List.length_cons]
    omega
theorem okB_len {b : Book} (h : OkB b) : b.length ≤ 20 := srt_len 0 h.srt fun i hi => ⟨(h.rg i hi).1, (h.rg i hi).2⟩

/-- put behind one's own: nothing changes where it isn't greater -/
theorem put_same {x y : Item} : ∀ {b : Book}, Srt b → formOf b x.number = some y → ¬ greater x y = true → put x b = b := fun {b} hs h g =>
  book_ext (put_srt hs) hs fun n => by
    rw [formOf_put n hs, h]
    by_cases e : n = x.number
    · rw [if_pos e, e, h]; simp [over, g]
    · rw [if_neg e]
theorem put_numbers_new {x : Item} : ∀ {b : Book}, formOf b x.number = none → ((put x b).map fun i => i.number).Perm (x.number :: b.map fun i => i.number)
  | [], _ => .refl _
  | y :: b, h => by
    have hy : y.number ≠ x.number := formOf_none h y (List.mem_cons_self ..)
    rcases Nat.lt_or_gt_of_ne hy with l | g
    · rw [put_gt l]
      have ih := put_numbers_new (x := x) (b := b) (by rwa [formOf_neg hy] at h)
      exact (List.Perm.cons y.number ih).trans (List.Perm.swap ..)
    · rw [put_lt g]; exact .refl _
theorem put_numbers_old {x y : Item} : ∀ {b : Book}, Srt b → formOf b x.number = some y → (put x b).map (fun i => i.number) = b.map fun i => i.number
  | [], _, h => by cases h
  | z :: b, hs, h => by
    rcases Nat.lt_trichotomy x.number z.number with l | e | g
    · have hm := formOf_mem h
      rcases List.mem_cons.mp hm.1 with e | hm'
      · have := hm.2; rw [e] at this; omega
      · have := hs.head y hm'; have := hm.2; omega
    · by_cases q : greater x z = true
      · rw [put_eqG e q]; simp [e]
      · rw [put_eqL e q]
    · rw [put_gt g, List.map_cons, List.map_cons, put_numbers_old hs.tail (by rwa [formOf_neg (by omega)] at h)]
end Fo

-- FoRules
/-! Rules for constructs of this program that the layer has no rule of. -/
namespace Fo
open PySem PySem.Spec PyProof.Rows L2

theorem un65 {k : Nat} {A : Around} (hr : Room k A) : A.units + 65 < cLine := by
  have := hr.un
  omega
/-- four numbers beside four numbers: the first ones that differ say -/
def gt4 (a b : Int × Int × Int × Int) : Bool :=
  if a.1 = b.1 then if a.2.1 = b.2.1 then if a.2.2.1 = b.2.2.1 then decide (b.2.2.2 < a.2.2.2) else decide (b.2.2.1 < a.2.2.1) else decide (b.2.1 < a.2.1) else decide (b.1 < a.1)
def row4 (a : Int × Int × Int × Int) : List V := [.int a.1, .int a.2.1, .int a.2.2.1, .int a.2.2.2]
def rGt4 : R2 := fun x y H Q => ∃ (p q : Addr) (a b : Int × Int × Int × Int), x = .ref p ∧ y = .ref q ∧ H p = some (.tup (row4 a)) ∧ H q = some (.tup (row4 b)) ∧ Q (.bl (gt4 a b)) H

theorem op_gt4 {X : Cx} (hu : X.A.units < cLine) : OpR X (compareOp .Gt) rGt4 := by
  intro pins s σ H x y v u Q I rx ry h
  obtain ⟨p, q, ⟨a0, a1, a2, a3⟩, ⟨b0, b1, b2, b3⟩, rfl, rfl, hp, hq, k⟩ := h
  cases rx
  cases ry
  obtain ⟨its, r1, p1, _⟩ := I.tuple (SqT.of hp)
  obtain ⟨its2, r2, p2, _⟩ := I.tuple (SqT.of hq)
  unfold row4 at r1 r2
  cases r1 with | cons v0 r1 => cases r1 with | cons v1 r1 => cases r1 with | cons v2 r1 => cases r1 with | cons v3 r1 =>
  cases r1
  cases r2 with | cons w0 r2 => cases r2 with | cons w1 r2 => cases r2 with | cons w2 r2 => cases r2 with | cons w3 r2 =>
  cases r2
  obtain ⟨t0, rfl⟩ := v0; obtain ⟨t1, rfl⟩ := v1; obtain ⟨t2, rfl⟩ := v2; obtain ⟨t3, rfl⟩ := v3
  obtain ⟨u0, rfl⟩ := w0; obtain ⟨u1, rfl⟩ := w1; obtain ⟨u2, rfl⟩ := w2; obtain ⟨u3, rfl⟩ := w3
  let e : Nat → Bool := fun j => match j with
    | 0 => a0 == b0 | 1 => a1 == b1 | 2 => a2 == b2 | _ => a3 == b3
  let r : Nat → Bool := fun j => match j with
    | 0 => decide (b0 < a0) | 1 => decide (b1 < a1) | 2 => decide (b2 < a2) | _ => decide (b3 < a3)
  have ev : Ob.lexAt e r (decide (4 > 4)) 0 (min 4 4) = gt4 (a0, a1, a2, a3) (b0, b1, b2, b3) := by
    simp only [Ob.lexAt, gt4, e, r, Nat.min_self, beq_iff_eq]
    by_cases h3 : a3 = b3
    · simp [h3]
    · simp [h3]
  refine (Ob.RcOp.tuples_gt (e := e) (r := r) p1 p2 hu ?_ ?_) X.prog X.w _ _ ?_
  · intro j h1 h2
    match j, h1 with
    | 0, _ => exact SeqAt.EqAt.int_int a0 t0 b0 u0
    | 1, _ => exact SeqAt.EqAt.int_int a1 t1 b1 u1
    | 2, _ => exact SeqAt.EqAt.int_int a2 t2 b2 u2
    | 3, _ => exact SeqAt.EqAt.int_int a3 t3 b3 u3
    | n + 4, h => simp only [List.size_toArray, List.length_cons, List.length_nil] at h; omega
  · intro j h1 h2 _
    match j, h1 with
    | 0, _ => exact Ob.RcOp.gt_int a0 b0 t0 u0
    | 1, _ => exact Ob.RcOp.gt_int a1 b1 t1 u1
    | 2, _ => exact Ob.RcOp.gt_int a2 b2 t2 u2
    | 3, _ => exact Ob.RcOp.gt_int a3 b3 t3 u3
    | n + 4, h => simp only [List.size_toArray, List.length_cons, List.length_nil] at h; omega
  · show EP X pins σ Q (.bool (Ob.lexAt e r (decide (4 > 4)) 0 (min 4 4))) s
    rw [ev]
    exact ⟨.bl _, H, I, rfl, k⟩

/-- X(), X an own exception class without own __init__ -/
theorem pmk_own0 {X : Cx} {C : Addr} {bmB : List Value} {B newId initId : String} {x : Str} {p pos : Pos} (F : ExcBaseFacts B newId initId bmB) (q : PySem.W.excIn X.K C bmB newId = true) (gC : X.mg x = some (.ref C))
    (kC : PySem.W.keepIn X.K (.ref C) = true) (r : Raises X (.ref C)) (hg : Gl X x) (hdb : (x == ("__debug__" : Str)) = false := by decide) :
    PMk X (.Call (.Name x p) [] [] pos) (fun _ H Q => Q (.ref C) none H) := by
  intro pins s σ H Q I h
  refine wpAny_Call_Name_kw (ld_glob I hg gC ?_ hdb)
  refine PySem.W.callWith_K0 I.kIn kC ?_
  obtain ⟨bm, N, nm, qn, bs, hdct, sn, sub, ab, col, dd, k0, k1, k2, k3, k5, mN, hC, hN, hni, T⟩ := exc_obj I.kIn q
  exact wpAny_call_exc_subT F T hC hN hni (fun h' e hm => mk_of I hm r h (I.hok.gone hm.new)) (by show 0 ≤ sizeLine; rw [sizeLine_eq]; omega)
/-- a name of the text's top that holds a number -/
structure Q_int (mg : Str → Option Value) (n : Str) (v : Int) : Prop where
  ex : ∃ t, mg n = some (.int v t)
theorem pe_const {X : Cx} {x : Str} {v : Int} {pos : Pos} (hg : Gl X x) (q : Q_int X.mg x v) (hd : (x == ("__debug__" : Str)) = false := by decide) : PE X (.Name x pos) (tC (.int v)) := by
  obtain ⟨t, e⟩ := q.ex
  exact pe_glob hg e ⟨t, rfl⟩ hd

/-- o.f, the frame told -/
theorem pe_fldK {X : Cx} {K : PySem.W.Frag} {e : Expr} {f : Str} {pos : Pos} {ta : TE} (hK : X.K = K) (he : PE X e ta) (hb : attributeBase e f X.env (eval e X.env) = eval e X.env) : PE X (.Attribute e f pos) (tFld K ta f) := by
  subst hK
  exact pe_fld he hb
/-- a walk over a list or a tuple, whichever comes -/
def iSeq (K : PySem.W.Frag) (tl : TE) : TI := fun σ H R => iList K tl σ H R ∨ iTup K tl σ H R
theorem pi_seq {X : Cx} {tg l : Expr} {tl : TE} (hl : PE X l tl) : PI X tg l (iSeq X.K tl) :=
  ⟨fun pins s σ H R I h => h.elim (fun h => (pi_list hl).run pins s σ H R I h) fun h => (pi_tup hl).run pins s σ H R I h⟩

/-- o.m(e, ..) where what m raises is wished for at the slots as they stand (within a try) -/
def tMethAt (C : Addr) (m : Str) (sp : Sp) (W : L2.St → XK) (ta : TE) (t : TA) : TE := fun σ H Q =>
  ta σ H fun x H1 => ∃ p dx fs, x = .ref p ∧ H1 p = some (.ins C dx fs) ∧ fs.lookup m = none ∧ t σ H1 fun vs H2 => sp (x :: vs) H2 Q (W σ)
theorem pe_methAt {X : Cx} {CX : CXT} {k : Nat} {f C : Addr} {fd : FuncData} {ps : List Str} {sp : Sp} {W : L2.St → XK} {m : Str} {pos apos : Pos} {e o : Expr} {es : List Expr} {ta : TE} {t : TA} {pl : Sem Bool}
    (he : PE X o ta) (c : Cls X.K C) (hm : Meth X.K C m f) (F : FnOk X.prog X.w X.K X.mg X.base CX k f fd ps sp) (hr : Room k X.A) (hb : Binds X.K fd ps []) (hx : ∀ σ, PassesAt CX X σ (W σ)) (ha : PA X (e :: es) t)
    (h1 : starEach (e :: es) X.env = (false, eval e X.env) :: starEach es X.env := by rfl) (h2 : (backTo pos (starEach es X.env)).any (·.1) = false := by rfl)
    (h3 : eval (.Call (.Attribute o m apos) (e :: es) [] pos) X.env = (do
      let ov ← eval o X.env; standAt apos.atName; let (f, first) ← holding [ov] (getMethod ov m pl); callWith pos f first (backTo pos (starEach (e :: es) X.env)) (backToKw pos (keywordEach [] X.env))) := by rfl) :
    PE X (.Call (.Attribute o m apos) (e :: es) [] pos) (tMethAt C m sp W ta t) where
  run := fun pins s σ H Q I h => by
    refine PySem.W.methodCall_KW (pl := pl) (thn (he.run pins s σ H _ I h) fun u s1 hh => ?_) h3
    obtain ⟨x, H1, I1, rx, p, dx, fs, rfl, ea, l, q⟩ := hh
    cases rx
    refine getmeth_ok I1 ea c hm l ?_
    refine PySem.W.callWith_K (first := [.ref p]) (h₀ := X.base) I.ok.mod.kin hm.kp (thn (ha.run pos pins s1 σ H1 _ I1 q) fun us s2 hh2 => ?_) h1 h2
    obtain ⟨vs, H2, I2, r, q2⟩ := hh2
    exact ⟨I2.kIn, run_fnS (us := .ref p :: us) (vs := .ref p :: vs) F hr hb (hx σ) I2 (.cons rfl r) q2⟩
section
open PySem.AutoSeq1 (wpAny_loadPart' idx_int)
open PySem.MeetsSeq PySem.MeetsSeq2 PySem.MeetsSeq3
theorem ext_tup (l b : Addr) (xs ys : Array Value) (n m : Nat) (dd : Option Addr) (sl : Array (Option Value)) (h0 : ¬(!xs.isEmpty && Builtin.List.listTooLong (xs.size + ys.size)) = true) (h1 : xs.size ≤ sizeLine) (h2 : xs.size + ys.size ≤ sizeLine + 1) :
    Meets (Builtin.«list.extend» ⟨[.ref l, .ref b], []⟩) (fun _ R s => s.heap.get? l = some { cls := .type "list", data := .seq xs n } ∧ s.heap.get? b = some { cls := .type "tuple", dict := dd, data := .seq ys m, slots := sl } ∧
      R (.ok (.ret Value.none)) { s with heap := s.heap.update l (Obj.mapSeq fun x => x ++ ys), toks := s.toks }) := by
  refine .of_wp fun prog w A R s h => ?_
  obtain ⟨hp, g, d, tk, os⟩ := s
  obtain ⟨hl, hb, h⟩ := h
  have e1 := idx_int
  have e2 := AutoSeq1.sub_tuple_tuple
  have e3 := AutoSeq1.sub_list_list
  have e4 := AutoSeq1.sub_tuple_list
  have e5 := AutoSeq1.sub_list_tuple
  have h3 : (xs ++ ys).size ≤ sizeLine + 1 := by
    rw [Array.size_append]
    exact h2
  wp_walk using (wpAny_updateSeq hl rfl (hz := h1) (_hz' := h3)), wpAny_loadPart' hl, wpAny_loadPart' hb
  exact ⟨_, rfl, h⟩
end
/-- xs.extend(t), t a tuple -/
def rExtT : V → List V → Hp → VK → Prop := fun x vs H Q => ∃ l b xs zs, x = .ref l ∧ vs = [.ref b] ∧ H l = some (.lst xs) ∧ H b = some (.tup zs) ∧ xs.length + zs.length ≤ sizeLine ∧ Q .non (upd H l (.lst (xs ++ zs)))
theorem mt_extT {X : Cx} : MtM X "list.extend" rExtT := by
  intro pins s σ H x vs v us Q I rx rv h
  obtain ⟨l, b, xs, zs, rfl, rfl, hH, hB, hz, q⟩ := h
  cases rx
  obtain ⟨u, rfl, ru⟩ := rv.one
  cases ru
  obtain ⟨z, its, n, r, hl, e⟩ := I.lstM hH
  obtain ⟨its2, r2, ⟨⟨cls, dd, dat, sl⟩, e2, hc, m, hd⟩, z2⟩ := I.tuple (SqT.of hB)
  simp only at hc hd
  subst hc hd
  have l2 := r2.length
  have k : its.toArray.size + its2.toArray.size ≤ sizeLine := by simp only [List.size_toArray]; omega
  have kl : ¬ (!its.toArray.isEmpty && Builtin.List.listTooLong (its.toArray.size + its2.toArray.size)) = true := by
    rw [notLongL k, Bool.and_false]
    exact Bool.false_ne_true
  refine call_meets PySem.F.slot_list_extend ⟨_, e, rfl⟩ PySem.F.entry_list_extend (PySem.F.args_list_extend_2 _ _) (ext_tup l b its.toArray its2.toArray n m dd sl kl (by omega) (by omega)) ⟨e, e2, ?_⟩
  exact ⟨.non, _, I.lset (its' := its ++ its2) hH e (by simp) (r.append r2) (by rw [List.length_append]; omega), rfl, q⟩
end Fo

-- FoTab
/-! A table of the text's top whose keys are numbers: its items; a call of what a local name holds, with what it may raise. -/
namespace Fo
open PySem PySem.Spec PyProof.Rows L2

def valIs : V → Value → Bool
  | .int i, .int j _ => i == j
  | .ref a, .ref b => a == b
  | _, _ => false
theorem valIs_rel {v : V} {u : Value} (h : valIs v u = true) : RelV v u := by
  unfold valIs at h
  split at h
  · rename_i i j t
    exact ⟨t, by rw [beq_iff_eq.mp h]⟩
  · rename_i a b
    show Value.ref b = Value.ref a
    rw [beq_iff_eq.mp h]
  · cases h
/-- the entries, in order: key and value -/
def rowsV : List DictEntry → List (Int × V) → Bool
  | [], [] => true
  | e :: es, (k, v) :: l => (match e.key with | .int i _ => i == k | _ => false) && (e.hash == hashInt k) && valIs v e.val && rowsV es l
  | _, _ => false
theorem rowsV_cons {e : DictEntry} {es : List DictEntry} {k : Int} {v : V} {l : List (Int × V)} (h : rowsV (e :: es) ((k, v) :: l) = true) : (∃ t, e.key = .int k t) ∧ e.hash = hashInt k ∧ RelV v e.val ∧ rowsV es l = true := by
  simp only [rowsV, Bool.and_eq_true] at h
  obtain ⟨⟨⟨h1, h2⟩, h3⟩, h4⟩ := h
  refine ⟨?_, beq_iff_eq.mp h2, valIs_rel h3, h4⟩
  split at h1
  · rename_i i t e1
    exact ⟨t, by rw [e1, beq_iff_eq.mp h1]⟩
  · cases h1
theorem rowsV_keys : ∀ {es : List DictEntry} {l : List (Int × V)}, rowsV es l = true → ∀ e ∈ es, ∃ k t, e.key = .int k t ∧ e.hash = hashInt k
  | [], [], _, e, he => by cases he
  | x :: es, (k, v) :: l, h, e, he => by
    obtain ⟨⟨t, h1⟩, h2, h3, h4⟩ := rowsV_cons h
    rcases List.mem_cons.mp he with rfl | he
    · exact ⟨k, t, h1, h2⟩
    · exact rowsV_keys h4 e he
  | [], _ :: _, h, e, he => by cases he
  | _ :: _, [], h, e, he => by simp [rowsV] at h
theorem rowsV_find : ∀ {es : List DictEntry} {l : List (Int × V)} {z : Int} {v : V}, rowsV es l = true → l.lookup z = some v → ∃ u, (es.find? fun e => Value.isInt z e.key).map (·.val) = some u ∧ RelV v u
  | [], [], z, v, _, hl => by cases hl
  | x :: es, (k, v') :: l, z, v, h, hl => by
    obtain ⟨⟨t, h1⟩, h2, h3, h4⟩ := rowsV_cons h
    rw [List.lookup_cons] at hl
    by_cases c : z = k
    · subst c
      simp only [beq_self_eq_true, Option.some.injEq] at hl
      subst hl
      exact ⟨x.val, by rw [List.find?_cons, h1]; simp [Value.isInt], h3⟩
    · have c1 : (z == k) = false := by simpa using c
      rw [c1] at hl
      obtain ⟨u, e1, e2⟩ := rowsV_find h4 hl
      refine ⟨u, ?_, e2⟩
      rw [List.find?_cons, h1]
      have c2 : Value.isInt z (.int k t) = false := by simp [Value.isInt]; exact fun z' => c z'.symm
      rw [c2]
      exact e1
  | [], _ :: _, z, v, h, hl => by simp [rowsV] at h
  | _ :: _, [], z, v, h, hl => by simp [rowsV] at h
/-- a name of the text's top holds a table of these numbers and values -/
structure Q_tab (K : PySem.W.Frag) (mg : Str → Option Value) (d : Addr) (x : Str) (l : List (Int × V)) : Prop where
  at_ : mg x = some (.ref d)
  lo : (d == sysModules) = false
  ex : ∃ es n, K.lookup d = some ⟨.type "dict", none, .dict es n, #[]⟩ ∧ rowsV es.toList l = true
def rIxV (d : Addr) (l : List (Int × V)) : R2 := fun x y H Q => ∃ z v, x = .ref d ∧ y = .int z ∧ l.lookup z = some v ∧ Q v H
theorem ix_tab {X : Cx} {d : Addr} {x : Str} {l : List (Int × V)} (q : Q_tab X.K X.mg d x l) : IxR X (rIxV d l) := by
  intro value slice pins s σ H x y v u Q I rx ry h hs
  obtain ⟨z, r, rfl, rfl, e, q2⟩ := h
  obtain ⟨es, n, hl, hr⟩ := q.ex
  obtain rfl : v = Value.ref d := rx
  obtain ⟨t, rfl⟩ := ry
  obtain ⟨u0, e1, ru⟩ := rowsV_find hr e
  have hm : s.heap.MapOf (PySem.intKind X.prog X.w) d (fun k => findBy Value.isInt es k) := ⟨_, es, n, I.kIn _ _ hl, ⟨rfl, rfl, rfl⟩, rfl, fun e he => by
    obtain ⟨k, t, h1, h2⟩ := rowsV_keys hr e (Array.mem_toList_iff.mpr he)
    exact ⟨k, by rw [h1]; exact intKind_is X.prog X.w k t, h2⟩, fun _ => rfl⟩
  have hf : findBy Value.isInt es z = some u0 := by
    obtain ⟨es⟩ := es
    unfold findBy
    rw [List.find?_toArray]
    exact e1
  exact tail_any hm.typeIs slot_dict_getitem.lookup (wpAny_getItem_of (intKind_is X.prog X.w z t) hm hf ⟨r, H, I.tok _, ru, q2⟩) hs
theorem pe_tab {X : Cx} {d : Addr} {x : Str} {l : List (Int × V)} {pos : Pos} (hg : Gl X x) (q : Q_tab X.K X.mg d x l) (hd : (x == ("__debug__" : Str)) = false := by decide) : PE X (.Name x pos) (tC (.ref d)) :=
  pe_glob hg q.at_ rfl hd

/-- a slot holds one of several defs; the promise goes with the address -/
structure Held (P : Program) (w : World) (K : PySem.W.Frag) (mg : Str → Option Value) (base : Heap) (k : Nat) (f : Addr) (sp : Sp) : Prop where
  ex : ∃ (fd : FuncData) (ps : List Str), FnOk P w K mg base (L2.CX P w) k f fd ps sp ∧ PySem.W.keepIn K (.ref f) = true ∧ Binds K fd ps []
def tCallH (i : Nat) (S : Addr → Sp → Prop) (E : XK) (t : TA) : TE := fun σ H Q => ∃ f sp, σ[i]? = some (some (.ref f)) ∧ S f sp ∧ t σ H fun vs H1 => sp vs H1 Q E
theorem pe_callH {X : Cx} {k i : Nat} {S : Addr → Sp → Prop} {E : XK} {x : Str} {p pos : Pos} {e : Expr} {es : List Expr} {t : TA} (A : ∀ f sp, S f sp → Held X.prog X.w X.K X.mg X.base k f sp) (hr : Room k X.A) (hN : X.N[i]? = some x) (hv : Vis X.env.scope x)
    (hx : Passes (L2.CX X.prog X.w) X E) (ha : PA X (e :: es) t) (hdb : (x == ("__debug__" : Str)) = false := by decide) (hcd : (x == ("__classdict__" : Str)) = false := by decide)
    (he : starEach (e :: es) X.env = (false, eval e X.env) :: starEach es X.env := by rfl) (hpl : (backTo pos (starEach es X.env)).any (·.1) = false := by rfl) : PE X (.Call (.Name x p) (e :: es) [] pos) (tCallH i S E t) := by
  refine ⟨fun pins s σ H Q I h => ?_⟩
  obtain ⟨f, sp, hs, hS, ht⟩ := h
  obtain ⟨fd, ps, F, hk, hb⟩ := (A f sp hS).ex
  refine (pe_callL (i := i) (f := f) (sp := sp) (dvs := []) (E := E) F hr hN hv hk hb .nil hx ha hdb hcd he hpl).run pins s σ H Q I ⟨hs, ?_⟩
  have e0 : (fun (vs : List V) (H1 : Hp) => sp (vs ++ []) H1 Q E) = fun vs H1 => sp vs H1 Q E := by
    funext vs H1
    rw [List.append_nil]
  show t σ H (fun vs H1 => sp (vs ++ []) H1 Q E)
  rw [e0]
  exact ht
end Fo

-- FoTxt
/-! Places of the defs in the text, their scopes, the addresses behind the top, what the top has written of them. Printed by a program of mine. -/
namespace Fo
open PySem PySem.Spec PyProof.Rows L2
def top (i : Nat) : Stmt := PySem.Challenge.pw_formoffices_s01_answers.main.body.getD i (.Pass ⟨0, 0, 0, 0⟩)
abbrev s_check_range : Stmt := top 6
abbrev N_check_range : List Str := ["number", "first", "last"]
theorem sc_check_range : FnScope N_check_range ["number", "first", "last"] (defScope s_check_range) := ⟨rfl, rfl, rfl, by decide +kernel, rfl, by decide +kernel, by decide +kernel⟩
abbrev s_make_item : Stmt := top 8
abbrev N_make_item : List Str := ["form", "version", "withdrawn", "tells"]
theorem sc_make_item : FnScope N_make_item ["form", "version", "withdrawn", "tells"] (defScope s_make_item) := ⟨rfl, rfl, rfl, by decide +kernel, rfl, by decide +kernel, by decide +kernel⟩
abbrev s_is_greater : Stmt := top 9
abbrev N_is_greater : List Str := ["item", "other"]
theorem sc_is_greater : FnScope N_is_greater ["item", "other"] (defScope s_is_greater) := ⟨rfl, rfl, rfl, by decide +kernel, rfl, by decide +kernel, by decide +kernel⟩
abbrev s_bring_into : Stmt := top 10
abbrev N_bring_into : List Str := ["book", "coming", "item", "form"]
theorem sc_bring_into : FnScope N_bring_into ["book", "coming"] (defScope s_bring_into) := ⟨rfl, rfl, rfl, by decide +kernel, rfl, by decide +kernel, by decide +kernel⟩
abbrev s_items_of : Stmt := top 11
abbrev N_items_of : List Str := ["book", "form"]
theorem sc_items_of : FnScope N_items_of ["book"] (defScope s_items_of) := ⟨rfl, rfl, rfl, by decide +kernel, rfl, by decide +kernel, by decide +kernel⟩
abbrev s_news_for : Stmt := top 12
abbrev N_news_for : List Str := ["book", "other", "news", "item", "form"]
theorem sc_news_for : FnScope N_news_for ["book", "other"] (defScope s_news_for) := ⟨rfl, rfl, rfl, by decide +kernel, rfl, by decide +kernel, by decide +kernel⟩
abbrev s_numbers_of : Stmt := top 13
abbrev N_numbers_of : List Str := ["told", "numbers", "item"]
theorem sc_numbers_of : FnScope N_numbers_of ["told"] (defScope s_numbers_of) := ⟨rfl, rfl, rfl, by decide +kernel, rfl, by decide +kernel, by decide +kernel⟩
abbrev s_Message_init : Stmt := inClass (top 19) 0
abbrev N_Message_init : List Str := ["self", "kind", "sender", "receiver", "carried"]
theorem sc_Message_init : FnScope N_Message_init ["self", "kind", "sender", "receiver", "carried"] (defScope s_Message_init) := ⟨rfl, rfl, rfl, by decide +kernel, rfl, by decide +kernel, by decide +kernel⟩
abbrev s_keep_memory : Stmt := top 21
abbrev N_keep_memory : List Str := ["session", "place", "node", "told", "office"]
theorem sc_keep_memory : FnScope N_keep_memory ["session", "place"] (defScope s_keep_memory) := ⟨rfl, rfl, rfl, by decide +kernel, rfl, by decide +kernel, by decide +kernel⟩
abbrev s_send_forms : Stmt := top 22
abbrev N_send_forms : List Str := ["session", "office", "centre", "carried"]
theorem sc_send_forms : FnScope N_send_forms ["session", "office", "centre"] (defScope s_send_forms) := ⟨rfl, rfl, rfl, by decide +kernel, rfl, by decide +kernel, by decide +kernel⟩
abbrev s_send_summary : Stmt := top 23
abbrev N_send_summary : List Str := ["session", "centre", "carried"]
theorem sc_send_summary : FnScope N_send_summary ["session", "centre"] (defScope s_send_summary) := ⟨rfl, rfl, rfl, by decide +kernel, rfl, by decide +kernel, by decide +kernel⟩
abbrev s_let_come : Stmt := top 24
abbrev N_let_come : List Str := ["session", "number", "message", "node", "item"]
theorem sc_let_come : FnScope N_let_come ["session", "number"] (defScope s_let_come) := ⟨rfl, rfl, rfl, by decide +kernel, rfl, by decide +kernel, by decide +kernel⟩
abbrev s_note_receipts : Stmt := top 25
abbrev N_note_receipts : List Str := ["session", "message", "office", "item"]
theorem sc_note_receipts : FnScope N_note_receipts ["session", "message"] (defScope s_note_receipts) := ⟨rfl, rfl, rfl, by decide +kernel, rfl, by decide +kernel, by decide +kernel⟩
abbrev s_send_back : Stmt := top 26
abbrev N_send_back : List Str := ["session", "message", "asked", "news"]
theorem sc_send_back : FnScope N_send_back ["session", "message"] (defScope s_send_back) := ⟨rfl, rfl, rfl, by decide +kernel, rfl, by decide +kernel, by decide +kernel⟩
abbrev s_settle_all : Stmt := top 28
abbrev N_settle_all : List Str := ["session", "before", "node", "office", "centre", "place"]
theorem sc_settle_all : FnScope N_settle_all ["session"] (defScope s_settle_all) := ⟨rfl, rfl, rfl, by decide +kernel, rfl, by decide +kernel, by decide +kernel⟩
abbrev s_bring_forms : Stmt := top 29
abbrev N_bring_forms : List Str := ["session", "office", "centre"]
theorem sc_bring_forms : FnScope N_bring_forms ["session", "office", "centre"] (defScope s_bring_forms) := ⟨rfl, rfl, rfl, by decide +kernel, rfl, by decide +kernel, by decide +kernel⟩
abbrev s_keep_and_acknowledge : Stmt := top 30
abbrev N_keep_and_acknowledge : List Str := ["session", "centre", "number"]
theorem sc_keep_and_acknowledge : FnScope N_keep_and_acknowledge ["session", "centre"] (defScope s_keep_and_acknowledge) := ⟨rfl, rfl, rfl, by decide +kernel, rfl, by decide +kernel, by decide +kernel⟩
abbrev s_ask_and_fill : Stmt := top 31
abbrev N_ask_and_fill : List Str := ["session", "centre", "number"]
theorem sc_ask_and_fill : FnScope N_ask_and_fill ["session", "centre"] (defScope s_ask_and_fill) := ⟨rfl, rfl, rfl, by decide +kernel, rfl, by decide +kernel, by decide +kernel⟩
abbrev s_memory : Stmt := top 33
abbrev N_memory : List Str := ["session", "numbers", "place", "node"]
theorem sc_memory : FnScope N_memory ["session", "numbers"] (defScope s_memory) := ⟨rfl, rfl, rfl, by decide +kernel, rfl, by decide +kernel, by decide +kernel⟩
abbrev s_disk : Stmt := top 34
abbrev N_disk : List Str := ["session", "numbers", "place", "node", "told", "slot"]
theorem sc_disk : FnScope N_disk ["session", "numbers"] (defScope s_disk) := ⟨rfl, rfl, rfl, by decide +kernel, rfl, by decide +kernel, by decide +kernel⟩
abbrev s_receipts : Stmt := top 35
abbrev N_receipts : List Str := ["session", "numbers", "office", "node", "told", "centre", "form", "item"]
theorem sc_receipts : FnScope N_receipts ["session", "numbers"] (defScope s_receipts) := ⟨rfl, rfl, rfl, by decide +kernel, rfl, by decide +kernel, by decide +kernel⟩
abbrev s_flight : Stmt := top 36
abbrev N_flight : List Str := ["session", "numbers", "told", "number", "sent"]
theorem sc_flight : FnScope N_flight ["session", "numbers"] (defScope s_flight) := ⟨rfl, rfl, rfl, by decide +kernel, rfl, by decide +kernel, by decide +kernel⟩
abbrev s_message : Stmt := top 37
abbrev N_message : List Str := ["session", "numbers", "sent"]
theorem sc_message : FnScope N_message ["session", "numbers"] (defScope s_message) := ⟨rfl, rfl, rfl, by decide +kernel, rfl, by decide +kernel, by decide +kernel⟩
abbrev s_acknowledged : Stmt := top 38
abbrev N_acknowledged : List Str := ["session", "numbers"]
theorem sc_acknowledged : FnScope N_acknowledged ["session", "numbers"] (defScope s_acknowledged) := ⟨rfl, rfl, rfl, by decide +kernel, rfl, by decide +kernel, by decide +kernel⟩
abbrev s_lacks : Stmt := top 39
abbrev N_lacks : List Str := ["session", "numbers", "place", "other", "node", "other_node", "item"]
theorem sc_lacks : FnScope N_lacks ["session", "numbers"] (defScope s_lacks) := ⟨rfl, rfl, rfl, by decide +kernel, rfl, by decide +kernel, by decide +kernel⟩
abbrev s_even : Stmt := top 40
abbrev N_even : List Str := ["session", "numbers"]
theorem sc_even : FnScope N_even ["session", "numbers"] (defScope s_even) := ⟨rfl, rfl, rfl, by decide +kernel, rfl, by decide +kernel, by decide +kernel⟩
abbrev s_state : Stmt := top 41
abbrev N_state : List Str := ["session", "numbers", "told", "node"]
theorem sc_state : FnScope N_state ["session", "numbers"] (defScope s_state) := ⟨rfl, rfl, rfl, by decide +kernel, rfl, by decide +kernel, by decide +kernel⟩
abbrev s_owed : Stmt := top 42
abbrev N_owed : List Str := ["session", "numbers", "centre", "node"]
theorem sc_owed : FnScope N_owed ["session", "numbers"] (defScope s_owed) := ⟨rfl, rfl, rfl, by decide +kernel, rfl, by decide +kernel, by decide +kernel⟩
abbrev s_taken : Stmt := top 43
abbrev N_taken : List Str := ["session", "numbers"]
theorem sc_taken : FnScope N_taken ["session", "numbers"] (defScope s_taken) := ⟨rfl, rfl, rfl, by decide +kernel, rfl, by decide +kernel, by decide +kernel⟩
abbrev s_numbers_of_pairs : Stmt := top 44
abbrev N_numbers_of_pairs : List Str := ["pairs", "told", "place", "item"]
theorem sc_numbers_of_pairs : FnScope N_numbers_of_pairs ["pairs"] (defScope s_numbers_of_pairs) := ⟨rfl, rfl, rfl, by decide +kernel, rfl, by decide +kernel, by decide +kernel⟩
abbrev s_is_even : Stmt := top 45
abbrev N_is_even : List Str := ["session", "first", "second", "node", "centre"]
theorem sc_is_even : FnScope N_is_even ["session"] (defScope s_is_even) := ⟨rfl, rfl, rfl, by decide +kernel, rfl, by decide +kernel, by decide +kernel⟩
abbrev s_tell : Stmt := top 47
abbrev N_tell : List Str := ["session", "number", "numbers", "call"]
theorem sc_tell : FnScope N_tell ["session", "number", "numbers"] (defScope s_tell) := ⟨rfl, rfl, rfl, by decide +kernel, rfl, by decide +kernel, by decide +kernel⟩
abbrev s_take : Stmt := top 49
abbrev N_take : List Str := ["session", "numbers", "office", "form", "version", "withdrawn", "tells", "node", "item"]
theorem sc_take : FnScope N_take ["session", "numbers"] (defScope s_take) := ⟨rfl, rfl, rfl, by decide +kernel, rfl, by decide +kernel, by decide +kernel⟩
abbrev s_keep : Stmt := top 50
abbrev N_keep : List Str := ["session", "numbers", "place", "node"]
theorem sc_keep : FnScope N_keep ["session", "numbers"] (defScope s_keep) := ⟨rfl, rfl, rfl, by decide +kernel, rfl, by decide +kernel, by decide +kernel⟩
abbrev s_torn : Stmt := top 51
abbrev N_torn : List Str := ["session", "numbers", "place", "begun", "node"]
theorem sc_torn : FnScope N_torn ["session", "numbers"] (defScope s_torn) := ⟨rfl, rfl, rfl, by decide +kernel, rfl, by decide +kernel, by decide +kernel⟩
abbrev s_cut : Stmt := top 52
abbrev N_cut : List Str := ["session", "numbers", "place", "node"]
theorem sc_cut : FnScope N_cut ["session", "numbers"] (defScope s_cut) := ⟨rfl, rfl, rfl, by decide +kernel, rfl, by decide +kernel, by decide +kernel⟩
abbrev s_up : Stmt := top 53
abbrev N_up : List Str := ["session", "numbers", "place", "node"]
theorem sc_up : FnScope N_up ["session", "numbers"] (defScope s_up) := ⟨rfl, rfl, rfl, by decide +kernel, rfl, by decide +kernel, by decide +kernel⟩
abbrev s_send : Stmt := top 54
abbrev N_send : List Str := ["session", "numbers", "office", "centre", "node"]
theorem sc_send : FnScope N_send ["session", "numbers"] (defScope s_send) := ⟨rfl, rfl, rfl, by decide +kernel, rfl, by decide +kernel, by decide +kernel⟩
abbrev s_ask : Stmt := top 55
abbrev N_ask : List Str := ["session", "numbers", "centre"]
theorem sc_ask : FnScope N_ask ["session", "numbers"] (defScope s_ask) := ⟨rfl, rfl, rfl, by decide +kernel, rfl, by decide +kernel, by decide +kernel⟩
abbrev s_deliver : Stmt := top 56
abbrev N_deliver : List Str := ["session", "numbers", "number"]
theorem sc_deliver : FnScope N_deliver ["session", "numbers"] (defScope s_deliver) := ⟨rfl, rfl, rfl, by decide +kernel, rfl, by decide +kernel, by decide +kernel⟩
abbrev s_lose : Stmt := top 57
abbrev N_lose : List Str := ["session", "numbers", "number"]
theorem sc_lose : FnScope N_lose ["session", "numbers"] (defScope s_lose) := ⟨rfl, rfl, rfl, by decide +kernel, rfl, by decide +kernel, by decide +kernel⟩
abbrev s_double : Stmt := top 58
abbrev N_double : List Str := ["session", "numbers", "message"]
theorem sc_double : FnScope N_double ["session", "numbers"] (defScope s_double) := ⟨rfl, rfl, rfl, by decide +kernel, rfl, by decide +kernel, by decide +kernel⟩
abbrev s_settle : Stmt := top 59
abbrev N_settle : List Str := ["session", "numbers"]
theorem sc_settle : FnScope N_settle ["session", "numbers"] (defScope s_settle) := ⟨rfl, rfl, rfl, by decide +kernel, rfl, by decide +kernel, by decide +kernel⟩
abbrev s_perform : Stmt := top 61
abbrev N_perform : List Str := ["session", "number", "numbers", "call"]
theorem sc_perform : FnScope N_perform ["session", "number", "numbers"] (defScope s_perform) := ⟨rfl, rfl, rfl, by decide +kernel, rfl, by decide +kernel, by decide +kernel⟩
abbrev s_Slot_init : Stmt := inClass (top 63) 0
abbrev N_Slot_init : List Str := ["self", "sequence", "book", "receipts"]
theorem sc_Slot_init : FnScope N_Slot_init ["self", "sequence", "book", "receipts"] (defScope s_Slot_init) := ⟨rfl, rfl, rfl, by decide +kernel, rfl, by decide +kernel, by decide +kernel⟩
abbrev s_Node_init : Stmt := inClass (top 64) 0
abbrev N_Node_init : List Str := ["self"]
theorem sc_Node_init : FnScope N_Node_init ["self"] (defScope s_Node_init) := ⟨rfl, rfl, rfl, by decide +kernel, rfl, by decide +kernel, by decide +kernel⟩
abbrev s_Node_other_place : Stmt := inClass (top 64) 1
abbrev N_Node_other_place : List Str := ["self"]
theorem sc_Node_other_place : FnScope N_Node_other_place ["self"] (defScope s_Node_other_place) := ⟨rfl, rfl, rfl, by decide +kernel, rfl, by decide +kernel, by decide +kernel⟩
abbrev s_Node_slot_read : Stmt := inClass (top 64) 2
abbrev N_Node_slot_read : List Str := ["self"]
theorem sc_Node_slot_read : FnScope N_Node_slot_read ["self"] (defScope s_Node_slot_read) := ⟨rfl, rfl, rfl, by decide +kernel, rfl, by decide +kernel, by decide +kernel⟩
abbrev s_Node_write_memory : Stmt := inClass (top 64) 3
abbrev N_Node_write_memory : List Str := ["self", "sequence"]
theorem sc_Node_write_memory : FnScope N_Node_write_memory ["self"] (defScope s_Node_write_memory) := ⟨rfl, rfl, rfl, by decide +kernel, rfl, by decide +kernel, by decide +kernel⟩
abbrev s_Node_spoil_other : Stmt := inClass (top 64) 4
abbrev N_Node_spoil_other : List Str := ["self"]
theorem sc_Node_spoil_other : FnScope N_Node_spoil_other ["self"] (defScope s_Node_spoil_other) := ⟨rfl, rfl, rfl, by decide +kernel, rfl, by decide +kernel, by decide +kernel⟩
abbrev s_Node_lose_power : Stmt := inClass (top 64) 5
abbrev N_Node_lose_power : List Str := ["self"]
theorem sc_Node_lose_power : FnScope N_Node_lose_power ["self"] (defScope s_Node_lose_power) := ⟨rfl, rfl, rfl, by decide +kernel, rfl, by decide +kernel, by decide +kernel⟩
abbrev s_Node_gain_power : Stmt := inClass (top 64) 6
abbrev N_Node_gain_power : List Str := ["self", "slot"]
theorem sc_Node_gain_power : FnScope N_Node_gain_power ["self"] (defScope s_Node_gain_power) := ⟨rfl, rfl, rfl, by decide +kernel, rfl, by decide +kernel, by decide +kernel⟩
abbrev s_Node_holds : Stmt := inClass (top 64) 7
abbrev N_Node_holds : List Str := ["self", "item"]
theorem sc_Node_holds : FnScope N_Node_holds ["self", "item"] (defScope s_Node_holds) := ⟨rfl, rfl, rfl, by decide +kernel, rfl, by decide +kernel, by decide +kernel⟩
abbrev s_Node_take_in : Stmt := inClass (top 64) 8
abbrev N_Node_take_in : List Str := ["self", "coming", "receipt"]
theorem sc_Node_take_in : FnScope N_Node_take_in ["self", "coming"] (defScope s_Node_take_in) := ⟨rfl, rfl, rfl, by decide +kernel, rfl, by decide +kernel, by decide +kernel⟩
abbrev s_Node_add_receipt : Stmt := inClass (top 64) 9
abbrev N_Node_add_receipt : List Str := ["self", "centre", "item", "receipt"]
theorem sc_Node_add_receipt : FnScope N_Node_add_receipt ["self", "centre", "item"] (defScope s_Node_add_receipt) := ⟨rfl, rfl, rfl, by decide +kernel, rfl, by decide +kernel, by decide +kernel⟩
abbrev s_Node_items_without_receipt : Stmt := inClass (top 64) 10
abbrev N_Node_items_without_receipt : List Str := ["self", "centre", "item"]
theorem sc_Node_items_without_receipt : FnScope N_Node_items_without_receipt ["self", "centre"] (defScope s_Node_items_without_receipt) := ⟨rfl, rfl, rfl, by decide +kernel, rfl, by decide +kernel, by decide +kernel⟩
abbrev s_Node_owe : Stmt := inClass (top 64) 11
abbrev N_Node_owe : List Str := ["self", "office", "item", "receipt"]
theorem sc_Node_owe : FnScope N_Node_owe ["self", "office", "item"] (defScope s_Node_owe) := ⟨rfl, rfl, rfl, by decide +kernel, rfl, by decide +kernel, by decide +kernel⟩
abbrev s_Node_offices_owed : Stmt := inClass (top 64) 12
abbrev N_Node_offices_owed : List Str := ["self", "receipt"]
theorem sc_Node_offices_owed : FnScope N_Node_offices_owed ["self"] (defScope s_Node_offices_owed) := ⟨rfl, rfl, rfl, by decide +kernel, rfl, by decide +kernel, by decide +kernel⟩
abbrev s_Node_items_owed : Stmt := inClass (top 64) 13
abbrev N_Node_items_owed : List Str := ["self", "office", "receipt"]
theorem sc_Node_items_owed : FnScope N_Node_items_owed ["self", "office"] (defScope s_Node_items_owed) := ⟨rfl, rfl, rfl, by decide +kernel, rfl, by decide +kernel, by decide +kernel⟩
abbrev s_Session_init : Stmt := inClass (top 67) 0
abbrev N_Session_init : List Str := ["self", "offices", "number"]
theorem sc_Session_init : FnScope N_Session_init ["self", "offices"] (defScope s_Session_init) := ⟨rfl, rfl, rfl, by decide +kernel, rfl, by decide +kernel, by decide +kernel⟩
abbrev s_Session_check_node : Stmt := inClass (top 67) 1
abbrev N_Session_check_node : List Str := ["self", "number"]
theorem sc_Session_check_node : FnScope N_Session_check_node ["self", "number"] (defScope s_Session_check_node) := ⟨rfl, rfl, rfl, by decide +kernel, rfl, by decide +kernel, by decide +kernel⟩
abbrev s_Session_check_office : Stmt := inClass (top 67) 2
abbrev N_Session_check_office : List Str := ["self", "number"]
theorem sc_Session_check_office : FnScope N_Session_check_office ["self", "number"] (defScope s_Session_check_office) := ⟨rfl, rfl, rfl, by decide +kernel, rfl, by decide +kernel, by decide +kernel⟩
abbrev s_Session_check_centre : Stmt := inClass (top 67) 3
abbrev N_Session_check_centre : List Str := ["self", "number"]
theorem sc_Session_check_centre : FnScope N_Session_check_centre ["self", "number"] (defScope s_Session_check_centre) := ⟨rfl, rfl, rfl, by decide +kernel, rfl, by decide +kernel, by decide +kernel⟩
abbrev s_Session_centres : Stmt := inClass (top 67) 4
abbrev N_Session_centres : List Str := ["self"]
theorem sc_Session_centres : FnScope N_Session_centres ["self"] (defScope s_Session_centres) := ⟨rfl, rfl, rfl, by decide +kernel, rfl, by decide +kernel, by decide +kernel⟩
abbrev s_Session_node_with_power : Stmt := inClass (top 67) 5
abbrev N_Session_node_with_power : List Str := ["self", "number", "node"]
theorem sc_Session_node_with_power : FnScope N_Session_node_with_power ["self", "number"] (defScope s_Session_node_with_power) := ⟨rfl, rfl, rfl, by decide +kernel, rfl, by decide +kernel, by decide +kernel⟩
abbrev s_Session_other_centre : Stmt := inClass (top 67) 6
abbrev N_Session_other_centre : List Str := ["self", "centre"]
theorem sc_Session_other_centre : FnScope N_Session_other_centre ["self", "centre"] (defScope s_Session_other_centre) := ⟨rfl, rfl, rfl, by decide +kernel, rfl, by decide +kernel, by decide +kernel⟩
abbrev s_Session_message_under_way : Stmt := inClass (top 67) 7
abbrev N_Session_message_under_way : List Str := ["self", "number"]
theorem sc_Session_message_under_way : FnScope N_Session_message_under_way ["self", "number"] (defScope s_Session_message_under_way) := ⟨rfl, rfl, rfl, by decide +kernel, rfl, by decide +kernel, by decide +kernel⟩
abbrev s_Session_check_room : Stmt := inClass (top 67) 8
abbrev N_Session_check_room : List Str := ["self", "more"]
theorem sc_Session_check_room : FnScope N_Session_check_room ["self", "more"] (defScope s_Session_check_room) := ⟨rfl, rfl, rfl, by decide +kernel, rfl, by decide +kernel, by decide +kernel⟩
abbrev s_Session_send_off : Stmt := inClass (top 67) 9
abbrev N_Session_send_off : List Str := ["self", "message"]
theorem sc_Session_send_off : FnScope N_Session_send_off ["self", "message"] (defScope s_Session_send_off) := ⟨rfl, rfl, rfl, by decide +kernel, rfl, by decide +kernel, by decide +kernel⟩
abbrev s_Line_init : Stmt := inClass (top 71) 0
abbrev N_Line_init : List Str := ["self"]
theorem sc_Line_init : FnScope N_Line_init ["self"] (defScope s_Line_init) := ⟨rfl, rfl, rfl, by decide +kernel, rfl, by decide +kernel, by decide +kernel⟩
abbrev s_Line_answer_call : Stmt := inClass (top 71) 1
abbrev N_Line_answer_call : List Str := ["self", "number", "numbers"]
theorem sc_Line_answer_call : FnScope N_Line_answer_call ["self", "number", "numbers"] (defScope s_Line_answer_call) := ⟨rfl, rfl, rfl, by decide +kernel, rfl, by decide +kernel, by decide +kernel⟩
abbrev s_Line_follow : Stmt := inClass (top 71) 2
abbrev N_Line_follow : List Str := ["self", "number", "numbers"]
theorem sc_Line_follow : FnScope N_Line_follow ["self", "number", "numbers"] (defScope s_Line_follow) := ⟨rfl, rfl, rfl, by decide +kernel, rfl, by decide +kernel, by decide +kernel⟩
abbrev s_answers : Stmt := top 72
abbrev N_answers : List Str := ["calls", "line", "told", "place", "number", "behind", "answer"]
theorem sc_answers : FnScope N_answers ["calls"] (defScope s_answers) := ⟨rfl, rfl, rfl, by decide +kernel, rfl, by decide +kernel, by decide +kernel⟩
structure Ad where
  c_Message : Addr
  c_Slot : Addr
  c_Node : Addr
  c_Session : Addr
  c_Line : Addr
  c_NotInRange : Addr
  c_NoPower : Addr
  c_NothingThere : Addr
  c_TooManyUnderWay : Addr
  c_NotBegun : Addr
  f_check_range : Addr
  d_check_range : FuncData
  f_make_item : Addr
  d_make_item : FuncData
  f_is_greater : Addr
  d_is_greater : FuncData
  f_bring_into : Addr
  d_bring_into : FuncData
  f_items_of : Addr
  d_items_of : FuncData
  f_news_for : Addr
  d_news_for : FuncData
  f_numbers_of : Addr
  d_numbers_of : FuncData
  f_Message_init : Addr
  d_Message_init : FuncData
  f_keep_memory : Addr
  d_keep_memory : FuncData
  f_send_forms : Addr
  d_send_forms : FuncData
  f_send_summary : Addr
  d_send_summary : FuncData
  f_let_come : Addr
  d_let_come : FuncData
  f_note_receipts : Addr
  d_note_receipts : FuncData
  f_send_back : Addr
  d_send_back : FuncData
  f_settle_all : Addr
  d_settle_all : FuncData
  f_bring_forms : Addr
  d_bring_forms : FuncData
  f_keep_and_acknowledge : Addr
  d_keep_and_acknowledge : FuncData
  f_ask_and_fill : Addr
  d_ask_and_fill : FuncData
  f_memory : Addr
  d_memory : FuncData
  f_disk : Addr
  d_disk : FuncData
  f_receipts : Addr
  d_receipts : FuncData
  f_flight : Addr
  d_flight : FuncData
  f_message : Addr
  d_message : FuncData
  f_acknowledged : Addr
  d_acknowledged : FuncData
  f_lacks : Addr
  d_lacks : FuncData
  f_even : Addr
  d_even : FuncData
  f_state : Addr
  d_state : FuncData
  f_owed : Addr
  d_owed : FuncData
  f_taken : Addr
  d_taken : FuncData
  f_numbers_of_pairs : Addr
  d_numbers_of_pairs : FuncData
  f_is_even : Addr
  d_is_even : FuncData
  f_tell : Addr
  d_tell : FuncData
  f_take : Addr
  d_take : FuncData
  f_keep : Addr
  d_keep : FuncData
  f_torn : Addr
  d_torn : FuncData
  f_cut : Addr
  d_cut : FuncData
  f_up : Addr
  d_up : FuncData
  f_send : Addr
  d_send : FuncData
  f_ask : Addr
  d_ask : FuncData
  f_deliver : Addr
  d_deliver : FuncData
  f_lose : Addr
  d_lose : FuncData
  f_double : Addr
  d_double : FuncData
  f_settle : Addr
  d_settle : FuncData
  f_perform : Addr
  d_perform : FuncData
  f_Slot_init : Addr
  d_Slot_init : FuncData
  f_Node_init : Addr
  d_Node_init : FuncData
  f_Node_other_place : Addr
  d_Node_other_place : FuncData
  f_Node_slot_read : Addr
  d_Node_slot_read : FuncData
  f_Node_write_memory : Addr
  d_Node_write_memory : FuncData
  f_Node_spoil_other : Addr
  d_Node_spoil_other : FuncData
  f_Node_lose_power : Addr
  d_Node_lose_power : FuncData
  f_Node_gain_power : Addr
  d_Node_gain_power : FuncData
  f_Node_holds : Addr
  d_Node_holds : FuncData
  f_Node_take_in : Addr
  d_Node_take_in : FuncData
  f_Node_add_receipt : Addr
  d_Node_add_receipt : FuncData
  f_Node_items_without_receipt : Addr
  d_Node_items_without_receipt : FuncData
  f_Node_owe : Addr
  d_Node_owe : FuncData
  f_Node_offices_owed : Addr
  d_Node_offices_owed : FuncData
  f_Node_items_owed : Addr
  d_Node_items_owed : FuncData
  f_Session_init : Addr
  d_Session_init : FuncData
  f_Session_check_node : Addr
  d_Session_check_node : FuncData
  f_Session_check_office : Addr
  d_Session_check_office : FuncData
  f_Session_check_centre : Addr
  d_Session_check_centre : FuncData
  f_Session_centres : Addr
  d_Session_centres : FuncData
  f_Session_node_with_power : Addr
  d_Session_node_with_power : FuncData
  f_Session_other_centre : Addr
  d_Session_other_centre : FuncData
  f_Session_message_under_way : Addr
  d_Session_message_under_way : FuncData
  f_Session_check_room : Addr
  d_Session_check_room : FuncData
  f_Session_send_off : Addr
  d_Session_send_off : FuncData
  f_Line_init : Addr
  d_Line_init : FuncData
  f_Line_answer_call : Addr
  d_Line_answer_call : FuncData
  f_Line_follow : Addr
  d_Line_follow : FuncData
  f_answers : Addr
  d_answers : FuncData
  tb_TELLING : Addr
  tb_CALLS : Addr
  tb_HOW_MANY_NUMBERS : Addr
structure Txt (K : PySem.W.Frag) (mg : Str → Option Value) (a : Ad) : Prop where
  F_check_range : Fun K "check_range" "check_range" s_check_range a.f_check_range a.d_check_range
  b_check_range : Binds K a.d_check_range ["number", "first", "last"] []
  g_check_range : mg "check_range" = some (.ref a.f_check_range)
  F_make_item : Fun K "make_item" "make_item" s_make_item a.f_make_item a.d_make_item
  b_make_item : Binds K a.d_make_item ["form", "version", "withdrawn", "tells"] []
  g_make_item : mg "make_item" = some (.ref a.f_make_item)
  F_is_greater : Fun K "is_greater" "is_greater" s_is_greater a.f_is_greater a.d_is_greater
  b_is_greater : Binds K a.d_is_greater ["item", "other"] []
  g_is_greater : mg "is_greater" = some (.ref a.f_is_greater)
  F_bring_into : Fun K "bring_into" "bring_into" s_bring_into a.f_bring_into a.d_bring_into
  b_bring_into : Binds K a.d_bring_into ["book", "coming"] []
  g_bring_into : mg "bring_into" = some (.ref a.f_bring_into)
  F_items_of : Fun K "items_of" "items_of" s_items_of a.f_items_of a.d_items_of
  b_items_of : Binds K a.d_items_of ["book"] []
  g_items_of : mg "items_of" = some (.ref a.f_items_of)
  F_news_for : Fun K "news_for" "news_for" s_news_for a.f_news_for a.d_news_for
  b_news_for : Binds K a.d_news_for ["book", "other"] []
  g_news_for : mg "news_for" = some (.ref a.f_news_for)
  F_numbers_of : Fun K "numbers_of" "numbers_of" s_numbers_of a.f_numbers_of a.d_numbers_of
  b_numbers_of : Binds K a.d_numbers_of ["told"] []
  g_numbers_of : mg "numbers_of" = some (.ref a.f_numbers_of)
  F_Message_init : Fun K "__init__" "Message.__init__" s_Message_init a.f_Message_init a.d_Message_init
  b_Message_init : Binds K a.d_Message_init ["self", "kind", "sender", "receiver", "carried"] []
  F_keep_memory : Fun K "keep_memory" "keep_memory" s_keep_memory a.f_keep_memory a.d_keep_memory
  b_keep_memory : Binds K a.d_keep_memory ["session", "place"] []
  g_keep_memory : mg "keep_memory" = some (.ref a.f_keep_memory)
  F_send_forms : Fun K "send_forms" "send_forms" s_send_forms a.f_send_forms a.d_send_forms
  b_send_forms : Binds K a.d_send_forms ["session", "office", "centre"] []
  g_send_forms : mg "send_forms" = some (.ref a.f_send_forms)
  F_send_summary : Fun K "send_summary" "send_summary" s_send_summary a.f_send_summary a.d_send_summary
  b_send_summary : Binds K a.d_send_summary ["session", "centre"] []
  g_send_summary : mg "send_summary" = some (.ref a.f_send_summary)
  F_let_come : Fun K "let_come" "let_come" s_let_come a.f_let_come a.d_let_come
  b_let_come : Binds K a.d_let_come ["session", "number"] []
  g_let_come : mg "let_come" = some (.ref a.f_let_come)
  F_note_receipts : Fun K "note_receipts" "note_receipts" s_note_receipts a.f_note_receipts a.d_note_receipts
  b_note_receipts : Binds K a.d_note_receipts ["session", "message"] []
  g_note_receipts : mg "note_receipts" = some (.ref a.f_note_receipts)
  F_send_back : Fun K "send_back" "send_back" s_send_back a.f_send_back a.d_send_back
  b_send_back : Binds K a.d_send_back ["session", "message"] []
  g_send_back : mg "send_back" = some (.ref a.f_send_back)
  F_settle_all : Fun K "settle_all" "settle_all" s_settle_all a.f_settle_all a.d_settle_all
  b_settle_all : Binds K a.d_settle_all ["session"] []
  g_settle_all : mg "settle_all" = some (.ref a.f_settle_all)
  F_bring_forms : Fun K "bring_forms" "bring_forms" s_bring_forms a.f_bring_forms a.d_bring_forms
  b_bring_forms : Binds K a.d_bring_forms ["session", "office", "centre"] []
  g_bring_forms : mg "bring_forms" = some (.ref a.f_bring_forms)
  F_keep_and_acknowledge : Fun K "keep_and_acknowledge" "keep_and_acknowledge" s_keep_and_acknowledge a.f_keep_and_acknowledge a.d_keep_and_acknowledge
  b_keep_and_acknowledge : Binds K a.d_keep_and_acknowledge ["session", "centre"] []
  g_keep_and_acknowledge : mg "keep_and_acknowledge" = some (.ref a.f_keep_and_acknowledge)
  F_ask_and_fill : Fun K "ask_and_fill" "ask_and_fill" s_ask_and_fill a.f_ask_and_fill a.d_ask_and_fill
  b_ask_and_fill : Binds K a.d_ask_and_fill ["session", "centre"] []
  g_ask_and_fill : mg "ask_and_fill" = some (.ref a.f_ask_and_fill)
  F_memory : Fun K "memory" "memory" s_memory a.f_memory a.d_memory
  b_memory : Binds K a.d_memory ["session", "numbers"] []
  g_memory : mg "memory" = some (.ref a.f_memory)
  F_disk : Fun K "disk" "disk" s_disk a.f_disk a.d_disk
  b_disk : Binds K a.d_disk ["session", "numbers"] []
  g_disk : mg "disk" = some (.ref a.f_disk)
  F_receipts : Fun K "receipts" "receipts" s_receipts a.f_receipts a.d_receipts
  b_receipts : Binds K a.d_receipts ["session", "numbers"] []
  g_receipts : mg "receipts" = some (.ref a.f_receipts)
  F_flight : Fun K "flight" "flight" s_flight a.f_flight a.d_flight
  b_flight : Binds K a.d_flight ["session", "numbers"] []
  g_flight : mg "flight" = some (.ref a.f_flight)
  F_message : Fun K "message" "message" s_message a.f_message a.d_message
  b_message : Binds K a.d_message ["session", "numbers"] []
  g_message : mg "message" = some (.ref a.f_message)
  F_acknowledged : Fun K "acknowledged" "acknowledged" s_acknowledged a.f_acknowledged a.d_acknowledged
  b_acknowledged : Binds K a.d_acknowledged ["session", "numbers"] []
  g_acknowledged : mg "acknowledged" = some (.ref a.f_acknowledged)
  F_lacks : Fun K "lacks" "lacks" s_lacks a.f_lacks a.d_lacks
  b_lacks : Binds K a.d_lacks ["session", "numbers"] []
  g_lacks : mg "lacks" = some (.ref a.f_lacks)
  F_even : Fun K "even" "even" s_even a.f_even a.d_even
  b_even : Binds K a.d_even ["session", "numbers"] []
  g_even : mg "even" = some (.ref a.f_even)
  F_state : Fun K "state" "state" s_state a.f_state a.d_state
  b_state : Binds K a.d_state ["session", "numbers"] []
  g_state : mg "state" = some (.ref a.f_state)
  F_owed : Fun K "owed" "owed" s_owed a.f_owed a.d_owed
  b_owed : Binds K a.d_owed ["session", "numbers"] []
  g_owed : mg "owed" = some (.ref a.f_owed)
  F_taken : Fun K "taken" "taken" s_taken a.f_taken a.d_taken
  b_taken : Binds K a.d_taken ["session", "numbers"] []
  g_taken : mg "taken" = some (.ref a.f_taken)
  F_numbers_of_pairs : Fun K "numbers_of_pairs" "numbers_of_pairs" s_numbers_of_pairs a.f_numbers_of_pairs a.d_numbers_of_pairs
  b_numbers_of_pairs : Binds K a.d_numbers_of_pairs ["pairs"] []
  g_numbers_of_pairs : mg "numbers_of_pairs" = some (.ref a.f_numbers_of_pairs)
  F_is_even : Fun K "is_even" "is_even" s_is_even a.f_is_even a.d_is_even
  b_is_even : Binds K a.d_is_even ["session"] []
  g_is_even : mg "is_even" = some (.ref a.f_is_even)
  F_tell : Fun K "tell" "tell" s_tell a.f_tell a.d_tell
  b_tell : Binds K a.d_tell ["session", "number", "numbers"] []
  g_tell : mg "tell" = some (.ref a.f_tell)
  F_take : Fun K "take" "take" s_take a.f_take a.d_take
  b_take : Binds K a.d_take ["session", "numbers"] []
  g_take : mg "take" = some (.ref a.f_take)
  F_keep : Fun K "keep" "keep" s_keep a.f_keep a.d_keep
  b_keep : Binds K a.d_keep ["session", "numbers"] []
  g_keep : mg "keep" = some (.ref a.f_keep)
  F_torn : Fun K "torn" "torn" s_torn a.f_torn a.d_torn
  b_torn : Binds K a.d_torn ["session", "numbers"] []
  g_torn : mg "torn" = some (.ref a.f_torn)
  F_cut : Fun K "cut" "cut" s_cut a.f_cut a.d_cut
  b_cut : Binds K a.d_cut ["session", "numbers"] []
  g_cut : mg "cut" = some (.ref a.f_cut)
  F_up : Fun K "up" "up" s_up a.f_up a.d_up
  b_up : Binds K a.d_up ["session", "numbers"] []
  g_up : mg "up" = some (.ref a.f_up)
  F_send : Fun K "send" "send" s_send a.f_send a.d_send
  b_send : Binds K a.d_send ["session", "numbers"] []
  g_send : mg "send" = some (.ref a.f_send)
  F_ask : Fun K "ask" "ask" s_ask a.f_ask a.d_ask
  b_ask : Binds K a.d_ask ["session", "numbers"] []
  g_ask : mg "ask" = some (.ref a.f_ask)
  F_deliver : Fun K "deliver" "deliver" s_deliver a.f_deliver a.d_deliver
  b_deliver : Binds K a.d_deliver ["session", "numbers"] []
  g_deliver : mg "deliver" = some (.ref a.f_deliver)
  F_lose : Fun K "lose" "lose" s_lose a.f_lose a.d_lose
  b_lose : Binds K a.d_lose ["session", "numbers"] []
  g_lose : mg "lose" = some (.ref a.f_lose)
  F_double : Fun K "double" "double" s_double a.f_double a.d_double
  b_double : Binds K a.d_double ["session", "numbers"] []
  g_double : mg "double" = some (.ref a.f_double)
  F_settle : Fun K "settle" "settle" s_settle a.f_settle a.d_settle
  b_settle : Binds K a.d_settle ["session", "numbers"] []
  g_settle : mg "settle" = some (.ref a.f_settle)
  F_perform : Fun K "perform" "perform" s_perform a.f_perform a.d_perform
  b_perform : Binds K a.d_perform ["session", "number", "numbers"] []
  g_perform : mg "perform" = some (.ref a.f_perform)
  F_Slot_init : Fun K "__init__" "Slot.__init__" s_Slot_init a.f_Slot_init a.d_Slot_init
  b_Slot_init : Binds K a.d_Slot_init ["self", "sequence", "book", "receipts"] []
  F_Node_init : Fun K "__init__" "Node.__init__" s_Node_init a.f_Node_init a.d_Node_init
  b_Node_init : Binds K a.d_Node_init ["self"] []
  F_Node_other_place : Fun K "other_place" "Node.other_place" s_Node_other_place a.f_Node_other_place a.d_Node_other_place
  b_Node_other_place : Binds K a.d_Node_other_place ["self"] []
  m_Node_other_place : Meth K a.c_Node "other_place" a.f_Node_other_place
  F_Node_slot_read : Fun K "slot_read" "Node.slot_read" s_Node_slot_read a.f_Node_slot_read a.d_Node_slot_read
  b_Node_slot_read : Binds K a.d_Node_slot_read ["self"] []
  m_Node_slot_read : Meth K a.c_Node "slot_read" a.f_Node_slot_read
  F_Node_write_memory : Fun K "write_memory" "Node.write_memory" s_Node_write_memory a.f_Node_write_memory a.d_Node_write_memory
  b_Node_write_memory : Binds K a.d_Node_write_memory ["self"] []
  m_Node_write_memory : Meth K a.c_Node "write_memory" a.f_Node_write_memory
  F_Node_spoil_other : Fun K "spoil_other" "Node.spoil_other" s_Node_spoil_other a.f_Node_spoil_other a.d_Node_spoil_other
  b_Node_spoil_other : Binds K a.d_Node_spoil_other ["self"] []
  m_Node_spoil_other : Meth K a.c_Node "spoil_other" a.f_Node_spoil_other
  F_Node_lose_power : Fun K "lose_power" "Node.lose_power" s_Node_lose_power a.f_Node_lose_power a.d_Node_lose_power
  b_Node_lose_power : Binds K a.d_Node_lose_power ["self"] []
  m_Node_lose_power : Meth K a.c_Node "lose_power" a.f_Node_lose_power
  F_Node_gain_power : Fun K "gain_power" "Node.gain_power" s_Node_gain_power a.f_Node_gain_power a.d_Node_gain_power
  b_Node_gain_power : Binds K a.d_Node_gain_power ["self"] []
  m_Node_gain_power : Meth K a.c_Node "gain_power" a.f_Node_gain_power
  F_Node_holds : Fun K "holds" "Node.holds" s_Node_holds a.f_Node_holds a.d_Node_holds
  b_Node_holds : Binds K a.d_Node_holds ["self", "item"] []
  m_Node_holds : Meth K a.c_Node "holds" a.f_Node_holds
  F_Node_take_in : Fun K "take_in" "Node.take_in" s_Node_take_in a.f_Node_take_in a.d_Node_take_in
  b_Node_take_in : Binds K a.d_Node_take_in ["self", "coming"] []
  m_Node_take_in : Meth K a.c_Node "take_in" a.f_Node_take_in
  F_Node_add_receipt : Fun K "add_receipt" "Node.add_receipt" s_Node_add_receipt a.f_Node_add_receipt a.d_Node_add_receipt
  b_Node_add_receipt : Binds K a.d_Node_add_receipt ["self", "centre", "item"] []
  m_Node_add_receipt : Meth K a.c_Node "add_receipt" a.f_Node_add_receipt
  F_Node_items_without_receipt : Fun K "items_without_receipt" "Node.items_without_receipt" s_Node_items_without_receipt a.f_Node_items_without_receipt a.d_Node_items_without_receipt
  b_Node_items_without_receipt : Binds K a.d_Node_items_without_receipt ["self", "centre"] []
  m_Node_items_without_receipt : Meth K a.c_Node "items_without_receipt" a.f_Node_items_without_receipt
  F_Node_owe : Fun K "owe" "Node.owe" s_Node_owe a.f_Node_owe a.d_Node_owe
  b_Node_owe : Binds K a.d_Node_owe ["self", "office", "item"] []
  m_Node_owe : Meth K a.c_Node "owe" a.f_Node_owe
  F_Node_offices_owed : Fun K "offices_owed" "Node.offices_owed" s_Node_offices_owed a.f_Node_offices_owed a.d_Node_offices_owed
  b_Node_offices_owed : Binds K a.d_Node_offices_owed ["self"] []
  m_Node_offices_owed : Meth K a.c_Node "offices_owed" a.f_Node_offices_owed
  F_Node_items_owed : Fun K "items_owed" "Node.items_owed" s_Node_items_owed a.f_Node_items_owed a.d_Node_items_owed
  b_Node_items_owed : Binds K a.d_Node_items_owed ["self", "office"] []
  m_Node_items_owed : Meth K a.c_Node "items_owed" a.f_Node_items_owed
  F_Session_init : Fun K "__init__" "Session.__init__" s_Session_init a.f_Session_init a.d_Session_init
  b_Session_init : Binds K a.d_Session_init ["self", "offices"] []
  F_Session_check_node : Fun K "check_node" "Session.check_node" s_Session_check_node a.f_Session_check_node a.d_Session_check_node
  b_Session_check_node : Binds K a.d_Session_check_node ["self", "number"] []
  m_Session_check_node : Meth K a.c_Session "check_node" a.f_Session_check_node
  F_Session_check_office : Fun K "check_office" "Session.check_office" s_Session_check_office a.f_Session_check_office a.d_Session_check_office
  b_Session_check_office : Binds K a.d_Session_check_office ["self", "number"] []
  m_Session_check_office : Meth K a.c_Session "check_office" a.f_Session_check_office
  F_Session_check_centre : Fun K "check_centre" "Session.check_centre" s_Session_check_centre a.f_Session_check_centre a.d_Session_check_centre
  b_Session_check_centre : Binds K a.d_Session_check_centre ["self", "number"] []
  m_Session_check_centre : Meth K a.c_Session "check_centre" a.f_Session_check_centre
  F_Session_centres : Fun K "centres" "Session.centres" s_Session_centres a.f_Session_centres a.d_Session_centres
  b_Session_centres : Binds K a.d_Session_centres ["self"] []
  m_Session_centres : Meth K a.c_Session "centres" a.f_Session_centres
  F_Session_node_with_power : Fun K "node_with_power" "Session.node_with_power" s_Session_node_with_power a.f_Session_node_with_power a.d_Session_node_with_power
  b_Session_node_with_power : Binds K a.d_Session_node_with_power ["self", "number"] []
  m_Session_node_with_power : Meth K a.c_Session "node_with_power" a.f_Session_node_with_power
  F_Session_other_centre : Fun K "other_centre" "Session.other_centre" s_Session_other_centre a.f_Session_other_centre a.d_Session_other_centre
  b_Session_other_centre : Binds K a.d_Session_other_centre ["self", "centre"] []
  m_Session_other_centre : Meth K a.c_Session "other_centre" a.f_Session_other_centre
  F_Session_message_under_way : Fun K "message_under_way" "Session.message_under_way" s_Session_message_under_way a.f_Session_message_under_way a.d_Session_message_under_way
  b_Session_message_under_way : Binds K a.d_Session_message_under_way ["self", "number"] []
  m_Session_message_under_way : Meth K a.c_Session "message_under_way" a.f_Session_message_under_way
  F_Session_check_room : Fun K "check_room" "Session.check_room" s_Session_check_room a.f_Session_check_room a.d_Session_check_room
  b_Session_check_room : Binds K a.d_Session_check_room ["self", "more"] []
  m_Session_check_room : Meth K a.c_Session "check_room" a.f_Session_check_room
  F_Session_send_off : Fun K "send_off" "Session.send_off" s_Session_send_off a.f_Session_send_off a.d_Session_send_off
  b_Session_send_off : Binds K a.d_Session_send_off ["self", "message"] []
  m_Session_send_off : Meth K a.c_Session "send_off" a.f_Session_send_off
  F_Line_init : Fun K "__init__" "Line.__init__" s_Line_init a.f_Line_init a.d_Line_init
  b_Line_init : Binds K a.d_Line_init ["self"] []
  F_Line_answer_call : Fun K "answer_call" "Line.answer_call" s_Line_answer_call a.f_Line_answer_call a.d_Line_answer_call
  b_Line_answer_call : Binds K a.d_Line_answer_call ["self", "number", "numbers"] []
  m_Line_answer_call : Meth K a.c_Line "answer_call" a.f_Line_answer_call
  F_Line_follow : Fun K "follow" "Line.follow" s_Line_follow a.f_Line_follow a.d_Line_follow
  b_Line_follow : Binds K a.d_Line_follow ["self", "number", "numbers"] []
  m_Line_follow : Meth K a.c_Line "follow" a.f_Line_follow
  F_answers : Fun K "answers" "answers" s_answers a.f_answers a.d_answers
  b_answers : Binds K a.d_answers ["calls"] []
  g_answers : mg "answers" = some (.ref a.f_answers)
  g_Message : mg "Message" = some (.ref a.c_Message)
  cl_Message : Cls K a.c_Message
  M_Message : Mk K a.c_Message a.f_Message_init
  na_Message_kind : NoAttr K a.c_Message "kind"
  na_Message_sender : NoAttr K a.c_Message "sender"
  na_Message_receiver : NoAttr K a.c_Message "receiver"
  na_Message_carried : NoAttr K a.c_Message "carried"
  g_Slot : mg "Slot" = some (.ref a.c_Slot)
  cl_Slot : Cls K a.c_Slot
  M_Slot : Mk K a.c_Slot a.f_Slot_init
  na_Slot_sequence : NoAttr K a.c_Slot "sequence"
  na_Slot_book : NoAttr K a.c_Slot "book"
  na_Slot_receipts : NoAttr K a.c_Slot "receipts"
  g_Node : mg "Node" = some (.ref a.c_Node)
  cl_Node : Cls K a.c_Node
  M_Node : Mk K a.c_Node a.f_Node_init
  na_Node_power : NoAttr K a.c_Node "power"
  na_Node_book : NoAttr K a.c_Node "book"
  na_Node_receipts : NoAttr K a.c_Node "receipts"
  na_Node_owed : NoAttr K a.c_Node "owed"
  na_Node_slots : NoAttr K a.c_Node "slots"
  g_Session : mg "Session" = some (.ref a.c_Session)
  cl_Session : Cls K a.c_Session
  M_Session : Mk K a.c_Session a.f_Session_init
  na_Session_offices : NoAttr K a.c_Session "offices"
  na_Session_nodes : NoAttr K a.c_Session "nodes"
  na_Session_under_way : NoAttr K a.c_Session "under_way"
  na_Session_last_number : NoAttr K a.c_Session "last_number"
  na_Session_taken : NoAttr K a.c_Session "taken"
  na_Session_acknowledged : NoAttr K a.c_Session "acknowledged"
  g_Line : mg "Line" = some (.ref a.c_Line)
  cl_Line : Cls K a.c_Line
  M_Line : Mk K a.c_Line a.f_Line_init
  na_Line_session : NoAttr K a.c_Line "session"
  g_NotInRange : mg "NotInRange" = some (.ref a.c_NotInRange)
  x_NotInRange : PySem.W.excIn K a.c_NotInRange [.type "Exception", .type "BaseException", .type "object"] "Exception.__new__" = true
  k_NotInRange : PySem.W.keepIn K (.ref a.c_NotInRange) = true
  b_NotInRange : PySem.W.subIn K (.ref a.c_NotInRange) (.type "BaseException") = some true
  t_NotInRange : PySem.W.typeIn K (.ref a.c_NotInRange) = some (.type "type")
  e_NotInRange_NotInRange : PySem.W.exmOne K (.ref a.c_NotInRange) (.ref a.c_NotInRange) = some true
  e_NotInRange_NoPower : PySem.W.exmOne K (.ref a.c_NotInRange) (.ref a.c_NoPower) = some false
  e_NotInRange_NothingThere : PySem.W.exmOne K (.ref a.c_NotInRange) (.ref a.c_NothingThere) = some false
  e_NotInRange_TooManyUnderWay : PySem.W.exmOne K (.ref a.c_NotInRange) (.ref a.c_TooManyUnderWay) = some false
  e_NotInRange_NotBegun : PySem.W.exmOne K (.ref a.c_NotInRange) (.ref a.c_NotBegun) = some false
  g_NoPower : mg "NoPower" = some (.ref a.c_NoPower)
  x_NoPower : PySem.W.excIn K a.c_NoPower [.type "Exception", .type "BaseException", .type "object"] "Exception.__new__" = true
  k_NoPower : PySem.W.keepIn K (.ref a.c_NoPower) = true
  b_NoPower : PySem.W.subIn K (.ref a.c_NoPower) (.type "BaseException") = some true
  t_NoPower : PySem.W.typeIn K (.ref a.c_NoPower) = some (.type "type")
  e_NoPower_NotInRange : PySem.W.exmOne K (.ref a.c_NoPower) (.ref a.c_NotInRange) = some false
  e_NoPower_NoPower : PySem.W.exmOne K (.ref a.c_NoPower) (.ref a.c_NoPower) = some true
  e_NoPower_NothingThere : PySem.W.exmOne K (.ref a.c_NoPower) (.ref a.c_NothingThere) = some false
  e_NoPower_TooManyUnderWay : PySem.W.exmOne K (.ref a.c_NoPower) (.ref a.c_TooManyUnderWay) = some false
  e_NoPower_NotBegun : PySem.W.exmOne K (.ref a.c_NoPower) (.ref a.c_NotBegun) = some false
  g_NothingThere : mg "NothingThere" = some (.ref a.c_NothingThere)
  x_NothingThere : PySem.W.excIn K a.c_NothingThere [.type "Exception", .type "BaseException", .type "object"] "Exception.__new__" = true
  k_NothingThere : PySem.W.keepIn K (.ref a.c_NothingThere) = true
  b_NothingThere : PySem.W.subIn K (.ref a.c_NothingThere) (.type "BaseException") = some true
  t_NothingThere : PySem.W.typeIn K (.ref a.c_NothingThere) = some (.type "type")
  e_NothingThere_NotInRange : PySem.W.exmOne K (.ref a.c_NothingThere) (.ref a.c_NotInRange) = some false
  e_NothingThere_NoPower : PySem.W.exmOne K (.ref a.c_NothingThere) (.ref a.c_NoPower) = some false
  e_NothingThere_NothingThere : PySem.W.exmOne K (.ref a.c_NothingThere) (.ref a.c_NothingThere) = some true
  e_NothingThere_TooManyUnderWay : PySem.W.exmOne K (.ref a.c_NothingThere) (.ref a.c_TooManyUnderWay) = some false
  e_NothingThere_NotBegun : PySem.W.exmOne K (.ref a.c_NothingThere) (.ref a.c_NotBegun) = some false
  g_TooManyUnderWay : mg "TooManyUnderWay" = some (.ref a.c_TooManyUnderWay)
  x_TooManyUnderWay : PySem.W.excIn K a.c_TooManyUnderWay [.type "Exception", .type "BaseException", .type "object"] "Exception.__new__" = true
  k_TooManyUnderWay : PySem.W.keepIn K (.ref a.c_TooManyUnderWay) = true
  b_TooManyUnderWay : PySem.W.subIn K (.ref a.c_TooManyUnderWay) (.type "BaseException") = some true
  t_TooManyUnderWay : PySem.W.typeIn K (.ref a.c_TooManyUnderWay) = some (.type "type")
  e_TooManyUnderWay_NotInRange : PySem.W.exmOne K (.ref a.c_TooManyUnderWay) (.ref a.c_NotInRange) = some false
  e_TooManyUnderWay_NoPower : PySem.W.exmOne K (.ref a.c_TooManyUnderWay) (.ref a.c_NoPower) = some false
  e_TooManyUnderWay_NothingThere : PySem.W.exmOne K (.ref a.c_TooManyUnderWay) (.ref a.c_NothingThere) = some false
  e_TooManyUnderWay_TooManyUnderWay : PySem.W.exmOne K (.ref a.c_TooManyUnderWay) (.ref a.c_TooManyUnderWay) = some true
  e_TooManyUnderWay_NotBegun : PySem.W.exmOne K (.ref a.c_TooManyUnderWay) (.ref a.c_NotBegun) = some false
  g_NotBegun : mg "NotBegun" = some (.ref a.c_NotBegun)
  x_NotBegun : PySem.W.excIn K a.c_NotBegun [.type "Exception", .type "BaseException", .type "object"] "Exception.__new__" = true
  k_NotBegun : PySem.W.keepIn K (.ref a.c_NotBegun) = true
  b_NotBegun : PySem.W.subIn K (.ref a.c_NotBegun) (.type "BaseException") = some true
  t_NotBegun : PySem.W.typeIn K (.ref a.c_NotBegun) = some (.type "type")
  e_NotBegun_NotInRange : PySem.W.exmOne K (.ref a.c_NotBegun) (.ref a.c_NotInRange) = some false
  e_NotBegun_NoPower : PySem.W.exmOne K (.ref a.c_NotBegun) (.ref a.c_NoPower) = some false
  e_NotBegun_NothingThere : PySem.W.exmOne K (.ref a.c_NotBegun) (.ref a.c_NothingThere) = some false
  e_NotBegun_TooManyUnderWay : PySem.W.exmOne K (.ref a.c_NotBegun) (.ref a.c_TooManyUnderWay) = some false
  e_NotBegun_NotBegun : PySem.W.exmOne K (.ref a.c_NotBegun) (.ref a.c_NotBegun) = some true
  c_FORMS : Q_int mg "FORMS" (1)
  c_RECEIPT : Q_int mg "RECEIPT" (2)
  c_SUMMARY : Q_int mg "SUMMARY" (3)
  c_FILLING : Q_int mg "FILLING" (4)
  c_MOST_UNDER_WAY : Q_int mg "MOST_UNDER_WAY" (40)
  c_BEGIN : Q_int mg "BEGIN" (0)
  t_TELLING : Q_tab K mg a.tb_TELLING "TELLING" [(11, .ref a.f_memory), (12, .ref a.f_disk), (13, .ref a.f_receipts), (14, .ref a.f_flight), (15, .ref a.f_message), (16, .ref a.f_acknowledged), (17, .ref a.f_lacks), (18, .ref a.f_even), (20, .ref a.f_state), (21, .ref a.f_owed), (22, .ref a.f_taken)]
  t_CALLS : Q_tab K mg a.tb_CALLS "CALLS" [(1, .ref a.f_take), (2, .ref a.f_keep), (3, .ref a.f_torn), (4, .ref a.f_cut), (5, .ref a.f_up), (6, .ref a.f_send), (7, .ref a.f_ask), (8, .ref a.f_deliver), (9, .ref a.f_lose), (10, .ref a.f_double), (19, .ref a.f_settle)]
  t_HOW_MANY_NUMBERS : Q_tab K mg a.tb_HOW_MANY_NUMBERS "HOW_MANY_NUMBERS" [(0, .int 1), (1, .int 5), (2, .int 1), (3, .int 2), (4, .int 1), (5, .int 1), (6, .int 2), (7, .int 1), (8, .int 1), (9, .int 1), (10, .int 1), (11, .int 1), (12, .int 1), (13, .int 1), (14, .int 0), (15, .int 1), (16, .int 0), (17, .int 2), (18, .int 0), (19, .int 0), (20, .int 0), (21, .int 1), (22, .int 0)]
  n_dict : mg "dict" = none
  n_len : mg "len" = none
  n_list : mg "list" = none
  n_range : mg "range" = none
  n_set : mg "set" = none
  n_sorted : mg "sorted" = none
  n_tuple : mg "tuple" = none
end Fo

-- FoHeap
/-! How items, books, receipts, slots, nodes lie in the heap; who owns what; what stands as it was. -/
namespace Fo
open PySem PySem.Spec PyProof.Rows L2

abbrev Item := Vbcsah.Item
abbrev Book := Vbcsah.Book
abbrev Receipt := Vbcsah.Receipt

/-- the most that a list of this program holds -/
def LIM : Nat := 8000000
theorem lim_line : LIM < sizeLine := by decide

/-! ### owners: (whose, which part); (0, 0): nobody's, never changed -/
abbrev Ow := Addr → Nat × Nat
/-- behind what has been done: only what belongs to the owners k may have changed, tuples stand, owners stand -/
structure Frm (k : Nat → Prop) (w w' : Ow) (H H' : Hp) : Prop where
  keep : ∀ b o, H b = some o → ¬ k (w b).1 → H' b = some o
  tup : ∀ b xs, H b = some (.tup xs) → H' b = some (.tup xs)
  own : ∀ b o, H b = some o → w' b = w b
  there : ∀ b o, H b = some o → ∃ o', H' b = some o'
theorem Frm.refl (k : Nat → Prop) (w : Ow) (H : Hp) : Frm k w w H H := ⟨fun _ _ h _ => h, fun _ _ h => h, fun _ _ _ => rfl, fun _ o h => ⟨o, h⟩⟩
theorem Frm.trans {k : Nat → Prop} {w w1 w2 : Ow} {H H1 H2 : Hp} (a : Frm k w w1 H H1) (b : Frm k w1 w2 H1 H2) : Frm k w w2 H H2 :=
  ⟨fun c o h n => b.keep c o (a.keep c o h n) (by rw [a.own c o h]; exact n), fun c xs h => b.tup c xs (a.tup c xs h),
    fun c o h => by obtain ⟨o', h'⟩ := a.there c o h; rw [b.own c o' h', a.own c o h], fun c o h => by obtain ⟨o', h'⟩ := a.there c o h; exact b.there c o' h'⟩
theorem Frm.mono {k k' : Nat → Prop} {w w' : Ow} {H H' : Hp} (a : Frm k w w' H H') (h : ∀ n, k n → k' n) : Frm k' w w' H H' :=
  ⟨fun c o e n => a.keep c o e fun z => n (h _ z), a.tup, a.own, a.there⟩
/-- the owner of a new object -/
def setW (w : Ow) (p : Addr) (x : Nat × Nat) : Ow := fun b => if b = p then x else w b
theorem setW_same {w : Ow} {p : Addr} {x : Nat × Nat} : setW w p x p = x := if_pos rfl
theorem setW_ne {w : Ow} {p b : Addr} {x : Nat × Nat} (h : b ≠ p) : setW w p x b = w b := if_neg h
/-- a new object is laid, with an owner of its own or nobody's -/
theorem Frm.laid {k : Nat → Prop} {w : Ow} {H : Hp} {p : Addr} {o : HO} (x : Nat × Nat) (hp : H p = none) : Frm k w (setW w p x) H (upd H p o) :=
  ⟨fun b u h _ => by rw [upd_ne (ne_of_none h hp)]; exact h, fun b u h => by rw [upd_ne (ne_of_none h hp)]; exact h, fun b u h => setW_ne (ne_of_none h hp),
    fun b u h => ⟨u, by rw [upd_ne (ne_of_none h hp)]; exact h⟩⟩
/-- a new object that nobody asks for -/
theorem Frm.new {k : Nat → Prop} {w : Ow} {H : Hp} {p : Addr} {o : HO} (hp : H p = none) : Frm k w w H (upd H p o) :=
  ⟨fun b u h _ => by rw [upd_ne (ne_of_none h hp)]; exact h, fun b u h => by rw [upd_ne (ne_of_none h hp)]; exact h, fun b u h => rfl,
    fun b u h => ⟨u, by rw [upd_ne (ne_of_none h hp)]; exact h⟩⟩
def IsTupO : HO → Prop
  | .tup _ => True
  | _ => False
/-- an object of an owner among k is changed -/
theorem Frm.write {k : Nat → Prop} {w : Ow} {H : Hp} {p : Addr} {o o' : HO} (hp : H p = some o) (ht : ¬ IsTupO o) (hk : k (w p).1) : Frm k w w H (upd H p o') := by
  refine ⟨fun b u h n => ?_, fun b xs h => ?_, fun _ _ _ => rfl, fun b u h => ?_⟩
  · by_cases e : b = p
    · subst e; exact absurd hk n
    · rw [upd_ne e]; exact h
  · by_cases e : b = p
    · subst e; rw [hp] at h; cases h; exact absurd trivial ht
    · rw [upd_ne e]; exact h
  · by_cases e : b = p
    · exact ⟨o', by rw [e]; exact upd_same⟩
    · exact ⟨u, by rw [upd_ne e]; exact h⟩
/-- from a promise that names the one address that is changed -/
theorem Frm.only {k : Nat → Prop} {w : Ow} {H H' : Hp} {p : Addr} {o o' : HO} (hp : H p = some o) (ht : ¬ IsTupO o) (hk : k (w p).1) (hp' : H' p = some o') (h : ∀ b u, H b = some u → b ≠ p → H' b = some u) : Frm k w w H H' := by
  refine ⟨fun b u e n => ?_, fun b xs e => ?_, fun _ _ _ => rfl, fun b u e => ?_⟩
  · by_cases q : b = p
    · subst q; exact absurd hk n
    · exact h b u e q
  · by_cases q : b = p
    · subst q; rw [hp] at e; cases e; exact absurd trivial ht
    · exact h b _ e q
  · by_cases q : b = p
    · exact ⟨o', by rw [q]; exact hp'⟩
    · exact ⟨u, h b u e q⟩
theorem ne_own {w : Ow} {p q : Addr} {x y : Nat × Nat} (hp : w p = x) (hq : w q = y) (h : x ≠ y) : p ≠ q := fun e => h (by rw [← hp, ← hq, e])

/-! ### items, lists of them, receipts -/
def itRow (i : Item) : List V := [.int i.number, .int i.version, .int (Vbcsah.bit i.gone), .int i.tells]
structure ItAt (H : Hp) (p : Addr) (i : Item) : Prop where
  at_ : H p = some (.tup (itRow i))
  rg : InR20 i
def RcAt (H : Hp) (p : Addr) (r : Receipt) : Prop := ∃ q, H p = some (.tup [.int r.1, .ref q]) ∧ ItAt H q r.2
/-- of one length, place by place -/
def Al {α β : Type} (R : α → β → Prop) (ps : List α) (l : List β) : Prop := Paired R ps l
theorem Al.len {α β : Type} {R : α → β → Prop} {ps : List α} {l : List β} (h : Al R ps l) : ps.length = l.length := Paired.length h
theorem Al.imp {α β : Type} {R S : α → β → Prop} {ps : List α} {l : List β} (h : Al R ps l) (f : ∀ a b, R a b → S a b) : Al S ps l := Paired.mapP h f
theorem Al.snoc {α β : Type} {R : α → β → Prop} {p : α} {x : β} (r : R p x) : ∀ {ps : List α} {l : List β}, Al R ps l → Al R (ps ++ [p]) (l ++ [x])
  | _, _, .nil => .cons r .nil
  | _, _, .cons a t => .cons a (Al.snoc r t)
theorem Al.get {α β : Type} {R : α → β → Prop} : ∀ {ps : List α} {l : List β} {k : Nat} {p : α}, Al R ps l → ps[k]? = some p → ∃ x, l[k]? = some x ∧ R p x
  | _, _, _, _, .nil, e => by simp at e
  | _, _, 0, p, .cons (a := a) (b := b) r _, e => by
    have : a = p := by simpa using e
    subst this; exact ⟨b, rfl, r⟩
  | _, _, k + 1, p, .cons _ t, e => by
    obtain ⟨x, h1, h2⟩ := Al.get (k := k) (p := p) t (by simpa using e)
    exact ⟨x, by simpa using h1, h2⟩
theorem Al.getr {α β : Type} {R : α → β → Prop} : ∀ {ps : List α} {l : List β} {k : Nat} {x : β}, Al R ps l → l[k]? = some x → ∃ p, ps[k]? = some p ∧ R p x
  | _, _, _, _, .nil, e => by simp at e
  | _, _, 0, x, .cons (a := a) (b := b) r _, e => by
    have : b = x := by simpa using e
    subst this; exact ⟨a, rfl, r⟩
  | _, _, k + 1, x, .cons _ t, e => by
    obtain ⟨p, h1, h2⟩ := Al.getr (k := k) (x := x) t (by simpa using e)
    exact ⟨p, by simpa using h1, h2⟩
theorem Al.app {α β : Type} {R : α → β → Prop} : ∀ {ps qs : List α} {l m : List β}, Al R ps l → Al R qs m → Al R (ps ++ qs) (l ++ m)
  | _, _, _, _, .nil, h => h
  | _, _, _, _, .cons r t, h => .cons r (Al.app t h)
theorem Al.take {α β : Type} {R : α → β → Prop} : ∀ {ps : List α} {l : List β} (n : Nat), Al R ps l → Al R (ps.take n) (l.take n)
  | _, _, 0, _ => .nil
  | _, _, _ + 1, .nil => .nil
  | _, _, n + 1, .cons r t => .cons r (Al.take n t)
theorem Al.mem {α β : Type} {R : α → β → Prop} : ∀ {ps : List α} {l : List β} {x : β}, Al R ps l → x ∈ l → ∃ p, R p x
  | _, _, _, .nil, h => by simp at h
  | _, _, x, .cons (a := a) r t, h => by
    rcases List.mem_cons.mp h with rfl | h
    · exact ⟨a, r⟩
    · exact Al.mem t h

/-- tuples stand -/
def Tps (H H' : Hp) : Prop := ∀ b xs, H b = some (.tup xs) → H' b = some (.tup xs)
theorem ItAt.up {H H' : Hp} {p : Addr} {i : Item} (t : Tps H H') (h : ItAt H p i) : ItAt H' p i := ⟨t _ _ h.at_, h.rg⟩
theorem RcAt.up {H H' : Hp} {p : Addr} {r : Receipt} (t : Tps H H') (h : RcAt H p r) : RcAt H' p r := let ⟨q, a, b⟩ := h; ⟨q, t _ _ a, b.up t⟩
theorem Tps.refl (H : Hp) : Tps H H := fun _ _ h => h
theorem Tps.trans {H H1 H2 : Hp} (a : Tps H H1) (b : Tps H1 H2) : Tps H H2 := fun c xs h => b c xs (a c xs h)
theorem Tps.new {H : Hp} {p : Addr} {o : HO} (hp : H p = none) : Tps H (upd H p o) := fun b u h => by rw [upd_ne (ne_of_none h hp)]; exact h
theorem Tps.write {H : Hp} {p : Addr} {o o' : HO} (hp : H p = some o) (ht : ¬ IsTupO o) : Tps H (upd H p o') := fun b xs h => by
  by_cases e : b = p
  · subst e; rw [hp] at h; cases h; exact absurd trivial ht
  · rw [upd_ne e]; exact h

/-! ### a book: a dict by the forms' numbers -/
structure BkRep (H : Hp) (kvs : List (Key × V)) (b : Book) : Prop where
  keys : (kvs.map (·.1)).Perm (b.map fun i => (Sum.inl (i.number : Int) : Key))
  vals : ∀ i ∈ b, ∃ p, valV kvs (Sum.inl (i.number : Int)) = some (.ref p) ∧ ItAt H p i
  ok : OkB b
def BkAt (H : Hp) (a : Addr) (b : Book) : Prop := ∃ kvs, H a = some (.dK kvs) ∧ BkRep H kvs b
theorem BkRep.up {H H' : Hp} {kvs : List (Key × V)} {b : Book} (t : Tps H H') (h : BkRep H kvs b) : BkRep H' kvs b :=
  ⟨h.keys, fun i hi => let ⟨p, e, q⟩ := h.vals i hi; ⟨p, e, q.up t⟩, h.ok⟩
theorem BkAt.up {H H' : Hp} {a : Addr} {b : Book} (t : Tps H H') (k : ∀ o, H a = some o → H' a = some o) (h : BkAt H a b) : BkAt H' a b :=
  let ⟨kvs, e, q⟩ := h; ⟨kvs, k _ e, q.up t⟩
theorem BkRep.len {H : Hp} {kvs : List (Key × V)} {b : Book} (h : BkRep H kvs b) : kvs.length = b.length := by
  have := h.keys.length_eq
  simpa using this
theorem valV_isSome {kvs : List (Key × V)} {k : Key} : (valV kvs k).isSome = true ↔ k ∈ kvs.map (·.1) := by
  rw [← valV_any, List.any_eq_true]
  constructor
  · rintro ⟨x, hx, e⟩
    exact List.mem_map.mpr ⟨x, hx, of_decide_eq_true e⟩
  · intro h
    obtain ⟨x, hx, e⟩ := List.mem_map.mp h
    exact ⟨x, hx, decide_eq_true e⟩
theorem BkRep.none {H : Hp} {kvs : List (Key × V)} {b : Book} (h : BkRep H kvs b) {n : Nat} (e : Vbcsah.formOf b n = none) : valV kvs (Sum.inl (n : Int)) = none := by
  cases q : valV kvs (Sum.inl (n : Int)) with
  | none => rfl
  | some v =>
    have h1 : (valV kvs (Sum.inl (n : Int))).isSome = true := by rw [q]; rfl
    have h2 := h.keys.mem_iff.mp (valV_isSome.mp h1)
    obtain ⟨i, hi, e2⟩ := List.mem_map.mp h2
    have e3 : (i.number : Int) = (n : Int) := Sum.inl.inj e2
    exact absurd (by omega) (formOf_none e i hi)
theorem BkRep.some {H : Hp} {kvs : List (Key × V)} {b : Book} (h : BkRep H kvs b) {n : Nat} {i : Item} (e : Vbcsah.formOf b n = some i) : ∃ p, valV kvs (Sum.inl (n : Int)) = some (.ref p) ∧ ItAt H p i := by
  obtain ⟨hm, hn⟩ := formOf_mem e
  subst hn
  exact h.vals i hm
theorem BkRep.nil (H : Hp) : BkRep H [] [] := ⟨.refl _, by simp, okB_nil⟩
theorem putK_keys_old {kvs : List (Key × V)} {k : Key} {v x : V} (h : valV kvs k = some x) : (putK kvs k v).map (·.1) = kvs.map (·.1) := by
  unfold putK
  rw [valV_any, h]
  simp only [Option.isSome_some, if_true, List.map_map]
  apply List.map_congr_left
  intro p _
  by_cases e : p.1 = k <;> simp [e]
/-- one item is put in -/
theorem BkRep.put {H : Hp} {kvs : List (Key × V)} {b : Book} {i : Item} {p : Addr} (h : BkRep H kvs b) (hi : ItAt H p i) (hg : ∀ y, Vbcsah.formOf b i.number = Option.some y → Vbcsah.greater i y = true) :
    BkRep H (putK kvs (Sum.inl (i.number : Int)) (.ref p)) (Vbcsah.put i b) := by
  have ok := put_okB h.ok hi.rg
  have hf : Vbcsah.formOf (Vbcsah.put i b) i.number = Option.some i := by
    rw [formOf_put _ h.ok.srt, if_pos rfl]
    cases e : Vbcsah.formOf b i.number with
    | none => rfl
    | some y => simp [over, hg y e]
  refine ⟨?_, fun j hj => ?_, ok⟩
  · cases e : Vbcsah.formOf b i.number with
    | none =>
      rw [putK_new _ (h.none e), List.map_append]
      have p1 := (put_numbers_new (x := i) (b := b) e).map fun n : Nat => (Sum.inl (n : Int) : Key)
      simp only [List.map_map, List.map_cons, List.map_nil] at p1 ⊢
      refine List.Perm.trans ?_ p1.symm
      refine (List.perm_append_comm).trans ?_
      exact List.Perm.cons _ h.keys
    | some y =>
      obtain ⟨q, e1, _⟩ := h.some e
      rw [putK_keys_old e1]
      have p1 := congrArg (List.map fun n : Nat => (Sum.inl (n : Int) : Key)) (put_numbers_old (x := i) h.ok.srt e)
      simp only [List.map_map] at p1
      refine h.keys.trans ?_
      exact .of_eq p1.symm
  · have e := formOf_of_mem ok.srt hj
    rw [valV_put]
    by_cases n : j.number = i.number
    · rw [n, hf] at e
      cases e
      exact ⟨p, if_pos rfl, hi⟩
    · rw [formOf_put _ h.ok.srt, if_neg n] at e
      obtain ⟨q, e1, e2⟩ := h.some e
      refine ⟨q, ?_, e2⟩
      rw [if_neg (fun z => n (by have := Sum.inl.inj z; omega))]
      exact e1
end Fo

-- FoBooks
/-! check_range and the defs of books: promises and bodies. -/
namespace Fo
open PySem PySem.Spec PyProof.Rows L2

/-! ### small words -/
def SeqV (H : Hp) (c : Addr) (xs : List V) : Prop := H c = some (.lst xs) ∨ H c = some (.tup xs)
theorem SeqV.keep {H H' : Hp} {c : Addr} {xs : List V} (h : SeqV H c xs) (k : ∀ o, H c = some o → H' c = some o) : SeqV H' c xs :=
  h.elim (fun h => .inl (k _ h)) fun h => .inr (k _ h)
theorem SeqV.there {H : Hp} {c : Addr} {xs : List V} (h : SeqV H c xs) : ∃ o, H c = some o := h.elim (fun h => ⟨_, h⟩) fun h => ⟨_, h⟩
theorem SeqV.ne_none {H : Hp} {c d : Addr} {xs : List V} (h : SeqV H c xs) (hd : H d = none) : c ≠ d := let ⟨_, e⟩ := h.there; ne_of_none e hd
/-- a dict that stands in H is no sequence -/
theorem SeqV.ne_dict {H : Hp} {c d : Addr} {xs : List V} {kvs : List (Key × V)} (h : SeqV H c xs) (hd : H d = some (.dK kvs)) : c ≠ d := by
  rintro rfl
  rcases h with h | h <;> (rw [h] at hd; cases hd)

theorem for_seqV {K : PySem.W.Frag} {i : Nat} {g : TG} {tb : TS} {D : Ends} {σ : L2.St} {H : Hp} {c : Addr} {xs : List V} (hv : σ[i]? = some (some (.ref c))) (hq : SeqV H c xs) (Pv : Nat → L2.St → Hp → Prop) (h0 : Pv 0 σ H)
    (hl : ∀ j σ' H', j ≤ xs.length → Pv j σ' H' → ∀ o, H c = some o → H' c = some o)
    (hs : ∀ j x σ' H', xs[j]? = some x → Pv j σ' H' → g x σ' H' fun σ2 H2 => tb { D with nx := Pv (j + 1), ct := Pv (j + 1), bk := D.nx } σ2 H2) (hd : ∀ σ' H', Pv xs.length σ' H' → D.nx σ' H') : tFor (iSeq K (tVar i)) g tb D σ H := by
  rcases hq with q | q
  · exact .inl ⟨_, hv, c, rfl, ⟨_, SqL.of q⟩, for_list (K := K) (a := c) (xs := xs) Pv h0 (fun j σ' H' hj p => SqL.of (hl j σ' H' hj p _ q)) hs hd⟩
  · exact .inr ⟨_, hv, c, rfl, ⟨_, SqT.of q⟩, for_tup (K := K) (a := c) (xs := xs) Pv h0 (fun j σ' H' hj p => SqT.of (hl j σ' H' hj p _ q)) hs hd⟩
theorem refs_get {ps : List Addr} {j : Nat} {x : V} (h : (ps.map V.ref)[j]? = some x) : ∃ p, ps[j]? = some p ∧ x = .ref p := by
  rw [List.getElem?_map] at h
  cases e : ps[j]? with
  | none => rw [e] at h; cases h
  | some p => rw [e] at h; exact ⟨p, rfl, (Option.some.inj h).symm⟩
theorem ints_get {ps : List Int} {j : Nat} {x : V} (h : (ps.map V.int)[j]? = some x) : ∃ p, ps[j]? = some p ∧ x = .int p := by
  rw [List.getElem?_map] at h
  cases e : ps[j]? with
  | none => rw [e] at h; cases h
  | some p => rw [e] at h; exact ⟨p, rfl, (Option.some.inj h).symm⟩
theorem take_snoc {α : Type} {l : List α} {i : Nat} {x : α} (h : l[i]? = some x) : l.take (i + 1) = l.take i ++ [x] := by
  rw [List.take_add_one, h]; rfl
theorem iteB {c : Bool} {A B : Prop} (h1 : c = true → A) (h2 : c = false → B) : if c = true then A else B := by
  cases c with
  | true => exact h1 rfl
  | false => exact h2 rfl
theorem iteQ {c : Bool} {Q : V → Hp → Prop} {H : Hp} {x y : V} (h : Q (if c = true then x else y) H) : if c = true then Q x H else Q y H := by
  cases c <;> exact h

section
variable {P : Program} {w : World} {K : PySem.W.Frag} {mg : Str → Option Value} {base : Heap} {a : Ad}

/-! ### check_range -/
def sp_check_range (a : Ad) : Sp := fun vs H Q E => ∃ n lo hi : Int, vs = [.int n, .int lo, .int hi] ∧ (lo ≤ n ∧ n ≤ hi → Q .non H) ∧ (¬ (lo ≤ n ∧ n ≤ hi) → E (.ref a.c_NotInRange) none H)
theorem ok_check_range (T : Txt K mg a) : FnOk P w K mg base (L2.CX P w) 1 a.f_check_range a.d_check_range ["number", "first", "last"] (sp_check_range a) := by
  refine T.F_check_range.okX sc_check_range (fun vs H Q E h => ?_) (fun cdv A outer s H vs Q E hr h => ⟨_, (pss_one (ps_if (PW.pt (pw_or (pt_cmpR op_lt (pv 0) (pv 1) (nomark _)) (pw_or1 (pt_cmpR op_gt (pv 0) (pv 2) (nomark _)))))
    (pss_one (ps_raise rfl (takes_of rfl rfl rfl rfl) (pmk_own0 PySem.F.excBase_Exception T.x_NotInRange T.g_NotInRange T.k_NotInRange (raises_own T.b_NotInRange T.t_NotInRange) (by exact rfl))))
    pss_nil)), ?_⟩)
  · obtain ⟨n, lo, hi, rfl, _⟩ := h; rfl
  · obtain ⟨n, lo, hi, rfl, h1, h2⟩ := h
    refine ⟨_, rfl, _, rfl, _, _, rfl, rfl, _, rfl, ?_⟩
    by_cases c1 : n < lo
    · rw [decide_eq_true c1]
      exact iteT (iteT (h2 (by omega)))
    · rw [decide_eq_false c1]
      refine iteF ⟨_, rfl, _, rfl, _, _, rfl, rfl, _, rfl, ?_⟩
      by_cases c2 : hi < n
      · rw [decide_eq_true c2]
        exact iteT (h2 (by omega))
      · rw [decide_eq_false c2]
        exact iteF (h1 ⟨by omega, by omega⟩)

/-! ### items -/
def mkI (n v g t : Int) : Item := { number := n.toNat, version := v.toNat, gone := g == 1, tells := if g = 1 then 0 else t.toNat }
def sp_make_item : Sp := fun vs H Q _ => ∃ n v g t : Int, vs = [.int n, .int v, .int g, .int t] ∧ (1 ≤ n ∧ n ≤ 20) ∧ 0 ≤ v ∧ (g = 0 ∨ g = 1) ∧ 0 ≤ t ∧
  ∀ p H', H p = none → H' = upd H p (.tup (itRow (mkI n v g t))) → ItAt H' p (mkI n v g t) → Q (.ref p) H'
theorem ok_make_item (T : Txt K mg a) : FnOk P w K mg base CX0 1 a.f_make_item a.d_make_item ["form", "version", "withdrawn", "tells"] sp_make_item := by
  refine T.F_make_item.ok sc_make_item (fun vs H Q E h => ?_) (fun cdv A outer s H vs Q E hr h => ⟨_, (pss_cons (ps_if (pt_cmpR op_eq (pv 2) pe_int (nomark _))
    (pss_one (ps_ret (pe_tup (pa_cons (pv 0) (pa_cons (pv 1) (pa_cons pe_int (pa_cons pe_int pa_nil)))))))
    pss_nil)
    (pss_one (ps_ret (pe_tup (pa_cons (pv 0) (pa_cons (pv 1) (pa_cons pe_int (pa_cons (pv 3) pa_nil)))))))), ?_⟩)
  · obtain ⟨n, v, g, t, rfl, _⟩ := h; rfl
  · obtain ⟨n, v, g, t, rfl, hn, hv, hg, ht, k⟩ := h
    have rg : InR20 (mkI n v g t) := by constructor <;> simp only [mkI] <;> omega
    refine ⟨_, rfl, rfl, _, rfl, ?_⟩
    rcases hg with rfl | rfl
    · refine iteF ⟨_, rfl, _, rfl, _, rfl, (by show 4 ≤ sizeLine; decide), fun p hp => ?_⟩
      have e : [V.int n, .int v, .int 0, .int t] = itRow (mkI n v 0 t) := by
        simp only [itRow, mkI, Vbcsah.bit]
        congr 2 <;> (try congr 1) <;> (try simp) <;> omega
      rw [e]
      exact k p _ hp rfl ⟨upd_same, rg⟩
    · refine iteT ⟨_, rfl, _, rfl, (by show 4 ≤ sizeLine; decide), fun p hp => ?_⟩
      have e : [V.int n, .int v, .int 1, .int 0] = itRow (mkI n v 1 t) := by
        simp only [itRow, mkI, Vbcsah.bit]
        congr 2 <;> (try congr 1) <;> (try simp) <;> omega
      rw [e]
      exact k p _ hp rfl ⟨upd_same, rg⟩

def rowI (i : Item) : Int × Int × Int × Int := (i.number, i.version, (Vbcsah.bit i.gone : Nat), i.tells)
theorem itRow_row4 (i : Item) : itRow i = row4 (rowI i) := rfl
theorem bit_inj {a b : Bool} : ((Vbcsah.bit a : Nat) : Int) = (Vbcsah.bit b : Nat) ↔ a = b := by cases a <;> cases b <;> simp [Vbcsah.bit]
theorem gt4_greater {x y : Item} (h : x.number = y.number) : gt4 (rowI x) (rowI y) = Vbcsah.greater x y := by
  unfold gt4 rowI Vbcsah.greater
  simp only [h, if_true, bit_inj]
  by_cases hv : x.version = y.version
  · simp only [hv, if_true]
    by_cases hg : x.gone = y.gone
    · simp [hg]
    · simp [hg]
  · have : ¬ ((x.version : Int) = y.version) := by omega
    simp [hv, this]
def sp_is_greater : Sp := fun vs H Q _ => ∃ (p q : Addr) (x y : Item), vs = [.ref p, .ref q] ∧ ItAt H p x ∧ ItAt H q y ∧ x.number = y.number ∧ Q (.bl (Vbcsah.greater x y)) H
theorem ok_is_greater (T : Txt K mg a) : FnOk P w K mg base CX0 1 a.f_is_greater a.d_is_greater ["item", "other"] sp_is_greater := by
  refine T.F_is_greater.ok sc_is_greater (fun vs H Q E h => ?_) (fun cdv A outer s H vs Q E hr h => ⟨_, (pss_one (ps_ret (pe_cmpR (op_gt4 hr.units0) (pv 0) (pv 1) (nomark _)))), ?_⟩)
  · obtain ⟨p, q, x, y, rfl, _⟩ := h; rfl
  · obtain ⟨p, q, x, y, rfl, h1, h2, e, k⟩ := h
    refine ⟨_, rfl, _, rfl, p, q, rowI x, rowI y, rfl, rfl, h1.at_, h2.at_, ?_⟩
    rw [gt4_greater e]
    exact k
end
end Fo

-- FoBooks2
/-! The defs of books that walk. -/
namespace Fo
open PySem PySem.Spec PyProof.Rows L2
section
variable {P : Program} {w : World} {K : PySem.W.Frag} {mg : Str → Option Value} {base : Heap} {a : Ad}

/-- all but the one address stands -/
def But (q : Addr) (H H' : Hp) : Prop := ∀ b o, H b = some o → b ≠ q → H' b = some o
theorem But.refl (q : Addr) (H : Hp) : But q H H := fun _ _ h _ => h
theorem But.trans {q : Addr} {H H1 H2 : Hp} (x : But q H H1) (y : But q H1 H2) : But q H H2 := fun b o h n => y b o (x b o h n) n
theorem But.upd {q : Addr} {H : Hp} {o : HO} : But q H (upd H q o) := fun b u h n => by rw [upd_ne n]; exact h
theorem But.tps {q : Addr} {H H' : Hp} {o : HO} (h : But q H H') (e : H q = some o) (n : ¬ IsTupO o) : Tps H H' := fun b xs hb => h b _ hb fun z => by
  subst z; rw [e] at hb; cases hb; exact n trivial
theorem Same.tps {H H' : Hp} (h : Same H H') : Tps H H' := fun b xs hb => h b _ hb

theorem dget {H : Hp} {d : Addr} {kvs : List (Key × V)} {n : Int} {o : Option V} (e : H d = some (.dK kvs)) (h : valV kvs (Sum.inl n) = o) : DGet H d (.int n) o := by
  subst h; exact DGet.k (k := Sum.inl n) e
/-- the item that comes is put in where it is news -/
theorem put_of_greater {x y : Item} {b : Book} (hs : Srt b) (h : Vbcsah.formOf b x.number = some y) (g : ¬ Vbcsah.greater x y = true) : Vbcsah.put x b = b := put_same hs h g

def sp_bring_into : Sp := fun vs H Q _ => ∃ (p c : Addr) (b : Book) (ps : List Addr) (l : List Item), vs = [.ref p, .ref c] ∧ BkAt H p b ∧ SeqV H c (ps.map V.ref) ∧ Al (ItAt H) ps l ∧
  ∀ H', BkAt H' p (bring b l) → But p H H' → Q .non H'
theorem ok_bring_into (T : Txt K mg a) : FnOk P w K mg base CX0 2 a.f_bring_into a.d_bring_into ["book", "coming"] sp_bring_into := by
  refine T.F_bring_into.ok sc_bring_into (fun vs H Q E h => ?_) (fun cdv A outer s H vs Q E hr h => ⟨_, (pss_one (ps_for PassesOwn.never rfl (pi_seq (pv 1)) (pg_name (i := 2) sc_bring_into.nd rfl (Or.inl rfl))
    (pss_cons (ps_set (i := 3) sc_bring_into.nd rfl (Or.inl rfl) (pe_ix ix_tup (pv 2) pe_int (fun _ _ => rfl)))
    (pss_one (ps_if (PW.pt (pw_or (pt_cmp (pc_dnotin (hu_of hr) (pv 3) (pv 0))) (pw_or1 (pt_val (pe_call (ok_is_greater T) hr rfl T.g_is_greater T.F_is_greater.kp T.b_is_greater .nil pass0 (pa_cons (pv 2) (pa_cons (pe_dget (hu_of hr) (pv 0) (pv 3) (fun _ _ => rfl)) pa_nil)))))))
    (pss_one (ps_dput (hu_of hr) (pv 0) (pv 3) (pv 2) rfl))
    pss_nil))))), ?_⟩)
  · obtain ⟨p, c, b, ps, l, rfl, _⟩ := h; rfl
  · obtain ⟨p, c, b, ps, l, rfl, hB, hS, hA, k⟩ := h
    have hcp : c ≠ p := let ⟨_, e, _⟩ := hB; hS.ne_dict e
    refine for_seqV (c := c) (xs := ps.map V.ref) rfl hS (fun i σ H' => ∃ v1 v2, σ = [some (.ref p), some (.ref c), v1, v2] ∧ BkAt H' p (bring b (l.take i)) ∧ But p H H')
      ⟨none, none, rfl, hB, But.refl _ _⟩ (fun j σ' H' _ ⟨_, _, _, _, hk⟩ o e => hk c o e hcp) ?_ ?_
    · rintro i x σ H' hx ⟨v1, v2, rfl, hB', hk⟩
      obtain ⟨q, hq, rfl⟩ := refs_get hx
      obtain ⟨it, hi, hit⟩ := hA.get hq
      obtain ⟨kvs0, e0, _⟩ := hB
      have hit' : ItAt H' q it := hit.up (hk.tps e0 (by intro z; exact z))
      obtain ⟨kvs, e1, rep⟩ := hB'
      have eT : bring b (l.take (i + 1)) = Vbcsah.put it (bring b (l.take i)) := by rw [take_snoc hi, bring_snoc]
      refine ⟨_, rfl, q, _, 0, _, rfl, rfl, SqT.of hit'.at_, atI_nat (j := 0) rfl, ?_⟩
      refine ⟨_, rfl, _, rfl, p, _, rfl, DGet.k (k := Sum.inl (it.number : Int)) e1, _, rfl, ?_⟩
      have step : ∀ g : (∀ y, Vbcsah.formOf (bring b (l.take i)) it.number = some y → Vbcsah.greater it y = true),
          sDPut (tVar 0) (tVar 3) (tVar 2) { nx := fun σ H2 => ∃ v1 v2, σ = [some (.ref p), some (.ref c), v1, v2] ∧ BkAt H2 p (bring b (l.take (i + 1))) ∧ But p H H2, rt := Q, ct := fun _ _ => True, bk := fun _ _ => True }
            [some (.ref p), some (.ref c), some (.ref q), some (.int it.number)] H' := fun g => by
        refine ⟨_, rfl, _, rfl, _, rfl, p, _, rfl, DPut.k (k := Sum.inl (it.number : Int)) e1 ?_, _, _, rfl, ⟨_, upd_same, ?_⟩, hk.trans But.upd⟩
        · have := rep.len; have := okB_len rep.ok
          exact small1000 (by omega)
        · rw [eT]
          exact (rep.put hit' g).up (But.tps (But.upd) e1 (by intro z; exact z))
      cases e2 : Vbcsah.formOf (bring b (l.take i)) it.number with
      | none =>
        rw [rep.none e2]
        exact iteT (iteT (step fun y hy => by rw [e2] at hy; cases hy))
      | some y =>
        obtain ⟨py, e3, hy⟩ := rep.some e2
        rw [e3]
        refine iteF ⟨_, rfl, _, rfl, _, rfl, p, _, rfl, dget e1 e3, q, py, it, y, rfl, hit', hy, (formOf_mem e2).2.symm, _, rfl, ?_⟩
        cases g : Vbcsah.greater it y with
        | true => exact iteT (step fun z hz => by rw [e2] at hz; cases hz; exact g)
        | false =>
          refine iteF ⟨_, _, rfl, ⟨kvs, e1, ?_⟩, hk⟩
          rw [eT, put_same rep.ok.srt e2 (by rw [g]; exact Bool.false_ne_true)]
          exact rep
    · rintro σ H' ⟨v1, v2, rfl, hB', hk⟩
      rw [List.length_map, hA.len, List.take_length] at hB'
      exact k H' hB' hk

/-! ### items_of, news_for, numbers_of -/
theorem tYesI {σ : L2.St} {H : Hp} {Q : Bool → Hp → Prop} (h : Q true H) : tYes σ H Q := h
theorem sorted_numbers {b : Book} {ys : List Int} (h : OkB b) (p : ys.Perm (b.map fun i => (i.number : Int))) (s : ys.Pairwise (· ≤ ·)) : ys = b.map fun i => (i.number : Int) := by
  have s2 : (b.map fun i => (i.number : Int)).Pairwise (· ≤ ·) := List.Pairwise.map _ (fun x y h => by omega) h.srt
  exact p.eq_of_pairwise (fun x y _ _ h1 h2 => Int.le_antisymm h1 h2) s s2
/-- a new list of the book's items -/
def NewIts (H H' : Hp) (p : Addr) (l : List Item) : Prop := Same H H' ∧ H p = none ∧ ∃ ps, H' p = some (.lst (ps.map V.ref)) ∧ Al (ItAt H') ps l
def sp_items_of : Sp := fun vs H Q _ => ∃ (p : Addr) (b : Book), vs = [.ref p] ∧ BkAt H p b ∧ ∀ H' q, NewIts H H' q b → Q (.ref q) H'
theorem ok_items_of (T : Txt K mg a) : FnOk P w K mg base CX0 1 a.f_items_of a.d_items_of ["book"] sp_items_of := by
  refine T.F_items_of.ok sc_items_of (fun vs H Q E h => ?_) (fun cdv A outer s H vs Q E hr h => ⟨_, (pss_one (ps_ret (pe_lc (own := [("form", 1)]) (g := gName 1) (tt := tYes) rfl sc_items_of.nd (pi_list (pe_callB (call_sortedDI rfl) (by rfl) T.n_sorted (by decide +kernel) (pa_cons (pv 0) pa_nil))) (blkOk_by (N := N_items_of) (sc := defScope s_items_of) (by decide +kernel)) (fun _ _ _ _ _ => (pg_name (i := 1) sc_items_of.nd rfl (Or.inl rfl))) (fun _ _ _ _ _ => pts_nil) (fun _ _ _ _ _ => (pe_dget (hu_of hr) (pv 0) (pv 1) (fun _ _ => rfl)))))), ?_⟩)
  · obtain ⟨p, b, rfl, _⟩ := h; rfl
  · obtain ⟨p, b, rfl, ⟨kvs, e, rep⟩, k⟩ := h
    have hl := rep.len
    have hb := okB_len rep.ok
    obtain ⟨ks, hks⟩ : ∃ ks : List Int, kvs.map (·.1) = ks.map Sum.inl := by
      have : ∀ x ∈ kvs.map (·.1), ∃ n : Int, x = Sum.inl n := fun x hx => by
        obtain ⟨i, _, e⟩ := List.mem_map.mp (rep.keys.mem_iff.mp hx)
        exact ⟨_, e.symm⟩
      generalize kvs.map (·.1) = l at this
      induction l with
      | nil => exact ⟨[], rfl⟩
      | cons x l ih =>
        obtain ⟨n, rfl⟩ := this x (List.mem_cons_self ..)
        obtain ⟨r, hr⟩ := ih fun y hy => this y (List.mem_cons_of_mem _ hy)
        exact ⟨n :: r, by rw [hr]; rfl⟩
    have hkl : ks.length = kvs.length := by have := congrArg List.length hks; simpa using this.symm
    have hkp : ks.Perm (b.map fun i => (i.number : Int)) := by
      have := rep.keys
      rw [hks] at this
      have := this.map fun x : Key => match x with | .inl n => n | .inr _ => 0
      simpa [List.map_map, Function.comp_def] using this
    refine ⟨_, rfl, p, kvs, ks, rfl, Rd.of e, hks, by omega, fun ys q hp hs hq => ?_⟩
    have hy := sorted_numbers rep.ok (hp.trans hkp) hs
    subst hy
    have hpq : p ≠ q := ne_of_none e hq
    refine ⟨q, rfl, ⟨_, SqL.of upd_same⟩, fun D hD => ?_⟩
    have hDq : D ≠ q := fun z => by subst z; rw [upd_same] at hD; cases hD
    have hD0 : H D = none := by rw [upd_ne hDq] at hD; exact hD
    refine lc_list (K := K) (a := q) (xs := (b.map fun i => (i.number : Int)).map V.int) (fun j H' => Same H H' ∧ H' q = some (.lst ((b.map fun i => (i.number : Int)).map V.int)) ∧
      ∃ ps, H' D = some (.lst (ps.map V.ref)) ∧ Al (ItAt H') ps (b.take j)) ⟨fun c o h => ?_, ?_, [], upd_same, .nil⟩ (fun j H' _ h => SqL.of h.2.1) ?_ ?_
    · rw [upd_ne (ne_of_none h hD0), upd_ne (ne_of_none h hq)]; exact h
    · rw [upd_ne (Ne.symm hDq)]; exact upd_same
    · rintro j x H' hx ⟨hk, hq', ps, hps, hal⟩
      obtain ⟨n, hn, rfl⟩ := ints_get hx
      rw [List.getElem?_map] at hn
      obtain ⟨it, hit, rfl⟩ := Option.map_eq_some_iff.mp hn
      obtain ⟨pi, hv, hi⟩ := rep.vals it (List.mem_of_getElem? hit)
      have hjl := (List.getElem?_eq_some_iff.mp hit).1
      have hpl := hal.len
      rw [List.length_take] at hpl
      refine ⟨rfl, tYesI ?_⟩
      refine iteT ?_
      refine ⟨_, rfl, _, rfl, p, _, rfl, dget (hk _ _ e) hv, _, hps, small1000 (by rw [List.length_map]; omega), fun c o h => ?_, ?_, ps ++ [pi], by rw [List.map_append]; exact upd_same, ?_⟩
      · rw [upd_ne (ne_of_none h hD0)]; exact hk c o h
      · rw [upd_ne (Ne.symm hDq)]; exact hq'
      · rw [take_snoc hit]
        have t : Tps H' (upd H' D (.lst ((ps ++ [pi]).map V.ref))) := Tps.write hps (by intro z; exact z)
        rw [List.map_append] at t
        exact (hal.imp fun x y z => z.up t).snoc ((hi.up (Same.tps hk)).up t)
    · rintro H' ⟨hk, hq', ps, hps, hal⟩
      refine k H' D ⟨hk, hD0, ps, hps, ?_⟩
      simpa using hal
end
end Fo

-- FoBooks3
namespace Fo
open PySem PySem.Spec PyProof.Rows L2
section
variable {P : Program} {w : World} {K : PySem.W.Frag} {mg : Str → Option Value} {base : Heap} {a : Ad}

theorem news_snoc (l : List Item) (x : Item) (b2 : Book) : Vbcsah.news (l ++ [x]) b2 = Vbcsah.news l b2 ++ (if (Vbcsah.formOf b2 x.number).all (fun y => Vbcsah.greater x y) = true then [x] else []) := by
  unfold Vbcsah.news
  rw [List.filter_append]
  congr 1
  simp only [List.filter_cons, List.filter_nil]
theorem news_len (l : List Item) (b2 : Book) : (Vbcsah.news l b2).length ≤ l.length := List.length_filter_le _ _
def sp_news_for : Sp := fun vs H Q _ => ∃ (p p2 : Addr) (b b2 : Book), vs = [.ref p, .ref p2] ∧ BkAt H p b ∧ BkAt H p2 b2 ∧ ∀ H' q, NewIts H H' q (Vbcsah.news b b2) → Q (.ref q) H'
theorem ok_news_for (T : Txt K mg a) : FnOk P w K mg base CX0 2 a.f_news_for a.d_news_for ["book", "other"] sp_news_for := by
  refine T.F_news_for.ok sc_news_for (fun vs H Q E h => ?_) (fun cdv A outer s H vs Q E hr h => ⟨_, (pss_cons (ps_set (i := 2) sc_news_for.nd rfl (Or.inl rfl) (pe_lst pa_nil))
    (pss_cons (ps_for PassesOwn.never rfl (pi_list (pe_call (ok_items_of T) hr rfl T.g_items_of T.F_items_of.kp T.b_items_of .nil pass0 (pa_cons (pv 0) pa_nil))) (pg_name (i := 3) sc_news_for.nd rfl (Or.inl rfl))
    (pss_cons (ps_set (i := 4) sc_news_for.nd rfl (Or.inl rfl) (pe_ix ix_tup (pv 3) pe_int (fun _ _ => rfl)))
    (pss_one (ps_if (PW.pt (pw_or (pt_cmp (pc_dnotin (hu_of hr) (pv 4) (pv 1))) (pw_or1 (pt_val (pe_call (ok_is_greater T) hr rfl T.g_is_greater T.F_is_greater.kp T.b_is_greater .nil pass0 (pa_cons (pv 3) (pa_cons (pe_dget (hu_of hr) (pv 1) (pv 4) (fun _ _ => rfl)) pa_nil)))))))
    (pss_one (ps_expr (pe_bm PySem.F.plainAttrs_list PySem.F.slot_list_append PySem.F.type_list_append mt_append (pv 2) (pa_cons (pv 3) pa_nil))))
    pss_nil))))
    (pss_one (ps_ret (pv 2))))), ?_⟩)
  · obtain ⟨p, p2, b, b2, rfl, _⟩ := h; rfl
  · obtain ⟨p, p2, b, b2, rfl, hB, ⟨kvs, e, rep⟩, k⟩ := h
    have hb : b.length ≤ 20 := let ⟨_, _, r⟩ := hB; okB_len r.ok
    refine ⟨(by show 0 ≤ sizeLine; decide), fun D hD => ?_⟩
    have t0 : Tps H (upd H D (.lst [])) := Tps.new hD
    refine ⟨_, rfl, p, b, rfl, hB.up t0 (fun o h => by rw [upd_ne (ne_of_none h hD)]; exact h), ?_⟩
    rintro H1 q ⟨s1, hq, ps, hps, hal⟩
    have hDq : D ≠ q := fun z => by subst z; rw [upd_same] at hq; cases hq
    have hD1 : H1 D = some (.lst []) := s1 _ _ upd_same
    have s0 : ∀ c o, H c = some o → H1 c = some o := fun c o h => s1 c o (by rw [upd_ne (ne_of_none h hD)]; exact h)
    refine ⟨q, rfl, ⟨_, SqL.of hps⟩, for_list (K := K) (a := q) (xs := ps.map V.ref) (fun i σ H' => ∃ v1 v2, σ = [some (.ref p), some (.ref p2), some (.ref D), v1, v2] ∧ But D H1 H' ∧
      ∃ rs, H' D = some (.lst (rs.map V.ref)) ∧ Al (ItAt H') rs (Vbcsah.news (b.take i) b2)) ⟨none, none, rfl, But.refl _ _, [], hD1, .nil⟩
      (fun i σ H' _ ⟨_, _, _, hk, _⟩ => SqL.of (hk _ _ hps (Ne.symm hDq))) ?_ ?_⟩
    · rintro i x σ H' hx ⟨v1, v2, rfl, hk, rs, hrs, ha2⟩
      obtain ⟨pi, hpi, rfl⟩ := refs_get hx
      obtain ⟨it, hi, hit⟩ := hal.get hpi
      have tk : Tps H1 H' := hk.tps hD1 (by intro z; exact z)
      have hit' := hit.up tk
      have e2 : H' p2 = some (.dK kvs) := hk _ _ (s0 _ _ e) (ne_of_none e hD)
      have rep' : BkRep H' kvs b2 := rep.up fun c xs h => tk c xs (s0 c _ h)
      have hlen : rs.length < sizeLine := by
        have h1 := ha2.len; have h2 := news_len (b.take i) b2
        rw [List.length_take] at h2
        exact small1000 (by omega)
      have eN := news_snoc (b.take i) it b2
      rw [← take_snoc hi] at eN
      refine ⟨_, rfl, pi, _, 0, _, rfl, rfl, SqT.of hit'.at_, atI_nat (j := 0) rfl, ?_⟩
      have yes : (Vbcsah.formOf b2 it.number).all (fun y => Vbcsah.greater it y) = true →
          tDrop (tBM K "list" rAppend (tVar 2) (tCons (tVar 3) tNil)) { nx := fun σ H2 => ∃ v1 v2, σ = [some (.ref p), some (.ref p2), some (.ref D), v1, v2] ∧ But D H1 H2 ∧ ∃ rs, H2 D = some (.lst (rs.map V.ref)) ∧ Al (ItAt H2) rs (Vbcsah.news (b.take (i + 1)) b2), rt := Q, ct := fun _ _ => True, bk := fun _ _ => True }
            [some (.ref p), some (.ref p2), some (.ref D), some (.ref pi), some (.int it.number)] H' := fun g => by
        rw [if_pos g] at eN
        have t2 : Tps H' (upd H' D (.lst ((rs ++ [pi]).map V.ref))) := Tps.write hrs (by intro z; exact z)
        refine ⟨_, rfl, .inl ⟨rfl, _, SqL.of hrs⟩, _, rfl, D, _, _, rfl, rfl, hrs, by rw [List.length_map]; exact hlen, _, _, rfl, ?_, rs ++ [pi], by rw [List.map_append]; exact upd_same, ?_⟩
        · exact hk.trans But.upd
        · rw [eN]
          rw [List.map_append] at t2
          exact (ha2.imp fun x y z => z.up t2).snoc (hit'.up t2)
      refine ⟨_, rfl, _, rfl, p2, _, rfl, dget e2 rfl, _, rfl, ?_⟩
      cases e3 : Vbcsah.formOf b2 it.number with
      | none =>
        rw [rep'.none e3]
        exact iteT (iteT (yes (by rw [e3]; rfl)))
      | some y =>
        obtain ⟨py, e4, hy⟩ := rep'.some e3
        rw [e4]
        refine iteF ⟨_, rfl, _, rfl, _, rfl, p2, _, rfl, dget e2 e4, pi, py, it, y, rfl, hit', hy, (formOf_mem e3).2.symm, _, rfl, ?_⟩
        cases g : Vbcsah.greater it y with
        | true => exact iteT (yes (by rw [e3]; exact g))
        | false =>
          refine iteF ⟨_, _, rfl, hk, rs, hrs, ?_⟩
          rw [eN, e3, if_neg (by simp [g]), List.append_nil]
          exact ha2
    · rintro σ H' ⟨v1, v2, rfl, hk, rs, hrs, ha2⟩
      rw [List.length_map, hal.len, List.take_length] at ha2
      exact ⟨_, rfl, k H' D ⟨fun c o h => hk _ _ (s0 _ _ h) (ne_of_none h hD), hD, rs, hrs, ha2⟩⟩

def rowsOf (l : List Item) : List Int := l.flatMap fun i => [(i.number : Int), i.version, (Vbcsah.bit i.gone : Nat), i.tells]
theorem rowsOf_book (l : List Item) : Vbcsah.bookRow l = rowsOf l := rfl
theorem itRow_ints (i : Item) : itRow i = ([(i.number : Int), i.version, (Vbcsah.bit i.gone : Nat), i.tells] : List Int).map V.int := rfl
theorem rowsOf_len (l : List Item) : (rowsOf l).length = 4 * l.length := by
  induction l with
  | nil => rfl
  | cons x l ih => simp only [rowsOf, List.flatMap_cons, List.length_append, List.length_cons, List.length_nil] at ih ⊢; omega
theorem rowsOf_snoc (l : List Item) (x : Item) : rowsOf (l ++ [x]) = rowsOf l ++ [(x.number : Int), x.version, (Vbcsah.bit x.gone : Nat), x.tells] := by
  simp [rowsOf, List.flatMap_append]
/-- a new list of numbers -/
def NewInts (H H' : Hp) (p : Addr) (l : List Int) : Prop := Same H H' ∧ H p = none ∧ H' p = some (.lst (l.map V.int))
/-- an item's tuple, whatever its form's number -/
def ItR (H : Hp) (p : Addr) (i : Item) : Prop := H p = some (.tup (itRow i))
theorem al_itR {H : Hp} {ps : List Addr} {l : List Item} (h : Al (ItAt H) ps l) : Al (ItR H) ps l := h.imp fun _ _ r => r.at_
def sp_numbers_of : Sp := fun vs H Q _ => ∃ (c : Addr) (ps : List Addr) (l : List Item), vs = [.ref c] ∧ SeqV H c (ps.map V.ref) ∧ Al (ItR H) ps l ∧ l.length ≤ 2500000 ∧
  ∀ H' q, NewInts H H' q (rowsOf l) → Q (.ref q) H'
theorem ok_numbers_of (T : Txt K mg a) : FnOk P w K mg base CX0 1 a.f_numbers_of a.d_numbers_of ["told"] sp_numbers_of := by
  refine T.F_numbers_of.ok sc_numbers_of (fun vs H Q E h => ?_) (fun cdv A outer s H vs Q E hr h => ⟨_, (pss_cons (ps_set (i := 1) sc_numbers_of.nd rfl (Or.inl rfl) (pe_lst pa_nil))
    (pss_cons (ps_for PassesOwn.never rfl (pi_seq (pv 0)) (pg_name (i := 2) sc_numbers_of.nd rfl (Or.inl rfl))
    (pss_one (ps_expr (pe_bm PySem.F.plainAttrs_list PySem.F.slot_list_extend PySem.F.type_list_extend mt_extT (pv 1) (pa_cons (pv 2) pa_nil)))))
    (pss_one (ps_ret (pv 1))))), ?_⟩)
  · obtain ⟨c, ps, l, rfl, _⟩ := h; rfl
  · obtain ⟨c, ps, l, rfl, hS, hal, hlen, k⟩ := h
    refine ⟨(by show 0 ≤ sizeLine; decide), fun D hD => ?_⟩
    have t0 : Tps H (upd H D (.lst [])) := Tps.new hD
    have s0 : Same H (upd H D (.lst [])) := fun c o h => by rw [upd_ne (ne_of_none h hD)]; exact h
    refine for_seqV (c := c) (xs := ps.map V.ref) rfl (hS.keep fun o h => s0 _ _ h) (fun i σ H' => ∃ v, σ = [some (.ref c), some (.ref D), v] ∧ Same H H' ∧ H' D = some (.lst ((rowsOf (l.take i)).map V.int)))
      ⟨none, rfl, s0, upd_same⟩ (fun j σ' H' _ ⟨_, _, hk, hD'⟩ o h => ?_) ?_ ?_
    · rw [upd_ne (hS.ne_none hD)] at h
      exact hk _ _ h
    · rintro i x σ H' hx ⟨v, rfl, hk, hD'⟩
      obtain ⟨pi, hpi, rfl⟩ := refs_get hx
      obtain ⟨it, hi, hit⟩ := hal.get hpi
      have hit' : H' pi = some (.tup (itRow it)) := hk _ _ hit
      have hil := (List.getElem?_eq_some_iff.mp hi).1
      refine ⟨_, rfl, .inl ⟨rfl, _, SqL.of hD'⟩, _, rfl, D, pi, _, _, rfl, rfl, hD', hit', ?_, _, rfl, fun c o h => ?_, ?_⟩
      · rw [List.length_map, rowsOf_len, List.length_take]
        show 4 * min i l.length + 4 ≤ sizeLine
        have : sizeLine = 16777216 := by decide
        omega
      · rw [upd_ne (ne_of_none h hD)]; exact hk _ _ h
      · rw [upd_same, take_snoc hi, rowsOf_snoc, List.map_append]; rfl
    · rintro σ H' ⟨v, rfl, hk, hD'⟩
      rw [List.length_map, hal.len, List.take_length] at hD'
      exact ⟨_, rfl, k H' D ⟨hk, hD, hD'⟩⟩
end
end Fo

-- FoNode
/-! Slots and nodes: how they lie, how they are made. -/
namespace Fo
open PySem PySem.Spec PyProof.Rows L2

abbrev SlotS := Vbcsah.Slot
abbrev NodeS := Vbcsah.Node
abbrev Content := Vbcsah.Content

def RcsAt (H : Hp) (p : Addr) (l : List Receipt) : Prop := ∃ ps, H p = some (.lst (ps.map V.ref)) ∧ Al (RcAt H) ps l ∧ l.length ≤ LIM
theorem RcsAt.up {H H' : Hp} {p : Addr} {l : List Receipt} (t : Tps H H') (k : ∀ o, H p = some o → H' p = some o) (h : RcsAt H p l) : RcsAt H' p l :=
  let ⟨ps, e, al, z⟩ := h; ⟨ps, k _ e, al.imp fun _ _ r => r.up t, z⟩
theorem RcsAt.nil {H : Hp} {p : Addr} (h : H p = some (.lst [])) : RcsAt H p [] := ⟨[], h, .nil, by simp⟩
theorem BkAt.nil {H : Hp} {p : Addr} (h : H p = some (.dK [])) : BkAt H p [] := ⟨[], h, BkRep.nil H⟩
theorem BkAt.there {H : Hp} {p : Addr} {b : Book} (h : BkAt H p b) : ∃ kvs, H p = some (.dK kvs) := let ⟨k, e, _⟩ := h; ⟨k, e⟩
theorem RcsAt.there {H : Hp} {p : Addr} {b : List Receipt} (h : RcsAt H p b) : ∃ xs, H p = some (.lst xs) := let ⟨k, e, _⟩ := h; ⟨_, e⟩

def slF (q : Int) (pb pr : Addr) : List (Str × V) := [("sequence", .int q), ("book", .ref pb), ("receipts", .ref pr)]
def cOf (o : Option SlotS) : Content := (o.map fun s => s.content).getD {}
def SlotV (a : Ad) (w : Ow) (H : Hp) (s : Addr) (q : Nat) (c : Content) : Prop := ∃ dx pb pr, H s = some (.ins a.c_Slot dx (slF q pb pr)) ∧ w s = (0, 0) ∧ BkAt H pb c.book ∧ w pb = (0, 0) ∧ RcsAt H pr c.receipts ∧ w pr = (0, 0)
abbrev SlAt (a : Ad) (w : Ow) (H : Hp) (s : Addr) (o : Option SlotS) : Prop := SlotV a w H s (Vbcsah.seqOf o) (cOf o)
theorem SlotV.up {a : Ad} {k : Nat → Prop} {w w' : Ow} {H H' : Hp} {s : Addr} {q : Nat} {c : Content} (f : Frm k w w' H H') (h0 : ¬ k 0) (h : SlotV a w H s q c) : SlotV a w' H' s q c := by
  obtain ⟨dx, pb, pr, e, w1, hb, w2, hr, w3⟩ := h
  obtain ⟨kb, eb⟩ := hb.there
  obtain ⟨kr, er⟩ := hr.there
  exact ⟨dx, pb, pr, f.keep _ _ e (by rw [w1]; exact h0), (f.own _ _ e).trans w1, hb.up f.tup (fun o h => f.keep _ _ h (by rw [w2]; exact h0)), (f.own _ _ eb).trans w2,
    hr.up f.tup (fun o h => f.keep _ _ h (by rw [w3]; exact h0)), (f.own _ _ er).trans w3⟩

def ndF (pw : Bool) (pb pr po ps : Addr) : List (Str × V) := [("power", .bl pw), ("book", .ref pb), ("receipts", .ref pr), ("owed", .ref po), ("slots", .ref ps)]
/-- a node whose parts are i's, at the places told -/
structure NodeA (a : Ad) (w : Ow) (H : Hp) (i : Nat) (nd : Addr) (n : NodeS) (dx pb pr po ps s0 s1 : Addr) : Prop where
  at_ : H nd = some (.ins a.c_Node dx (ndF n.on pb pr po ps))
  wn : w nd = (i, 0)
  book : BkAt H pb n.memory.book
  wb : w pb = (i, 1)
  recs : RcsAt H pr n.memory.receipts
  wr : w pr = (i, 2)
  owed : RcsAt H po n.owed
  wo : w po = (i, 3)
  slots : H ps = some (.lst [.ref s0, .ref s1])
  ws : w ps = (i, 4)
  sl0 : SlAt a w H s0 n.slot0
  sl1 : SlAt a w H s1 n.slot1
def NodeAt (a : Ad) (w : Ow) (H : Hp) (i : Nat) (nd : Addr) (n : NodeS) : Prop := ∃ dx pb pr po ps s0 s1, NodeA a w H i nd n dx pb pr po ps s0 s1
theorem NodeA.up {a : Ad} {k : Nat → Prop} {w w' : Ow} {H H' : Hp} {i : Nat} {nd : Addr} {n : NodeS} {dx pb pr po ps s0 s1 : Addr} (f : Frm k w w' H H') (h0 : ¬ k 0) (hi : ¬ k i)
    (h : NodeA a w H i nd n dx pb pr po ps s0 s1) : NodeA a w' H' i nd n dx pb pr po ps s0 s1 := by
  obtain ⟨e, w1, hb, w2, hr, w3, ho, w4, hs, w5, h5, h6⟩ := h
  obtain ⟨kb, eb⟩ := hb.there
  obtain ⟨kr, er⟩ := hr.there
  obtain ⟨ko, eo⟩ := ho.there
  exact ⟨f.keep _ _ e (by rw [w1]; exact hi), (f.own _ _ e).trans w1, hb.up f.tup (fun o h => f.keep _ _ h (by rw [w2]; exact hi)), (f.own _ _ eb).trans w2,
    hr.up f.tup (fun o h => f.keep _ _ h (by rw [w3]; exact hi)), (f.own _ _ er).trans w3, ho.up f.tup (fun o h => f.keep _ _ h (by rw [w4]; exact hi)), (f.own _ _ eo).trans w4,
    f.keep _ _ hs (by rw [w5]; exact hi), (f.own _ _ hs).trans w5, h5.up f h0, h6.up f h0⟩
theorem NodeAt.up {a : Ad} {k : Nat → Prop} {w w' : Ow} {H H' : Hp} {i : Nat} {nd : Addr} {n : NodeS} (f : Frm k w w' H H') (h0 : ¬ k 0) (hi : ¬ k i) (h : NodeAt a w H i nd n) : NodeAt a w' H' i nd n :=
  let ⟨dx, pb, pr, po, ps, s0, s1, x⟩ := h; ⟨dx, pb, pr, po, ps, s0, s1, x.up f h0 hi⟩
/-- nobody is changed -/
abbrev NoB : Nat → Prop := fun _ => False
/-- i alone is changed -/
abbrev Own (i : Nat) : Nat → Prop := fun n => n = i

section
variable {P : Program} {w : World} {K : PySem.W.Frag} {mg : Str → Option Value} {base : Heap} {a : Ad}

/-! ### Slot -/
def sp_Slot_init (a : Ad) : Sp := fun vs H Q _ => ∃ (s dx : Addr) (q : Int) (pb pr : Addr) (b : Book) (l : List Receipt), vs = [.ref s, .int q, .ref pb, .ref pr] ∧ H s = some (.ins a.c_Slot dx []) ∧ BkAt H pb b ∧ RcsAt H pr l ∧
  ∀ H' pb' pr', H pb' = none → H pr' = none → pb' ≠ pr' → H' s = some (.ins a.c_Slot dx (slF q pb' pr')) → BkAt H' pb' b → RcsAt H' pr' l → But s H H' → Q .non H'
theorem ok_Slot_init (T : Txt K mg a) : FnOk P w K mg base CX0 1 a.f_Slot_init a.d_Slot_init ["self", "sequence", "book", "receipts"] (sp_Slot_init a) := by
  refine T.F_Slot_init.ok sc_Slot_init (fun vs H Q E h => ?_) (fun cdv A outer s H vs Q E hr h => ⟨_, (pss_cons (ps_fld (pv 0) (pv 1) rfl)
    (pss_cons (ps_fld (pv 0) (pe_callTy call_dictD (by rfl) T.n_dict (by decide +kernel) (pa_cons (pv 2) pa_nil)) rfl)
    (pss_one (ps_fld (pv 0) (pe_callTy call_list_of (by rfl) T.n_list (by decide +kernel) (pa_cons (pv 3) pa_nil)) rfl)))), ?_⟩)
  · obtain ⟨s, dx, q, pb, pr, b, l, rfl, _⟩ := h; rfl
  · obtain ⟨s, dx, q, pb, pr, b, l, rfl, hs, hB, ⟨rs, eR, aR, zR⟩, k⟩ := h
    obtain ⟨kvs, eB, rep⟩ := hB
    have n1 : pb ≠ s := ne_of eB hs (by intro z; cases z)
    have n2 : pr ≠ s := ne_of eR hs (by intro z; cases z)
    refine ⟨_, rfl, _, rfl, s, _, dx, [], rfl, hs, T.cl_Slot, T.na_Slot_sequence, (by show 0 < 1000; decide), ?_⟩
    refine ⟨_, rfl, pb, kvs, rfl, Rd.of (by rw [upd_ne n1]; exact eB), fun p1 hp1 => ?_⟩
    have m1 : p1 ≠ s := fun z => by subst z; rw [upd_same] at hp1; cases hp1
    have hp1' : H p1 = none := by rw [upd_ne m1] at hp1; exact hp1
    have o1 : pr ≠ p1 := ne_of_none eR hp1'
    refine ⟨_, rfl, s, _, dx, _, rfl, by rw [upd_ne (Ne.symm m1)]; exact upd_same, T.cl_Slot, T.na_Slot_book, (by show 1 < 1000; decide), ?_⟩
    refine ⟨_, rfl, pr, _, rfl, .inl (SqL.of (xs := rs.map V.ref) (by rw [upd_ne n2, upd_ne o1, upd_ne n2]; exact eR)), fun p2 hp2 => ?_⟩
    have m2 : p2 ≠ s := fun z => by subst z; rw [upd_same] at hp2; cases hp2
    have m3 : p2 ≠ p1 := fun z => by subst z; rw [upd_ne m2, upd_same] at hp2; cases hp2
    have hp2' : H p2 = none := by rw [upd_ne m2, upd_ne m3, upd_ne m2] at hp2; exact hp2
    refine ⟨_, rfl, s, _, dx, _, rfl, by rw [upd_ne (Ne.symm m2)]; exact upd_same, T.cl_Slot, T.na_Slot_receipts, (by show 2 < 1000; decide), ?_⟩
    have kp : But s H (upd (upd (upd (upd (upd H s (.ins a.c_Slot dx (putF "sequence" (.int q) []))) p1 (.dK kvs)) s (.ins a.c_Slot dx (putF "book" (.ref p1) (putF "sequence" (.int q) [])))) p2 (.lst (rs.map V.ref))) s
        (.ins a.c_Slot dx (putF "receipts" (.ref p2) (putF "book" (.ref p1) (putF "sequence" (.int q) []))))) := fun b o h n => by
      rw [upd_ne n, upd_ne (ne_of_none h hp2'), upd_ne n, upd_ne (ne_of_none h hp1'), upd_ne n]; exact h
    have tp := But.tps kp hs (by intro z; exact z)
    refine k _ p1 p2 hp1' hp2' (Ne.symm m3) upd_same ⟨kvs, ?_, rep.up tp⟩ ⟨rs, ?_, aR.imp fun _ _ r => r.up tp, zR⟩ kp
    · rw [upd_ne m1, upd_ne (Ne.symm m3), upd_ne m1, upd_same]
    · rw [upd_ne m2, upd_same]
/-- a slot is made: a new one, nobody's -/
theorem make_slot {wo : Ow} {H : Hp} {Q : VK} {E : XK} {vs : List V} {q : Nat} {pb pr x dx : Addr} {b : Book} {l : List Receipt} (hv : vs = [.int (q : Int), .ref pb, .ref pr]) (hB : BkAt H pb b) (hR : RcsAt H pr l)
    (hx : H x = none) (hdx : H dx = none) (hne : dx ≠ x) (k : ∀ w' H', SlotV a w' H' x q { book := b, receipts := l } → Frm NoB wo w' H H' → Q .non H') :
    sp_Slot_init a (.ref x :: (vs ++ [])) (upd (upd H dx (.own x)) x (.ins a.c_Slot dx [])) Q E := by
  subst hv
  have f1 : Frm NoB wo wo H (upd H dx (.own x)) := Frm.new hdx
  have hx1 : upd H dx (.own x) x = none := by rw [upd_ne (Ne.symm hne)]; exact hx
  have f2 : Frm NoB wo wo H (upd (upd H dx (.own x)) x (.ins a.c_Slot dx [])) := f1.trans (Frm.new hx1)
  refine ⟨x, dx, q, pb, pr, b, l, rfl, upd_same, hB.up f2.tup (fun o h => f2.keep _ _ h (fun z => z)), hR.up f2.tup (fun o h => f2.keep _ _ h (fun z => z)), ?_⟩
  intro H' p1 p2 h1 h2 h12 hs hb hr kp
  refine k (setW (setW (setW wo x (0, 0)) p1 (0, 0)) p2 (0, 0)) H' ⟨dx, p1, p2, hs, ?_, hb, ?_, hr, setW_same⟩ ?_
  · by_cases z : x = p2
    · rw [z, setW_same]
    · rw [setW_ne z]
      by_cases z1 : x = p1
      · rw [z1, setW_same]
      · rw [setW_ne z1, setW_same]
  · rw [setW_ne h12, setW_same]
  · have hn : ∀ {b o}, H b = some o → b ≠ x ∧ b ≠ p1 ∧ b ≠ p2 ∧ b ≠ dx := fun {b o} h => by
      have e := f2.keep _ _ h (fun z => z)
      exact ⟨ne_of_none h hx, ne_of_none e h1, ne_of_none e h2, ne_of_none h hdx⟩
    have go : ∀ b o, H b = some o → H' b = some o := fun b o h => kp _ _ (f2.keep _ _ h (fun z => z)) (hn h).1
    exact ⟨fun b o h _ => go b o h, fun b xs h => go b _ h, fun b o h => by rw [setW_ne (hn h).2.2.1, setW_ne (hn h).2.1, setW_ne (hn h).1], fun b o h => ⟨o, go b o h⟩⟩
end
end Fo

-- FoNode2
/-! A node's slots and power. -/
namespace Fo
open PySem PySem.Spec PyProof.Rows L2
section
variable {P : Program} {w : World} {K : PySem.W.Frag} {mg : Str → Option Value} {base : Heap} {a : Ad}

def otherI (n : NodeS) : Nat := if Vbcsah.seqOf n.slot1 < Vbcsah.seqOf n.slot0 then 1 else 0
def sp_Node_other_place (a : Ad) : Sp := fun vs H Q _ => ∃ (wo : Ow) (i : Nat) (nd : Addr) (n : NodeS), vs = [.ref nd] ∧ NodeAt a wo H i nd n ∧ Q (.int (otherI n)) H
theorem ok_Node_other_place (T : Txt K mg a) : FnOk P w K mg base CX0 1 a.f_Node_other_place a.d_Node_other_place ["self"] (sp_Node_other_place a) := by
  refine T.F_Node_other_place.ok sc_Node_other_place (fun vs H Q E h => ?_) (fun cdv A outer s H vs Q E hr h => ⟨_, (pss_one (ps_ret (pe_ifExp (pt_cmpR op_gt (pe_fld (pe_ix ix_list (pe_fld (pv 0) rfl) pe_int (fun _ _ => rfl)) rfl) (pe_fld (pe_ix ix_list (pe_fld (pv 0) rfl) pe_int (fun _ _ => rfl)) rfl) (nomark _)) pe_int pe_int))), ?_⟩)
  · obtain ⟨wo, i, nd, n, rfl, _⟩ := h; rfl
  · obtain ⟨wo, i, nd, n, rfl, ⟨dx, pb, pr, po, ps, s0, s1, N⟩, k⟩ := h
    obtain ⟨x0, b0, r0, e0, _⟩ := N.sl0
    obtain ⟨x1, b1, r1, e1, _⟩ := N.sl1
    refine ⟨_, rfl, nd, _, dx, _, _, rfl, N.at_, T.cl_Node, T.na_Node_slots, rfl, ps, _, 0, _, rfl, rfl, SqL.of N.slots, atI_nat (j := 0) rfl, s0, _, x0, _, _, rfl, e0, T.cl_Slot, T.na_Slot_sequence, rfl, ?_⟩
    refine ⟨_, rfl, nd, _, dx, _, _, rfl, N.at_, T.cl_Node, T.na_Node_slots, rfl, ps, _, 1, _, rfl, rfl, SqL.of N.slots, atI_nat (j := 1) rfl, s1, _, x1, _, _, rfl, e1, T.cl_Slot, T.na_Slot_sequence, rfl, ?_⟩
    refine ⟨_, _, rfl, rfl, _, rfl, ?_⟩
    by_cases c : Vbcsah.seqOf n.slot1 < Vbcsah.seqOf n.slot0
    · rw [decide_eq_true (by omega)]
      have e : otherI n = 1 := if_pos c
      rw [e] at k
      exact iteT k
    · rw [decide_eq_false (by omega)]
      have e : otherI n = 0 := if_neg c
      rw [e] at k
      exact iteF k

def sp_Node_slot_read (a : Ad) : Sp := fun vs H Q _ => ∃ (wo : Ow) (i : Nat) (nd : Addr) (n : NodeS), vs = [.ref nd] ∧ NodeAt a wo H i nd n ∧ ∀ s, SlAt a wo H s (Vbcsah.readSlot n) → Q (.ref s) H
theorem ok_Node_slot_read (T : Txt K mg a) : FnOk P w K mg base CX0 2 a.f_Node_slot_read a.d_Node_slot_read ["self"] (sp_Node_slot_read a) := by
  refine T.F_Node_slot_read.ok sc_Node_slot_read (fun vs H Q E h => ?_) (fun cdv A outer s H vs Q E hr h => ⟨_, (pss_one (ps_ret (pe_ix ix_list (pe_fld (pv 0) rfl) (pe_op op_sub pe_int (pe_meth0 (pv 0) T.cl_Node T.m_Node_other_place (ok_Node_other_place T) hr T.b_Node_other_place .nil pass0)) (fun _ _ => rfl)))), ?_⟩)
  · obtain ⟨wo, i, nd, n, rfl, _⟩ := h; rfl
  · obtain ⟨wo, i, nd, n, rfl, ⟨dx, pb, pr, po, ps, s0, s1, N⟩, k⟩ := h
    refine ⟨_, rfl, nd, _, dx, _, _, rfl, N.at_, T.cl_Node, T.na_Node_slots, rfl, _, rfl, nd, dx, _, rfl, N.at_, rfl, wo, i, nd, n, rfl, ⟨dx, pb, pr, po, ps, s0, s1, N⟩, _, _, rfl, rfl, ?_⟩
    by_cases c : Vbcsah.seqOf n.slot1 < Vbcsah.seqOf n.slot0
    · have e : otherI n = 1 := if_pos c
      have e2 : Vbcsah.readSlot n = n.slot0 := if_pos c
      rw [e]
      exact ⟨ps, _, 0, _, rfl, rfl, SqL.of N.slots, atI_nat (j := 0) rfl, k s0 (by rw [e2]; exact N.sl0)⟩
    · have e : otherI n = 0 := if_neg c
      have e2 : Vbcsah.readSlot n = n.slot1 := if_neg c
      rw [e]
      exact ⟨ps, _, 1, _, rfl, rfl, SqL.of N.slots, atI_nat (j := 1) rfl, k s1 (by rw [e2]; exact N.sl1)⟩

/-- the other slot is stored -/
theorem NodeA.store {wo : Ow} {H : Hp} {i : Nat} {nd : Addr} {n : NodeS} {dx pb pr po ps s0 s1 x : Addr} {o : Option SlotS} (N : NodeA a wo H i nd n dx pb pr po ps s0 s1) (hx : SlAt a wo H x o) (hi : i ≠ 0) :
    NodeAt a wo (upd H ps (.lst ([V.ref s0, .ref s1].set (otherI n) (.ref x)))) i nd (Vbcsah.written n o) ∧ Frm (Own i) wo wo H (upd H ps (.lst ([V.ref s0, .ref s1].set (otherI n) (.ref x)))) := by
  have f : ∀ ys, Frm (Own i) wo wo H (upd H ps (.lst ys)) := fun ys => Frm.write N.slots (by intro z; exact z) (by rw [N.ws])
  have h0 : ¬ Own i 0 := fun z => hi z.symm
  have n1 : nd ≠ ps := ne_own N.wn N.ws (by simp)
  have n2 : pb ≠ ps := ne_own N.wb N.ws (by simp)
  have n3 : pr ≠ ps := ne_own N.wr N.ws (by simp)
  have n4 : po ≠ ps := ne_own N.wo N.ws (by simp)
  refine ⟨?_, f _⟩
  by_cases c : Vbcsah.seqOf n.slot1 < Vbcsah.seqOf n.slot0
  · have e : otherI n = 1 := if_pos c
    have e2 : Vbcsah.written n o = { n with slot1 := o } := if_pos c
    rw [e, e2]
    have g := f ([V.ref s0, .ref s1].set 1 (.ref x))
    exact ⟨dx, pb, pr, po, ps, s0, x, by rw [upd_ne n1]; exact N.at_, N.wn, N.book.up g.tup (fun o h => by rw [upd_ne n2]; exact h), N.wb, N.recs.up g.tup (fun o h => by rw [upd_ne n3]; exact h), N.wr,
      N.owed.up g.tup (fun o h => by rw [upd_ne n4]; exact h), N.wo, upd_same, N.ws, N.sl0.up g h0, hx.up g h0⟩
  · have e : otherI n = 0 := if_neg c
    have e2 : Vbcsah.written n o = { n with slot0 := o } := if_neg c
    rw [e, e2]
    have g := f ([V.ref s0, .ref s1].set 0 (.ref x))
    exact ⟨dx, pb, pr, po, ps, x, s1, by rw [upd_ne n1]; exact N.at_, N.wn, N.book.up g.tup (fun o h => by rw [upd_ne n2]; exact h), N.wb, N.recs.up g.tup (fun o h => by rw [upd_ne n3]; exact h), N.wr,
      N.owed.up g.tup (fun o h => by rw [upd_ne n4]; exact h), N.wo, upd_same, N.ws, hx.up g h0, N.sl1.up g h0⟩
theorem otherI_at (n : NodeS) : ixN 2 (otherI n : Int) = some (otherI n) := by
  unfold otherI
  split <;> rfl

/-- what a def that changes a node alone asks and leaves -/
def NodeSp (a : Ad) (pre : NodeS → Prop) (f : NodeS → NodeS) (r : NodeS → V) : Sp := fun vs H Q _ => ∃ (wo : Ow) (i : Nat) (nd : Addr) (n : NodeS), vs = [.ref nd] ∧ NodeAt a wo H i nd n ∧ i ≠ 0 ∧ pre n ∧
  ∀ w' H', NodeAt a w' H' i nd (f n) → Frm (Own i) wo w' H H' → Q (r n) H'
theorem ok_Node_write_memory (T : Txt K mg a) : FnOk P w K mg base CX0 3 a.f_Node_write_memory a.d_Node_write_memory ["self"] (NodeSp a (fun _ => True) Vbcsah.kept fun n => .int ((Vbcsah.seqOf (Vbcsah.readSlot n) : Nat) + 1 : Int)) := by
  refine T.F_Node_write_memory.ok sc_Node_write_memory (fun vs H Q E h => ?_) (fun cdv A outer s H vs Q E hr h => ⟨_, (pss_cons (ps_set (i := 1) sc_Node_write_memory.nd rfl (Or.inl rfl) (pe_op op_add (pe_fld (pe_meth0 (pv 0) T.cl_Node T.m_Node_slot_read (ok_Node_slot_read T) hr T.b_Node_slot_read .nil pass0) rfl) pe_int))
    (pss_cons (ps_asg (pe_make T.M_Slot (ok_Slot_init T) hr rfl T.g_Slot T.b_Slot_init .nil pass0 (pa_cons (pv 1) (pa_cons (pe_fld (pv 0) rfl) (pa_cons (pe_fld (pv 0) rfl) pa_nil)))) (pg_sub (pe_fld (pv 0) rfl) (pe_meth0 (pv 0) T.cl_Node T.m_Node_other_place (ok_Node_other_place T) (hr.mono (by decide)) T.b_Node_other_place .nil pass0) set_list))
    (pss_one (ps_ret (pv 1))))), ?_⟩)
  · obtain ⟨wo, i, nd, n, rfl, _⟩ := h; rfl
  · obtain ⟨wo, i, nd, n, rfl, ⟨dx, pb, pr, po, ps, s0, s1, N⟩, hi, _, k⟩ := h
    have h0 : ¬ Own i 0 := fun z => hi z.symm
    refine ⟨_, rfl, nd, dx, _, rfl, N.at_, rfl, wo, i, nd, n, rfl, ⟨dx, pb, pr, po, ps, s0, s1, N⟩, fun sr hsr => ?_⟩
    obtain ⟨xr, br, rr, er, _⟩ := hsr
    refine ⟨sr, _, xr, _, _, rfl, er, T.cl_Slot, T.na_Slot_sequence, rfl, _, _, rfl, rfl, ?_⟩
    refine ⟨_, rfl, _, rfl, nd, _, dx, _, _, rfl, N.at_, T.cl_Node, T.na_Node_book, rfl, _, rfl, nd, _, dx, _, _, rfl, N.at_, T.cl_Node, T.na_Node_receipts, rfl, ?_⟩
    intro x xd nx nxd nxx
    refine make_slot (wo := wo) (q := Vbcsah.seqOf (Vbcsah.readSlot n) + 1) ?_ N.book N.recs nx nxd nxx ?_
    · rfl
    intro w1 H1 hx f1
    refine ⟨rfl, ?_⟩
    have N1 := N.up f1 (fun z => z) (fun z => z)
    refine ⟨_, rfl, nd, _, dx, _, _, rfl, N1.at_, T.cl_Node, T.na_Node_slots, rfl, _, rfl, nd, dx, _, rfl, N1.at_, rfl, w1, i, nd, n, rfl, ⟨dx, pb, pr, po, ps, s0, s1, N1⟩, ?_⟩
    obtain ⟨N2, f2⟩ := N1.store (o := some { seq := Vbcsah.seqOf (Vbcsah.readSlot n) + 1, content := n.memory }) hx hi
    exact ⟨ps, _, _, otherI n, rfl, rfl, N1.slots, otherI_at n, _, rfl, k w1 _ N2 ((f1.mono fun _ z => z.elim).trans f2)⟩
theorem ok_Node_spoil_other (T : Txt K mg a) : FnOk P w K mg base CX0 3 a.f_Node_spoil_other a.d_Node_spoil_other ["self"] (NodeSp a (fun _ => True) (fun n => Vbcsah.written n none) fun _ => .non) := by
  refine T.F_Node_spoil_other.ok sc_Node_spoil_other (fun vs H Q E h => ?_) (fun cdv A outer s H vs Q E hr h => ⟨_, (pss_one (ps_asg (pe_make T.M_Slot (ok_Slot_init T) hr rfl T.g_Slot T.b_Slot_init .nil pass0 (pa_cons pe_int (pa_cons pe_dnewK (pa_cons (pe_lst pa_nil) pa_nil)))) (pg_sub (pe_fld (pv 0) rfl) (pe_meth0 (pv 0) T.cl_Node T.m_Node_other_place (ok_Node_other_place T) (hr.mono (by decide)) T.b_Node_other_place .nil pass0) set_list))), ?_⟩)
  · obtain ⟨wo, i, nd, n, rfl, _⟩ := h; rfl
  · obtain ⟨wo, i, nd, n, rfl, ⟨dx, pb, pr, po, ps, s0, s1, N⟩, hi, _, k⟩ := h
    refine fun d hd => ⟨(by show 0 ≤ sizeLine; decide), fun l hl => ?_⟩
    have f0 : Frm NoB wo wo H (upd H d (.dK [])) := Frm.new hd
    have f1 : Frm NoB wo wo H (upd (upd H d (.dK [])) l (.lst [])) := f0.trans (Frm.new hl)
    have hdl : d ≠ l := ne_of_none upd_same hl
    have hB : BkAt (upd (upd H d (.dK [])) l (.lst [])) d [] := BkAt.nil (by rw [upd_ne hdl]; exact upd_same)
    intro x xd nx nxd nxx
    refine make_slot (wo := wo) (q := 0) ?_ hB (RcsAt.nil upd_same) nx nxd nxx ?_
    · rfl
    intro w1 H1 hx f2
    refine ⟨rfl, ?_⟩
    have f3 := f1.trans f2
    have N1 := N.up f3 (fun z => z) (fun z => z)
    refine ⟨_, rfl, nd, _, dx, _, _, rfl, N1.at_, T.cl_Node, T.na_Node_slots, rfl, _, rfl, nd, dx, _, rfl, N1.at_, rfl, w1, i, nd, n, rfl, ⟨dx, pb, pr, po, ps, s0, s1, N1⟩, ?_⟩
    obtain ⟨N2, f4⟩ := N1.store (o := none) hx hi
    exact ⟨ps, _, _, otherI n, rfl, rfl, N1.slots, otherI_at n, k w1 _ N2 ((f3.mono fun _ z => z.elim).trans f4)⟩
end
end Fo

-- FoNode3
/-! A node's power; how it is made. -/
namespace Fo
open PySem PySem.Spec PyProof.Rows L2
section
variable {P : Program} {w : World} {K : PySem.W.Frag} {mg : Str → Option Value} {base : Heap} {a : Ad}

theorem NodeA.re {wo w' : Ow} {H H' : Hp} {i : Nat} {nd : Addr} {n : NodeS} {dx pb pr po ps s0 s1 pb' pr' po' : Addr} {on : Bool} {b : Book} {rs os : List Receipt} (N : NodeA a wo H i nd n dx pb pr po ps s0 s1) (f : Frm (Own i) wo w' H H') (hi : i ≠ 0)
    (hnd : H' nd = some (.ins a.c_Node dx (ndF on pb' pr' po' ps))) (hB : BkAt H' pb' b) (wb : w' pb' = (i, 1)) (hR : RcsAt H' pr' rs) (wr : w' pr' = (i, 2)) (hO : RcsAt H' po' os) (wo' : w' po' = (i, 3)) (hs : H' ps = some (.lst [.ref s0, .ref s1])) :
    NodeA a w' H' i nd { on := on, memory := { book := b, receipts := rs }, owed := os, slot0 := n.slot0, slot1 := n.slot1 } dx pb' pr' po' ps s0 s1 :=
  have h0 : ¬ Own i 0 := fun z => hi z.symm
  ⟨hnd, (f.own _ _ N.at_).trans N.wn, hB, wb, hR, wr, hO, wo', hs, (f.own _ _ N.slots).trans N.ws, N.sl0.up f h0, N.sl1.up f h0⟩

theorem upd_other {H : Hp} {p q : Addr} {o : HO} {x : Option HO} (h : q ≠ p) (e : H q = x) : upd H p o q = x := by rw [upd_ne h]; exact e

theorem ok_Node_lose_power (T : Txt K mg a) : FnOk P w K mg base CX0 1 a.f_Node_lose_power a.d_Node_lose_power ["self"] (NodeSp a (fun _ => True) Vbcsah.dark fun _ => .non) := by
  refine T.F_Node_lose_power.ok sc_Node_lose_power (fun vs H Q E h => ?_) (fun cdv A outer s H vs Q E hr h => ⟨_, (pss_cons (ps_fld (pv 0) pe_bl rfl)
    (pss_cons (ps_fld (pv 0) pe_dnewK rfl)
    (pss_cons (ps_fld (pv 0) (pe_lst pa_nil) rfl)
    (pss_one (ps_fld (pv 0) (pe_lst pa_nil) rfl))))), ?_⟩)
  · obtain ⟨wo, i, nd, n, rfl, _⟩ := h; rfl
  · obtain ⟨wo, i, nd, n, rfl, ⟨dx, pb, pr, po, ps, s0, s1, N⟩, hi, _, k⟩ := h
    have nps : ps ≠ nd := ne_own N.ws N.wn (by simp)
    refine ⟨_, rfl, nd, _, dx, _, rfl, N.at_, T.cl_Node, T.na_Node_power, (by show 5 < 1000; decide), ?_⟩
    have f1 : Frm (Own i) wo wo H (upd H nd (.ins a.c_Node dx (ndF false pb pr po ps))) := Frm.write N.at_ (by intro z; exact z) (by rw [N.wn])
    refine fun d hd => ?_
    have f2 := f1.trans (Frm.laid (i, 1) (o := .dK []) hd)
    have nd1 : d ≠ nd := fun z => by subst z; rw [upd_same] at hd; cases hd
    refine ⟨_, rfl, nd, _, dx, _, rfl, upd_other (Ne.symm nd1) upd_same, T.cl_Node, T.na_Node_book, (by show 5 < 1000; decide), ?_⟩
    have f3 := f2.trans (Frm.write (p := nd) (o' := .ins a.c_Node dx (ndF false d pr po ps)) (upd_other (Ne.symm nd1) upd_same) (by intro z; exact z) (by rw [setW_ne (Ne.symm nd1), N.wn]))
    refine ⟨(by show 0 ≤ sizeLine; decide), fun r hr2 => ?_⟩
    have nr1 : r ≠ nd := fun z => by subst z; rw [upd_same] at hr2; cases hr2
    have nr2 : r ≠ d := fun z => by subst z; rw [upd_ne nr1, upd_same] at hr2; cases hr2
    have f4 := f3.trans (Frm.laid (i, 2) (o := .lst []) hr2)
    refine ⟨_, rfl, nd, _, dx, _, rfl, upd_other (Ne.symm nr1) upd_same, T.cl_Node, T.na_Node_receipts, (by show 5 < 1000; decide), ?_⟩
    have f5 := f4.trans (Frm.write (p := nd) (o' := .ins a.c_Node dx (ndF false d r po ps)) (upd_other (Ne.symm nr1) upd_same) (by intro z; exact z) (by rw [setW_ne (Ne.symm nr1), setW_ne (Ne.symm nd1), N.wn]))
    refine ⟨(by show 0 ≤ sizeLine; decide), fun o ho => ?_⟩
    have no1 : o ≠ nd := fun z => by subst z; rw [upd_same] at ho; cases ho
    have no2 : o ≠ r := fun z => by subst z; rw [upd_ne no1, upd_same] at ho; cases ho
    have no3 : o ≠ d := fun z => by subst z; rw [upd_ne no1, upd_ne no2, upd_ne no1, upd_same] at ho; cases ho
    have f6 := f5.trans (Frm.laid (i, 3) (o := .lst []) ho)
    refine ⟨_, rfl, nd, _, dx, _, rfl, upd_other (Ne.symm no1) upd_same, T.cl_Node, T.na_Node_owed, (by show 5 < 1000; decide), ?_⟩
    have f7 := f6.trans (Frm.write (p := nd) (o' := .ins a.c_Node dx (ndF false d r o ps)) (upd_other (Ne.symm no1) upd_same) (by intro z; exact z) (by rw [setW_ne (Ne.symm no1), setW_ne (Ne.symm nr1), setW_ne (Ne.symm nd1), N.wn]))
    have nd2 : ps ≠ d := ne_of_none N.slots (by rw [upd_ne nd1] at hd; exact hd)
    have hps : ∀ {x : Addr}, x ≠ ps → True := fun _ => trivial
    have e1 : H r = none := by rw [upd_ne nr1, upd_ne nr2, upd_ne nr1] at hr2; exact hr2
    have e2 : H o = none := by rw [upd_ne no1, upd_ne no2, upd_ne no1, upd_ne no3, upd_ne no1] at ho; exact ho
    have nr3 : ps ≠ r := ne_of_none N.slots e1
    have no4 : ps ≠ o := ne_of_none N.slots e2
    refine k _ _ ⟨dx, d, r, o, ps, s0, s1, N.re (on := false) f7 hi upd_same (BkAt.nil ?_) ?_ (RcsAt.nil ?_) ?_ (RcsAt.nil ?_) setW_same ?_⟩ f7
    · rw [upd_ne nd1, upd_ne (Ne.symm no3), upd_ne nd1, upd_ne (Ne.symm nr2), upd_ne nd1, upd_same]
    · rw [setW_ne (Ne.symm no3), setW_ne (Ne.symm nr2), setW_same]
    · rw [upd_ne nr1, upd_ne (Ne.symm no2), upd_ne nr1, upd_same]
    · rw [setW_ne (Ne.symm no2), setW_same]
    · rw [upd_ne no1, upd_same]
    · rw [upd_ne nps, upd_ne no4, upd_ne nps, upd_ne nr3, upd_ne nps, upd_ne nd2, upd_ne nps]; exact N.slots

theorem ok_Node_gain_power (T : Txt K mg a) : FnOk P w K mg base CX0 3 a.f_Node_gain_power a.d_Node_gain_power ["self"] (NodeSp a (fun n => n.owed = []) Vbcsah.lit fun _ => .non) := by
  refine T.F_Node_gain_power.ok sc_Node_gain_power (fun vs H Q E h => ?_) (fun cdv A outer s H vs Q E hr h => ⟨_, (pss_cons (ps_set (i := 1) sc_Node_gain_power.nd rfl (Or.inl rfl) (pe_meth0 (pv 0) T.cl_Node T.m_Node_slot_read (ok_Node_slot_read T) hr T.b_Node_slot_read .nil pass0))
    (pss_cons (ps_fld (pv 0) pe_bl rfl)
    (pss_cons (ps_fld (pv 0) (pe_callTy call_dictD (by rfl) T.n_dict (by decide +kernel) (pa_cons (pe_fld (pv 1) rfl) pa_nil)) rfl)
    (pss_one (ps_fld (pv 0) (pe_callTy call_list_of (by rfl) T.n_list (by decide +kernel) (pa_cons (pe_fld (pv 1) rfl) pa_nil)) rfl))))), ?_⟩)
  · obtain ⟨wo, i, nd, n, rfl, _⟩ := h; rfl
  · obtain ⟨wo, i, nd, n, rfl, ⟨dx, pb, pr, po, ps, s0, s1, N⟩, hi, ho, k⟩ := h
    have nps : ps ≠ nd := ne_own N.ws N.wn (by simp)
    have h0 : ¬ Own i 0 := fun z => hi z.symm
    refine ⟨_, rfl, nd, dx, _, rfl, N.at_, rfl, wo, i, nd, n, rfl, ⟨dx, pb, pr, po, ps, s0, s1, N⟩, fun sr hsr => ?_⟩
    refine ⟨_, rfl, nd, _, dx, _, rfl, N.at_, T.cl_Node, T.na_Node_power, (by show 5 < 1000; decide), ?_⟩
    have f1 : Frm (Own i) wo wo H (upd H nd (.ins a.c_Node dx (ndF true pb pr po ps))) := Frm.write N.at_ (by intro z; exact z) (by rw [N.wn])
    obtain ⟨xr, br, rr, er, wr, ⟨kvs, eb, rep⟩, wbr, ⟨qs, eq, aq, zq⟩, wrr⟩ := hsr.up f1 h0
    refine ⟨_, rfl, sr, _, xr, _, _, rfl, er, T.cl_Slot, T.na_Slot_book, rfl, br, kvs, rfl, Rd.of eb, fun d hd => ?_⟩
    have nd1 : d ≠ nd := fun z => by subst z; rw [upd_same] at hd; cases hd
    have f2 := f1.trans (Frm.laid (i, 1) (o := .dK kvs) hd)
    refine ⟨_, rfl, nd, _, dx, _, rfl, upd_other (Ne.symm nd1) upd_same, T.cl_Node, T.na_Node_book, (by show 5 < 1000; decide), ?_⟩
    have f3 := f2.trans (Frm.write (p := nd) (o' := .ins a.c_Node dx (ndF true d pr po ps)) (upd_other (Ne.symm nd1) upd_same) (by intro z; exact z) (by rw [setW_ne (Ne.symm nd1), N.wn]))
    have nsr : sr ≠ nd := ne_own wr N.wn (fun z => hi (Prod.mk.inj z).1.symm)
    have nrr : rr ≠ nd := ne_own wrr N.wn (fun z => hi (Prod.mk.inj z).1.symm)
    have er3 := upd_other (H := upd (upd H nd (.ins a.c_Node dx (ndF true pb pr po ps))) d (.dK kvs)) (o := .ins a.c_Node dx (ndF true d pr po ps)) nsr (upd_other (o := .dK kvs) (ne_of_none er hd) er)
    have eq3 := upd_other (H := upd (upd H nd (.ins a.c_Node dx (ndF true pb pr po ps))) d (.dK kvs)) (o := .ins a.c_Node dx (ndF true d pr po ps)) nrr (upd_other (o := .dK kvs) (ne_of_none eq hd) eq)
    refine ⟨_, rfl, sr, _, xr, _, _, rfl, er3, T.cl_Slot, T.na_Slot_receipts, rfl, rr, _, rfl, .inl (SqL.of eq3), fun r hr2 => ?_⟩
    have nr1 : r ≠ nd := fun z => by subst z; rw [upd_same] at hr2; cases hr2
    have nr2 : r ≠ d := fun z => by subst z; rw [upd_ne nr1, upd_same] at hr2; cases hr2
    have f4 := f3.trans (Frm.laid (i, 2) (o := .lst (qs.map V.ref)) hr2)
    refine ⟨_, rfl, nd, _, dx, _, rfl, upd_other (Ne.symm nr1) upd_same, T.cl_Node, T.na_Node_receipts, (by show 5 < 1000; decide), ?_⟩
    have f5 := f4.trans (Frm.write (p := nd) (o' := .ins a.c_Node dx (ndF true d r po ps)) (upd_other (Ne.symm nr1) upd_same) (by intro z; exact z) (by rw [setW_ne (Ne.symm nr1), setW_ne (Ne.symm nd1), N.wn]))
    have e0 : H d = none := by rw [upd_ne nd1] at hd; exact hd
    have e1 : H r = none := by rw [upd_ne nr1, upd_ne nr2, upd_ne nr1] at hr2; exact hr2
    have nd2 : ps ≠ d := ne_of_none N.slots e0
    have nr3 : ps ≠ r := ne_of_none N.slots e1
    obtain ⟨xo, eo⟩ := N.owed.there
    have npo : po ≠ nd := ne_own N.wo N.wn (by simp)
    have npd : po ≠ d := ne_of_none eo e0
    have npr : po ≠ r := ne_of_none eo e1
    have tp : Tps (upd H nd (.ins a.c_Node dx (ndF true pb pr po ps))) (upd (upd (upd (upd (upd H nd (.ins a.c_Node dx (ndF true pb pr po ps))) d (.dK kvs)) nd (.ins a.c_Node dx (ndF true d pr po ps))) r (.lst (qs.map V.ref))) nd (.ins a.c_Node dx (ndF true d r po ps))) :=
      ((Tps.new hd).trans (Tps.write (upd_other (Ne.symm nd1) upd_same) (by intro z; exact z))).trans ((Tps.new hr2).trans (Tps.write (upd_other (Ne.symm nr1) upd_same) (by intro z; exact z)))
    refine k _ _ ⟨dx, d, r, po, ps, s0, s1, ?_⟩ f5
    have ev : (Vbcsah.lit n) = { on := true, memory := { book := (cOf (Vbcsah.readSlot n)).book, receipts := (cOf (Vbcsah.readSlot n)).receipts }, owed := [], slot0 := n.slot0, slot1 := n.slot1 } := rfl
    rw [ev]
    have ow := N.owed
    rw [ho] at ow
    refine N.re (on := true) (os := []) f5 hi upd_same ⟨kvs, ?_, rep.up tp⟩ ?_ ⟨qs, ?_, aq.imp fun _ _ r => r.up tp, zq⟩ setW_same (ow.up f5.tup fun o h => ?_) ?_ ?_
    · rw [upd_ne nd1, upd_ne (Ne.symm nr2), upd_ne nd1, upd_same]
    · rw [setW_ne (Ne.symm nr2), setW_same]
    · rw [upd_ne nr1, upd_same]
    · rw [upd_ne npo, upd_ne npr, upd_ne npo, upd_ne npd, upd_ne npo]; exact h
    · rw [setW_ne npr, setW_ne npd]; exact N.wo
    · rw [upd_ne nps, upd_ne nr3, upd_ne nps, upd_ne nd2, upd_ne nps]; exact N.slots
end
end Fo

-- FoNode4
/-! What stands in a node's memory, its receipts, what it owes. -/
namespace Fo
open PySem PySem.Spec PyProof.Rows L2

/-! ### items and receipts as data -/
def itD (i : Item) : PyData := .tuple [.int i.number, .int i.version, .int (Vbcsah.bit i.gone), .int i.tells]
def rcD (r : Receipt) : PyData := .tuple [.int r.1, itD r.2]
theorem item_ext {x y : Item} (h1 : x.number = y.number) (h2 : x.version = y.version) (h3 : x.gone = y.gone) (h4 : x.tells = y.tells) : x = y := by
  cases x; cases y; simp only at h1 h2 h3 h4; subst h1 h2 h3 h4; rfl
theorem eqv_itD (x y : Item) : PyData.eqv (itD x) (itD y) = decide (x = y) := by
  have e : PyData.eqv (itD x) (itD y) = (((x.number : Int) == y.number) && (((x.version : Int) == y.version) && ((((Vbcsah.bit x.gone : Nat) : Int) == (Vbcsah.bit y.gone : Nat)) && (((x.tells : Int) == y.tells) && true)))) := by
    simp only [itD, PyData.eqv, PyData.eqvAll]
  rw [e]
  by_cases h : x = y
  · subst h; simp
  · rw [decide_eq_false h]
    by_cases h1 : x.number = y.number
    · by_cases h2 : x.version = y.version
      · by_cases h3 : x.gone = y.gone
        · by_cases h4 : x.tells = y.tells
          · exact absurd (item_ext h1 h2 h3 h4) h
          · have : ¬ ((x.tells : Int) = y.tells) := by omega
            simp [this]
        · have : ¬ (((Vbcsah.bit x.gone : Nat) : Int) = (Vbcsah.bit y.gone : Nat)) := fun z => h3 (bit_inj.mp z)
          simp [this]
      · have : ¬ ((x.version : Int) = y.version) := by omega
        simp [this]
    · have : ¬ ((x.number : Int) = y.number) := by omega
      simp [this]
theorem eqv_rcD (x y : Receipt) : PyData.eqv (rcD x) (rcD y) = decide (x = y) := by
  have e : PyData.eqv (rcD x) (rcD y) = (((x.1 : Int) == y.1) && (PyData.eqv (itD x.2) (itD y.2) && true)) := by
    simp only [rcD, PyData.eqv, PyData.eqvAll]
  rw [e, eqv_itD, Bool.and_true]
  obtain ⟨a, b⟩ := x
  obtain ⟨c, d⟩ := y
  by_cases h1 : a = c
  · by_cases h2 : b = d
    · simp [h1, h2]
    · simp [h2]
  · have : ¬ ((a : Int) = c) := by omega
    simp [this, h1]
theorem shaped_itD (x : Item) : SeqAt.shaped (itD x) = true := by
  simp [SeqAt.shaped, itD, PyData.canLay0, PyData.canLayAll0, PyData.depth, PyData.depthAll]
  try decide
theorem dp_it {K : PySem.W.Frag} {H : Hp} {p : Addr} {i : Item} (h : ItAt H p i) : Dp K H (.ref p) (itD i) := .tup (SqT.of h.at_) (.cons (.int _) (.cons (.int _) (.cons (.int _) (.cons (.int _) .nil))))
theorem dp_rc {K : PySem.W.Frag} {H : Hp} {p : Addr} {r : Receipt} (h : RcAt H p r) : Dp K H (.ref p) (rcD r) := let ⟨_, e, q⟩ := h; .tup (SqT.of e) (.cons (.int _) (.cons (dp_it q) .nil))
theorem dp_rcs {K : PySem.W.Frag} {H : Hp} {p : Addr} {l : List Receipt} (h : RcsAt H p l) : Dp K H (.ref p) (.list (l.map rcD)) := by
  obtain ⟨ps, e, al, z⟩ := h
  refine .lst (SqL.of e) ?_
  clear e z
  induction al with
  | nil => exact .nil
  | cons r _ ih => exact .cons (dp_rc r) ih
theorem shaped_rcD (x : Receipt) : SeqAt.shaped (rcD x) = true := by
  simp [SeqAt.shaped, rcD, itD, PyData.canLay0, PyData.canLayAll0, PyData.depth, PyData.depthAll]
  try decide
theorem shaped_rcs (l : List Receipt) : SeqAt.shaped (.list (l.map rcD)) = true := by
  have h1 : PyData.canLayAll0 (l.map rcD) = true := by
    induction l with
    | nil => rfl
    | cons x l ih =>
      simp only [List.map_cons, PyData.canLayAll0, ih, Bool.and_true]
      exact SeqAt.canLay_of_shaped (shaped_rcD x)
  have h2 : PyData.depthAll (l.map rcD) ≤ 2 := by
    clear h1
    induction l with
    | nil => simp [PyData.depthAll]
    | cons x l ih =>
      simp only [List.map_cons, PyData.depthAll]
      have : (rcD x).depth ≤ 2 := by simp [rcD, itD, PyData.depth, PyData.depthAll]
      omega
  have h3 : PyData.canLay0 (.list (l.map rcD)) = true := by simp only [PyData.canLay0, h1]
  have h4 : PyData.depth (.list (l.map rcD)) ≤ 64 := by
    simp only [PyData.depth]
    omega
  unfold SeqAt.shaped
  rw [h3, decide_eq_true h4]
  rfl
theorem any_rcD (l : List Receipt) (r : Receipt) : ((l.map rcD).any fun z => PyData.eqv z (rcD r)) = l.contains r := by
  induction l with
  | nil => rfl
  | cons x l ih =>
    simp only [List.map_cons, List.any_cons, ih, eqv_rcD, List.contains_cons]
    congr 1
    by_cases z : x = r
    · subst z; simp
    · have z' : ¬ r = x := fun q => z q.symm
      simp [z, z']

section
variable {P : Program} {w : World} {K : PySem.W.Frag} {mg : Str → Option Value} {base : Heap} {a : Ad}

def standsB (n : NodeS) (i : Item) : Bool := Vbcsah.formOf n.memory.book i.number == some i
def sp_Node_holds (a : Ad) : Sp := fun vs H Q _ => ∃ (wo : Ow) (i : Nat) (nd p pb : Addr) (dx pr po ps : Addr) (on : Bool) (b : Book) (it : Item), vs = [.ref nd, .ref p] ∧ H nd = some (.ins a.c_Node dx (ndF on pb pr po ps)) ∧ BkAt H pb b ∧ ItAt H p it ∧ Q (.bl (Vbcsah.formOf b it.number == some it)) H
theorem ok_Node_holds (T : Txt K mg a) : FnOk P w K mg base CX0 1 a.f_Node_holds a.d_Node_holds ["self", "item"] (sp_Node_holds a) := by
  refine T.F_Node_holds.ok sc_Node_holds (fun vs H Q E h => ?_) (fun cdv A outer s H vs Q E hr h => ⟨_, (pss_one (ps_ret (pe_cmpR (op_eqD hr.units) (pe_dget1 (hu_of hr) (pe_fld (pv 0) rfl) (pe_ix ix_tup (pv 1) pe_int (fun _ _ => rfl)) ⟨rfl, rfl, rfl, rfl⟩) (pv 1) (nomark _)))), ?_⟩)
  · obtain ⟨wo, i, nd, p, pb, dx, pr, po, ps, on, b, it, rfl, _⟩ := h; rfl
  · obtain ⟨wo, i, nd, p, pb, dx, pr, po, ps, on, b, it, rfl, hnd, ⟨kvs, eb, rep⟩, hit, k⟩ := h
    refine ⟨_, rfl, nd, _, dx, _, _, rfl, hnd, T.cl_Node, T.na_Node_book, rfl, pb, rfl, .inl ⟨kvs, Rd.of eb⟩, _, rfl, p, _, 0, _, rfl, rfl, SqT.of hit.at_, atI_nat (j := 0) rfl, _, dget eb rfl, _, rfl, ?_⟩
    cases e : Vbcsah.formOf b it.number with
    | none =>
      rw [rep.none e]
      rw [e] at k
      exact ⟨.none, itD it, .non, dp_it hit, rfl, shaped_itD it, k⟩
    | some y =>
      obtain ⟨py, ey, hy⟩ := rep.some e
      rw [ey]
      rw [e] at k
      refine ⟨itD y, itD it, dp_it hy, dp_it hit, shaped_itD y, shaped_itD it, ?_⟩
      rw [eqv_itD]
      have : decide (y = it) = (some y == some it) := by
        by_cases z : y = it
        · subst z; simp
        · simp [z]
      rw [this]
      exact k
end
end Fo

-- FoNode5
/-! Receipts added, owed; what comes in. -/
namespace Fo
open PySem PySem.Spec PyProof.Rows L2
section
variable {P : Program} {w : World} {K : PySem.W.Frag} {mg : Str → Option Value} {base : Heap} {a : Ad}

theorem contains_false {l : List Receipt} {r : Receipt} (h : (!l.contains r) = true) : Vbcsah.once l r = l ++ [r] := by
  unfold Vbcsah.once
  rw [if_neg (by intro z; rw [z] at h; cases h)]
theorem contains_true {l : List Receipt} {r : Receipt} (h : (!l.contains r) = false) : Vbcsah.once l r = l := by
  unfold Vbcsah.once
  rw [if_pos (by cases z : l.contains r <;> simp_all)]
/-- appended to a list of receipts -/
theorem RcsAt.app {H : Hp} {p q : Addr} {l : List Receipt} {r : Receipt} (h : RcsAt H p l) (hq : RcAt H q r) (z : l.length < LIM) : ∃ xs, H p = some (.lst xs) ∧ xs.length < sizeLine ∧ RcsAt (upd H p (.lst (xs ++ [.ref q]))) p (l ++ [r]) := by
  obtain ⟨ps, e, al, _⟩ := h
  have t : ∀ ys, Tps H (upd H p (.lst ys)) := fun ys => Tps.write e (by intro z; exact z)
  refine ⟨_, e, ?_, ps ++ [q], by rw [List.map_append]; exact upd_same, (al.imp fun _ _ r => r.up (t _)).snoc (hq.up (t _)), by rw [List.length_append]; exact z⟩
  have := al.len
  have := lim_line
  rw [List.length_map]
  omega

def recd (n : NodeS) (c : Nat) (it : Item) : NodeS := { n with memory := { n.memory with receipts := if (Vbcsah.formOf n.memory.book it.number == some it) = true then Vbcsah.once n.memory.receipts (c, it) else n.memory.receipts } }
def sp_Node_add_receipt (a : Ad) : Sp := fun vs H Q _ => ∃ (wo : Ow) (i : Nat) (nd p : Addr) (n : NodeS) (c : Nat) (it : Item), vs = [.ref nd, .int (c : Int), .ref p] ∧ NodeAt a wo H i nd n ∧ i ≠ 0 ∧ ItAt H p it ∧ n.memory.receipts.length < LIM ∧
  ∀ w' H', NodeAt a w' H' i nd (recd n c it) → Frm (Own i) wo w' H H' → Q .non H'
theorem ok_Node_add_receipt (T : Txt K mg a) : FnOk P w K mg base CX0 2 a.f_Node_add_receipt a.d_Node_add_receipt ["self", "centre", "item"] (sp_Node_add_receipt a) := by
  refine T.F_Node_add_receipt.ok sc_Node_add_receipt (fun vs H Q E h => ?_) (fun cdv A outer s H vs Q E hr h => ⟨_, (pss_cons (ps_set (i := 3) sc_Node_add_receipt.nd rfl (Or.inl rfl) (pe_tup (pa_cons (pv 1) (pa_cons (pv 2) pa_nil))))
    (pss_one (ps_if (PW.pt (pw_and (pt_val (pe_meth (pv 0) T.cl_Node T.m_Node_holds (ok_Node_holds T) hr T.b_Node_holds .nil pass0 (pa_cons (pv 2) pa_nil))) (pw_and1 (pt_cmpR (op_notInD (un65 hr)) (pv 3) (pe_fld (pv 0) rfl) (by rfl)))))
    (pss_one (ps_expr (pe_bm PySem.F.plainAttrs_list PySem.F.slot_list_append PySem.F.type_list_append mt_append (pe_fld (pv 0) rfl) (pa_cons (pv 3) pa_nil))))
    pss_nil))), ?_⟩)
  · obtain ⟨wo, i, nd, p, n, c, it, rfl, _⟩ := h; rfl
  · obtain ⟨wo, i, nd, p, n, c, it, rfl, ⟨dx, pb, pr, po, ps, s0, s1, N⟩, hi, hit, hz, k⟩ := h
    refine ⟨_, rfl, _, rfl, (by show 2 ≤ sizeLine; decide), fun t ht => ?_⟩
    have f1 : Frm (Own i) wo wo H (upd H t (.tup [.int (c : Int), .ref p])) := Frm.new ht
    have N1 : NodeA a wo (upd H t (.tup [.int (c : Int), .ref p])) i nd n dx pb pr po ps s0 s1 := N.up (k := NoB) (Frm.new ht) (fun z => z) (fun z => z)
    have hit1 := hit.up f1.tup
    have hrc : RcAt (upd H t (.tup [.int (c : Int), .ref p])) t (c, it) := ⟨p, upd_same, hit1⟩
    refine ⟨_, rfl, nd, dx, _, rfl, N1.at_, rfl, _, rfl, wo, i, nd, p, pb, dx, pr, po, ps, n.on, n.memory.book, it, rfl, N1.at_, N1.book, hit1, _, rfl, ?_⟩
    cases g : (Vbcsah.formOf n.memory.book it.number == some it) with
    | false =>
      refine iteF (iteF (k wo _ ⟨dx, pb, pr, po, ps, s0, s1, ?_⟩ f1))
      have e : recd n c it = n := by unfold recd; rw [g]; rfl
      rw [e]; exact N1
    | true =>
      refine iteT ⟨_, rfl, _, rfl, nd, _, dx, _, _, rfl, N1.at_, T.cl_Node, T.na_Node_receipts, rfl, rcD (c, it), n.memory.receipts.map rcD, dp_rc hrc, dp_rcs N1.recs, shaped_rcD _, shaped_rcs _, _, rfl, ?_⟩
      rw [any_rcD]
      cases g2 : (!n.memory.receipts.contains (c, it)) with
      | false =>
        refine iteF (k wo _ ⟨dx, pb, pr, po, ps, s0, s1, ?_⟩ f1)
        have e : recd n c it = n := by unfold recd; rw [g, if_pos rfl, contains_true g2]
        rw [e]; exact N1
      | true =>
        obtain ⟨xs, e1, z1, R⟩ := N1.recs.app hrc hz
        have f2 := f1.trans (Frm.write (p := pr) (o' := .lst (xs ++ [.ref t])) e1 (by intro z; exact z) (by rw [N.wr]))
        have n1 : nd ≠ pr := ne_own N.wn N.wr (by simp)
        have n2 : pb ≠ pr := ne_own N.wb N.wr (by simp)
        have n3 : po ≠ pr := ne_own N.wo N.wr (by simp)
        have n4 : ps ≠ pr := ne_own N.ws N.wr (by simp)
        have tp : Tps (upd H t (.tup [.int (c : Int), .ref p])) (upd (upd H t (.tup [.int (c : Int), .ref p])) pr (.lst (xs ++ [.ref t]))) := Tps.write e1 (by intro z; exact z)
        refine iteT ⟨_, rfl, nd, _, dx, _, _, rfl, N1.at_, T.cl_Node, T.na_Node_receipts, rfl, .inl ⟨rfl, _, SqL.of e1⟩, _, rfl, pr, xs, _, rfl, rfl, e1, z1, k wo _ ⟨dx, pb, pr, po, ps, s0, s1, ?_⟩ f2⟩
        have e : recd n c it = { on := n.on, memory := { book := n.memory.book, receipts := n.memory.receipts ++ [(c, it)] }, owed := n.owed, slot0 := n.slot0, slot1 := n.slot1 } := by
          unfold recd; rw [g, if_pos rfl, contains_false g2]
        rw [e]
        exact N.re f2 hi (upd_other n1 N1.at_) (N1.book.up tp fun o h => upd_other n2 h) N.wb R N.wr (N1.owed.up tp fun o h => upd_other n3 h) N.wo (upd_other n4 N1.slots)

def owes (n : NodeS) (o : Nat) (it : Item) : NodeS := { n with owed := Vbcsah.once n.owed (o, it) }
def sp_Node_owe (a : Ad) : Sp := fun vs H Q _ => ∃ (wo : Ow) (i : Nat) (nd p : Addr) (n : NodeS) (c : Nat) (it : Item), vs = [.ref nd, .int (c : Int), .ref p] ∧ NodeAt a wo H i nd n ∧ i ≠ 0 ∧ ItAt H p it ∧ n.owed.length < LIM ∧
  ∀ w' H', NodeAt a w' H' i nd (owes n c it) → Frm (Own i) wo w' H H' → Q .non H'
theorem ok_Node_owe (T : Txt K mg a) : FnOk P w K mg base CX0 1 a.f_Node_owe a.d_Node_owe ["self", "office", "item"] (sp_Node_owe a) := by
  refine T.F_Node_owe.ok sc_Node_owe (fun vs H Q E h => ?_) (fun cdv A outer s H vs Q E hr h => ⟨_, (pss_cons (ps_set (i := 3) sc_Node_owe.nd rfl (Or.inl rfl) (pe_tup (pa_cons (pv 1) (pa_cons (pv 2) pa_nil))))
    (pss_one (ps_if (pt_cmpR (op_notInD (un65 hr)) (pv 3) (pe_fld (pv 0) rfl) (by rfl))
    (pss_one (ps_expr (pe_bm PySem.F.plainAttrs_list PySem.F.slot_list_append PySem.F.type_list_append mt_append (pe_fld (pv 0) rfl) (pa_cons (pv 3) pa_nil))))
    pss_nil))), ?_⟩)
  · obtain ⟨wo, i, nd, p, n, c, it, rfl, _⟩ := h; rfl
  · obtain ⟨wo, i, nd, p, n, c, it, rfl, ⟨dx, pb, pr, po, ps, s0, s1, N⟩, hi, hit, hz, k⟩ := h
    refine ⟨_, rfl, _, rfl, (by show 2 ≤ sizeLine; decide), fun t ht => ?_⟩
    have f1 : Frm (Own i) wo wo H (upd H t (.tup [.int (c : Int), .ref p])) := Frm.new ht
    have N1 : NodeA a wo (upd H t (.tup [.int (c : Int), .ref p])) i nd n dx pb pr po ps s0 s1 := N.up (k := NoB) (Frm.new ht) (fun z => z) (fun z => z)
    have hrc : RcAt (upd H t (.tup [.int (c : Int), .ref p])) t (c, it) := ⟨p, upd_same, hit.up f1.tup⟩
    refine ⟨_, rfl, _, rfl, nd, _, dx, _, _, rfl, N1.at_, T.cl_Node, T.na_Node_owed, rfl, rcD (c, it), n.owed.map rcD, dp_rc hrc, dp_rcs N1.owed, shaped_rcD _, shaped_rcs _, _, rfl, ?_⟩
    rw [any_rcD]
    cases g2 : (!n.owed.contains (c, it)) with
    | false =>
      refine iteF (k wo _ ⟨dx, pb, pr, po, ps, s0, s1, ?_⟩ f1)
      have e : owes n c it = n := by unfold owes; rw [contains_true g2]
      rw [e]; exact N1
    | true =>
      obtain ⟨xs, e1, z1, R⟩ := N1.owed.app hrc hz
      have f2 := f1.trans (Frm.write (p := po) (o' := .lst (xs ++ [.ref t])) e1 (by intro z; exact z) (by rw [N.wo]))
      have n1 : nd ≠ po := ne_own N.wn N.wo (by simp)
      have n2 : pb ≠ po := ne_own N.wb N.wo (by simp)
      have n3 : pr ≠ po := ne_own N.wr N.wo (by simp)
      have n4 : ps ≠ po := ne_own N.ws N.wo (by simp)
      have tp : Tps (upd H t (.tup [.int (c : Int), .ref p])) (upd (upd H t (.tup [.int (c : Int), .ref p])) po (.lst (xs ++ [.ref t]))) := Tps.write e1 (by intro z; exact z)
      refine iteT ⟨_, rfl, nd, _, dx, _, _, rfl, N1.at_, T.cl_Node, T.na_Node_owed, rfl, .inl ⟨rfl, _, SqL.of e1⟩, _, rfl, po, xs, _, rfl, rfl, e1, z1, k wo _ ⟨dx, pb, pr, po, ps, s0, s1, ?_⟩ f2⟩
      have e : owes n c it = { on := n.on, memory := { book := n.memory.book, receipts := n.memory.receipts }, owed := n.owed ++ [(c, it)], slot0 := n.slot0, slot1 := n.slot1 } := by
        unfold owes; rw [contains_false g2]
      rw [e]
      exact N.re f2 hi (upd_other n1 N1.at_) (N1.book.up tp fun o h => upd_other n2 h) N.wb (N1.recs.up tp fun o h => upd_other n3 h) N.wr R N.wo (upd_other n4 N1.slots)
end
end Fo

-- FoNode6
/-! What comes into a node; a new node; what is owed to an office. -/
namespace Fo
open PySem PySem.Spec PyProof.Rows L2
section
variable {P : Program} {w : World} {K : PySem.W.Frag} {mg : Str → Option Value} {base : Heap} {a : Ad}

theorem filter_snoc {α : Type} (f : α → Bool) (l : List α) (x : α) : (l ++ [x]).filter f = l.filter f ++ (if f x = true then [x] else []) := by
  rw [List.filter_append]
  congr 1
  simp only [List.filter_cons, List.filter_nil]

/-- the items that come in one behind another; receipts for what doesn't stand any more go -/
def come (n : NodeS) (l : List Item) : NodeS := { n with memory := { book := bring n.memory.book l, receipts := n.memory.receipts.filter fun r => Vbcsah.formOf (bring n.memory.book l) r.2.number == some r.2 } }
theorem come_filled {n : NodeS} {l : List Item} (h : OkB n.memory.book) (hl : Srt l) : come n l = Vbcsah.filled n l := by
  unfold come Vbcsah.filled
  rw [bring_join h.srt hl]
def sp_Node_take_in (a : Ad) : Sp := fun vs H Q _ => ∃ (wo : Ow) (i : Nat) (nd c : Addr) (n : NodeS) (ps : List Addr) (l : List Item), vs = [.ref nd, .ref c] ∧ NodeAt a wo H i nd n ∧ i ≠ 0 ∧ SeqV H c (ps.map V.ref) ∧ Al (ItAt H) ps l ∧
  ∀ w' H', NodeAt a w' H' i nd (come n l) → Frm (Own i) wo w' H H' → Q .non H'
theorem ok_Node_take_in (T : Txt K mg a) : FnOk P w K mg base CX0 3 a.f_Node_take_in a.d_Node_take_in ["self", "coming"] (sp_Node_take_in a) := by
  refine T.F_Node_take_in.ok sc_Node_take_in (fun vs H Q E h => ?_) (fun cdv A outer s H vs Q E hr h => ⟨_, (pss_cons (ps_expr (pe_call (ok_bring_into T) hr rfl T.g_bring_into T.F_bring_into.kp T.b_bring_into .nil pass0 (pa_cons (pe_fld (pv 0) rfl) (pa_cons (pv 1) pa_nil))))
    (pss_one (ps_fld (pv 0) (pe_lc (own := [("receipt", 2)]) (g := gName 2) rfl sc_Node_take_in.nd (pi_list (pe_fld (pv 0) rfl)) (blkOk_by (N := N_Node_take_in) (sc := defScope s_Node_take_in) (by decide +kernel)) (fun _ _ _ _ _ => (pg_name (i := 2) sc_Node_take_in.nd rfl (Or.inl rfl))) (fun _ _ _ _ _ => (pts_one (pt_val (pe_meth (pv 0) T.cl_Node T.m_Node_holds (ok_Node_holds T) (hr.mono (by decide)) T.b_Node_holds .nil pass0 (pa_cons (pe_ix (r := rIxT K) ix_tup (pv 2) pe_int (fun _ _ => rfl)) pa_nil))))) (fun _ _ _ _ _ => (pv 2))) rfl))), ?_⟩)
  · obtain ⟨wo, i, nd, c, n, ps, l, rfl, _⟩ := h; rfl
  · obtain ⟨wo, i, nd, c, n, qs, l, rfl, ⟨dx, pb, pr, po, ps, s0, s1, N⟩, hi, hS, hA, k⟩ := h
    refine ⟨_, rfl, nd, _, dx, _, _, rfl, N.at_, T.cl_Node, T.na_Node_book, rfl, _, rfl, pb, c, n.memory.book, qs, l, rfl, N.book, hS, hA, ?_⟩
    intro H1 hB1 kp
    obtain ⟨kvs, eb⟩ := N.book.there
    obtain ⟨kvs1, eb1⟩ := hB1.there
    have f1 : Frm (Own i) wo wo H H1 := Frm.only eb (by intro z; exact z) (by rw [N.wb]) eb1 kp
    have n1 : nd ≠ pb := ne_own N.wn N.wb (by simp)
    have n2 : pr ≠ pb := ne_own N.wr N.wb (by simp)
    have n3 : po ≠ pb := ne_own N.wo N.wb (by simp)
    have n4 : ps ≠ pb := ne_own N.ws N.wb (by simp)
    have hnd1 := kp _ _ N.at_ n1
    obtain ⟨rs, er, ar, zr⟩ := N.recs
    have er1 := kp _ _ er n2
    refine ⟨_, rfl, nd, _, dx, _, _, rfl, hnd1, T.cl_Node, T.na_Node_receipts, rfl, pr, rfl, ⟨_, SqL.of er1⟩, fun D hD => ?_⟩
    have s1 : Same H1 (upd H1 D (.lst [])) := fun x o h => by rw [upd_ne (ne_of_none h hD)]; exact h
    refine lc_list (K := K) (a := pr) (xs := rs.map V.ref) (fun j H' => Same H1 H' ∧ ∃ ds, H' D = some (.lst (ds.map V.ref)) ∧ Al (RcAt H') ds ((n.memory.receipts.take j).filter fun r => Vbcsah.formOf (bring n.memory.book l) r.2.number == some r.2))
      ⟨s1, [], upd_same, .nil⟩ (fun j H' _ h => SqL.of (h.1 _ _ er1)) ?_ ?_
    · rintro j x H' hx ⟨sm, ds, eD, aD⟩
      obtain ⟨q, hq, rfl⟩ := refs_get hx
      obtain ⟨rc, hrc, q0⟩ := ar.get hq
      have q1 : RcAt H' q rc := (q0.up f1.tup).up (Same.tps sm)
      obtain ⟨pit, eq, hit⟩ := id q1
      have hlen : ds.length < sizeLine := by
        rw [aD.len]
        refine Nat.lt_of_le_of_lt (Nat.le_trans (List.length_filter_le _ _) ?_) lim_line
        rw [List.length_take]
        exact Nat.le_trans (Nat.min_le_right _ _) zr
      refine ⟨rfl, _, rfl, nd, dx, _, rfl, sm _ _ hnd1, rfl, _, rfl, q, _, 1, _, rfl, rfl, SqT.of eq, atI_nat (j := 1) rfl, ?_⟩
      refine ⟨wo, i, nd, pit, pb, dx, pr, po, ps, n.on, bring n.memory.book l, rc.2, rfl, sm _ _ hnd1, hB1.up (Same.tps sm) (fun o h => sm _ _ h), hit, _, rfl, ?_⟩
      have eF := filter_snoc (fun r : Receipt => Vbcsah.formOf (bring n.memory.book l) r.2.number == some r.2) (n.memory.receipts.take j) rc
      rw [← take_snoc hrc] at eF
      cases g : (Vbcsah.formOf (bring n.memory.book l) rc.2.number == some rc.2) with
      | true =>
        have t2 : ∀ ys, Tps H' (upd H' D (.lst ys)) := fun ys => Tps.write eD (by intro z; exact z)
        refine iteT ⟨_, rfl, _, eD, by rw [List.length_map]; exact hlen, fun x o h => ?_, ds ++ [q], by rw [List.map_append]; exact upd_same, ?_⟩
        · rw [upd_ne (ne_of_none h hD)]; exact sm _ _ h
        · rw [eF, if_pos g]
          exact (aD.imp fun _ _ r => r.up (t2 _)).snoc (q1.up (t2 _))
      | false =>
        refine iteF ⟨sm, ds, eD, ?_⟩
        rw [eF, if_neg (by rw [g]; exact Bool.false_ne_true), List.append_nil]
        exact aD
    · rintro H2 ⟨sm, ds, eD, aD⟩
      rw [List.length_map, ar.len, List.take_length] at aD
      have f2 : Frm (Own i) wo (setW wo D (i, 2)) H H2 := by
        refine f1.trans ⟨fun b o h _ => sm _ _ h, fun b xs h => sm _ _ h, fun b o h => setW_ne (ne_of_none h hD), fun b o h => ⟨o, sm _ _ h⟩⟩
      have hnd2 := sm _ _ hnd1
      refine ⟨_, rfl, nd, _, dx, _, rfl, hnd2, T.cl_Node, T.na_Node_receipts, (by show 5 < 1000; decide), ?_⟩
      have nD : ∀ {x : Addr} {o : HO}, H x = some o → x ≠ pb → x ≠ D := fun h hn => ne_of_none (kp _ _ h hn) hD
      have wnd : setW wo D (i, 2) nd = (i, 0) := by rw [setW_ne (nD N.at_ n1)]; exact N.wn
      have f3 := f2.trans (Frm.write (p := nd) (o' := .ins a.c_Node dx (ndF n.on pb D po ps)) hnd2 (by intro z; exact z) (by rw [wnd]))
      obtain ⟨xo, eo⟩ := N.owed.there
      have m1 : pb ≠ nd := Ne.symm n1
      have m2 : po ≠ nd := ne_own N.wo N.wn (by simp)
      have m3 : ps ≠ nd := ne_own N.ws N.wn (by simp)
      have m4 : D ≠ nd := (nD N.at_ n1).symm
      have m5 : pb ≠ D := ne_of_none eb1 hD
      have tp : Tps H2 (upd H2 nd (.ins a.c_Node dx (ndF n.on pb D po ps))) := Tps.write hnd2 (by intro z; exact z)
      refine k _ _ ⟨dx, pb, D, po, ps, s0, _, N.re (on := n.on) f3 hi upd_same ?_ ?_ ⟨ds, upd_other m4 eD, aD.imp fun _ _ r => r.up tp, ?_⟩ setW_same (N.owed.up f3.tup fun o h => ?_) ?_ ?_⟩ f3
      · exact hB1.up ((Same.tps sm).trans tp) (fun o h => upd_other m1 (sm _ _ h))
      · rw [setW_ne m5]; exact N.wb
      · exact Nat.le_trans (List.length_filter_le _ _) zr
      · exact upd_other m2 (sm _ _ (kp _ _ h n3))
      · rw [setW_ne (nD eo n3)]; exact N.wo
      · exact upd_other m3 (sm _ _ (kp _ _ N.slots n4))
end
end Fo

-- FoSet
/-! set(xs) of a list of whole numbers. -/
namespace Fo
open PySem PySem.Spec PyProof.Rows L2

/-- the set's object as it is made -/
abbrev set0 (w : World) : Obj := { cls := .type "set", dict := none, data := .set #[] 0 (.fresh 0 0 (!w.params.followText "set-order")) }
section
variable {P : Program} {w : World} {A : Around} {E : Value → Shared → Prop} {s : Shared}
set_option maxHeartbeats 6400000 in
theorem set_of_list {l : Addr} {vs : Array Value} (ns : List Int) {Q : Value → Shared → Prop} (calm : A.handled = none) (isl : s.heap.IsList l vs) (its : IntsAre vs.toList ns) (few : ns.length + 1 < scanBound)
    (k : ∀ (h' : Heap) (tk c : Nat), SetR w h' s.heap.objs.size (fun j => decide (j ∈ ns)) c → c ≤ ns.length → (∀ b o, s.heap.get? b = some o → h'.get? b = some o) → Q (.ref s.heap.objs.size) { s with heap := h', toks := tk }) :
    wpAny (model P w) A (call (.type "set") [.ref l]) Q E s := by
  have size_eq : vs.size = ns.length := by
    rw [← IntsAre.length its, Array.length_toList]
  obtain ⟨cm, tm, mro⟩ := PySem.F.called_set.mro
  have made_ := PySem.F.called_set.made
  have sub_ := PySem.F.called_set.sub
  refine wpAny_call (codeAny_of_tree ?_)
  show wpAny _ _ (callAny (.type "set") ⟨[.ref l], []⟩) _ _ s
  refine wpAny_pure ⟨Code.quiet_builtin _ (by decide +kernel), codeAny_builtin PySem.F.entry_type_call ?_⟩
  rw [Around.under_plain (weight_type_call_type "set" [.ref l] []) rfl]
  have nt := PySem.F.called_set.notType
  have cc := PySem.F.called_set.canCreate
  have tc := PySem.F.typeCall_set_1 (.ref l)
  repeat (any_goals (first | assumption | wp_step))
  refine codeAny_mono (code_set_led1 (.ref l) (E := E) (Q₁ := fun ob t => ob = .ref s.heap.objs.size ∧ t = { s with heap := s.heap.push (set0 w) }) ⟨rfl, rfl⟩) fun r s1 r1 => ?_
  cases r with
  | error e => exact r1
  | ok fl =>
    cases fl with
    | next => exact r1.elim
    | brk => exact r1.elim
    | cont => exact r1.elim
    | ret ob =>
      obtain ⟨rfl, rfl⟩ := r1
      have at_ : (s.heap.push (set0 w)).get? s.heap.objs.size = some (set0 w) := Heap.get?_push_size _ rfl
      have ty : Shared.TypeIs { s with heap := s.heap.push (set0 w) } (.ref s.heap.objs.size) "set" := ⟨_, at_, rfl⟩
      have lk := PySem.F.called_set.init.lookup
      have bd := PySem.F.called_set.init.bind (.ref s.heap.objs.size)
      repeat (any_goals (first | assumption | wp_step))
      refine codeAny_mono (codeAny_call_builtin (R := wants (fun r t => r = .none ∧ ∃ h' tk c, t = { s with heap := h', toks := tk } ∧ SetR w h' s.heap.objs.size (fun j => decide (j ∈ ns)) c ∧ c ≤ ns.length ∧ (∀ b o, s.heap.get? b = some o → h'.get? b = some o)) E)
        PySem.F.called_set.init.plain PySem.F.entry_set_init (check_set_init_1 ty ?_)) fun r2 s2 q2 => ?_
      · obtain ⟨⟨oc, od, odt, osl⟩, ol, hc, nl, hd⟩ := isl
        simp only at hc hd
        subst hc
        subst hd
        have ol1 : (s.heap.push (set0 w)).get? l = some { cls := .type "list", dict := od, data := .seq vs nl, slots := osl } := Heap.get?_push_of_some _ ol
        have g1 := PySem.F.sub_list_set
        have g2 := PySem.F.sub_list_frozenset
        have g3 : (Value.type "list" == Value.type "dict") = false := by decide
        have isl1 : (s.heap.push (set0 w)).IsList l vs := ⟨_, ol1, rfl, nl, rfl⟩
        unfold Builtin.«set.__init__» noKeywords Builtin.Frozenset.updateFrom
        generalize it_ : pyIter = iter
        wp_walk
        subst it_
        refine wpAny_pyIter_list isl1 ?_
        refine wpAny_bind (wpAny_runValue ?_)
        have lt : l < s.heap.objs.size := Heap.lt_size ol
        have calm3 : A.in1.in1.in1.handled = none := by simp [calm]
        have n1 : l ≠ (s.heap.push (set0 w)).objs.size := by
          rw [Heap.size_push]
          exact Nat.ne_of_lt (Nat.lt_succ_of_lt lt)
        have n2 : s.heap.objs.size ∉ [(s.heap.push (set0 w)).objs.size, l] := by
          rw [Heap.size_push]
          simp only [List.mem_cons, List.not_mem_nil, or_false, not_or]
          exact ⟨Nat.ne_of_lt (Nat.lt_succ_self _), (Nat.ne_of_lt lt).symm⟩
        have vals : ∀ (i : Nat) (v : Value), vs[i]? = some v → ∃ k t, ns[i]? = some k ∧ v = .int k t := fun i v hv => by
          have lt_i : i < ns.length := by
            rw [← size_eq]
            exact (Array.getElem?_eq_some_iff.mp hv).1
          obtain ⟨t, e⟩ := PyProof.Rows.IntsAre.int_at its i v (by rw [Array.getElem?_toList]; exact hv)
          refine ⟨ns[i], t, List.getElem?_eq_getElem lt_i, e.trans ?_⟩
          rw [List.getD_eq_getElem?_getD, List.getElem?_eq_getElem lt_i] <;> rfl
        refine set_update_ints ((Walks.list calm3 _ l n1 vs).toS) s.heap.objs.size n2 ns size_eq few vals (vs.size - 0) 0 _ (by omega) (Nat.zero_le _) ⟨⟨_, Heap.get?_push_size _ rfl, rfl, rfl⟩, (isl1.push _)⟩ ?first ?last
        case first =>
          exact ⟨0, Nat.le_refl 0, setR_new_at (Heap.get?_push_of_some _ at_)⟩
        case last =>
          intro t c hm hc hS
          obtain ⟨h', g', d', tk', os'⟩ := t
          have eg : g' = s.gens := hm.gens
          have ed : d' = s.drawn := hm.drawn
          have eo : os' = s.os := hm.os
          subst eg
          subst ed
          subst eo
          refine wpAny_pure ?_
          show wpAny _ _ (ret Value.none) _ _ _
          rw [size_eq] at hc
          refine wpAny_pure ⟨rfl, h', tk', c, rfl, hS, hc, fun b o e => ?_⟩
          have b0 : b < s.heap.objs.size := Heap.lt_size e
          have b2 : b ≠ (s.heap.push (set0 w)).objs.size := by
            rw [Heap.size_push]
            exact Nat.ne_of_lt (Nat.lt_succ_of_lt b0)
          refine hm.heap b o ?_ (Heap.get?_push_of_some _ (Heap.get?_push_of_some _ e))
          simp only [List.mem_cons, List.not_mem_nil, or_false, not_or]
          exact ⟨Nat.ne_of_lt b0, b2⟩
      · cases r2 with
        | error e => exact q2
        | ok f2 =>
          cases f2 with
          | next => exact q2.elim
          | brk => exact q2.elim
          | cont => exact q2.elim
          | ret r =>
            obtain ⟨rfl, h', tk, c, rfl, hS, hc, hk⟩ := q2
            repeat (any_goals (first | assumption | wp_step))
            exact k _ _ _ hS hc hk
end
theorem nodup_le : ∀ {l m : List Int}, l.Nodup → (∀ x ∈ l, x ∈ m) → l.length ≤ m.length
  | [], _, _, _ => Nat.zero_le _
  | x :: l, m, nd, h => by
    have hx := h x (List.mem_cons_self ..)
    have nd2 := List.nodup_cons.mp nd
    have ih := nodup_le (l := l) (m := m.erase x) nd2.2 fun y hy => by
      have hne : y ≠ x := fun z => nd2.1 (by rw [← z]; exact hy)
      exact (List.mem_erase_of_ne hne).mpr (h y (List.mem_cons_of_mem _ hy))
    rw [List.length_erase_of_mem hx] at ih
    have : 0 < m.length := List.length_pos_of_mem hx
    rw [List.length_cons]
    omega
/-- set(xs), xs a list of whole numbers; it has no more than any list that has them all -/
def rSetL (K : PySem.W.Frag) (w : World) : List V → Hp → VK → Prop := fun xs H Q => ∃ (l : Addr) (ns : List Int), xs = [.ref l] ∧ SqL K H l (ns.map V.int) ∧ ns.length + 1 < scanBound ∧
  ∀ p c, H p = none → (∀ m : List Int, (∀ j ∈ ns, j ∈ m) → c ≤ m.length) → Q (.ref p) (upd H p (SetO w p (fun j => decide (j ∈ ns)) c))
theorem call_setL {X : Cx} (hc : X.calm = true) : CallR X (.type "set") (rSetL X.K X.w) := by
  intro pins s σ H xs us Q I r h
  obtain ⟨l, ns, rfl, hl, few, q⟩ := h
  obtain rfl := Vals.ref1 r
  obtain ⟨its, rv, pl, hz⟩ := I.list hl
  refine set_of_list (vs := its.toArray) ns (I.ok.hd hc) pl.isList (intsAre_of rv) few fun h' tk c hS hc2 kp => ?_
  refine ⟨.ref s.heap.objs.size, _, I.laid (t' := tk) kp (Nat.le_refl _) (setO_new hS), rfl, q _ _ (I.hok.fresh (Nat.le_refl _)) fun m hm => ?_⟩
  obtain ⟨o, es, ep, t, _, _, _, _, nd, mem, _, _, ez, _⟩ := hS
  have := nodup_le nd fun x hx => hm x (of_decide_eq_true ((mem x).mpr hx))
  rw [List.length_map, Array.length_toList, ez] at this
  exact this
end Fo

-- FoNode7
/-! What is owed to an office, to which offices; a new node. -/
namespace Fo
open PySem PySem.Spec PyProof.Rows L2
section
variable {P : Program} {w : World} {K : PySem.W.Frag} {mg : Str → Option Value} {base : Heap} {a : Ad}

theorem owedTo_snoc (l : List Receipt) (r : Receipt) (o : Nat) : ((l ++ [r]).filter fun r => r.1 == o).map (fun r => r.2) = ((l.filter fun r => r.1 == o).map fun r => r.2) ++ (if (r.1 == o) = true then [r.2] else []) := by
  rw [filter_snoc, List.map_append]
  congr 1
  split <;> rfl
def sp_Node_items_owed (a : Ad) : Sp := fun vs H Q _ => ∃ (wo : Ow) (i : Nat) (nd : Addr) (n : NodeS) (o : Nat), vs = [.ref nd, .int (o : Int)] ∧ NodeAt a wo H i nd n ∧ ∀ H' q, NewIts H H' q (Vbcsah.owedTo n o) → Q (.ref q) H'
theorem ok_Node_items_owed (T : Txt K mg a) : FnOk P w K mg base CX0 1 a.f_Node_items_owed a.d_Node_items_owed ["self", "office"] (sp_Node_items_owed a) := by
  refine T.F_Node_items_owed.ok sc_Node_items_owed (fun vs H Q E h => ?_) (fun cdv A outer s H vs Q E hr h => ⟨_, (pss_one (ps_ret (pe_lc (own := [("receipt", 2)]) (g := gName 2) rfl sc_Node_items_owed.nd (pi_list (pe_fld (pv 0) rfl)) (blkOk_by (N := N_Node_items_owed) (sc := defScope s_Node_items_owed) (by decide +kernel)) (fun _ _ _ _ _ => (pg_name (i := 2) sc_Node_items_owed.nd rfl (Or.inl rfl))) (fun _ _ _ _ _ => (pts_one (pt_cmpR op_eq (pe_ix (r := rIxT K) ix_tup (pv 2) pe_int (fun _ _ => rfl)) (pv 1) (nomark _)))) (fun _ _ _ _ _ => (pe_ix (r := rIxT K) ix_tup (pv 2) pe_int (fun _ _ => rfl)))))), ?_⟩)
  · obtain ⟨wo, i, nd, n, o, rfl, _⟩ := h; rfl
  · obtain ⟨wo, i, nd, n, o, rfl, ⟨dx, pb, pr, po, ps, s0, s1, N⟩, k⟩ := h
    obtain ⟨qs, eq, aq, zq⟩ := N.owed
    refine ⟨_, rfl, nd, _, dx, _, _, rfl, N.at_, T.cl_Node, T.na_Node_owed, rfl, po, rfl, ⟨_, SqL.of eq⟩, fun D hD => ?_⟩
    refine lc_list (K := K) (a := po) (xs := qs.map V.ref) (fun j H' => Same H H' ∧ ∃ ds, H' D = some (.lst (ds.map V.ref)) ∧ Al (ItAt H') ds (((n.owed.take j).filter fun r => r.1 == o).map fun r => r.2))
      ⟨fun x o h => by rw [upd_ne (ne_of_none h hD)]; exact h, [], upd_same, .nil⟩ (fun j H' _ h => SqL.of (h.1 _ _ eq)) ?_ ?_
    · rintro j x H' hx ⟨sm, ds, eD, aD⟩
      obtain ⟨q, hq, rfl⟩ := refs_get hx
      obtain ⟨rc, hrc, q0⟩ := aq.get hq
      obtain ⟨pit, ep, hit⟩ := q0.up (Same.tps sm)
      have eF := owedTo_snoc (n.owed.take j) rc o
      rw [← take_snoc hrc] at eF
      refine ⟨rfl, _, rfl, q, _, 0, _, rfl, rfl, SqT.of ep, atI_nat (j := 0) rfl, _, rfl, rfl, _, rfl, ?_⟩
      have ed : decide (V.int (rc.1 : Int) = V.int (o : Int)) = (rc.1 == o) := by
        by_cases z : rc.1 = o
        · simp [z]
        · have : ¬ (V.int (rc.1 : Int) = V.int (o : Int)) := fun q => z (by have := V.int.inj q; omega)
          simp [z, this]
      rw [ed]
      cases g : (rc.1 == o) with
      | true =>
        have t2 : ∀ ys, Tps H' (upd H' D (.lst ys)) := fun ys => Tps.write eD (by intro z; exact z)
        refine iteT ⟨_, rfl, q, _, 1, _, rfl, rfl, SqT.of ep, atI_nat (j := 1) rfl, _, eD, ?_, fun x o h => ?_, ds ++ [pit], by rw [List.map_append]; exact upd_same, ?_⟩
        · rw [List.length_map, aD.len, List.length_map]
          refine Nat.lt_of_le_of_lt (Nat.le_trans (List.length_filter_le _ _) ?_) lim_line
          rw [List.length_take]
          exact Nat.le_trans (Nat.min_le_right _ _) zq
        · rw [upd_ne (ne_of_none h hD)]; exact sm _ _ h
        · rw [eF, if_pos g]
          exact (aD.imp fun _ _ r => r.up (t2 _)).snoc (hit.up (t2 _))
      | false =>
        refine iteF ⟨sm, ds, eD, ?_⟩
        rw [eF, if_neg (by rw [g]; exact Bool.false_ne_true), List.append_nil]
        exact aD
    · rintro H2 ⟨sm, ds, eD, aD⟩
      rw [List.length_map, aq.len, List.take_length] at aD
      exact k H2 D ⟨sm, hD, ds, eD, aD⟩

/-- the offices to which something is owed, ascending, among the first so many -/
def offsOf (l : List Receipt) (off : Nat) : List Nat := (List.range off).filter fun o => !((l.filter fun r => r.1 == o).map fun r => r.2).isEmpty
theorem offs_mem {l : List Receipt} {off : Nat} (h : ∀ r ∈ l, r.1 < off) (k : Nat) : k ∈ offsOf l off ↔ ∃ r ∈ l, r.1 = k := by
  unfold offsOf
  rw [List.mem_filter, List.mem_range]
  constructor
  · rintro ⟨_, e⟩
    cases q : (l.filter fun r => r.1 == k) with
    | nil => rw [q] at e; simp at e
    | cons x xs =>
      have : x ∈ l.filter fun r => r.1 == k := by rw [q]; exact List.mem_cons_self ..
      exact ⟨x, (List.mem_filter.mp this).1, by simpa using (List.mem_filter.mp this).2⟩
  · rintro ⟨r, hr, rfl⟩
    refine ⟨h r hr, ?_⟩
    have : r ∈ l.filter fun x => x.1 == r.1 := List.mem_filter.mpr ⟨hr, by simp⟩
    cases q : (l.filter fun x => x.1 == r.1) with
    | nil => rw [q] at this; cases this
    | cons x xs => rfl
theorem range_lt (n : Nat) : (List.range n).Pairwise (· < ·) := List.pairwise_lt_range
theorem sorted_offs {ns : List Int} {l : List Receipt} {off : Nat} (h : ∀ r ∈ l, r.1 < off) (hs : ns.Pairwise (· < ·)) (hm : ∀ k : Int, k ∈ ns ↔ k ∈ l.map fun r => (r.1 : Int)) : ns = (offsOf l off).map fun k : Nat => (k : Int) := by
  have s2 : ((offsOf l off).map fun k : Nat => (k : Int)).Pairwise (· < ·) := List.Pairwise.map _ (fun x y h => by omega) (List.Pairwise.filter _ (range_lt off))
  have nd1 : ns.Nodup := hs.imp fun h => by omega
  have nd2 : ((offsOf l off).map fun k : Nat => (k : Int)).Nodup := s2.imp fun h => by omega
  have p : ns.Perm ((offsOf l off).map fun k : Nat => (k : Int)) := by
    refine (List.perm_ext_iff_of_nodup nd1 nd2).mpr fun k => ?_
    rw [hm, List.mem_map, List.mem_map]
    constructor
    · rintro ⟨r, hr, rfl⟩
      exact ⟨r.1, (offs_mem h r.1).mpr ⟨r, hr, rfl⟩, rfl⟩
    · rintro ⟨m, hm2, rfl⟩
      obtain ⟨r, hr, e⟩ := (offs_mem h m).mp hm2
      exact ⟨r, hr, by rw [e]⟩
  exact p.eq_of_pairwise (fun x y _ _ h1 h2 => by omega) (hs.imp fun h => Int.le_of_lt h) (s2.imp fun h => Int.le_of_lt h)
def sp_Node_offices_owed (a : Ad) : Sp := fun vs H Q _ => ∃ (wo : Ow) (i : Nat) (nd : Addr) (n : NodeS) (off : Nat), vs = [.ref nd] ∧ NodeAt a wo H i nd n ∧ (∀ r ∈ n.owed, r.1 < off) ∧ off ≤ 4 ∧ n.owed.length ≤ 4090 ∧
  ∀ H' q, NewInts H H' q ((offsOf n.owed off).map fun k : Nat => (k : Int)) → Q (.ref q) H'
theorem ok_Node_offices_owed (T : Txt K mg a) : FnOk P w K mg base CX0 1 a.f_Node_offices_owed a.d_Node_offices_owed ["self"] (sp_Node_offices_owed a) := by
  refine T.F_Node_offices_owed.ok sc_Node_offices_owed (fun vs H Q E h => ?_) (fun cdv A outer s H vs Q E hr h => ⟨_, (pss_one (ps_ret (pe_callB (cr_sortedSet rfl) (by rfl) T.n_sorted (by decide +kernel) (pa_cons (pe_callTy (call_setL rfl) (by rfl) T.n_set (by decide +kernel) (pa_cons (pe_lc (own := [("receipt", 1)]) (g := gName 1) (tt := tYes) rfl sc_Node_offices_owed.nd (pi_list (pe_fld (pv 0) rfl)) (blkOk_by (N := N_Node_offices_owed) (sc := defScope s_Node_offices_owed) (by decide +kernel)) (fun _ _ _ _ _ => (pg_name (i := 1) sc_Node_offices_owed.nd rfl (Or.inl rfl))) (fun _ _ _ _ _ => pts_nil) (fun _ _ _ _ _ => (pe_ix (r := rIxT K) ix_tup (pv 1) pe_int (fun _ _ => rfl)))) pa_nil)) pa_nil)))), ?_⟩)
  · obtain ⟨wo, i, nd, n, off, rfl, _⟩ := h; rfl
  · obtain ⟨wo, i, nd, n, off, rfl, ⟨dx, pb, pr, po, ps, s0, s1, N⟩, hlt, h4, hz, k⟩ := h
    obtain ⟨qs, eq, aq, zq⟩ := N.owed
    refine ⟨_, rfl, nd, _, dx, _, _, rfl, N.at_, T.cl_Node, T.na_Node_owed, rfl, po, rfl, ⟨_, SqL.of eq⟩, fun D hD => ?_⟩
    refine lc_list (K := K) (a := po) (xs := qs.map V.ref) (fun j H' => Same H H' ∧ H' D = some (.lst (((n.owed.take j).map fun r => (r.1 : Int)).map V.int)))
      ⟨fun x o h => by rw [upd_ne (ne_of_none h hD)]; exact h, upd_same⟩ (fun j H' _ h => SqL.of (h.1 _ _ eq)) ?_ ?_
    · rintro j x H' hx ⟨sm, eD⟩
      obtain ⟨q, hq, rfl⟩ := refs_get hx
      obtain ⟨rc, hrc, q0⟩ := aq.get hq
      obtain ⟨pit, ep, hit⟩ := q0.up (Same.tps sm)
      refine ⟨rfl, tYesI ?_⟩
      refine iteT ?_
      refine ⟨_, rfl, q, _, 0, _, rfl, rfl, SqT.of ep, atI_nat (j := 0) rfl, _, eD, ?_, fun x o h => ?_, ?_⟩
      · rw [List.length_map, List.length_map, List.length_take]
        have := lim_line
        have := Nat.min_le_right j n.owed.length
        have : LIM = 8000000 := rfl
        omega
      · rw [upd_ne (ne_of_none h hD)]; exact sm _ _ h
      · rw [upd_same, take_snoc hrc, List.map_append, List.map_append]; rfl
    · rintro H2 ⟨sm, eD⟩
      rw [List.length_map, aq.len, List.take_length] at eD
      refine ⟨D, n.owed.map fun r => (r.1 : Int), rfl, SqL.of eD, by rw [List.length_map]; show n.owed.length + 1 < 4096; omega, fun p c hp hc => ?_⟩
      have c4 : c ≤ 4 := by
        have := hc ((List.range 4).map fun k : Nat => (k : Int)) fun j hj => by
          obtain ⟨r, hr2, rfl⟩ := List.mem_map.mp hj
          exact List.mem_map.mpr ⟨r.1, List.mem_range.mpr (Nat.lt_of_lt_of_le (hlt r hr2) h4), rfl⟩
        simpa using this
      refine ⟨p, _, c, rfl, upd_same, by omega, fun ns q hs hm hl hq => ?_⟩
      have e := sorted_offs hlt hs (fun k => (hm k).trans (by simp))
      subst e
      have nq : q ≠ p := fun z => by subst z; rw [upd_same] at hq; cases hq
      have hq2 : H2 q = none := by rw [upd_ne nq] at hq; exact hq
      refine k _ q ⟨fun x o h => ?_, Same.free sm hq2, upd_same⟩
      have h2 := sm _ _ h
      rw [upd_ne (ne_of_none h2 hq2), upd_ne (ne_of_none h2 hp)]; exact h2
end
end Fo

-- FoNode8
/-! A new node. -/
namespace Fo
open PySem PySem.Spec PyProof.Rows L2
section
variable {P : Program} {w : World} {K : PySem.W.Frag} {mg : Str → Option Value} {base : Heap} {a : Ad}

abbrev pF1 (_ : Unit) : List (Str × V) := putF "power" (.bl true) []
abbrev pF2 (d : Addr) : List (Str × V) := putF "book" (.ref d) (pF1 ())
abbrev pF3 (d r : Addr) : List (Str × V) := putF "receipts" (.ref r) (pF2 d)
abbrev pF4 (d r o : Addr) : List (Str × V) := putF "owed" (.ref o) (pF3 d r)
theorem SlotV.own {wo w' : Ow} {H : Hp} {s : Addr} {q : Nat} {c : Content} (h : SlotV a wo H s q c) (e : ∀ b o, H b = some o → w' b = wo b) : SlotV a w' H s q c := by
  obtain ⟨dx, pb, pr, e1, w1, hb, w2, hr, w3⟩ := h
  obtain ⟨kb, eb⟩ := hb.there
  obtain ⟨kr, er⟩ := hr.there
  exact ⟨dx, pb, pr, e1, (e _ _ e1).trans w1, hb, (e _ _ eb).trans w2, hr, (e _ _ er).trans w3⟩
def sp_Node_init (a : Ad) : Sp := fun vs H Q _ => ∃ (wo : Ow) (i : Nat) (nd dx : Addr), vs = [.ref nd] ∧ H nd = some (.ins a.c_Node dx []) ∧ wo nd = (i, 0) ∧ i ≠ 0 ∧
  ∀ w' H', NodeAt a w' H' i nd {} → Frm (Own i) wo w' H H' → Q .non H'
theorem ok_Node_init (T : Txt K mg a) : FnOk P w K mg base CX0 3 a.f_Node_init a.d_Node_init ["self"] (sp_Node_init a) := by
  refine T.F_Node_init.ok sc_Node_init (fun vs H Q E h => ?_) (fun cdv A outer s H vs Q E hr h => ⟨_, (pss_cons (ps_fld (pv 0) pe_bl rfl)
    (pss_cons (ps_fld (pv 0) pe_dnewK rfl)
    (pss_cons (ps_fld (pv 0) (pe_lst pa_nil) rfl)
    (pss_cons (ps_fld (pv 0) (pe_lst pa_nil) rfl)
    (pss_one (ps_fld (pv 0) (pe_lst (pa_cons (pe_make T.M_Slot (ok_Slot_init T) hr rfl T.g_Slot T.b_Slot_init .nil pass0 (pa_cons pe_int (pa_cons pe_dnewK (pa_cons (pe_lst pa_nil) pa_nil)))) (pa_cons (pe_make T.M_Slot (ok_Slot_init T) hr rfl T.g_Slot T.b_Slot_init .nil pass0 (pa_cons pe_int (pa_cons pe_dnewK (pa_cons (pe_lst pa_nil) pa_nil)))) pa_nil))) rfl)))))), ?_⟩)
  · obtain ⟨wo, i, nd, dx, rfl, _⟩ := h; rfl
  · obtain ⟨wo, i, nd, dx, rfl, hnd, wn, hi, k⟩ := h
    have h0 : ¬ Own i 0 := fun z => hi z.symm
    refine ⟨_, rfl, nd, _, dx, _, rfl, hnd, T.cl_Node, T.na_Node_power, (by show 0 < 1000; decide), ?_⟩
    have f1 : Frm (Own i) wo wo H (upd H nd (.ins a.c_Node dx [("power", .bl true)])) := Frm.write hnd (by intro z; exact z) (by rw [wn])
    refine fun d hd => ?_
    have f2 := f1.trans (Frm.laid (i, 1) (o := .dK []) hd)
    have nd1 : d ≠ nd := fun z => by subst z; rw [upd_same] at hd; cases hd
    refine ⟨_, rfl, nd, _, dx, _, rfl, upd_other (Ne.symm nd1) upd_same, T.cl_Node, T.na_Node_book, (by show 1 < 1000; decide), ?_⟩
    have f3 := f2.trans (Frm.write (p := nd) (o' := .ins a.c_Node dx [("power", .bl true), ("book", .ref d)]) (upd_other (Ne.symm nd1) upd_same) (by intro z; exact z) (by rw [setW_ne (Ne.symm nd1), wn]))
    refine ⟨(by show 0 ≤ sizeLine; decide), fun r hr2 => ?_⟩
    have nr1 : r ≠ nd := fun z => by subst z; rw [upd_same] at hr2; cases hr2
    have nr2 : r ≠ d := fun z => by subst z; rw [upd_ne nr1, upd_same] at hr2; cases hr2
    have f4 := f3.trans (Frm.laid (i, 2) (o := .lst []) hr2)
    refine ⟨_, rfl, nd, _, dx, _, rfl, upd_other (Ne.symm nr1) upd_same, T.cl_Node, T.na_Node_receipts, (by show 2 < 1000; decide), ?_⟩
    have f5 := f4.trans (Frm.write (p := nd) (o' := .ins a.c_Node dx [("power", .bl true), ("book", .ref d), ("receipts", .ref r)]) (upd_other (Ne.symm nr1) upd_same) (by intro z; exact z) (by rw [setW_ne (Ne.symm nr1), setW_ne (Ne.symm nd1), wn]))
    refine ⟨(by show 0 ≤ sizeLine; decide), fun o ho => ?_⟩
    have no1 : o ≠ nd := fun z => by subst z; rw [upd_same] at ho; cases ho
    have no2 : o ≠ r := fun z => by subst z; rw [upd_ne no1, upd_same] at ho; cases ho
    have no3 : o ≠ d := fun z => by subst z; rw [upd_ne no1, upd_ne no2, upd_ne no1, upd_same] at ho; cases ho
    have f6 := f5.trans (Frm.laid (i, 3) (o := .lst []) ho)
    refine ⟨_, rfl, nd, _, dx, _, rfl, upd_other (Ne.symm no1) upd_same, T.cl_Node, T.na_Node_owed, (by show 3 < 1000; decide), ?_⟩
    have f7 := f6.trans (Frm.write (p := nd) (o' := .ins a.c_Node dx [("power", .bl true), ("book", .ref d), ("receipts", .ref r), ("owed", .ref o)]) (upd_other (Ne.symm no1) upd_same) (by intro z; exact z)
      (by rw [setW_ne (Ne.symm no1), setW_ne (Ne.symm nr1), setW_ne (Ne.symm nd1), wn]))
    -- what stands now
    generalize hH7 : upd (upd (upd (upd (upd (upd (upd H nd (.ins a.c_Node dx (pF1 ()))) d (.dK [])) nd (.ins a.c_Node dx (pF2 d))) r (.lst [])) nd (.ins a.c_Node dx (pF3 d r))) o (.lst [])) nd (.ins a.c_Node dx (pF4 d r o)) = H7
    have g0 : H7 nd = some (.ins a.c_Node dx [("power", .bl true), ("book", .ref d), ("receipts", .ref r), ("owed", .ref o)]) := by rw [← hH7]; exact upd_same
    replace f7 : Frm (Own i) wo (setW (setW (setW wo d (i, 1)) r (i, 2)) o (i, 3)) H H7 := by rw [← hH7]; exact f7
    have gd : H7 d = some (.dK []) := by rw [← hH7, upd_ne nd1, upd_ne (Ne.symm no3), upd_ne nd1, upd_ne (Ne.symm nr2), upd_ne nd1, upd_same]
    have gr : H7 r = some (.lst []) := by rw [← hH7, upd_ne nr1, upd_ne (Ne.symm no2), upd_ne nr1, upd_same]
    have go : H7 o = some (.lst []) := by rw [← hH7, upd_ne no1, upd_same]
    generalize hw7 : setW (setW (setW wo d (i, 1)) r (i, 2)) o (i, 3) = w7 at f7
    have wd7 : w7 d = (i, 1) := by rw [← hw7, setW_ne (Ne.symm no3), setW_ne (Ne.symm nr2), setW_same]
    have wr7 : w7 r = (i, 2) := by rw [← hw7, setW_ne (Ne.symm no2), setW_same]
    have wo7 : w7 o = (i, 3) := by rw [← hw7, setW_same]
    have wn7 : w7 nd = (i, 0) := by rw [← hw7, setW_ne (Ne.symm no1), setW_ne (Ne.symm nr1), setW_ne (Ne.symm nd1), wn]
    -- the first slot
    intro d1 hd1
    refine ⟨(by show 0 ≤ sizeLine; decide), fun l1 hl1 => ?_⟩
    have q1 : Frm NoB w7 w7 H7 (upd H7 d1 (.dK [])) := Frm.new hd1
    have q2 : Frm NoB w7 w7 H7 (upd (upd H7 d1 (.dK [])) l1 (.lst [])) := q1.trans (Frm.new hl1)
    intro x xd nx nxd nxx
    refine make_slot (wo := w7) (q := 0) ?_ (BkAt.nil (upd_other (ne_of_none upd_same hl1) upd_same)) (RcsAt.nil upd_same) nx nxd nxx ?_
    · rfl
    intro w8 H8 S1 q3
    have f8 := q2.trans q3
    refine ⟨rfl, ?_⟩
    -- the second
    intro d2 hd2
    refine ⟨(by show 0 ≤ sizeLine; decide), fun l2 hl2 => ?_⟩
    have q4 : Frm NoB w8 w8 H8 (upd H8 d2 (.dK [])) := Frm.new hd2
    have q5 : Frm NoB w8 w8 H8 (upd (upd H8 d2 (.dK [])) l2 (.lst [])) := q4.trans (Frm.new hl2)
    intro y yd ny nyd nyy
    refine make_slot (wo := w8) (q := 0) ?_ (BkAt.nil (upd_other (ne_of_none upd_same hl2) upd_same)) (RcsAt.nil upd_same) ny nyd nyy ?_
    · rfl
    intro w9 H9 S2 q6
    have f9 := f8.trans (q5.trans q6)
    have S1' := S1.up (q5.trans q6) (fun z => z)
    refine ⟨rfl, (by show 2 ≤ sizeLine; decide), fun ps hps => ?_⟩
    have fA := f9.trans (Frm.laid (k := NoB) (i, 4) (o := .lst [.ref x, .ref y]) hps)
    have gA : ∀ {b : Addr} {u : HO}, H7 b = some u → upd H9 ps (.lst [.ref x, .ref y]) b = some u := fun h => fA.keep _ _ h (fun z => z)
    refine ⟨_, rfl, nd, _, dx, _, rfl, gA g0, T.cl_Node, T.na_Node_slots, (by show 4 < 1000; decide), ?_⟩
    have wnA : setW w9 ps (i, 4) nd = (i, 0) := by rw [fA.own _ _ g0]; exact wn7
    have fB := (fA.mono (k' := Own i) fun _ z => z.elim).trans (Frm.write (p := nd) (o' := .ins a.c_Node dx (ndF true d r o ps)) (gA g0) (by intro z; exact z) (by rw [wnA]))
    have fT := f7.trans fB
    have mps : ps ≠ nd := (ne_of_none (f9.keep _ _ g0 (fun z => z)) hps).symm
    have S1A := (S1'.up (Frm.laid (k := NoB) (i, 4) (o := .lst [.ref x, .ref y]) hps) (fun z => z)).up (Frm.write (k := Own i) (p := nd) (o' := .ins a.c_Node dx (ndF true d r o ps)) (gA g0) (by intro z; exact z) (by rw [wnA])) h0
    have S2A := (S2.up (Frm.laid (k := NoB) (i, 4) (o := .lst [.ref x, .ref y]) hps) (fun z => z)).up (Frm.write (k := Own i) (p := nd) (o' := .ins a.c_Node dx (ndF true d r o ps)) (gA g0) (by intro z; exact z) (by rw [wnA])) h0
    refine k _ _ ⟨dx, d, r, o, ps, x, y, upd_same, wnA, BkAt.nil (upd_other nd1 (gA gd)), ?_, RcsAt.nil (upd_other nr1 (gA gr)), ?_, RcsAt.nil (upd_other no1 (gA go)), ?_, upd_other mps upd_same, setW_same, S1A, S2A⟩ fT
    · rw [fA.own _ _ gd]; exact wd7
    · rw [fA.own _ _ gr]; exact wr7
    · rw [fA.own _ _ go]; exact wo7
end
end Fo

-- FoNode9
/-! What a node has no receipt for. -/
namespace Fo
open PySem PySem.Spec PyProof.Rows L2
section
variable {P : Program} {w : World} {K : PySem.W.Frag} {mg : Str → Option Value} {base : Heap} {a : Ad}

theorem Frm.same {k : Nat → Prop} {wo : Ow} {H H' : Hp} (h : Same H H') : Frm k wo wo H H' := ⟨fun b o e _ => h b o e, fun b xs e => h b _ e, fun _ _ _ => rfl, fun b o e => ⟨o, h b o e⟩⟩
theorem open_snoc (x : NodeS) (c : Nat) (l : List Item) (i : Item) : (l ++ [i]).filter (fun i => !x.memory.receipts.contains (c, i)) = l.filter (fun i => !x.memory.receipts.contains (c, i)) ++ (if (!x.memory.receipts.contains (c, i)) = true then [i] else []) := filter_snoc _ l i
theorem same_put {H1 H' : Hp} {D : Addr} {o : HO} (h : Same H1 H') (hD : H1 D = none) : Same H1 (upd H' D o) := fun x u e => by
  rw [upd_ne (ne_of_none e hD)]; exact h _ _ e
def sp_items_without (a : Ad) : Sp := fun vs H Q _ => ∃ (wo : Ow) (i : Nat) (nd : Addr) (c : Nat) (x : NodeS), vs = [.ref nd, .int (c : Int)] ∧ NodeAt a wo H i nd x ∧ OkB x.memory.book ∧ ∀ H' q, NewIts H H' q (Vbcsah.open_ x c) → Q (.ref q) H'
theorem ok_Node_items_without_receipt (T : Txt K mg a) : FnOk P w K mg base CX0 2 a.f_Node_items_without_receipt a.d_Node_items_without_receipt ["self", "centre"] (sp_items_without a) := by
  refine T.F_Node_items_without_receipt.ok sc_Node_items_without_receipt (fun vs H Q E h => ?_) (fun cdv A outer s H vs Q E hr h => ⟨_, (pss_one (ps_ret (pe_lc (own := [("item", 2)]) (g := gName 2) rfl sc_Node_items_without_receipt.nd (pi_list (pe_call (ok_items_of T) hr rfl T.g_items_of T.F_items_of.kp T.b_items_of .nil pass0 (pa_cons (pe_fld (pv 0) rfl) pa_nil))) (blkOk_by (N := N_Node_items_without_receipt) (sc := defScope s_Node_items_without_receipt) (by decide +kernel)) (fun _ _ _ _ _ => (pg_name (i := 2) sc_Node_items_without_receipt.nd rfl (Or.inl rfl))) (fun _ _ _ _ _ => (pts_one (pt_cmpR (r := rNotInD K) (op_notInD (un65 hr)) (pe_tup (pa_cons (pv 1) (pa_cons (pv 2) pa_nil))) (pe_fldK (K := K) rfl (pv 0) rfl) (by rfl)))) (fun _ _ _ _ _ => (pv 2))))), ?_⟩)
  · obtain ⟨wo, i, nd, c, x, rfl, _⟩ := h; rfl
  · obtain ⟨wo, i, nd, c, x, rfl, N, hb, k⟩ := h
    obtain ⟨xd, pb, pr, po, pss, s0, s1, N'⟩ := id N
    refine ⟨_, rfl, nd, _, xd, _, _, rfl, N'.at_, T.cl_Node, T.na_Node_book, rfl, pb, _, rfl, N'.book, ?_⟩
    rintro H1 q1 ⟨sm, hq1, its, eN, aN⟩
    refine ⟨q1, rfl, ⟨_, SqL.of eN⟩, fun D hD => ?_⟩
    have hD0 : H D = none := Same.free sm hD
    refine lc_list (K := K) (a := q1) (xs := its.map V.ref) (fun j H' => Same H1 H' ∧ ∃ ds, H' D = some (.lst (ds.map V.ref)) ∧ Al (ItAt H') ds ((x.memory.book.take j).filter fun t => !x.memory.receipts.contains (c, t)))
      ⟨fun x o h => by rw [upd_ne (ne_of_none h hD)]; exact h, [], upd_same, .nil⟩ (fun j H' _ h => SqL.of (h.1 _ _ eN)) ?_ ?_
    · rintro j y H' hxx ⟨sm2, ds, eD, aD⟩
      obtain ⟨pi, hpi, rfl⟩ := refs_get hxx
      obtain ⟨it, hit, hi0⟩ := aN.get hpi
      have f2 : Frm NoB wo wo H H' := Frm.same (sm.trans sm2)
      have hi1 := hi0.up (Same.tps sm2)
      refine ⟨rfl, _, rfl, _, rfl, (by show 2 ≤ sizeLine; decide), fun t ht => ?_⟩
      have f3 : Frm NoB wo wo H (upd H' t (.tup [.int (c : Int), .ref pi])) := f2.trans (Frm.new ht)
      have N3 := N'.up f3 (fun z => z) (fun z => z)
      have hrc : RcAt (upd H' t (.tup [.int (c : Int), .ref pi])) t (c, it) := ⟨pi, upd_same, hi1.up (Tps.new ht)⟩
      refine ⟨_, rfl, nd, _, xd, _, _, rfl, N3.at_, T.cl_Node, T.na_Node_receipts, rfl, rcD (c, it), x.memory.receipts.map rcD, dp_rc hrc, dp_rcs N3.recs, shaped_rcD _, shaped_rcs _, _, rfl, ?_⟩
      rw [any_rcD]
      have nD : D ≠ t := ne_of_none eD ht
      have eF := open_snoc x c (x.memory.book.take j) it
      rw [← take_snoc hit] at eF
      have smt : Same H1 (upd H' t (.tup [.int (c : Int), .ref pi])) := fun x o h => by
        have h2 := sm2 _ _ h
        rw [upd_ne (ne_of_none h2 ht)]; exact h2
      have eDt : upd H' t (.tup [.int (c : Int), .ref pi]) D = some (.lst (ds.map V.ref)) := upd_other nD eD
      cases g : (!x.memory.receipts.contains (c, it)) with
      | true =>
        have t2 : ∀ ys, Tps (upd H' t (.tup [.int (c : Int), .ref pi])) (upd (upd H' t (.tup [.int (c : Int), .ref pi])) D (.lst ys)) := fun ys => Tps.write eDt (by intro z; exact z)
        refine iteT ⟨_, rfl, _, eDt, ?_, same_put smt hD, ds ++ [pi], by rw [List.map_append]; exact upd_same, ?_⟩
        · rw [List.length_map, aD.len]
          refine Nat.lt_of_le_of_lt (Nat.le_trans (List.length_filter_le _ _) ?_) (small1000 (n := 20) (by omega))
          rw [List.length_take]
          have := okB_len hb
          omega
        · rw [eF, if_pos g]
          exact (aD.imp fun _ _ r => (r.up (Tps.new ht)).up (t2 _)).snoc ((hi1.up (Tps.new ht)).up (t2 _))
      | false =>
        refine iteF ⟨smt, ds, eDt, ?_⟩
        rw [eF, if_neg (by rw [g]; exact Bool.false_ne_true), List.append_nil]
        exact aD.imp fun _ _ r => r.up (Tps.new ht)
    · rintro H3 ⟨sm3, ds, eD, aD⟩
      rw [List.length_map, aN.len, List.take_length] at aD
      exact k H3 D ⟨sm.trans sm3, hD0, ds, eD, aD⟩
end
end Fo

-- FoMsg
/-! Messages. -/
namespace Fo
open PySem PySem.Spec PyProof.Rows L2
section
variable {P : Program} {w : World} {K : PySem.W.Frag} {mg : Str → Option Value} {base : Heap} {a : Ad}

def msF (k s d : Int) (q : Addr) : List (Str × V) := [("kind", .int k), ("sender", .int s), ("receiver", .int d), ("carried", .ref q)]
def MsgV (a : Ad) (wo : Ow) (H : Hp) (p : Addr) (k s d : Nat) (l : List Item) : Prop := ∃ dx q ps, H p = some (.ins a.c_Message dx (msF k s d q)) ∧ wo p = (0, 0) ∧ H q = some (.tup (ps.map V.ref)) ∧ Al (ItAt H) ps l
theorem MsgV.up {k : Nat → Prop} {wo w' : Ow} {H H' : Hp} {p : Addr} {kd s d : Nat} {l : List Item} (f : Frm k wo w' H H') (h0 : ¬ k 0) (h : MsgV a wo H p kd s d l) : MsgV a w' H' p kd s d l := by
  obtain ⟨dx, q, ps, e, w1, eq, al⟩ := h
  exact ⟨dx, q, ps, f.keep _ _ e (by rw [w1]; exact h0), (f.own _ _ e).trans w1, f.tup _ _ eq, al.imp fun _ _ r => r.up f.tup⟩
def sp_Message_init (a : Ad) : Sp := fun vs H Q _ => ∃ (p dx c : Addr) (k s d : Int) (ps : List Addr) (l : List Item), vs = [.ref p, .int k, .int s, .int d, .ref c] ∧ H p = some (.ins a.c_Message dx []) ∧ SeqV H c (ps.map V.ref) ∧ Al (ItAt H) ps l ∧
  ∀ H' q, H' p = some (.ins a.c_Message dx (msF k s d q)) → H' q = some (.tup (ps.map V.ref)) → But p H H' → Q .non H'
theorem ok_Message_init (T : Txt K mg a) : FnOk P w K mg base CX0 1 a.f_Message_init a.d_Message_init ["self", "kind", "sender", "receiver", "carried"] (sp_Message_init a) := by
  refine T.F_Message_init.ok sc_Message_init (fun vs H Q E h => ?_) (fun cdv A outer s H vs Q E hr h => ⟨_, (pss_cons (ps_fld (pv 0) (pv 1) rfl)
    (pss_cons (ps_fld (pv 0) (pv 2) rfl)
    (pss_cons (ps_fld (pv 0) (pv 3) rfl)
    (pss_one (ps_fld (pv 0) (pe_callTy call_tuple_of (by rfl) T.n_tuple (by decide +kernel) (pa_cons (pv 4) pa_nil)) rfl))))), ?_⟩)
  · obtain ⟨p, dx, c, k, s, d, ps, l, rfl, _⟩ := h; rfl
  · obtain ⟨p, dx, c, k, s, d, ps, l, rfl, hp, hS, hA, kk⟩ := h
    have nc : c ≠ p := by
      rintro rfl
      rcases hS with h | h <;> (rw [hp] at h; cases h)
    refine ⟨_, rfl, _, rfl, p, _, dx, _, rfl, hp, T.cl_Message, T.na_Message_kind, (by show 0 < 1000; decide), ?_⟩
    refine ⟨_, rfl, _, rfl, p, _, dx, _, rfl, upd_same, T.cl_Message, T.na_Message_sender, (by show 1 < 1000; decide), ?_⟩
    refine ⟨_, rfl, _, rfl, p, _, dx, _, rfl, upd_same, T.cl_Message, T.na_Message_receiver, (by show 2 < 1000; decide), ?_⟩
    refine ⟨_, rfl, c, ps.map V.ref, rfl, ?_⟩
    rcases hS with h | h
    · refine .inl ⟨SqL.of (upd_other nc (upd_other nc (upd_other nc h))), fun q hq => ?_⟩
      have nq : q ≠ p := fun z => by subst z; rw [upd_same] at hq; cases hq
      have hq0 : H q = none := by rw [upd_ne nq, upd_ne nq, upd_ne nq] at hq; exact hq
      refine ⟨_, rfl, p, _, dx, _, rfl, upd_other (Ne.symm nq) upd_same, T.cl_Message, T.na_Message_carried, (by show 3 < 1000; decide), ?_⟩
      refine kk _ q upd_same (upd_other nq upd_same) fun b o e n => ?_
      rw [upd_ne n, upd_ne (ne_of_none e hq0), upd_ne n, upd_ne n, upd_ne n]; exact e
    · refine .inr ⟨SqT.of (upd_other nc (upd_other nc (upd_other nc h))), ?_⟩
      refine ⟨_, rfl, p, _, dx, _, rfl, upd_same, T.cl_Message, T.na_Message_carried, (by show 3 < 1000; decide), ?_⟩
      refine kk _ c upd_same (upd_other nc (upd_other nc (upd_other nc (upd_other nc h)))) fun b o e n => ?_
      rw [upd_ne n, upd_ne n, upd_ne n, upd_ne n]; exact e
/-- a message is made: a new one, nobody's -/
theorem make_msg {wo : Ow} {H : Hp} {Q : VK} {E : XK} {vs : List V} {k s d : Nat} {c x dx : Addr} {ps : List Addr} {l : List Item} (hv : vs = [.int (k : Int), .int (s : Int), .int (d : Int), .ref c]) (hS : SeqV H c (ps.map V.ref)) (hA : Al (ItAt H) ps l)
    (hx : H x = none) (hdx : H dx = none) (hne : dx ≠ x) (kk : ∀ w' H', MsgV a w' H' x k s d l → Frm NoB wo w' H H' → Q .non H') :
    sp_Message_init a (.ref x :: (vs ++ [])) (upd (upd H dx (.own x)) x (.ins a.c_Message dx [])) Q E := by
  subst hv
  have f1 : Frm NoB wo wo H (upd H dx (.own x)) := Frm.new hdx
  have hx1 : upd H dx (.own x) x = none := by rw [upd_ne (Ne.symm hne)]; exact hx
  have f2 : Frm NoB wo (setW wo x (0, 0)) H (upd (upd H dx (.own x)) x (.ins a.c_Message dx [])) := f1.trans (Frm.laid (0, 0) hx1)
  refine ⟨x, dx, c, k, s, d, ps, l, rfl, upd_same, hS.keep (fun o h => f2.keep _ _ h (fun z => z)), hA.imp fun _ _ r => r.up f2.tup, ?_⟩
  intro H' q e1 e2 kp
  have f3 : Frm NoB wo (setW wo x (0, 0)) H H' := by
    have go : ∀ b o, H b = some o → H' b = some o := fun b o h => kp _ _ (f2.keep _ _ h (fun z => z)) (ne_of_none h hx)
    exact ⟨fun b o h _ => go b o h, fun b xs h => go b _ h, fun b o h => f2.own b o h, fun b o h => ⟨o, go b o h⟩⟩
  exact kk _ H' ⟨dx, q, ps, e1, setW_same, e2, hA.imp fun _ _ r => r.up f3.tup⟩ f3
end
end Fo

-- FoNest
/-! A dict whose keys are receipts: tuples of a number and an item's tuple. -/
namespace Fo
open PySem PySem.Spec PyProof.Rows L2

def nkI (i : Item) : NestedKey := .tup [.num i.number, .num i.version, .num (Vbcsah.bit i.gone), .num i.tells]
def nk (r : Receipt) : NestedKey := .tup [.num r.1, nkI r.2]
theorem nkI_inj {x y : Item} (h : nkI x = nkI y) : x = y := by
  unfold nkI at h
  injection h with h
  injection h with h1 h
  injection h with h2 h
  injection h with h3 h
  injection h with h4 _
  injection h1 with h1
  injection h2 with h2
  injection h3 with h3
  injection h4 with h4
  exact item_ext (by omega) (by omega) (bit_inj.mp h3) (by omega)
theorem nk_inj {x y : Receipt} (h : nk x = nk y) : x = y := by
  obtain ⟨a, b⟩ := x
  obtain ⟨c, d⟩ := y
  unfold nk at h
  injection h with h
  injection h with h1 h
  injection h with h2 _
  injection h1 with h1
  have e1 : a = c := by simp only at h1; omega
  have e2 : b = d := nkI_inj h2
  rw [e1, e2]

abbrev NK := NestedKey × Addr × Value
def NstOk (P : Program) (w : World) (h : Heap) (a : Addr) (xs : List NK) : Prop := xs.length ≤ sizeLine ∧ (a == sysModules) = false ∧
  ∃ o es ep, h.get? a = some o ∧ o.ExactDict ∧ o.data = .dict es ep ∧ es.toList = xs.map (entryOfKey (nestedKind P w)) ∧ (xs.map (·.1)).Nodup
/-- the dict at p with these entries -/
def NstO (P : Program) (w : World) (p : Addr) (xs : List NK) : HO := .ext fun h => NstOk P w h p xs
section
variable {P : Program} {w : World}
theorem nst_ok {H : Hp} {h : Heap} {a : Addr} {xs : List NK} (n : NstOk P w h a xs) : ObjOk P w H h a (NstO P w a xs) := by
  obtain ⟨z, s, o, es, ep, e, c⟩ := id n
  refine ⟨n, ⟨o, e⟩, fun h1 h2 x k => ?_⟩
  obtain ⟨z, s, o, es, ep, e, c⟩ := x
  exact ⟨z, s, o, es, ep, k _ e, c⟩
theorem rc_nested {H : Hp} {h : Heap} {p : Addr} {r : Receipt} (ok : HOk P w H h) (x : RcAt H p r) : (nestedKind P w).is h (nk r) p := by
  obtain ⟨q, e, hi⟩ := x
  refine ⟨?_, by simp [nk, nkI, NestedKey.depth, NestedKey.depthAll]⟩
  obtain ⟨_, us, ru, ⟨o, ho, hc, n, hd⟩⟩ := (show ObjOk P w H h p (.tup _) from ok p _ e)
  obtain ⟨_, vs, rv, ⟨o2, ho2, hc2, n2, hd2⟩⟩ := (show ObjOk P w H h q (.tup _) from ok q _ hi.at_)
  unfold itRow at rv
  cases rv with | cons v1 rv => cases rv with | cons v2 rv => cases rv with | cons v3 rv => cases rv with | cons v4 rv =>
  cases rv
  obtain ⟨t1, rfl⟩ := v1; obtain ⟨t2, rfl⟩ := v2; obtain ⟨t3, rfl⟩ := v3; obtain ⟨t4, rfl⟩ := v4
  cases ru with | cons u1 ru => cases ru with | cons u2 ru =>
  cases ru
  obtain ⟨t0, rfl⟩ := u1
  cases u2
  exact .tup ho hc hd (.cons (.int _ _) (.cons (.tup ho2 hc2 hd2 (.cons (.int _ _) (.cons (.int _ _) (.cons (.int _ _) (.cons (.int _ _) .nil))))) .nil))
theorem nst_dict {H : Hp} {h : Heap} {a : Addr} {xs : List NK} (ok : HOk P w H h) (e : H a = some (NstO P w a xs)) (keys : ∀ x ∈ xs, ∃ r, x.1 = nk r ∧ RcAt H x.2.1 r) : xs.length ≤ sizeLine ∧ (a == sysModules) = false ∧ h.DictOfH (nestedKind P w) a xs := by
  obtain ⟨⟨z, s, o, es, ep, e1, e2, e3, e4, e5⟩, _, _⟩ := (show ObjOk P w H h a (NstO P w a xs) from ok a _ e)
  refine ⟨z, s, o, es, ep, e1, e2, e3, e4, fun x hx => ?_, e5⟩
  obtain ⟨r, h1, h2⟩ := keys x hx
  rw [h1]
  exact rc_nested ok h2
end
section
variable {X : Cx} {pins : List (Addr × Obj)} {σ : L2.St} {H : Hp} {s : Shared} {a k : Addr} {xs : List NK} {r : Receipt}
/-- d[k] = True -/
theorem nst_put {Q : Unit → Shared → Prop} {E : Value → Shared → Prop} (hu : X.A.units + 65 < cLine) (I : Inv X pins σ H s) (e : H a = some (NstO X.prog X.w a xs)) (keys : ∀ x ∈ xs, ∃ r, x.1 = nk r ∧ RcAt H x.2.1 r) (hk : RcAt H k r) (hz : xs.length < sizeLine)
    (h : ∀ s', Inv X pins σ (upd H a (NstO X.prog X.w a (storedH xs (nk r) k (.bool true)))) s' → Q () s') : wpAny (model X.prog X.w) X.A (setItem (.ref a) (.ref k) (.bool true)) Q E s := by
  obtain ⟨z, hd, dd⟩ := nst_dict I.hok e keys
  refine wpAny_setItem_heap (knd := nestedKind X.prog X.w) (hsz := z) (by show X.A.units + 1 + 8 < cLine; omega) (rc_nested I.hok hk) dd fun h' dd' hs => h _ ?_
  obtain ⟨q, es, ep, hq, h2, h3, h4, _, h5⟩ := dd'
  refine d_write I (by rw [e]; exact True.intro) hs ⟨q, hq⟩ (nst_ok ⟨?_, hd, q, es, ep, hq, h2, h3, h4, h5⟩)
  unfold storedH
  split
  · rw [List.length_map]; exact z
  · rw [List.length_append]; exact hz
def sNPut (P : Program) (w : World) (td ty : TE) : TS := fun D σ H => td σ H fun x H1 => ty σ H1 fun y H2 => ∃ (d k : Addr) (xs : List NK) (r : Receipt), x = .ref d ∧ y = .ref k ∧ H2 d = some (NstO P w d xs) ∧ (∀ x ∈ xs, ∃ r, x.1 = nk r ∧ RcAt H2 x.2.1 r) ∧ RcAt H2 k r ∧ xs.length < sizeLine ∧
  D.nx σ (upd H2 d (NstO P w d (storedH xs (nk r) k (.bool true))))
theorem ps_nput {o i : Expr} {td ty : TE} {pos pos' p2 : Pos} {j : Nat} (hu : X.A.units + 65 < cLine) (ho : PE X o td) (hi : PE X i ty) (hs : swapsWith (.Constant (.bool true) j p2) (some (.Subscript o i pos')) pos.line X.env = pure false) :
    PS X (.Assign [.Subscript o i pos'] (.Constant (.bool true) j p2) pos) (sNPut X.prog X.w td ty) where
  run := fun pins s σ H D I h => by
    refine wpAny_Assign_Subscript (thn (pe_bl.run pins s σ H (fun v H1 => v = .bl true ∧ H1 = H) I ⟨rfl, rfl⟩) fun rv s1 hh => thn (ho.run pins s1 σ H _ ?_ h) fun u s2 hh2 => ?_) hs
    · obtain ⟨v, H1, I1, rr, rfl, rfl⟩ := hh
      exact I1
    · obtain ⟨v, H1, I1, rr, rfl, rfl⟩ := hh
      cases rr
      obtain ⟨x, H2, I2, rx, q2⟩ := hh2
      refine thn (hi.run pins s2 σ H2 _ I2 q2) fun iv s3 hh3 => ?_
      obtain ⟨y, H3, I3, ry, d, k, xs, r, rfl, rfl, e, keys, hk, hz, q3⟩ := hh3
      cases rx
      cases ry
      exact nst_put hu I3 e keys hk hz fun s4 I4 => ⟨σ, _, I4, q3⟩
/-- {} -/
def tDNewN (P : Program) (w : World) : TE := fun _ H Q => ∀ p, H p = none → Q (.ref p) (upd H p (NstO P w p []))
theorem pe_dnewN {pos : Pos} : PE X (.Dict [] [] pos) (tDNewN X.prog X.w) where
  run := fun pins s σ H Q I h => by
    refine wpAny_Dict_empty ⟨.ref s.heap.objs.size, _, I.laid (a := s.heap.objs.size) (o := NstO X.prog X.w s.heap.objs.size []) (t' := s.toks) (fun _ _ q => Heap.get?_push_of_some _ q) (Nat.le_refl _) (nst_ok ?_), rfl, h _ (I.hok.fresh (Nat.le_refl _))⟩
    refine ⟨Nat.zero_le _, beq_eq_false_iff_ne.mpr (Ne.symm (Nat.ne_of_lt I.big)), _, #[], 0, Heap.get?_push_size _ rfl, ⟨rfl, rfl, rfl⟩, rfl, rfl, List.nodup_nil⟩
end

/-! ### the receipts in the order in which they came about -/
def AkR (H : Hp) (x : NK) (r : Receipt) : Prop := x.1 = nk r ∧ x.2.2 = .bool true ∧ RcAt H x.2.1 r
def AkAt (P : Program) (w : World) (H : Hp) (p : Addr) (l : List Receipt) : Prop := ∃ xs, H p = some (NstO P w p xs) ∧ Al (AkR H) xs l ∧ l.length ≤ LIM
theorem AkR.up {H H' : Hp} {x : NK} {r : Receipt} (t : Tps H H') (h : AkR H x r) : AkR H' x r := ⟨h.1, h.2.1, h.2.2.up t⟩
theorem AkAt.up {P : Program} {w : World} {H H' : Hp} {p : Addr} {l : List Receipt} (t : Tps H H') (k : ∀ o, H p = some o → H' p = some o) (h : AkAt P w H p l) : AkAt P w H' p l :=
  let ⟨xs, e, al, z⟩ := h; ⟨xs, k _ e, al.imp fun _ _ r => r.up t, z⟩
theorem AkAt.keys {H : Hp} {xs : List NK} {l : List Receipt} (h : Al (AkR H) xs l) : ∀ x ∈ xs, ∃ r, x.1 = nk r ∧ RcAt H x.2.1 r := by
  induction h with
  | nil => intro x hx; cases hx
  | cons r _ ih =>
    intro x hx
    rcases List.mem_cons.mp hx with rfl | hx
    · exact ⟨_, r.1, r.2.2⟩
    · exact ih x hx
theorem ak_find {H : Hp} {xs : List NK} {l : List Receipt} (h : Al (AkR H) xs l) (r : Receipt) : (atKey xs (nk r)).isSome = l.contains r := by
  induction h with
  | nil => rfl
  | @cons x y xs l q _ ih =>
    unfold atKey at ih ⊢
    rw [List.find?_cons, List.contains_cons]
    by_cases z : r = y
    · subst z
      simp [q.1]
    · have : ¬ x.1 = nk r := fun e => z (nk_inj (e.symm.trans q.1))
      rw [decide_eq_false this]
      simp only [ih]
      simp [z]
theorem ak_same {H : Hp} {xs : List NK} {l : List Receipt} (h : Al (AkR H) xs l) (k : NestedKey) : xs.map (putAt k (.bool true)) = xs := by
  induction h with
  | nil => rfl
  | @cons x y xs l q _ ih =>
    rw [List.map_cons, ih]
    congr 1
    unfold putAt
    split
    · rw [← q.2.1]
    · rfl
/-- once more -/
theorem AkAt.once {P : Program} {w : World} {H : Hp} {p k : Addr} {xs : List NK} {l : List Receipt} {r : Receipt} (e : H p = some (NstO P w p xs)) (al : Al (AkR H) xs l) (hz : l.length < LIM) (hk : RcAt H k r) :
    AkAt P w (upd H p (NstO P w p (storedH xs (nk r) k (.bool true)))) p (Vbcsah.once l r) := by
  have t : ∀ o, Tps H (upd H p o) := fun o => Tps.write e (by intro z; exact z)
  refine ⟨_, upd_same, ?_, ?_⟩
  · have q := ak_find al r
    cases c : l.contains r with
    | true =>
      rw [c] at q
      have e2 : storedH xs (nk r) k (.bool true) = xs := by unfold storedH; rw [if_pos q, ak_same al]
      have e3 : Vbcsah.once l r = l := by unfold Vbcsah.once; rw [if_pos c]
      rw [e3, e2]
      exact al.imp fun _ _ z => z.up (t _)
    | false =>
      rw [c] at q
      have e2 : storedH xs (nk r) k (.bool true) = xs ++ [(nk r, k, .bool true)] := by unfold storedH; rw [if_neg (by rw [q]; exact Bool.false_ne_true)]
      have e3 : Vbcsah.once l r = l ++ [r] := by unfold Vbcsah.once; rw [if_neg (by rw [c]; exact Bool.false_ne_true)]
      rw [e3]
      conv => arg 2; rw [e2]
      exact (al.imp fun _ _ z => z.up (t _)).snoc ⟨rfl, rfl, hk.up (t _)⟩
  · unfold Vbcsah.once
    split
    · omega
    · rw [List.length_append]; exact hz
end Fo

-- FoRules2
/-! More rules: a number that a table of the top hasn't; two books beside each other; the receipts of a dict, in their order. -/
namespace Fo
open PySem PySem.Spec PyProof.Rows L2

/-- (a, b, ..) = a tuple, the frame told -/
theorem pg_tupK {X : Cx} {K : PySem.W.Frag} {es : List Expr} {k : Nat} {pos : Pos} {t : TGs} {n : Nat} (hK : X.K = K) (hc : X.calm = true) (h : PGs X es t) (hn : (assignEach es X.env).length = n := by rfl)
    (hst : (assignEach es X.env).findIdx? (·.1) = none := by rfl) : PG X (.Tuple es k pos) (gTup K n t) := by
  subst hK
  exact pg_tup hc h hn hst

/-! ### z not in TABLE -/
theorem rowsV_some : ∀ {es : List DictEntry} {l : List (Int × V)} {z : Int}, rowsV es l = true → (es.find? fun e => Value.isInt z e.key).isSome = (l.lookup z).isSome
  | [], [], _, _ => rfl
  | x :: es, (k, v) :: l, z, h => by
    obtain ⟨⟨t, h1⟩, h2, h3, h4⟩ := rowsV_cons h
    rw [List.find?_cons, List.lookup_cons, h1]
    by_cases c : z = k
    · subst c
      simp [Value.isInt]
    · have c1 : (z == k) = false := by simpa using c
      have c2 : Value.isInt z (.int k t) = false := by simp [Value.isInt]; exact fun y => c y.symm
      rw [c1, c2]
      exact rowsV_some h4
  | [], _ :: _, z, h => by simp [rowsV] at h
  | _ :: _, [], z, h => by simp [rowsV] at h
def rNotInV (d : Addr) (l : List (Int × V)) : R2 := fun x y H Q => ∃ z, x = .int z ∧ y = .ref d ∧ Q (.bl (!(l.lookup z).isSome)) H
theorem op_notIn_tab {X : Cx} {d : Addr} {x : Str} {l : List (Int × V)} (q : Q_tab X.K X.mg d x l) : OpR X (compareOp .NotIn) (rNotInV d l) := by
  intro pins s σ H x y v u Q I rx ry h
  obtain ⟨z, rfl, rfl, q2⟩ := h
  obtain ⟨es, n, hl, hr⟩ := q.ex
  obtain rfl : u = Value.ref d := ry
  obtain ⟨t, rfl⟩ := rx
  have hm : s.heap.MapOf (PySem.intKind X.prog X.w) d (fun k => findBy Value.isInt es k) := ⟨_, es, n, I.kIn _ _ hl, ⟨rfl, rfl, rfl⟩, rfl, fun e he => by
    obtain ⟨k, t, h1, h2⟩ := rowsV_keys hr e (Array.mem_toList_iff.mpr he)
    exact ⟨k, by rw [h1]; exact intKind_is X.prog X.w k t, h2⟩, fun _ => rfl⟩
  refine wpAny_notIn_of (intKind_is X.prog X.w z t) q.lo hm ?_
  have e1 : (findBy Value.isInt es z).isSome = (l.lookup z).isSome := by
    rw [← rowsV_some hr]
    obtain ⟨es⟩ := es
    unfold findBy
    rw [List.find?_toArray, Option.isSome_map]
  rw [e1]
  exact ⟨.bl _, H, I.tok _, rfl, q2⟩

/-! ### book != book -/
theorem sub_len : ∀ {b a : Book}, Srt a → Srt b → (∀ x ∈ a, x ∈ b) → a.length ≤ b.length ∧ (a.length = b.length → a = b)
  | [], a, _, _, h => by
    cases a with
    | nil => exact ⟨Nat.le_refl _, fun _ => rfl⟩
    | cons x a => exact absurd (h x (List.mem_cons_self ..)) (by simp)
  | y :: b, [], _, _, _ => ⟨Nat.zero_le _, fun h => by cases h⟩
  | y :: b, x :: a, ha, hb, h => by
    by_cases e : x = y
    · subst e
      have r := sub_len ha.tail hb.tail fun z hz => by
        rcases List.mem_cons.mp (h z (List.mem_cons_of_mem _ hz)) with e | hm
        · have := ha.head z hz
          rw [e] at this
          omega
        · exact hm
      refine ⟨Nat.succ_le_succ r.1, fun hl => ?_⟩
      rw [r.2 (Nat.succ.inj hl)]
    · have hx : x ∈ b := (List.mem_cons.mp (h x (List.mem_cons_self ..))).resolve_left e
      have lt := hb.head x hx
      have r := sub_len (a := x :: a) ha hb.tail fun z hz => by
        refine (List.mem_cons.mp (h z hz)).resolve_left fun ez => ?_
        rcases List.mem_cons.mp hz with e2 | hm
        · exact e (e2 ▸ ez)
        · have := ha.head z hm
          rw [ez] at this
          omega
      refine ⟨Nat.le_succ_of_le r.1, fun hl => ?_⟩
      have := r.1
      rw [hl, List.length_cons] at this
      omega
def allIn (b2 : Book) (l : List Item) : Bool := l.all fun i => Vbcsah.formOf b2 i.number == some i
theorem same_book {b b2 : Book} (h : Srt b) (h2 : Srt b2) : (b.length == b2.length && allIn b2 b) = (b == b2) := by
  rw [Bool.eq_iff_iff, Bool.and_eq_true, beq_iff_eq, beq_iff_eq]
  constructor
  · rintro ⟨hl, ha⟩
    refine (sub_len h h2 fun x hx => ?_).2 hl
    have := List.all_eq_true.mp ha x hx
    exact (formOf_mem (beq_iff_eq.mp this)).1
  · rintro rfl
    exact ⟨rfl, List.all_eq_true.mpr fun x hx => by rw [formOf_of_mem h hx]; simp⟩
theorem valV_mem {kv : Key × V} : ∀ {kvs : List (Key × V)}, (kvs.map (·.1)).Nodup → kv ∈ kvs → valV kvs kv.1 = some kv.2
  | y :: ys, hn, hm => by
    rw [List.map_cons, List.nodup_cons] at hn
    rcases List.mem_cons.mp hm with e | hk
    · rw [e]; exact valV_pos rfl
    · rw [valV_neg fun z => hn.1 (by rw [z]; exact List.mem_map.mpr ⟨kv, hk, rfl⟩)]
      exact valV_mem hn.2 hk
/-- the items in the order in which a dict has them -/
theorem rep_order {H : Hp} {kvs : List (Key × V)} {b : Book} (r : BkRep H kvs b) : ∃ is : List Item, is.Perm b ∧ Al (fun kv i => kv.1 = Sum.inl (i.number : Int) ∧ ∃ p, kv.2 = .ref p ∧ ItAt H p i) kvs is := by
  have key : ∀ (l : List (Key × V)) (c : Book), (l.map (·.1)).Perm (c.map fun i => (Sum.inl (i.number : Int) : Key)) → (∀ i ∈ c, i ∈ b) → (∀ kv ∈ l, kv ∈ kvs) → (kvs.map (·.1)).Nodup → ∃ is : List Item, is.Perm c ∧ Al (fun kv i => kv.1 = Sum.inl (i.number : Int) ∧ ∃ p, kv.2 = .ref p ∧ ItAt H p i) l is := by
    intro l
    induction l with
    | nil =>
      intro c hp _ _ _
      have := hp.length_eq
      cases c with
      | nil => exact ⟨[], .refl _, .nil⟩
      | cons x c => simp at this
    | cons kv l ih =>
      intro c hp hc hl hn
      have hm : kv.1 ∈ c.map fun i => (Sum.inl (i.number : Int) : Key) := hp.mem_iff.mp (by rw [List.map_cons]; exact List.mem_cons_self ..)
      obtain ⟨i, hi, ei⟩ := List.mem_map.mp hm
      have pc : c.Perm (i :: c.erase i) := List.perm_cons_erase hi
      have hp2 : (l.map (·.1)).Perm ((c.erase i).map fun i => (Sum.inl (i.number : Int) : Key)) := by
        have h3 := hp.trans (pc.map fun i => (Sum.inl (i.number : Int) : Key))
        rw [List.map_cons, List.map_cons, ← ei] at h3
        exact h3.cons_inv
      obtain ⟨is, p1, a1⟩ := ih (c.erase i) hp2 (fun j hj => hc j (List.mem_of_mem_erase hj)) (fun q hq => hl q (List.mem_cons_of_mem _ hq)) hn
      refine ⟨i :: is, (p1.cons i).trans pc.symm, .cons ⟨ei.symm, ?_⟩ a1⟩
      obtain ⟨p, hv, hit⟩ := r.vals i (hc i hi)
      refine ⟨p, ?_, hit⟩
      have hkv := hl kv (List.mem_cons_self ..)
      have := valV_mem hn hkv
      rw [← ei, hv] at this
      exact (Option.some.inj this).symm
  refine key kvs b r.keys (fun _ h => h) (fun _ h => h) ?_
  rw [r.keys.nodup_iff]
  have := nodup_numbers r.ok.srt
  rw [List.nodup_iff_pairwise_ne] at this ⊢
  rw [List.pairwise_map] at this ⊢
  exact this.imp fun h z => h (by have := Sum.inl.inj z; omega)
section
variable {X : Cx}
theorem hits_of {pins : List (Addr × Obj)} {σ : L2.St} {H : Hp} {s : Shared} (I : Inv X pins σ H s) {A : Around} (hu : A.in1.units + 64 < cLine) {kb : List (Key × V)} {vb : List (Key × Value)} {b2 : Book} (rb : KV kb vb) (r2 : BkRep H kb b2) :
    ∀ {ka : List (Key × V)} {va : List (Key × Value)} {is : List Item}, KV ka va → Al (fun kv i => kv.1 = Sum.inl (i.number : Int) ∧ ∃ p, kv.2 = .ref p ∧ ItAt H p i) ka is → PySem.W.KeqHits A.in1 s vb va (allIn b2 is) := by
  intro ka va is ra al
  unfold KV at ra
  induction ra generalizing is with
  | nil => cases al; exact .nil
  | @cons p q ps qs h t ih =>
    cases al with
    | @cons _ i _ is ri ta =>
      have ih := ih ta
      obtain ⟨key, v⟩ := q
      obtain ⟨h1, h2⟩ := h
      obtain ⟨e1, pa, e2, hi⟩ := ri
      have e3 : key = Sum.inl (i.number : Int) := (show p.1 = key from h1).symm.trans e1
      subst e3
      have rr := rb.val (Sum.inl (i.number : Int))
      have es : allIn b2 (i :: is) = ((Vbcsah.formOf b2 i.number == some i) && allIn b2 is) := rfl
      rw [es]
      cases c : Vbcsah.formOf b2 i.number with
      | none =>
        rw [r2.none c] at rr
        have hn : valueAt vb (Sum.inl (i.number : Int)) = none := by
          have := rr.isSome_eq
          cases z : valueAt vb (Sum.inl (i.number : Int)) with
          | none => rfl
          | some _ => rw [z] at this; cases this
        exact .miss hn
      | some y =>
        obtain ⟨py, ey, hy⟩ := r2.some c
        rw [ey] at rr
        obtain ⟨u, hu2, ru⟩ := rr.some_of
        have rv : RelV (.ref pa) v := by rw [← e2]; exact h2
        obtain ⟨as, x1⟩ := Dp.reads I (itD i) (.ref pa) v (dp_it hi) rv
        obtain ⟨bs, x2⟩ := Dp.reads I (itD y) (.ref py) u (dp_it hy) ru
        have eq := PySem.W.keq_at (A := A) x1 x2 (shaped_itD i) (shaped_itD y) hu
        rw [eqv_itD] at eq
        have : (some y == some i) = decide (i = y) := by
          by_cases z : i = y
          · subst z; simp
          · rw [decide_eq_false z]; simpa using fun w => z w.symm
        rw [this]
        exact .hit hu2 eq ih
/-- a != b, two books -/
def rNeB : R2 := fun x y H Q => ∃ p q b b2, x = .ref p ∧ y = .ref q ∧ BkAt H p b ∧ BkAt H q b2 ∧ Q (.bl (!(b == b2))) H
theorem op_neB (hu : X.A.units + 65 < cLine) : OpR X (compareOp .NotEq) rNeB := by
  intro pins s σ H x y v u Q I rx ry h
  obtain ⟨p, q, b, b2, rfl, rfl, ⟨ka, ea, r1⟩, ⟨kb, eb, r2⟩, k⟩ := h
  obtain rfl : v = Value.ref p := rx
  obtain rfl : u = Value.ref q := ry
  obtain ⟨z1, n1, va, ra, da⟩ := (show ObjOk X.prog X.w H s.heap p (.dK ka) from I.hok p _ ea)
  obtain ⟨z2, n2, vb, rb, db⟩ := (show ObjOk X.prog X.w H s.heap q (.dK kb) from I.hok q _ eb)
  obtain ⟨is, pe, al⟩ := rep_order r1
  refine PySem.W.keq_ne (knd := mixKind X.prog X.w) (r := allIn b2 is) n1 n2 da db (by omega) (fun _ => hits_of I (by show X.A.units + 1 + 64 < cLine; omega) rb r2 ra al) ?_
  have e1 : va.length = b.length := by rw [← ra.length]; exact r1.len
  have e2 : vb.length = b2.length := by rw [← rb.length]; exact r2.len
  have e3 : allIn b2 is = allIn b2 b := by
    rw [Bool.eq_iff_iff]
    unfold allIn
    rw [List.all_eq_true, List.all_eq_true]
    exact ⟨fun h x hx => h x (pe.mem_iff.mpr hx), fun h x hx => h x (pe.mem_iff.mp hx)⟩
  rw [e1, e2, e3, same_book r1.ok.srt r2.ok.srt]
  exact ⟨.bl _, H, I, rfl, k⟩

/-! ### list(d), d's keys receipts -/
def rListN (P : Program) (w : World) : List V → Hp → VK → Prop := fun vs H Q => ∃ d xs, vs = [.ref d] ∧ H d = some (NstO P w d xs) ∧ ∀ p, H p = none → Q (.ref p) (upd H p (.lst (xs.map fun x => V.ref x.2.1)))
theorem call_listN (hc : X.calm = true) : CallR X (.type "list") (rListN X.prog X.w) := by
  intro pins s σ H vs us Q I r h
  obtain ⟨d, xs, rfl, hd, q⟩ := h
  obtain ⟨u, rfl, rx⟩ := r.one
  cases rx
  obtain ⟨⟨z, sm, o, es, ep, ho, hx, hdt, he, hnd⟩, _, _⟩ := (show ObjOk X.prog X.w H s.heap d (NstO X.prog X.w d xs) from I.hok d _ hd)
  have len : es.size = xs.length := by have := congrArg List.length he; simpa using this
  have src := kdl_raw (prog := X.prog) (w := X.w) sm hx hdt
  refine PySem.W.kdl_call src (I.ok.hd hc) ho (by omega) fun h' tk acc c kp e it => ?_
  have ea : acc.toList = (xs.map fun x => x.2.1).map Value.ref := by
    refine List.ext_getElem? fun j => ?_
    rw [List.getElem?_map, List.getElem?_map]
    cases hj : acc.toList[j]? with
    | none =>
      have h1 := List.getElem?_eq_none_iff.mp hj
      have h2 : acc.toList.length = xs.length := by rw [Array.length_toList, it.1, len]
      rw [List.getElem?_eq_none (by omega)]
      rfl
    | some v =>
      obtain ⟨en, hen, rfl⟩ := it.2 j v (by rw [← Array.getElem?_toList]; exact hj)
      have h3 : es.toList[j]? = some en := by rw [Array.getElem?_toList]; exact hen
      rw [he, List.getElem?_map] at h3
      cases hb : xs[j]? with
      | none => rw [hb] at h3; cases h3
      | some b => rw [hb] at h3; cases h3; rfl
  have eb : (xs.map fun x => V.ref x.2.1) = (xs.map fun x => x.2.1).map V.ref := by rw [List.map_map]; rfl
  have rv : Vals ((xs.map fun x => x.2.1).map V.ref) acc.toList := by rw [ea]; exact L2.vals_refs _
  refine ⟨.ref s.heap.objs.size, _, I.laid (t' := tk) (o := .lst (xs.map fun x => V.ref x.2.1)) kp (Nat.le_refl _) ⟨by rw [List.length_map]; exact z, acc.toList, c, by rw [eb]; exact rv, by rw [Array.toArray_toList]; exact e⟩, rfl, q _ (I.hok.fresh (Nat.le_refl _))⟩
end
end Fo

-- FoInv
/-! What holds of every house that calls lead to: sizes, order, what is whose. Plain Lean about the specification. -/
namespace Fo
open Vbcsah

structure WfN (off b r : Nat) (x : Node) : Prop where
  bk : OkB x.memory.book
  rl : x.memory.receipts.length ≤ r
  ol : x.owed.length ≤ b
  oo : ∀ q ∈ x.owed, q.1 < off
  dk : x.on = false → x.memory = {} ∧ x.owed = []
  s0 : ∀ s, x.slot0 = some s → OkB s.content.book ∧ s.content.receipts.length ≤ r
  s1 : ∀ s, x.slot1 = some s → OkB s.content.book ∧ s.content.receipts.length ≤ r
structure WfM (off m : Nat) (x : Message) : Prop where
  kd : x.kind = 1 ∨ x.kind = 2 ∨ x.kind = 3 ∨ x.kind = 4
  sr : x.src < off + 2
  ds : x.dst < off + 2
  k1 : x.kind = 1 → x.src < off
  ok : x.kind ≠ 2 → OkB x.items
  ln : x.items.length ≤ m
/-- the numbers under way ascend, all are below the next one -/
def Nums (n : Nat) (l : List Message) : Prop := (l.map fun m => m.number).Pairwise (· < ·) ∧ ∀ m ∈ l, 1 ≤ m.number ∧ m.number < n
structure Wf (b m r : Nat) (h : House) : Prop where
  of1 : 1 ≤ h.offices
  of4 : h.offices ≤ 4
  len : h.nodes.length = h.offices + 2
  nd : ∀ x ∈ h.nodes, WfN h.offices b r x
  fl : ∀ x ∈ h.flight, WfM h.offices m x
  nu : Nums h.next h.flight
  ak : h.acked.length ≤ r
  tk : h.taken.length ≤ r
  m20 : 20 ≤ m
  nx : 1 ≤ h.next

theorem wfN_new (off b r : Nat) : WfN off b r {} := ⟨okB_nil, Nat.zero_le _, Nat.zero_le _, (fun q h => by cases h), (fun h => by cases h), (fun s h => by cases h), (fun s h => by cases h)⟩
theorem WfN.mono {off b r b' r' : Nat} {x : Node} (h : WfN off b r x) (hb : b ≤ b') (hr : r ≤ r') : WfN off b' r' x :=
  ⟨h.bk, Nat.le_trans h.rl hr, Nat.le_trans h.ol hb, h.oo, h.dk, fun s e => ⟨(h.s0 s e).1, Nat.le_trans (h.s0 s e).2 hr⟩, fun s e => ⟨(h.s1 s e).1, Nat.le_trans (h.s1 s e).2 hr⟩⟩
theorem WfM.mono {off m m' : Nat} {x : Message} (h : WfM off m x) (hm : m ≤ m') : WfM off m' x := ⟨h.kd, h.sr, h.ds, h.k1, h.ok, Nat.le_trans h.ln hm⟩
theorem Wf.mono {b m r b' m' r' : Nat} {h : House} (w : Wf b m r h) (hb : b ≤ b') (hm : m ≤ m') (hr : r ≤ r') : Wf b' m' r' h :=
  ⟨w.of1, w.of4, w.len, fun x hx => (w.nd x hx).mono hb hr, fun x hx => (w.fl x hx).mono hm, w.nu, Nat.le_trans w.ak hr, Nat.le_trans w.tk hr, Nat.le_trans w.m20 hm, w.nx⟩

theorem node_mem {h : House} {i : Nat} (hi : i < h.nodes.length) : node h i ∈ h.nodes := by
  unfold node
  rw [List.getD_eq_getElem?_getD, List.getElem?_eq_getElem hi]
  exact List.getElem_mem hi
theorem Wf.node {b m r : Nat} {h : House} (w : Wf b m r h) {i : Nat} (hi : i < h.offices + 2) : WfN h.offices b r (Vbcsah.node h i) := w.nd _ (node_mem (by rw [w.len]; exact hi))
theorem node_set_same {h : House} {i : Nat} {x : Node} (hi : i < h.nodes.length) : node (setNode h i x) i = x := by
  unfold node setNode
  rw [List.getD_eq_getElem?_getD]
  simp [hi]
theorem node_set_ne {h : House} {i j : Nat} {x : Node} (hn : i ≠ j) : node (setNode h i x) j = node h j := by
  unfold node setNode
  rw [List.getD_eq_getElem?_getD, List.getD_eq_getElem?_getD]
  simp [hn]
theorem Wf.set {b m r : Nat} {h : House} (w : Wf b m r h) {i : Nat} {x : Node} (hx : WfN h.offices b r x) : Wf b m r (setNode h i x) :=
  ⟨w.of1, w.of4, by show (h.nodes.set i x).length = _; rw [List.length_set]; exact w.len, fun y hy => by
    rcases List.mem_or_eq_of_mem_set hy with h1 | h1
    · exact w.nd y h1
    · rw [h1]; exact hx, w.fl, w.nu, w.ak, w.tk, w.m20, w.nx⟩

/-! ### nodes -/
theorem readSlot_cases (x : Node) : readSlot x = x.slot0 ∨ readSlot x = x.slot1 := by
  unfold readSlot
  split
  · exact .inl rfl
  · exact .inr rfl
theorem WfN.content {off b r : Nat} {x : Node} (h : WfN off b r x) : OkB (contentOf x).book ∧ (contentOf x).receipts.length ≤ r := by
  unfold contentOf
  cases e : readSlot x with
  | none => exact ⟨okB_nil, Nat.zero_le _⟩
  | some s =>
    rcases readSlot_cases x with q | q
    · exact h.s0 s (q.symm.trans e)
    · exact h.s1 s (q.symm.trans e)
theorem WfN.written {off b r : Nat} {x : Node} (h : WfN off b r x) (o : Option Slot) (ho : ∀ s, o = some s → OkB s.content.book ∧ s.content.receipts.length ≤ r) : WfN off b r (Vbcsah.written x o) := by
  unfold Vbcsah.written
  split
  · exact ⟨h.bk, h.rl, h.ol, h.oo, h.dk, h.s0, ho⟩
  · exact ⟨h.bk, h.rl, h.ol, h.oo, h.dk, ho, h.s1⟩
theorem WfN.kept {off b r : Nat} {x : Node} (h : WfN off b r x) : WfN off b r (Vbcsah.kept x) := h.written _ fun s e => by
  cases e; exact ⟨h.bk, h.rl⟩
theorem WfN.unowed {off b r : Nat} {x : Node} (h : WfN off b r x) : WfN off b r { x with owed := [] } := ⟨h.bk, h.rl, Nat.zero_le _, (fun q z => by cases z), fun e => ⟨(h.dk e).1, rfl⟩, h.s0, h.s1⟩
theorem WfN.dark {off b r : Nat} {x : Node} (h : WfN off b r x) : WfN off b r (Vbcsah.dark x) := ⟨okB_nil, Nat.zero_le _, Nat.zero_le _, (fun q z => by cases z), fun _ => ⟨rfl, rfl⟩, h.s0, h.s1⟩
theorem WfN.lit {off b r : Nat} {x : Node} (h : WfN off b r x) : WfN off b r (Vbcsah.lit x) := ⟨h.content.1, h.content.2, Nat.zero_le _, (fun q z => by cases z), (fun e => by cases e), h.s0, h.s1⟩
theorem WfN.filled {off b r : Nat} {x : Node} (h : WfN off b r x) (on : x.on = true) {l : Book} (hl : OkB l) : WfN off b r (Vbcsah.filled x l) :=
  ⟨join_okB h.bk hl, Nat.le_trans (List.length_filter_le _ _) h.rl, h.ol, h.oo, (fun e => by rw [show (Vbcsah.filled x l).on = x.on from rfl, on] at e; cases e), h.s0, h.s1⟩
theorem once_len (l : List Receipt) (x : Receipt) : (once l x).length ≤ l.length + 1 := by
  unfold once
  split
  · omega
  · simp
theorem once_mem {l : List Receipt} {x y : Receipt} (h : y ∈ once l x) : y ∈ l ∨ y = x := by
  unfold once at h
  split at h
  · exact .inl h
  · rcases List.mem_append.mp h with h | h
    · exact .inl h
    · exact .inr (List.mem_singleton.mp h)
theorem onces_len (c : Nat) : ∀ (l : List Item) (rs : List Receipt), (l.foldl (fun rs i => once rs (c, i)) rs).length ≤ rs.length + l.length
  | [], rs => by simp
  | x :: l, rs => by
    rw [List.foldl_cons, List.length_cons]
    have := onces_len c l (once rs (c, x))
    have := once_len rs (c, x)
    omega
theorem onces_mem (c : Nat) : ∀ (l : List Item) (rs : List Receipt) (y : Receipt), y ∈ l.foldl (fun rs i => once rs (c, i)) rs → y ∈ rs ∨ y.1 = c
  | [], rs, y, h => .inl h
  | x :: l, rs, y, h => by
    rw [List.foldl_cons] at h
    rcases onces_mem c l _ y h with h | h
    · rcases once_mem h with h | h
      · exact .inl h
      · exact .inr (by rw [h])
    · exact .inr h
theorem noted_len (bk : Book) (c : Nat) : ∀ (l : List Item) (rs : List Receipt), (l.foldl (fun rs i => if (formOf bk i.number == some i) = true then once rs (c, i) else rs) rs).length ≤ rs.length + l.length
  | [], rs => by simp
  | x :: l, rs => by
    rw [List.foldl_cons, List.length_cons]
    split
    · have := noted_len bk c l (once rs (c, x))
      have := once_len rs (c, x)
      omega
    · have := noted_len bk c l rs
      omega
theorem WfN.noted {off b r m : Nat} {x : Node} (h : WfN off b r x) (on : x.on = true) (c : Nat) {l : Book} (hl : l.length ≤ m) : WfN off b (r + m) (Vbcsah.noted x c l) :=
  ⟨h.bk, Nat.le_trans (noted_len _ _ _ _) (Nat.add_le_add h.rl hl), h.ol, h.oo, (fun e => by rw [show (Vbcsah.noted x c l).on = x.on from rfl, on] at e; cases e),
    fun s e => ⟨(h.s0 s e).1, Nat.le_trans (h.s0 s e).2 (Nat.le_add_right _ _)⟩, fun s e => ⟨(h.s1 s e).1, Nat.le_trans (h.s1 s e).2 (Nat.le_add_right _ _)⟩⟩
theorem WfN.owes {off b r : Nat} {x : Node} (h : WfN off b r x) (on : x.on = true) {o : Nat} (ho : o < off) {l : Book} (hl : l.length ≤ 20) : WfN off (b + 20) r { x with owed := l.foldl (fun rs i => once rs (o, i)) x.owed } :=
  ⟨h.bk, h.rl, Nat.le_trans (onces_len _ _ _) (Nat.add_le_add h.ol hl), fun q hq => by
    rcases onces_mem o l _ q hq with z | z
    · exact h.oo q z
    · rw [z]; exact ho, (fun e => by rw [on] at e; cases e), h.s0, h.s1⟩

/-! ### messages -/
theorem nums_post {n : Nat} {l : List Message} (h : Nums n l) (hn : 1 ≤ n) {x : Message} (hx : x.number = n) : Nums (n + 1) (l ++ [x]) := by
  refine ⟨?_, fun m hm => ?_⟩
  · rw [List.map_append, List.pairwise_append]
    refine ⟨h.1, by simp, fun a ha b hb => ?_⟩
    obtain ⟨m, hm, rfl⟩ := List.mem_map.mp ha
    simp only [List.map_cons, List.map_nil, List.mem_singleton] at hb
    rw [hb, hx]
    exact (h.2 m hm).2
  · rcases List.mem_append.mp hm with hm | hm
    · have := h.2 m hm; omega
    · rw [List.mem_singleton.mp hm, hx]; omega
theorem Wf.post {b m r : Nat} {h : House} (w : Wf b m r h) {k s d : Nat} {l : Book} (hm : WfM h.offices m { number := h.next, kind := k, src := s, dst := d, items := l }) : Wf b m r (Vbcsah.post h k s d l) :=
  ⟨w.of1, w.of4, w.len, w.nd, fun x hx => by
    rcases List.mem_append.mp hx with hx | hx
    · exact w.fl x hx
    · rw [List.mem_singleton.mp hx]; exact hm, nums_post w.nu w.nx rfl, w.ak, w.tk, w.m20, Nat.le_succ_of_le w.nx⟩
theorem Wf.without {b m r : Nat} {h : House} (w : Wf b m r h) (n : Nat) : Wf b m r (Vbcsah.without h n) :=
  ⟨w.of1, w.of4, w.len, w.nd, fun x hx => w.fl x (List.mem_filter.mp hx).1, ⟨(w.nu.1.sublist (List.Sublist.map _ List.filter_sublist)), fun x hx => w.nu.2 x (List.mem_filter.mp hx).1⟩, w.ak, w.tk, w.m20, w.nx⟩
theorem Wf.emptied {b m r : Nat} {h : House} (w : Wf b m r h) : Wf b m r { h with flight := [] } :=
  ⟨w.of1, w.of4, w.len, w.nd, (fun x hx => by cases hx), ⟨by simp, fun x hx => by cases hx⟩, w.ak, w.tk, w.m20, w.nx⟩
/-- a message comes: what is owed, what is noted grow by so much -/
theorem Wf.comes {b m r : Nat} {h : House} (w : Wf b m r h) {x : Message} (hx : WfM h.offices m x) : Wf (b + 20) m (r + m) (Vbcsah.comes h x) := by
  have w2 : Wf (b + 20) m (r + m) h := w.mono (by omega) (Nat.le_refl _) (by omega)
  have nd := w.node hx.ds
  unfold Vbcsah.comes
  by_cases on : (Vbcsah.node h x.dst).on = true
  · simp only [on, Bool.true_eq_false, if_false]
    by_cases k1 : x.kind = 1
    · rw [if_pos k1]
      have ok := hx.ok (by omega)
      exact w2.set (((nd.filled on ok).owes (x := Vbcsah.filled (Vbcsah.node h x.dst) x.items) on (hx.k1 k1) (okB_len ok)).mono (Nat.le_refl _) (by omega))
    · rw [if_neg k1]
      by_cases k2 : x.kind = 2
      · rw [if_pos k2]
        have w3 := w2.set (i := x.dst) ((nd.noted on x.src hx.ln).mono (by omega) (Nat.le_refl _))
        exact ⟨w3.of1, w3.of4, w3.len, w3.nd, w3.fl, w3.nu, Nat.le_trans (onces_len _ _ _) (Nat.add_le_add w.ak hx.ln), w3.tk, w3.m20, w3.nx⟩
      · rw [if_neg k2]
        by_cases k3 : x.kind = 3
        · rw [if_pos k3]
          have nk := news_okB (b := x.items) nd.bk
          split
          · exact w2
          · exact w2.post ⟨.inr (.inr (.inr rfl)), hx.ds, hx.sr, (fun z => by cases z), fun _ => nk, Nat.le_trans (okB_len nk) w.m20⟩
        · rw [if_neg k3]
          exact w2.set ((nd.filled on (hx.ok k2)).mono (by omega) (by omega))
  · have off : (Vbcsah.node h x.dst).on = false := by simpa using on
    simp only [off, if_true]
    exact w2
theorem comes_offices (h : House) (x : Message) : (Vbcsah.comes h x).offices = h.offices := by
  unfold Vbcsah.comes
  dsimp only
  split
  · rfl
  · split
    · rfl
    · split
      · rfl
      · split
        · split <;> rfl
        · rfl
/-- posts one behind another -/
theorem Wf.posts {b m r : Nat} (i : Nat) (f : Nat → Book) : ∀ (os : List Nat) {h : House}, Wf b m r h → (∀ o ∈ os, ∀ n, WfM h.offices m { number := n, kind := 2, src := i, dst := o, items := f o }) → Wf b m r (os.foldl (fun g o => Vbcsah.post g 2 i o (f o)) h)
  | [], _, w, _ => w
  | o :: os, h, w, hm => Wf.posts i f os (h := Vbcsah.post h 2 i o (f o)) (w.post (hm o (List.mem_cons_self ..) _)) fun p hp n => hm p (List.mem_cons_of_mem _ hp) n
theorem Wf.keeps {b m r : Nat} {h : House} (w : Wf b m r h) {i : Nat} (hi : i < h.offices + 2) (hb : b ≤ m) : Wf b m r (Vbcsah.keeps h i) := by
  have nd := w.node hi
  unfold Vbcsah.keeps
  refine Wf.posts i _ _ (w.set (nd.kept.unowed)) fun o ho n => ?_
  have ho2 : o < h.offices := List.mem_range.mp (List.mem_filter.mp ho).1
  refine ⟨.inr (.inl rfl), hi, Nat.lt_of_lt_of_le ho2 (Nat.le_add_right _ _), (fun z => by cases z), (fun z => absurd rfl z), ?_⟩
  have h1 : (owedTo (Vbcsah.node h i) o).length ≤ (Vbcsah.node h i).owed.length := by
    unfold owedTo
    rw [List.length_map]
    exact List.length_filter_le _ _
  exact Nat.le_trans h1 (Nat.le_trans nd.ol hb)
theorem Wf.take {b m r : Nat} {h : House} (w : Wf b m r h) {o : Nat} (ho : o < h.offices + 2) (on : (Vbcsah.node h o).on = true) {i : Item} (hi : InR20 i) : Wf b m (r + 1) (take_ h o i) := by
  have ok : OkB [i] := ⟨by simp [Srt], fun j hj => by rw [List.mem_singleton.mp hj]; exact hi⟩
  have w2 : Wf b m (r + 1) h := w.mono (Nat.le_refl _) (Nat.le_refl _) (by omega)
  have w3 := w2.set (i := o) (((w.node ho).filled on ok).mono (Nat.le_refl _) (Nat.le_succ r))
  refine ⟨w3.of1, w3.of4, w3.len, w3.nd, w3.fl, w3.nu, w3.ak, ?_, w3.m20, w3.nx⟩
  show (takenOnce h.taken i).length ≤ r + 1
  unfold takenOnce
  split
  · exact Nat.le_succ_of_le w.tk
  · rw [List.length_append]
    exact Nat.add_le_add_right w.tk 1
end Fo
namespace Fo
open Vbcsah
theorem seq_kept (x : Node) : seqOf (readSlot (Vbcsah.kept x)) = seqOf (readSlot x) + 1 := by
  by_cases c : seqOf x.slot1 < seqOf x.slot0
  · have e : Vbcsah.kept x = { x with slot1 := some { seq := seqOf (readSlot x) + 1, content := x.memory } } := if_pos c
    have e0 : readSlot x = x.slot0 := if_pos c
    have e1 : readSlot { x with slot1 := some { seq := seqOf (readSlot x) + 1, content := x.memory } } = some { seq := seqOf (readSlot x) + 1, content := x.memory } := if_neg (by
      show ¬ (seqOf (readSlot x) + 1 < seqOf x.slot0)
      rw [e0]; omega)
    rw [e, e1]; rfl
  · have e : Vbcsah.kept x = { x with slot0 := some { seq := seqOf (readSlot x) + 1, content := x.memory } } := if_neg c
    have e0 : readSlot x = x.slot1 := if_neg c
    have e1 : readSlot { x with slot0 := some { seq := seqOf (readSlot x) + 1, content := x.memory } } = some { seq := seqOf (readSlot x) + 1, content := x.memory } := if_pos (by
      show seqOf x.slot1 < seqOf (readSlot x) + 1
      rw [e0]; omega)
    rw [e, e1]; rfl
/-- posting leaves the nodes, and doesn't look at them -/
def postAll (i : Nat) (f : Nat → Book) (os : List Nat) (h : House) : House := os.foldl (fun g o => Vbcsah.post g 2 i o (f o)) h
theorem postAll_snoc (i : Nat) (f : Nat → Book) (os : List Nat) (o : Nat) (h : House) : postAll i f (os ++ [o]) h = Vbcsah.post (postAll i f os h) 2 i o (f o) := by
  simp [postAll, List.foldl_append]
theorem postAll_nodes (i : Nat) (f : Nat → Book) : ∀ (os : List Nat) (h : House), (postAll i f os h).nodes = h.nodes ∧ (postAll i f os h).offices = h.offices ∧ (postAll i f os h).taken = h.taken ∧ (postAll i f os h).acked = h.acked ∧ (postAll i f os h).next = h.next + os.length ∧
    (postAll i f os h).flight.length = h.flight.length + os.length
  | [], _ => ⟨rfl, rfl, rfl, rfl, rfl, rfl⟩
  | o :: os, h => by
    obtain ⟨h1, h2, h3, h4, h5, h6⟩ := postAll_nodes i f os (Vbcsah.post h 2 i o (f o))
    have e : postAll i f (o :: os) h = postAll i f os (Vbcsah.post h 2 i o (f o)) := rfl
    rw [e]
    refine ⟨h1, h2, h3, h4, ?_, ?_⟩
    · rw [h5]; show h.next + 1 + os.length = h.next + (o :: os).length; rw [List.length_cons]; omega
    · rw [h6]; show (h.flight ++ [_]).length + os.length = _; rw [List.length_append, List.length_cons, List.length_cons, List.length_nil]; omega
theorem postAll_set (i j : Nat) (f : Nat → Book) (x : Node) : ∀ (os : List Nat) (h : House), setNode (postAll i f os h) j x = postAll i f os (setNode h j x)
  | [], _ => rfl
  | o :: os, h => postAll_set i j f x os (Vbcsah.post h 2 i o (f o))
theorem set_set (h : House) (i : Nat) (x y : Node) : setNode (setNode h i x) i y = setNode h i y := by
  unfold setNode
  simp
theorem keeps_eq (h : House) (i : Nat) : Vbcsah.keeps h i = postAll i (owedTo (node h i)) (owedOffices h (node h i)) (setNode h i { Vbcsah.kept (node h i) with owed := [] }) := rfl
theorem nums_postAll (i : Nat) (f : Nat → Book) : ∀ (os : List Nat) {h : House}, Nums h.next h.flight → 1 ≤ h.next → Nums (postAll i f os h).next (postAll i f os h).flight
  | [], _, n, _ => n
  | o :: os, h, n, n1 => nums_postAll i f os (h := Vbcsah.post h 2 i o (f o)) (nums_post n n1 rfl) (Nat.le_succ_of_le n1)
end Fo

-- FoSess
/-! The session: how it lies; its small methods. -/
namespace Fo
open PySem PySem.Spec PyProof.Rows L2

abbrev House := Vbcsah.House
abbrev MsgS := Vbcsah.Message

def sesF (off last : Int) (pn pu pt pk : Addr) : List (Str × V) := [("offices", .int off), ("nodes", .ref pn), ("under_way", .ref pu), ("last_number", .int last), ("taken", .ref pt), ("acknowledged", .ref pk)]
def itKey (i : Item) : List Key := [.inl i.number, .inl i.version, .inl (Vbcsah.bit i.gone), .inl i.tells]
theorem itKey_row (i : Item) : (itKey i).map kV = itRow i := rfl
/-- a message under way by its number -/
def FlR (a : Ad) (wo : Ow) (H : Hp) (kv : Key × V) (m : MsgS) : Prop := kv.1 = .inl (m.number : Int) ∧ ∃ p, kv.2 = .ref p ∧ MsgV a wo H p m.kind m.src m.dst m.items
def FlAt (a : Ad) (wo : Ow) (H : Hp) (p : Addr) (l : List MsgS) : Prop := ∃ kvs, H p = some (.dK kvs) ∧ Al (FlR a wo H) kvs l
def TkAt (H : Hp) (p : Addr) (l : List Item) : Prop := H p = some (.dT (l.map fun i => (itKey i, V.bl true)))
structure SesA (P : Program) (w : World) (a : Ad) (wo : Ow) (H : Hp) (sa : Addr) (h : House) (dx pn pu pt pk : Addr) (ns : List Addr) : Prop where
  at_ : H sa = some (.ins a.c_Session dx (sesF h.offices ((h.next : Int) - 1) pn pu pt pk))
  wS : wo sa = (100, 0)
  nodes : H pn = some (.lst (ns.map V.ref))
  wN : wo pn = (99, 0)
  nl : ns.length = h.nodes.length
  nd : ∀ i x, h.nodes[i]? = some x → ∃ p, ns[i]? = some p ∧ NodeAt a wo H (i + 1) p x
  fl : FlAt a wo H pu h.flight
  wU : wo pu = (100, 1)
  tk : TkAt H pt h.taken
  wT : wo pt = (100, 2)
  ak : AkAt P w H pk h.acked
  wK : wo pk = (100, 3)
def SesAt (P : Program) (w : World) (a : Ad) (wo : Ow) (H : Hp) (sa : Addr) (h : House) : Prop := ∃ dx pn pu pt pk ns, SesA P w a wo H sa h dx pn pu pt pk ns
/-- all that is the session's -/
abbrev Ses : Nat → Prop := fun n => n ≠ 0 ∧ n ≤ 100

section
variable {P : Program} {w : World} {K : PySem.W.Frag} {mg : Str → Option Value} {base : Heap} {a : Ad}

theorem FlR.up {k : Nat → Prop} {wo w' : Ow} {H H' : Hp} {kv : Key × V} {m : MsgS} (f : Frm k wo w' H H') (h0 : ¬ k 0) (h : FlR a wo H kv m) : FlR a w' H' kv m := let ⟨e, p, ep, v⟩ := h; ⟨e, p, ep, v.up f h0⟩
/-- nothing of the session is changed -/
theorem SesA.up {k : Nat → Prop} {wo w' : Ow} {H H' : Hp} {sa : Addr} {h : House} {dx pn pu pt pk : Addr} {ns : List Addr} (f : Frm k wo w' H H') (h0 : ¬ k 0) (hk : ∀ n, n ≤ 100 → ¬ k n) (hl : h.nodes.length ≤ 90)
    (S : SesA P w a wo H sa h dx pn pu pt pk ns) : SesA P w a w' H' sa h dx pn pu pt pk ns := by
  obtain ⟨kvs, eF, aF⟩ := S.fl
  obtain ⟨xs, eK, aK, zK⟩ := S.ak
  have k100 := hk 100 (Nat.le_refl _)
  exact ⟨f.keep _ _ S.at_ (by rw [S.wS]; exact k100), (f.own _ _ S.at_).trans S.wS, f.keep _ _ S.nodes (by rw [S.wN]; exact hk 99 (by omega)), (f.own _ _ S.nodes).trans S.wN, S.nl, fun i x hx => by
    obtain ⟨p, e, N⟩ := S.nd i x hx
    have : i < h.nodes.length := (List.getElem?_eq_some_iff.mp hx).1
    exact ⟨p, e, N.up f h0 (hk _ (by omega))⟩, ⟨kvs, f.keep _ _ eF (by rw [S.wU]; exact k100), aF.imp fun _ _ r => r.up f h0⟩, (f.own _ _ eF).trans S.wU, f.keep _ _ S.tk (by rw [S.wT]; exact k100), (f.own _ _ S.tk).trans S.wT,
    S.ak.up f.tup fun o h => f.keep _ _ h (by rw [S.wK]; exact k100), (f.own _ _ eK).trans S.wK⟩
/-- one node is changed -/
theorem SesA.node_step {wo w' : Ow} {H H' : Hp} {sa : Addr} {h : House} {dx pn pu pt pk : Addr} {ns : List Addr} {i : Nat} {p : Addr} {x : NodeS} (S : SesA P w a wo H sa h dx pn pu pt pk ns) (f : Frm (Own (i + 1)) wo w' H H') (hl : h.nodes.length ≤ 90)
    (hi : i < h.nodes.length) (hp : ns[i]? = some p) (N : NodeAt a w' H' (i + 1) p x) : SesA P w a w' H' sa (Vbcsah.setNode h i x) dx pn pu pt pk ns := by
  obtain ⟨kvs, eF, aF⟩ := S.fl
  obtain ⟨xs, eK, aK, zK⟩ := S.ak
  have k100 : ¬ Own (i + 1) 100 := fun z => by have : 100 = i + 1 := z; omega
  have h0 : ¬ Own (i + 1) 0 := fun z => by cases z
  exact ⟨f.keep _ _ S.at_ (by rw [S.wS]; exact k100), (f.own _ _ S.at_).trans S.wS, f.keep _ _ S.nodes (by rw [S.wN]; exact fun z => by have : 99 = i + 1 := z; omega), (f.own _ _ S.nodes).trans S.wN, by show _ = (h.nodes.set i x).length; rw [List.length_set]; exact S.nl, fun j y hy => by
    have hy' : (h.nodes.set i x)[j]? = some y := hy
    by_cases z : i = j
    · subst z
      rw [List.getElem?_set_self hi] at hy'
      cases hy'
      exact ⟨p, hp, N⟩
    · rw [List.getElem?_set_ne z] at hy'
      obtain ⟨q, e, M⟩ := S.nd j y hy'
      exact ⟨q, e, M.up f h0 (fun q => by have : j + 1 = i + 1 := q; omega)⟩,
    ⟨kvs, f.keep _ _ eF (by rw [S.wU]; exact k100), aF.imp fun _ _ r => r.up f h0⟩, (f.own _ _ eF).trans S.wU, f.keep _ _ S.tk (by rw [S.wT]; exact k100), (f.own _ _ S.tk).trans S.wT,
    S.ak.up f.tup fun o h => f.keep _ _ h (by rw [S.wK]; exact k100), (f.own _ _ eK).trans S.wK⟩

/-! ### checks -/
def InS (a : Ad) (H : Hp) (sa : Addr) (off : Nat) : Prop := ∃ dx last pn pu pt pk, H sa = some (.ins a.c_Session dx (sesF off last pn pu pt pk))
theorem SesA.inS {wo : Ow} {H : Hp} {sa : Addr} {h : House} {dx pn pu pt pk : Addr} {ns : List Addr} (S : SesA P w a wo H sa h dx pn pu pt pk ns) : InS a H sa h.offices := ⟨_, _, _, _, _, _, S.at_⟩
def sp_check (a : Ad) (lo hi : Nat → Int) : Sp := fun vs H Q E => ∃ (sa : Addr) (off : Nat) (z : Int), vs = [.ref sa, .int z] ∧ InS a H sa off ∧ (lo off ≤ z ∧ z ≤ hi off → Q .non H) ∧ (¬ (lo off ≤ z ∧ z ≤ hi off) → E (.ref a.c_NotInRange) none H)
theorem ok_Session_check_node (T : Txt K mg a) : FnOk P w K mg base (L2.CX P w) 2 a.f_Session_check_node a.d_Session_check_node ["self", "number"] (sp_check a (fun _ => 0) fun off => (off : Int) + 1) := by
  refine T.F_Session_check_node.okX sc_Session_check_node (fun vs H Q E h => ?_) (fun cdv A outer s H vs Q E hr h => ⟨_, (pss_one (ps_expr (pe_call (ok_check_range T) hr rfl T.g_check_range T.F_check_range.kp T.b_check_range .nil (passes_call (takes_of rfl rfl rfl rfl) (fun _ _ _ _ h => h)) (pa_cons (pv 1) (pa_cons pe_int (pa_cons (pe_op op_add (pe_fld (pv 0) rfl) pe_int) pa_nil)))))), ?_⟩)
  · obtain ⟨sa, off, z, rfl, _⟩ := h; rfl
  · obtain ⟨sa, off, z, rfl, ⟨dx, last, pn, pu, pt, pk, e⟩, k1, k2⟩ := h
    exact ⟨_, rfl, _, rfl, sa, _, dx, _, _, rfl, e, T.cl_Session, T.na_Session_offices, rfl, _, _, rfl, rfl, _, _, _, rfl, k1, k2⟩
theorem ok_Session_check_office (T : Txt K mg a) : FnOk P w K mg base (L2.CX P w) 2 a.f_Session_check_office a.d_Session_check_office ["self", "number"] (sp_check a (fun _ => 0) fun off => (off : Int) - 1) := by
  refine T.F_Session_check_office.okX sc_Session_check_office (fun vs H Q E h => ?_) (fun cdv A outer s H vs Q E hr h => ⟨_, (pss_one (ps_expr (pe_call (ok_check_range T) hr rfl T.g_check_range T.F_check_range.kp T.b_check_range .nil (passes_call (takes_of rfl rfl rfl rfl) (fun _ _ _ _ h => h)) (pa_cons (pv 1) (pa_cons pe_int (pa_cons (pe_op op_sub (pe_fld (pv 0) rfl) pe_int) pa_nil)))))), ?_⟩)
  · obtain ⟨sa, off, z, rfl, _⟩ := h; rfl
  · obtain ⟨sa, off, z, rfl, ⟨dx, last, pn, pu, pt, pk, e⟩, k1, k2⟩ := h
    exact ⟨_, rfl, _, rfl, sa, _, dx, _, _, rfl, e, T.cl_Session, T.na_Session_offices, rfl, _, _, rfl, rfl, _, _, _, rfl, k1, k2⟩
theorem ok_Session_check_centre (T : Txt K mg a) : FnOk P w K mg base (L2.CX P w) 2 a.f_Session_check_centre a.d_Session_check_centre ["self", "number"] (sp_check a (fun off => (off : Int)) fun off => (off : Int) + 1) := by
  refine T.F_Session_check_centre.okX sc_Session_check_centre (fun vs H Q E h => ?_) (fun cdv A outer s H vs Q E hr h => ⟨_, (pss_one (ps_expr (pe_call (ok_check_range T) hr rfl T.g_check_range T.F_check_range.kp T.b_check_range .nil (passes_call (takes_of rfl rfl rfl rfl) (fun _ _ _ _ h => h)) (pa_cons (pv 1) (pa_cons (pe_fld (pv 0) rfl) (pa_cons (pe_op op_add (pe_fld (pv 0) rfl) pe_int) pa_nil)))))), ?_⟩)
  · obtain ⟨sa, off, z, rfl, _⟩ := h; rfl
  · obtain ⟨sa, off, z, rfl, ⟨dx, last, pn, pu, pt, pk, e⟩, k1, k2⟩ := h
    exact ⟨_, rfl, _, rfl, sa, _, dx, _, _, rfl, e, T.cl_Session, T.na_Session_offices, rfl, _, rfl, sa, _, dx, _, _, rfl, e, T.cl_Session, T.na_Session_offices, rfl, _, _, rfl, rfl, _, _, _, rfl, k1, k2⟩
def sp_Session_other_centre (a : Ad) : Sp := fun vs H Q _ => ∃ (sa : Addr) (off : Nat) (z : Int), vs = [.ref sa, .int z] ∧ InS a H sa off ∧ Q (.int (2 * (off : Int) + 1 - z)) H
theorem ok_Session_other_centre (T : Txt K mg a) : FnOk P w K mg base CX0 1 a.f_Session_other_centre a.d_Session_other_centre ["self", "centre"] (sp_Session_other_centre a) := by
  refine T.F_Session_other_centre.ok sc_Session_other_centre (fun vs H Q E h => ?_) (fun cdv A outer s H vs Q E hr h => ⟨_, (pss_one (ps_ret (pe_op op_sub (pe_op op_add (pe_op op_mul pe_int (pe_fld (pv 0) rfl)) pe_int) (pv 1)))), ?_⟩)
  · obtain ⟨sa, off, z, rfl, _⟩ := h; rfl
  · obtain ⟨sa, off, z, rfl, ⟨dx, last, pn, pu, pt, pk, e⟩, k⟩ := h
    exact ⟨_, rfl, sa, _, dx, _, _, rfl, e, T.cl_Session, T.na_Session_offices, rfl, _, _, rfl, rfl, .inl ⟨by decide, by decide⟩, _, _, rfl, rfl, _, rfl, _, _, rfl, rfl, k⟩

/-! ### a node by its number -/
theorem ix_at {α : Type} {xs : List α} {z : Int} {i : Nat} {x : α} (hz : z = (i : Int)) (h : xs[i]? = some x) : atI xs z = some x := by
  subst hz; exact atI_nat h
def sp_Session_node_with_power (P : Program) (w : World) (a : Ad) : Sp := fun vs H Q E => ∃ (wo : Ow) (sa : Addr) (h : House) (dx pn pu pt pk : Addr) (ns : List Addr) (i : Nat) (p : Addr) (x : NodeS), vs = [.ref sa, .int (i : Int)] ∧ SesA P w a wo H sa h dx pn pu pt pk ns ∧
  h.nodes[i]? = some x ∧ ns[i]? = some p ∧ (x.on = true → Q (.ref p) H) ∧ (x.on = false → E (.ref a.c_NoPower) none H)
theorem ok_Session_node_with_power (T : Txt K mg a) : FnOk P w K mg base (L2.CX P w) 1 a.f_Session_node_with_power a.d_Session_node_with_power ["self", "number"] (sp_Session_node_with_power P w a) := by
  refine T.F_Session_node_with_power.okX sc_Session_node_with_power (fun vs H Q E h => ?_) (fun cdv A outer s H vs Q E hr h => ⟨_, (pss_cons (ps_set (i := 2) sc_Session_node_with_power.nd rfl (Or.inl rfl) (pe_ix ix_list (pe_fld (pv 0) rfl) (pv 1) (fun _ _ => rfl)))
    (pss_cons (ps_if (pt_not (pt_val (pe_fld (pv 2) rfl)))
    (pss_one (ps_raise rfl (takes_of rfl rfl rfl rfl) (pmk_own0 PySem.F.excBase_Exception T.x_NoPower T.g_NoPower T.k_NoPower (raises_own T.b_NoPower T.t_NoPower) (by exact rfl))))
    pss_nil)
    (pss_one (ps_ret (pv 2))))), ?_⟩)
  · obtain ⟨wo, sa, h, dx, pn, pu, pt, pk, ns, i, p, x, rfl, _⟩ := h; rfl
  · obtain ⟨wo, sa, h, dx, pn, pu, pt, pk, ns, i, p, x, rfl, S, hx, hp, k1, k2⟩ := h
    obtain ⟨p', hp', ⟨xd, pb, pr, po, ps, s0, s1, N⟩⟩ := S.nd i x hx
    rw [hp] at hp'
    cases hp'
    refine ⟨_, rfl, sa, _, dx, _, _, rfl, S.at_, T.cl_Session, T.na_Session_nodes, rfl, _, rfl, pn, _, _, _, rfl, rfl, SqL.of S.nodes, ix_at rfl (by rw [List.getElem?_map, hp]; rfl), ?_⟩
    refine ⟨_, rfl, p, _, xd, _, _, rfl, N.at_, T.cl_Node, T.na_Node_power, rfl, _, rfl, ?_⟩
    cases c : x.on with
    | true => exact iteF ⟨_, rfl, k1 c⟩
    | false => exact iteT (k2 c)

/-! ### messages under way -/
theorem fl_find {wo : Ow} {H : Hp} {z : Int} : ∀ {kvs : List (Key × V)} {l : List MsgS}, Al (FlR a wo H) kvs l → match l.find? (fun x => (x.number : Int) == z) with
    | none => valV kvs (.inl z) = none
    | some m => ∃ p, valV kvs (.inl z) = some (.ref p) ∧ MsgV a wo H p m.kind m.src m.dst m.items
  | _, _, .nil => rfl
  | _, _, .cons (a := kv) (b := m) r t => by
    obtain ⟨e, p, ep, v⟩ := r
    rw [List.find?_cons]
    by_cases c : (m.number : Int) = z
    · have : ((m.number : Int) == z) = true := by simpa using c
      rw [this]
      refine ⟨p, ?_, v⟩
      rw [valV_pos (by rw [e, c]), ep]
    · have : ((m.number : Int) == z) = false := by simpa using c
      rw [this]
      have n : ¬ kv.1 = .inl z := fun q => c (by rw [e] at q; exact Sum.inl.inj q)
      have ih := fl_find (z := z) t
      rw [valV_neg n]
      exact ih
def sp_Session_message_under_way (P : Program) (w : World) (a : Ad) : Sp := fun vs H Q E => ∃ (wo : Ow) (sa : Addr) (h : House) (z : Int), vs = [.ref sa, .int z] ∧ SesAt P w a wo H sa h ∧
  (∀ m p, Vbcsah.messageAt h z = some m → MsgV a wo H p m.kind m.src m.dst m.items → Q (.ref p) H) ∧ (Vbcsah.messageAt h z = none → E (.ref a.c_NothingThere) none H)
theorem ok_Session_message_under_way (T : Txt K mg a) : FnOk P w K mg base (L2.CX P w) 1 a.f_Session_message_under_way a.d_Session_message_under_way ["self", "number"] (sp_Session_message_under_way P w a) := by
  refine T.F_Session_message_under_way.okX sc_Session_message_under_way (fun vs H Q E h => ?_) (fun cdv A outer s H vs Q E hr h => ⟨_, (pss_cons (ps_if (pt_cmp (pc_dnotin (hu_of hr) (pv 1) (pe_fld (pv 0) rfl)))
    (pss_one (ps_raise rfl (takes_of rfl rfl rfl rfl) (pmk_own0 PySem.F.excBase_Exception T.x_NothingThere T.g_NothingThere T.k_NothingThere (raises_own T.b_NothingThere T.t_NothingThere) (by exact rfl))))
    pss_nil)
    (pss_one (ps_ret (pe_dget (hu_of hr) (pe_fld (pv 0) rfl) (pv 1) (fun _ _ => rfl))))), ?_⟩)
  · obtain ⟨wo, sa, h, z, rfl, _⟩ := h; rfl
  · obtain ⟨wo, sa, h, z, rfl, ⟨dx, pn, pu, pt, pk, ns, S⟩, k1, k2⟩ := h
    obtain ⟨kvs, eF, aF⟩ := S.fl
    have q := fl_find (z := z) aF
    have eM : Vbcsah.messageAt h z = h.flight.find? (fun x => (x.number : Int) == z) := rfl
    rw [← eM] at q
    refine ⟨_, rfl, _, rfl, sa, _, dx, _, _, rfl, S.at_, T.cl_Session, T.na_Session_under_way, rfl, pu, _, rfl, dget eF rfl, _, rfl, ?_⟩
    cases c : Vbcsah.messageAt h z with
    | none =>
      rw [c] at q
      rw [q]
      exact iteT (k2 c)
    | some m =>
      rw [c] at q
      obtain ⟨p, e1, v⟩ := q
      rw [e1]
      exact iteF ⟨_, rfl, sa, _, dx, _, _, rfl, S.at_, T.cl_Session, T.na_Session_under_way, rfl, _, rfl, pu, _, rfl, dget eF e1, k1 m p c v⟩
def sp_Session_check_room (P : Program) (w : World) (a : Ad) : Sp := fun vs H Q E => ∃ (wo : Ow) (sa : Addr) (h : House) (n : Nat), vs = [.ref sa, .int (n : Int)] ∧ SesAt P w a wo H sa h ∧
  (Vbcsah.room h n = true → Q .non H) ∧ (Vbcsah.room h n = false → E (.ref a.c_TooManyUnderWay) none H)
theorem ok_Session_check_room (T : Txt K mg a) : FnOk P w K mg base (L2.CX P w) 1 a.f_Session_check_room a.d_Session_check_room ["self", "more"] (sp_Session_check_room P w a) := by
  refine T.F_Session_check_room.okX sc_Session_check_room (fun vs H Q E h => ?_) (fun cdv A outer s H vs Q E hr h => ⟨_, (pss_one (ps_if (pt_cmpR op_gt (pe_op op_add (pe_callB call_lenD (by rfl) T.n_len (by decide +kernel) (pa_cons (pe_fld (pv 0) rfl) pa_nil)) (pv 1)) (pe_const rfl T.c_MOST_UNDER_WAY) (nomark _))
    (pss_one (ps_raise rfl (takes_of rfl rfl rfl rfl) (pmk_own0 PySem.F.excBase_Exception T.x_TooManyUnderWay T.g_TooManyUnderWay T.k_TooManyUnderWay (raises_own T.b_TooManyUnderWay T.t_TooManyUnderWay) (by exact rfl))))
    pss_nil)), ?_⟩)
  · obtain ⟨wo, sa, h, n, rfl, _⟩ := h; rfl
  · obtain ⟨wo, sa, h, n, rfl, ⟨dx, pn, pu, pt, pk, ns, S⟩, k1, k2⟩ := h
    obtain ⟨kvs, eF, aF⟩ := S.fl
    have hl := aF.len
    refine ⟨_, rfl, sa, _, dx, _, _, rfl, S.at_, T.cl_Session, T.na_Session_under_way, rfl, pu, kvs, rfl, eF, _, rfl, _, _, rfl, rfl, _, _, rfl, rfl, _, rfl, ?_⟩
    by_cases c : h.flight.length + n ≤ 40
    · rw [decide_eq_false (by omega)]
      exact iteF (k1 (decide_eq_true c))
    · rw [decide_eq_true (by omega)]
      exact iteT (k2 (decide_eq_false c))
end
end Fo

-- FoSess2
/-! A message is sent; a new session. -/
namespace Fo
open PySem PySem.Spec PyProof.Rows L2
section
variable {P : Program} {w : World} {K : PySem.W.Frag} {mg : Str → Option Value} {base : Heap} {a : Ad}

theorem find_none_of_nums {n : Nat} {l : List MsgS} (h : Nums n l) : l.find? (fun x => (x.number : Int) == (n : Int)) = none := by
  apply List.find?_eq_none.mpr
  intro m hm
  have := (h.2 m hm).2
  simp
  omega
theorem upd_self {H : Hp} {p : Addr} {o : HO} (h : H p = some o) : upd H p o = H := by
  funext b
  by_cases e : b = p
  · rw [e, upd_same, h]
  · rw [upd_ne e]
/-- the session's own objects are changed, its nodes are not -/
theorem SesA.own_step {wo : Ow} {H H' : Hp} {sa : Addr} {h h' : House} {dx pn pu pt pk : Addr} {ns : List Addr} (S : SesA P w a wo H sa h dx pn pu pt pk ns) (f : Frm (Own 100) wo wo H H') (hl : h.nodes.length ≤ 90)
    (hn : h'.nodes = h.nodes) (e1 : H' sa = some (.ins a.c_Session dx (sesF h'.offices ((h'.next : Int) - 1) pn pu pt pk))) (e2 : FlAt a wo H' pu h'.flight) (e3 : TkAt H' pt h'.taken) (e4 : AkAt P w H' pk h'.acked) : SesA P w a wo H' sa h' dx pn pu pt pk ns := by
  have h0 : ¬ Own 100 0 := fun z => by cases z
  refine ⟨e1, S.wS, f.keep _ _ S.nodes (by rw [S.wN]; exact fun z => by cases z), S.wN, by rw [hn]; exact S.nl, fun i x hx => ?_, e2, S.wU, e3, S.wT, e4, S.wK⟩
  rw [hn] at hx
  obtain ⟨p, e, N⟩ := S.nd i x hx
  have : i < h.nodes.length := (List.getElem?_eq_some_iff.mp hx).1
  exact ⟨p, e, N.up f h0 (fun z => by have : i + 1 = 100 := z; omega)⟩

def sp_Session_send_off (P : Program) (w : World) (a : Ad) : Sp := fun vs H Q _ => ∃ (wo : Ow) (sa : Addr) (h : House) (dx pn pu pt pk : Addr) (ns : List Addr) (p : Addr) (k s d : Nat) (l : List Item), vs = [.ref sa, .ref p] ∧ SesA P w a wo H sa h dx pn pu pt pk ns ∧ MsgV a wo H p k s d l ∧
  Nums h.next h.flight ∧ h.flight.length ≤ 1000 ∧ h.nodes.length ≤ 90 ∧ ∀ H', SesA P w a wo H' sa (Vbcsah.post h k s d l) dx pn pu pt pk ns → Frm (Own 100) wo wo H H' → Q (.int h.next) H'
theorem ok_Session_send_off (T : Txt K mg a) : FnOk P w K mg base CX0 1 a.f_Session_send_off a.d_Session_send_off ["self", "message"] (sp_Session_send_off P w a) := by
  refine T.F_Session_send_off.ok sc_Session_send_off (fun vs H Q E h => ?_) (fun cdv A outer s H vs Q E hr h => ⟨_, (pss_cons (ps_fldaug (pv 0) pe_int in_add)
    (pss_cons (ps_dput (hu_of hr) (pe_fld (pv 0) rfl) (pe_fld (pv 0) rfl) (pv 1) rfl)
    (pss_one (ps_ret (pe_fld (pv 0) rfl))))), ?_⟩)
  · obtain ⟨wo, sa, h, dx, pn, pu, pt, pk, ns, p, k, s, d, l, rfl, _⟩ := h; rfl
  · obtain ⟨wo, sa, h, dx, pn, pu, pt, pk, ns, p, kd, s, d, l, rfl, S, M, nu, hl, h99, k⟩ := h
    obtain ⟨kvs, eF, aF⟩ := S.fl
    have q := fl_find (z := (h.next : Int)) aF
    rw [find_none_of_nums nu] at q
    have hlen : kvs.length < sizeLine := small1000 (by rw [aF.len]; exact hl)
    have ev : ((h.next : Int) - 1 + 1) = (h.next : Int) := by omega
    refine ⟨_, rfl, sa, _, dx, _, _, rfl, S.at_, T.cl_Session, T.na_Session_last_number, rfl, _, _, rfl, rfl, dx, _, S.at_, (by show 6 < 1000; decide), ?_⟩
    have f1 : Frm (Own 100) wo wo H (upd H sa (.ins a.c_Session dx (sesF h.offices ((h.next : Int) - 1 + 1) pn pu pt pk))) := Frm.write S.at_ (by intro z; exact z) (by rw [S.wS])
    have n1 : pu ≠ sa := ne_own S.wU S.wS (by simp)
    have n2 : pt ≠ sa := ne_own S.wT S.wS (by simp)
    have n3 : pk ≠ sa := ne_own S.wK S.wS (by simp)
    have n4 : pt ≠ pu := ne_own S.wT S.wU (by simp)
    have n5 : pk ≠ pu := ne_own S.wK S.wU (by simp)
    have eF1 := upd_other (o := .ins a.c_Session dx (sesF h.offices ((h.next : Int) - 1 + 1) pn pu pt pk)) n1 eF
    refine ⟨_, rfl, _, rfl, sa, _, dx, _, _, rfl, upd_same, T.cl_Session, T.na_Session_under_way, rfl, _, rfl, sa, _, dx, _, _, rfl, upd_same, T.cl_Session, T.na_Session_last_number, rfl, pu, _, rfl, DPut.k (k := Sum.inl ((h.next : Int) - 1 + 1)) eF1 hlen, ?_⟩
    have f2 := f1.trans (Frm.write (p := pu) (o' := .dK (putK kvs (.inl ((h.next : Int) - 1 + 1)) (.ref p))) eF1 (by intro z; exact z) (by rw [S.wU]))
    refine ⟨_, rfl, sa, _, dx, _, _, rfl, upd_other (Ne.symm n1) upd_same, T.cl_Session, T.na_Session_last_number, rfl, ?_⟩
    have res := k (upd (upd H sa (.ins a.c_Session dx (sesF h.offices ((h.next : Int) - 1 + 1) pn pu pt pk))) pu (.dK (putK kvs (.inl ((h.next : Int) - 1 + 1)) (.ref p))))
      (S.own_step (h' := Vbcsah.post h kd s d l) f2 h99 rfl ?_ ⟨_, upd_same, ?_⟩ (upd_other n4 (upd_other n2 S.tk)) (S.ak.up f2.tup fun o h => upd_other n5 (upd_other n3 h))) f2
    · exact (congrFun (congrArg Q (congrArg V.int ev)) _).mpr res
    · rw [upd_ne (Ne.symm n1), upd_same]
      have : (((Vbcsah.post h kd s d l).next : Int) - 1) = (h.next : Int) - 1 + 1 := by show ((h.next + 1 : Nat) : Int) - 1 = _; omega
      rw [this]
      rfl
    · have h0 : ¬ Own 100 0 := fun z => by cases z
      have eK : putK kvs (.inl ((h.next : Int) - 1 + 1)) (.ref p) = kvs ++ [(Sum.inl (h.next : Int), V.ref p)] := by rw [ev, putK_new _ q]
      have g := (aF.imp fun _ _ r => FlR.up f2 h0 r).snoc (p := (Sum.inl (h.next : Int), V.ref p)) (x := ({ number := h.next, kind := kd, src := s, dst := d, items := l } : MsgS)) ⟨rfl, p, rfl, M.up f2 h0⟩
      rw [← eK] at g
      exact g

/-! ### a new session -/
theorem make_node {wo : Ow} {H : Hp} {Q : VK} {E : XK} {i : Nat} {x dx : Addr} (hi : i ≠ 0) (hx : H x = none) (hdx : H dx = none) (hne : dx ≠ x)
    (kk : ∀ w' H', NodeAt a w' H' i x {} → Frm (Own i) wo w' H H' → Q .non H') : sp_Node_init a (.ref x :: ([] ++ [])) (upd (upd H dx (.own x)) x (.ins a.c_Node dx [])) Q E := by
  have f1 : Frm (Own i) wo wo H (upd H dx (.own x)) := Frm.new hdx
  have hx1 : upd H dx (.own x) x = none := by rw [upd_ne (Ne.symm hne)]; exact hx
  have f2 : Frm (Own i) wo (setW wo x (i, 0)) H (upd (upd H dx (.own x)) x (.ins a.c_Node dx [])) := f1.trans (Frm.laid (i, 0) hx1)
  exact ⟨setW wo x (i, 0), i, x, dx, rfl, upd_same, setW_same, hi, fun w' H' N f => kk w' H' N (f2.trans f)⟩
def newHouse (off : Nat) : House := { offices := off, nodes := List.replicate (off + 2) {} }
def sp_Session_init (P : Program) (w : World) (a : Ad) : Sp := fun vs H Q _ => ∃ (wo : Ow) (sa dx : Addr) (off : Nat), vs = [.ref sa, .int (off : Int)] ∧ H sa = some (.ins a.c_Session dx []) ∧ wo sa = (100, 0) ∧ 1 ≤ off ∧ off ≤ 4 ∧
  ∀ w' H', SesAt P w a w' H' sa (newHouse off) → Frm Ses wo w' H H' → Q .non H'
abbrev qF1 (off : Nat) : List (Str × V) := putF "offices" (.int off) []
abbrev qF2 (off : Nat) (D : Addr) : List (Str × V) := putF "nodes" (.ref D) (qF1 off)
abbrev qF3 (off : Nat) (D u : Addr) : List (Str × V) := putF "under_way" (.ref u) (qF2 off D)
abbrev qF4 (off : Nat) (D u : Addr) : List (Str × V) := putF "last_number" (.int 0) (qF3 off D u)
abbrev qF5 (off : Nat) (D u t : Addr) : List (Str × V) := putF "taken" (.ref t) (qF4 off D u)
theorem ok_Session_init (T : Txt K mg a) : FnOk P w K mg base CX0 5 a.f_Session_init a.d_Session_init ["self", "offices"] (sp_Session_init P w a) := by
  refine T.F_Session_init.ok sc_Session_init (fun vs H Q E h => ?_) (fun cdv A outer s H vs Q E hr h => ⟨_, (pss_cons (ps_fld (pv 0) (pv 1) rfl)
    (pss_cons (ps_fld (pv 0) (pe_lc (own := [("number", 2)]) (g := gName 2) (tt := tYes) rfl sc_Session_init.nd (pi_range1 rfl T.n_range (pa_cons (pe_op op_add (pv 1) pe_int) pa_nil)) (blkOk_by (N := N_Session_init) (sc := defScope s_Session_init) (by decide +kernel)) (fun _ _ _ _ _ => (pg_name (i := 2) sc_Session_init.nd rfl (Or.inl rfl))) (fun _ _ _ _ _ => pts_nil) (fun _ _ _ _ _ => (pe_make0 T.M_Node (ok_Node_init T) hr rfl T.g_Node T.b_Node_init .nil pass0))) rfl)
    (pss_cons (ps_fld (pv 0) pe_dnewK rfl)
    (pss_cons (ps_fld (pv 0) pe_int rfl)
    (pss_cons (ps_fld (pv 0) pe_dnewT rfl)
    (pss_one (ps_fld (pv 0) pe_dnewN rfl))))))), ?_⟩)
  · obtain ⟨wo, sa, dx, off, rfl, _⟩ := h; rfl
  · obtain ⟨wo, sa, dx, off, rfl, hs, wS, h1, h4, k⟩ := h
    refine ⟨_, rfl, _, rfl, sa, _, dx, _, rfl, hs, T.cl_Session, T.na_Session_offices, (by show 0 < 1000; decide), ?_⟩
    have f1 : Frm Ses wo wo H (upd H sa (.ins a.c_Session dx (qF1 off))) := Frm.write hs (by intro z; exact z) (by rw [wS]; exact ⟨by decide, by decide⟩)
    have e1 : upd H sa (.ins a.c_Session dx (qF1 off)) sa = some (.ins a.c_Session dx (qF1 off)) := upd_same
    generalize upd H sa (.ins a.c_Session dx (qF1 off)) = H1 at f1 e1
    refine ⟨_, rfl, _, _, rfl, rfl, (off : Int) + 2, rfl, by omega, by omega, fun D hD => ?_⟩
    have fD : Frm Ses wo (setW wo D (99, 0)) H1 (upd H1 D (.lst [])) := Frm.laid (99, 0) hD
    have nsD : sa ≠ D := ne_of_none e1 hD
    refine lc_range (lo := 0) (n := ((off : Int) + 2).toNat) (fun j H' => ∃ (w' : Ow) (ns : List Addr), Frm Ses wo w' H H' ∧ H' sa = some (.ins a.c_Session dx (qF1 off)) ∧ w' sa = (100, 0) ∧ H' D = some (.lst (ns.map V.ref)) ∧ w' D = (99, 0) ∧ ns.length = j ∧
      ∀ i, i < j → ∃ p, ns[i]? = some p ∧ NodeAt a w' H' (i + 1) p {}) ?_ ?_ ?_
    · exact ⟨setW wo D (99, 0), [], f1.trans fD, upd_other nsD e1, by rw [setW_ne nsD]; exact wS, upd_same, setW_same, rfl, fun i h => absurd h (Nat.not_lt_zero _)⟩
    · rintro j H' hj ⟨w', ns, fj, es, ws, eD, wD, hn, nd⟩
      refine ⟨rfl, tYesI ?_⟩
      refine iteT ?_
      intro x xd nx nxd nxx
      refine make_node (wo := w') (i := j + 1) (by omega) nx nxd nxx ?_
      intro w2 H2 N f
      have hj5 : j < 6 := by omega
      have kD : ¬ Own (j + 1) (w' D).1 := by rw [wD]; exact fun z => by have : 99 = j + 1 := z; omega
      have kS : ¬ Own (j + 1) (w' sa).1 := by rw [ws]; exact fun z => by have : 100 = j + 1 := z; omega
      have eD2 := f.keep _ _ eD kD
      have wD2 : w2 D = (99, 0) := by rw [f.own _ _ eD]; exact wD
      have es2 := f.keep _ _ es kS
      have ws2 : w2 sa = (100, 0) := by rw [f.own _ _ es]; exact ws
      have g : Frm (Own 99) w2 w2 H2 (upd H2 D (.lst (ns.map V.ref ++ [V.ref x]))) := Frm.write eD2 (by intro z; exact z) (by rw [wD2])
      have hnl : ns.length < sizeLine := small1000 (by omega)
      refine ⟨rfl, _, eD2, by rw [List.length_map]; exact hnl, w2, ns ++ [x], ?_, upd_other nsD es2, ws2, by rw [List.map_append]; exact upd_same, wD2, by rw [List.length_append, hn]; rfl, fun i hi => ?_⟩
      · exact (fj.trans (f.mono fun n (z : n = j + 1) => ⟨by omega, by omega⟩)).trans (g.mono fun n (z : n = 99) => ⟨by omega, by omega⟩)
      · by_cases z : i = j
        · subst z
          exact ⟨x, by rw [List.getElem?_append_right (by omega), hn]; simp, N.up g (fun z => by cases z) (fun z => by have : i + 1 = 99 := z; omega)⟩
        · obtain ⟨p, e, M⟩ := nd i (by omega)
          exact ⟨p, by rw [List.getElem?_append_left (by omega)]; exact e, (M.up f (fun z => by cases z) (fun z => by have : i + 1 = j + 1 := z; omega)).up g (fun z => by cases z) (fun z => by have : i + 1 = 99 := z; omega)⟩
    · rintro H2 ⟨w2, ns, f2, es, ws, eD, wD, hn, nd⟩
      refine ⟨_, rfl, sa, _, dx, _, rfl, es, T.cl_Session, T.na_Session_nodes, (by show 1 < 1000; decide), ?_⟩
      have kS : Ses (w2 sa).1 := by rw [ws]; exact ⟨by decide, by decide⟩
      -- from here on the nodes and their list stand
      have go : ∀ {w3 : Ow} {H3 : Hp}, Frm (Own 100) w2 w3 H2 H3 → (∀ i, i < off + 2 → ∃ p, ns[i]? = some p ∧ NodeAt a w3 H3 (i + 1) p {}) ∧ H3 D = some (.lst (ns.map V.ref)) ∧ w3 D = (99, 0) := fun f3 =>
        ⟨fun i hi => by
          obtain ⟨p, e, N⟩ := nd i (by omega)
          exact ⟨p, e, N.up f3 (fun z => by cases z) (fun z => by have : i + 1 = 100 := z; omega)⟩, f3.keep _ _ eD (by rw [wD]; exact fun z => by cases z), (f3.own _ _ eD).trans wD⟩
      have g1 : Frm (Own 100) w2 w2 H2 (upd H2 sa (.ins a.c_Session dx (qF2 off D))) := Frm.write es (by intro z; exact z) (by rw [ws])
      intro u hu
      have nu1 : u ≠ sa := fun z => by subst z; rw [upd_same] at hu; cases hu
      have g2 := g1.trans (Frm.laid (100, 1) (o := .dK []) hu)
      refine ⟨_, rfl, sa, _, dx, _, rfl, upd_other (Ne.symm nu1) upd_same, T.cl_Session, T.na_Session_under_way, (by show 2 < 1000; decide), ?_⟩
      have g3 := g2.trans (Frm.write (p := sa) (o' := .ins a.c_Session dx (qF3 off D u)) (upd_other (Ne.symm nu1) upd_same) (by intro z; exact z) (by rw [setW_ne (Ne.symm nu1), ws]))
      refine ⟨_, rfl, sa, _, dx, _, rfl, upd_same, T.cl_Session, T.na_Session_last_number, (by show 3 < 1000; decide), ?_⟩
      have g4 := g3.trans (Frm.write (p := sa) (o' := .ins a.c_Session dx (qF4 off D u)) upd_same (by intro z; exact z) (by rw [setW_ne (Ne.symm nu1), ws]))
      intro t ht
      have nt1 : t ≠ sa := fun z => by subst z; rw [upd_same] at ht; cases ht
      have nt2 : t ≠ u := fun z => by subst z; rw [upd_ne nt1, upd_ne nt1, upd_same] at ht; cases ht
      have g5 := g4.trans (Frm.laid (100, 2) (o := .dT []) ht)
      refine ⟨_, rfl, sa, _, dx, _, rfl, upd_other (Ne.symm nt1) upd_same, T.cl_Session, T.na_Session_taken, (by show 4 < 1000; decide), ?_⟩
      have g6 := g5.trans (Frm.write (p := sa) (o' := .ins a.c_Session dx (qF5 off D u t)) (upd_other (Ne.symm nt1) upd_same) (by intro z; exact z) (by rw [setW_ne (Ne.symm nt1), setW_ne (Ne.symm nu1), ws]))
      intro c hc
      have nc1 : c ≠ sa := fun z => by subst z; rw [upd_same] at hc; cases hc
      have nc2 : c ≠ t := fun z => by subst z; rw [upd_ne nc1, upd_same] at hc; cases hc
      have nc3 : c ≠ u := fun z => by subst z; rw [upd_ne nc1, upd_ne nc2, upd_ne nc1, upd_ne nc1, upd_same] at hc; cases hc
      have g7 := g6.trans (Frm.laid (100, 3) (o := NstO P w c []) hc)
      refine ⟨_, rfl, sa, _, dx, _, rfl, upd_other (Ne.symm nc1) upd_same, T.cl_Session, T.na_Session_acknowledged, (by show 5 < 1000; decide), ?_⟩
      have g8 := g7.trans (Frm.write (p := sa) (o' := .ins a.c_Session dx (sesF off 0 D u t c)) (upd_other (Ne.symm nc1) upd_same) (by intro z; exact z) (by rw [setW_ne (Ne.symm nc1), setW_ne (Ne.symm nt1), setW_ne (Ne.symm nu1), ws]))
      obtain ⟨nd8, eD8, wD8⟩ := go g8
      refine k _ _ ⟨dx, D, u, t, c, ns, upd_same, ?_, eD8, wD8, ?_, fun i x hx => ?_, ⟨[], ?_, .nil⟩, ?_, ?_, ?_, ⟨[], ?_, .nil, Nat.zero_le _⟩, ?_⟩ (f2.trans (g8.mono fun n (z : n = 100) => ⟨by omega, by omega⟩))
      · rw [setW_ne (Ne.symm nc1), setW_ne (Ne.symm nt1), setW_ne (Ne.symm nu1), ws]
      · show ns.length = (List.replicate (off + 2) _).length
        rw [List.length_replicate, hn]; omega
      · have hx' : (List.replicate (off + 2) ({} : NodeS))[i]? = some x := hx
        have hi : i < off + 2 := by
          have := (List.getElem?_eq_some_iff.mp hx').1
          rwa [List.length_replicate] at this
        rw [List.getElem?_replicate, if_pos hi] at hx'
        cases hx'
        exact nd8 i hi
      · rw [upd_ne nu1, upd_ne (Ne.symm nc3), upd_ne nu1, upd_ne (Ne.symm nt2), upd_ne nu1, upd_ne nu1, upd_same]
      · rw [setW_ne (Ne.symm nc3), setW_ne (Ne.symm nt2), setW_same]
      · unfold TkAt
        rw [upd_ne nt1, upd_ne (Ne.symm nc2), upd_ne nt1, upd_same]
        rfl
      · rw [setW_ne (Ne.symm nc2), setW_same]
      · rw [upd_ne nc1, upd_same]
        rfl
      · rw [setW_same]
end
end Fo

-- FoHap
/-! What happens when a node keeps. -/
namespace Fo
open PySem PySem.Spec PyProof.Rows L2
section
variable {P : Program} {w : World} {K : PySem.W.Frag} {mg : Str → Option Value} {base : Heap} {a : Ad}

/-- all stands, one new object has an owner -/
theorem Frm.sameW {k : Nat → Prop} {wo : Ow} {H H' : Hp} {q : Addr} (x : Nat × Nat) (h : Same H H') (hq : H q = none) : Frm k wo (setW wo q x) H H' :=
  ⟨fun b o e _ => h b o e, fun b xs e => h b _ e, fun b o e => setW_ne (ne_of_none e hq), fun b o e => ⟨o, h b o e⟩⟩
theorem NodeAt.disowe {wo : Ow} {H : Hp} {i : Nat} {nd l : Addr} {n : NodeS} {dx pb pr po ps s0 s1 : Addr} (N : NodeA a wo H i nd n dx pb pr po ps s0 s1) (hi : i ≠ 0) (hl : H l = none) :
    NodeAt a (setW wo l (i, 3)) (upd (upd H l (.lst [])) nd (.ins a.c_Node dx (ndF n.on pb pr l ps))) i nd { n with owed := [] } ∧ Frm (Own i) wo (setW wo l (i, 3)) H (upd (upd H l (.lst [])) nd (.ins a.c_Node dx (ndF n.on pb pr l ps))) := by
  obtain ⟨kb, eb⟩ := N.book.there
  obtain ⟨kr, er⟩ := N.recs.there
  have f1 : Frm (Own i) wo (setW wo l (i, 3)) H (upd H l (.lst [])) := Frm.laid (i, 3) hl
  have n0 : nd ≠ l := ne_of_none N.at_ hl
  have e1 := upd_other (o := .lst []) n0 N.at_
  have f2 := f1.trans (Frm.write (p := nd) (o' := .ins a.c_Node dx (ndF n.on pb pr l ps)) e1 (by intro z; exact z) (by rw [setW_ne n0, N.wn]))
  have m1 : pb ≠ nd := ne_own N.wb N.wn (by simp)
  have m2 : pr ≠ nd := ne_own N.wr N.wn (by simp)
  have m3 : ps ≠ nd := ne_own N.ws N.wn (by simp)
  refine ⟨⟨dx, pb, pr, l, ps, s0, s1, N.re (on := n.on) f2 hi upd_same (N.book.up f2.tup fun o h => upd_other m1 (upd_other (ne_of_none h hl) h)) ?_ (N.recs.up f2.tup fun o h => upd_other m2 (upd_other (ne_of_none h hl) h)) ?_
    (RcsAt.nil (upd_other (Ne.symm n0) upd_same)) setW_same (upd_other m3 (upd_other (ne_of_none N.slots hl) N.slots))⟩, f2⟩
  · rw [setW_ne (ne_of_none eb hl)]; exact N.wb
  · rw [setW_ne (ne_of_none er hl)]; exact N.wr

/-- what wasn't there ahead of it may be changed behind it -/
theorem Frm.after {k : Nat → Prop} {wo w1 : Ow} {H H1 : Hp} {D : Addr} {o' : HO} (F : Frm k wo w1 H H1) (hD : H D = none) : Frm k wo w1 H (upd H1 D o') :=
  ⟨fun b o h n => upd_other (ne_of_none h hD) (F.keep b o h n), fun b xs h => upd_other (ne_of_none h hD) (F.tup b xs h), F.own, fun b o h => by
    obtain ⟨o2, e⟩ := F.there b o h
    exact ⟨o2, upd_other (ne_of_none h hD) e⟩⟩
def keptNums (h : House) (x : NodeS) (j : Nat) : List Int := ((Vbcsah.seqOf (Vbcsah.readSlot x) : Nat) + 1 : Int) :: (List.range j).map fun k : Nat => ((h.next + k : Nat) : Int)
theorem keptNums_snoc (h : House) (x : NodeS) (j : Nat) : keptNums h x (j + 1) = keptNums h x j ++ [((h.next + j : Nat) : Int)] := by
  unfold keptNums
  rw [List.range_succ, List.map_append]
  rfl
def sp_keep_memory (P : Program) (w : World) (a : Ad) : Sp := fun vs H Q _ => ∃ (wo : Ow) (sa : Addr) (h : House) (dx pn pu pt pk : Addr) (ns : List Addr) (i : Nat) (p : Addr) (x : NodeS), vs = [.ref sa, .int (i : Int)] ∧ SesA P w a wo H sa h dx pn pu pt pk ns ∧
  h.nodes[i]? = some x ∧ ns[i]? = some p ∧ (∀ q ∈ x.owed, q.1 < h.offices) ∧ h.offices ≤ 4 ∧ x.owed.length ≤ 4090 ∧ Nums h.next h.flight ∧ 1 ≤ h.next ∧ h.flight.length ≤ 900 ∧ h.nodes.length ≤ 90 ∧
  ∀ w' H' q, SesA P w a w' H' sa (Vbcsah.keeps h i) dx pn pu pt pk ns → Frm Ses wo w' H H' → H q = none → w' q = (200, 0) → H' q = some (.lst ((keptNums h x (Vbcsah.owedOffices h x).length).map V.int)) → Q (.ref q) H'
theorem ok_keep_memory (T : Txt K mg a) : FnOk P w K mg base CX0 4 a.f_keep_memory a.d_keep_memory ["session", "place"] (sp_keep_memory P w a) := by
  refine T.F_keep_memory.ok sc_keep_memory (fun vs H Q E h => ?_) (fun cdv A outer s H vs Q E hr h => ⟨_, (pss_cons (ps_set (i := 2) sc_keep_memory.nd rfl (Or.inl rfl) (pe_ix ix_list (pe_fld (pv 0) rfl) (pv 1) (fun _ _ => rfl)))
    (pss_cons (ps_set (i := 3) sc_keep_memory.nd rfl (Or.inl rfl) (pe_lst (pa_cons (pe_meth0 (pv 2) T.cl_Node T.m_Node_write_memory (ok_Node_write_memory T) hr T.b_Node_write_memory .nil pass0) pa_nil)))
    (pss_cons (ps_for PassesOwn.never rfl (pi_list (pe_meth0 (pv 2) T.cl_Node T.m_Node_offices_owed (ok_Node_offices_owed T) (hr.mono (by decide)) T.b_Node_offices_owed .nil pass0)) (pg_name (i := 4) sc_keep_memory.nd rfl (Or.inl rfl))
    (pss_one (ps_expr (pe_bm PySem.F.plainAttrs_list PySem.F.slot_list_append PySem.F.type_list_append mt_append (pv 3) (pa_cons (pe_meth (pv 0) T.cl_Session T.m_Session_send_off (ok_Session_send_off T) (hr.mono (by decide)) T.b_Session_send_off .nil pass0 (pa_cons (pe_make T.M_Message (ok_Message_init T) (hr.mono (by decide)) rfl T.g_Message T.b_Message_init .nil pass0 (pa_cons (pe_const rfl T.c_RECEIPT) (pa_cons (pv 1) (pa_cons (pv 4) (pa_cons (pe_meth (pv 2) T.cl_Node T.m_Node_items_owed (ok_Node_items_owed T) (hr.mono (by decide)) T.b_Node_items_owed .nil pass0 (pa_cons (pv 4) pa_nil)) pa_nil))))) pa_nil)) pa_nil)))))
    (pss_cons (ps_fld (pv 2) (pe_lst pa_nil) rfl)
    (pss_one (ps_ret (pv 3))))))), ?_⟩)
  · obtain ⟨wo, sa, h, dx, pn, pu, pt, pk, ns, i, p, x, rfl, _⟩ := h; rfl
  · obtain ⟨wo, sa, h, dx, pn, pu, pt, pk, ns, i, p, x, rfl, S, hx, hp, hoo, ho4, hol, nu, n1, hfl, h90, k⟩ := h
    have hi : i < h.nodes.length := (List.getElem?_eq_some_iff.mp hx).1
    have ex : Vbcsah.node h i = x := by unfold Vbcsah.node; rw [List.getD_eq_getElem?_getD, hx]; rfl
    obtain ⟨p', hp', N0⟩ := S.nd i x hx
    rw [hp] at hp'; cases hp'
    obtain ⟨xd0, pb0, pr0, po0, ps0, s00, s10, N0'⟩ := id N0
    refine ⟨_, rfl, sa, _, dx, _, _, rfl, S.at_, T.cl_Session, T.na_Session_nodes, rfl, _, rfl, pn, _, _, _, rfl, rfl, SqL.of S.nodes, ix_at rfl (by rw [List.getElem?_map, hp]; rfl), ?_⟩
    -- told = [node.write_memory()]
    refine ⟨_, rfl, p, xd0, _, rfl, N0'.at_, rfl, wo, i + 1, p, x, rfl, N0, by omega, trivial, fun w1 H1 N1 f1 => ?_⟩
    refine ⟨(by show 1 ≤ sizeLine; decide), fun D hD => ?_⟩
    have S1 := S.node_step f1 h90 hi hp N1
    have fD : Frm NoB w1 (setW w1 D (200, 0)) H1 (upd H1 D (.lst ((keptNums h x 0).map V.int))) := Frm.laid (200, 0) hD
    have h90' : (Vbcsah.setNode h i (Vbcsah.kept x)).nodes.length ≤ 90 := by show (h.nodes.set i _).length ≤ 90; rw [List.length_set]; exact h90
    have S2 := S1.up fD (fun z => z) (fun _ _ z => z) h90'
    have N2 := N1.up fD (fun z => z) (fun z => z)
    obtain ⟨xd, pb, pr, po, ps, s0, s1, N2'⟩ := id N2
    have f2 : Frm Ses wo (setW w1 D (200, 0)) H (upd H1 D (.lst ((keptNums h x 0).map V.int))) := (f1.mono fun n (z : n = i + 1) => ⟨by omega, by omega⟩).trans (fD.mono fun _ z => z.elim)
    have eD2 : upd H1 D (.lst ((keptNums h x 0).map V.int)) D = some (.lst ((keptNums h x 0).map V.int)) := upd_same
    have hD0 : H D = none := by
      cases c : H D with
      | none => rfl
      | some o => obtain ⟨o', e⟩ := f1.there D o c; rw [hD] at e; cases e
    refine ⟨_, rfl, p, xd, _, rfl, N2'.at_, rfl, setW w1 D (200, 0), i + 1, p, Vbcsah.kept x, h.offices, rfl, N2, ?_, ho4, ?_, ?_⟩
    · exact fun q hq => hoo q (by unfold Vbcsah.kept Vbcsah.written at hq; split at hq <;> exact hq)
    · show (Vbcsah.kept x).owed.length ≤ 4090
      unfold Vbcsah.kept Vbcsah.written; split <;> exact hol
    have eow : (Vbcsah.kept x).owed = x.owed := by unfold Vbcsah.kept Vbcsah.written; split <;> rfl
    rw [eow]
    rintro H3 q ⟨sm, hq, eq⟩
    change H3 q = some (.lst (((Vbcsah.owedOffices h x).map fun k : Nat => (k : Int)).map V.int)) at eq
    have f3 : Frm Ses (setW w1 D (200, 0)) (setW (setW w1 D (200, 0)) q (200, 1)) (upd H1 D (.lst ((keptNums h x 0).map V.int))) H3 := Frm.sameW (200, 1) sm hq
    have S3 := S2.up (Frm.sameW (k := NoB) (200, 1) sm hq) (fun z => z) (fun _ _ z => z) h90'
    have nqD : D ≠ q := ne_of_none eD2 hq
    generalize hw3 : setW (setW w1 D (200, 0)) q (200, 1) = w3 at f3 S3
    have wD3 : w3 D = (200, 0) := by rw [← hw3, setW_ne nqD, setW_same]
    have wq3 : w3 q = (200, 1) := by rw [← hw3, setW_same]
    have F3 := f2.trans f3
    refine ⟨q, rfl, ⟨_, SqL.of eq⟩, for_list (K := K) (a := q) (xs := ((Vbcsah.owedOffices h x).map fun k : Nat => (k : Int)).map V.int) (fun j σ H' => ∃ (wj : Ow) (v : Option V), σ = [some (.ref sa), some (.int (i : Int)), some (.ref p), some (.ref D), v] ∧
      SesA P w a wj H' sa (postAll i (Vbcsah.owedTo x) ((Vbcsah.owedOffices h x).take j) (Vbcsah.setNode h i (Vbcsah.kept x))) dx pn pu pt pk ns ∧ Frm Ses wo wj H H' ∧ H' D = some (.lst ((keptNums h x j).map V.int)) ∧ wj D = (200, 0) ∧
      H' q = some (.lst (((Vbcsah.owedOffices h x).map fun k : Nat => (k : Int)).map V.int)) ∧ wj q = (200, 1))
      ⟨w3, none, rfl, S3, F3, sm _ _ eD2, wD3, eq, wq3⟩ (fun j σ H' _ ⟨_, _, _, _, _, _, _, e, _⟩ => SqL.of e) ?_ ?_⟩
    · rintro j y σ H' hy ⟨wj, v, rfl, Sj, Fj, eD, wD, eq', wq⟩
      obtain ⟨z, hz, rfl⟩ := ints_get hy
      rw [List.getElem?_map] at hz
      obtain ⟨o, ho, rfl⟩ := Option.map_eq_some_iff.mp hz
      have hol2 : (Vbcsah.owedOffices h x).length ≤ 4 := by
        have : (Vbcsah.owedOffices h x).length ≤ (List.range h.offices).length := List.length_filter_le _ _
        rw [List.length_range] at this; omega
      have hjl : j < (Vbcsah.owedOffices h x).length := (List.getElem?_eq_some_iff.mp ho).1
      obtain ⟨q1, q2, _, _, q5, q6⟩ := postAll_nodes i (Vbcsah.owedTo x) ((Vbcsah.owedOffices h x).take j) (Vbcsah.setNode h i (Vbcsah.kept x))
      have nuj := nums_postAll i (Vbcsah.owedTo x) ((Vbcsah.owedOffices h x).take j) (h := Vbcsah.setNode h i (Vbcsah.kept x)) nu n1
      generalize hhj : postAll i (Vbcsah.owedTo x) ((Vbcsah.owedOffices h x).take j) (Vbcsah.setNode h i (Vbcsah.kept x)) = hj at Sj q1 q2 q5 q6 nuj
      have hnj : hj.nodes[i]? = some (Vbcsah.kept x) := by rw [q1]; show (h.nodes.set i _)[i]? = _; rw [List.getElem?_set_self hi]
      obtain ⟨p'', hp'', Nj⟩ := Sj.nd i _ hnj
      rw [hp] at hp''; cases hp''
      obtain ⟨xdj, pbj, prj, poj, psj, s0j, s1j, Nj'⟩ := id Nj
      have lenj : ((Vbcsah.owedOffices h x).take j).length = j := by rw [List.length_take]; omega
      have hnext : hj.next = h.next + j := by rw [q5, lenj]; rfl
      refine ⟨_, rfl, .inl ⟨rfl, _, SqL.of eD⟩, _, rfl, sa, dx, _, rfl, Sj.at_, rfl, _, rfl, _, rfl, _, rfl, p, xdj, _, rfl, Nj'.at_, rfl, _, rfl, wj, i + 1, p, Vbcsah.kept x, o, rfl, Nj, ?_⟩
      have eto : Vbcsah.owedTo (Vbcsah.kept x) o = Vbcsah.owedTo x o := by unfold Vbcsah.owedTo; rw [eow]
      rw [eto]
      rintro H4 q4 ⟨sm4, hq4, its, eq4, al4⟩
      have f4 : Frm NoB wj wj H' H4 := Frm.same sm4
      intro m md nm nmd nmm
      refine make_msg (wo := wj) (k := 2) (s := i) (d := o) ?_ (.inl eq4) al4 nm nmd nmm ?_
      · rfl
      intro w5 H5 M f5
      have f45 := f4.trans f5
      have S5 := Sj.up f45 (fun z => z) (fun _ _ z => z) (by rw [q1]; exact h90')
      refine ⟨rfl, w5, sa, hj, dx, pn, pu, pt, pk, ns, m, 2, i, o, Vbcsah.owedTo x o, rfl, S5, M, nuj, by rw [q6, lenj]; show h.flight.length + j ≤ 1000; omega, by rw [q1]; exact h90', ?_⟩
      intro H6 S6 f6
      have kD : ¬ Own 100 (w5 D).1 := by rw [f45.own _ _ eD, wD]; exact fun z => by cases z
      have kq : ¬ Own 100 (w5 q).1 := by rw [f45.own _ _ eq', wq]; exact fun z => by cases z
      have eD6 := f6.keep _ _ (f45.keep _ _ eD (fun z => z)) kD
      have eq6 := f6.keep _ _ (f45.keep _ _ eq' (fun z => z)) kq
      have wD6 : w5 D = (200, 0) := (f45.own _ _ eD).trans wD
      have wq6 : w5 q = (200, 1) := (f45.own _ _ eq').trans wq
      have g : Frm (fun n => n = 200) w5 w5 H6 (upd H6 D (.lst ((keptNums h x j).map V.int ++ [V.int (hj.next : Int)]))) := Frm.write eD6 (by intro z; exact z) (by rw [wD6])
      refine ⟨D, _, _, rfl, rfl, eD6, ?_, w5, _, rfl, ?_, ?_, ?_, wD6, upd_other (Ne.symm nqD) eq6, wq6⟩
      · rw [List.length_map]
        have : (keptNums h x j).length = j + 1 := by simp [keptNums]
        exact small1000 (by omega)
      · have S7 := S6.up g (fun z => by cases z) (fun n hn z => by have : n = 200 := z; omega) (by show hj.nodes.length ≤ 90; rw [q1]; exact h90')
        have e7 : postAll i (Vbcsah.owedTo x) ((Vbcsah.owedOffices h x).take (j + 1)) (Vbcsah.setNode h i (Vbcsah.kept x)) = Vbcsah.post hj 2 i o (Vbcsah.owedTo x o) := by rw [take_snoc ho, postAll_snoc, hhj]
        rw [e7]
        exact S7
      · exact ((Fj.trans (f45.mono fun _ z => z.elim)).trans (f6.mono fun n (z : n = 100) => ⟨by omega, by omega⟩)).after hD0
      · rw [keptNums_snoc, List.map_append, hnext]; exact upd_same
    · rintro σ H7 ⟨w7, v, rfl, S7, F7, eD, wD, eq7, wq⟩
      rw [List.length_map, List.length_map, List.take_length] at S7
      rw [List.length_map, List.length_map] at eD
      obtain ⟨q1, q2, _, _, q5, q6⟩ := postAll_nodes i (Vbcsah.owedTo x) (Vbcsah.owedOffices h x) (Vbcsah.setNode h i (Vbcsah.kept x))
      have hn7 : (postAll i (Vbcsah.owedTo x) (Vbcsah.owedOffices h x) (Vbcsah.setNode h i (Vbcsah.kept x))).nodes[i]? = some (Vbcsah.kept x) := by rw [q1]; show (h.nodes.set i _)[i]? = _; rw [List.getElem?_set_self hi]
      obtain ⟨p7, hp7, N7⟩ := S7.nd i _ hn7
      rw [hp] at hp7; cases hp7
      obtain ⟨xd7, pb7, pr7, po7, ps7, s07, s17, N7'⟩ := id N7
      refine ⟨(by show 0 ≤ sizeLine; decide), fun l hl => ?_⟩
      obtain ⟨N8, f8⟩ := NodeAt.disowe N7' (by omega) hl
      have npl : p ≠ l := ne_of_none N7'.at_ hl
      refine ⟨_, rfl, p, _, xd7, _, rfl, upd_other npl N7'.at_, T.cl_Node, T.na_Node_owed, (by show 5 < 1000; decide), ?_⟩
      have S8 := S7.node_step f8 (by rw [q1]; exact h90') (by rw [q1]; show i < (h.nodes.set i _).length; rw [List.length_set]; exact hi) hp N8
      have e8 : Vbcsah.setNode (postAll i (Vbcsah.owedTo x) (Vbcsah.owedOffices h x) (Vbcsah.setNode h i (Vbcsah.kept x))) i { Vbcsah.kept x with owed := [] } = Vbcsah.keeps h i := by
        rw [postAll_set, set_set, keeps_eq, ex]
      rw [e8] at S8
      have nDl : D ≠ l := ne_of_none eD hl
      have nDp : D ≠ p := fun z => by have := N7'.wn; rw [← z, wD] at this; have h2 := (Prod.mk.inj this).1; omega
      refine ⟨_, rfl, k _ _ D S8 (F7.trans (f8.mono fun n (z : n = i + 1) => ⟨by omega, by omega⟩)) hD0 ?_ (upd_other nDp (upd_other nDl eD))⟩
      rw [setW_ne nDl]; exact wD
end
end Fo

-- FoSess3
/-! The centres; an office sends its forms, a centre its summary. -/
namespace Fo
open PySem PySem.Spec PyProof.Rows L2
section
variable {P : Program} {w : World} {K : PySem.W.Frag} {mg : Str → Option Value} {base : Heap} {a : Ad}

def ctrs (off : Nat) : List Int := [(off : Int), (off : Int) + 1]
def sp_Session_centres (a : Ad) : Sp := fun vs H Q _ => ∃ (sa : Addr) (off : Nat), vs = [.ref sa] ∧ InS a H sa off ∧ ∀ H' q, NewInts H H' q (ctrs off) → Q (.ref q) H'
theorem ok_Session_centres (T : Txt K mg a) : FnOk P w K mg base CX0 1 a.f_Session_centres a.d_Session_centres ["self"] (sp_Session_centres a) := by
  refine T.F_Session_centres.ok sc_Session_centres (fun vs H Q E h => ?_) (fun cdv A outer s H vs Q E hr h => ⟨_, (pss_one (ps_ret (pe_lst (pa_cons (pe_fld (pv 0) rfl) (pa_cons (pe_op op_add (pe_fld (pv 0) rfl) pe_int) pa_nil))))), ?_⟩)
  · obtain ⟨sa, off, rfl, _⟩ := h; rfl
  · obtain ⟨sa, off, rfl, ⟨dx, last, pn, pu, pt, pk, e⟩, k⟩ := h
    refine ⟨_, rfl, sa, _, dx, _, _, rfl, e, T.cl_Session, T.na_Session_offices, rfl, _, rfl, sa, _, dx, _, _, rfl, e, T.cl_Session, T.na_Session_offices, rfl, _, _, rfl, rfl, (by show 2 ≤ sizeLine; decide), fun t ht => ?_⟩
    exact k _ t ⟨fun b o h => by rw [upd_ne (ne_of_none h ht)]; exact h, ht, upd_same⟩
theorem other_eq {h : House} {i : Nat} (h1 : (h.offices : Int) ≤ i) (h2 : (i : Int) ≤ (h.offices : Int) + 1) : (2 * (h.offices : Int) + 1 - (i : Int)) = ((Vbcsah.otherCentre h i : Nat) : Int) := by
  unfold Vbcsah.otherCentre
  split <;> omega

/-- a message is sent: by whom, to whom, what the house is then -/
abbrev SentP (P : Program) (w : World) (a : Ad) (wo : Ow) (H : Hp) (sa : Addr) (h : House) (dx pn pu pt pk : Addr) (ns : List Addr) (i : Nat) (p : Addr) (x : NodeS) (h' : House) (Q : VK) : Prop :=
  SesA P w a wo H sa h dx pn pu pt pk ns ∧ h.nodes[i]? = some x ∧ ns[i]? = some p ∧ OkB x.memory.book ∧ Nums h.next h.flight ∧ h.flight.length ≤ 1000 ∧ h.nodes.length ≤ 90 ∧
  ∀ w' H', SesA P w a w' H' sa h' dx pn pu pt pk ns → Frm Ses wo w' H H' → Q (.int h.next) H'
def sp_send_forms (P : Program) (w : World) (a : Ad) : Sp := fun vs H Q _ => ∃ (wo : Ow) (sa : Addr) (h : House) (dx pn pu pt pk : Addr) (ns : List Addr) (i c : Nat) (p : Addr) (x : NodeS), vs = [.ref sa, .int (i : Int), .int (c : Int)] ∧
  SentP P w a wo H sa h dx pn pu pt pk ns i p x (Vbcsah.post h 1 i c (Vbcsah.open_ x c)) Q
theorem ok_send_forms (T : Txt K mg a) : FnOk P w K mg base CX0 3 a.f_send_forms a.d_send_forms ["session", "office", "centre"] (sp_send_forms P w a) := by
  refine T.F_send_forms.ok sc_send_forms (fun vs H Q E h => ?_) (fun cdv A outer s H vs Q E hr h => ⟨_, (pss_cons (ps_set (i := 3) sc_send_forms.nd rfl (Or.inl rfl) (pe_meth (pe_ix ix_list (pe_fld (pv 0) rfl) (pv 1) (fun _ _ => rfl)) T.cl_Node T.m_Node_items_without_receipt (ok_Node_items_without_receipt T) hr T.b_Node_items_without_receipt .nil pass0 (pa_cons (pv 2) pa_nil)))
    (pss_one (ps_ret (pe_meth (pv 0) T.cl_Session T.m_Session_send_off (ok_Session_send_off T) (hr.mono (by decide)) T.b_Session_send_off .nil pass0 (pa_cons (pe_make T.M_Message (ok_Message_init T) hr rfl T.g_Message T.b_Message_init .nil pass0 (pa_cons (pe_const rfl T.c_FORMS) (pa_cons (pv 1) (pa_cons (pv 2) (pa_cons (pv 3) pa_nil))))) pa_nil))))), ?_⟩)
  · obtain ⟨wo, sa, h, dx, pn, pu, pt, pk, ns, i, c, p, x, rfl, _⟩ := h; rfl
  · obtain ⟨wo, sa, h, dx, pn, pu, pt, pk, ns, i, c, p, x, rfl, S, hx, hp, hb, nu, hfl, h90, k⟩ := h
    obtain ⟨p', hp', N⟩ := S.nd i x hx
    rw [hp] at hp'; cases hp'
    obtain ⟨xd, pb, pr, po, pss, s0, s1, N'⟩ := id N
    refine ⟨_, rfl, sa, _, dx, _, _, rfl, S.at_, T.cl_Session, T.na_Session_nodes, rfl, _, rfl, pn, _, _, _, rfl, rfl, SqL.of S.nodes, ix_at rfl (by rw [List.getElem?_map, hp]; rfl), ?_⟩
    refine ⟨p, xd, _, rfl, N'.at_, rfl, _, rfl, wo, i + 1, p, c, x, rfl, N, hb, ?_⟩
    rintro H1 q1 ⟨sm, hq1, its, eN, aN⟩
    have f1 : Frm NoB wo wo H H1 := Frm.same sm
    have S1 := S.up f1 (fun z => z) (fun _ _ z => z) h90
    refine ⟨_, rfl, sa, dx, _, rfl, S1.at_, rfl, _, rfl, _, rfl, _, rfl, ?_⟩
    intro md mdd nm nmd nmm
    refine make_msg (wo := wo) (k := 1) (s := i) (d := c) ?_ (.inl eN) aN nm nmd nmm ?_
    · rfl
    intro w5 H5 M5 f5
    have f15 := f1.trans f5
    have S5 := S.up f15 (fun z => z) (fun _ _ z => z) h90
    refine ⟨rfl, w5, sa, h, dx, pn, pu, pt, pk, ns, md, 1, i, c, _, rfl, S5, M5, nu, hfl, h90, fun H6 S6 f6 => ?_⟩
    exact k w5 H6 S6 ((f15.mono fun _ z => z.elim).trans (f6.mono fun n (z : n = 100) => ⟨by omega, by omega⟩))
def sp_send_summary (P : Program) (w : World) (a : Ad) : Sp := fun vs H Q _ => ∃ (wo : Ow) (sa : Addr) (h : House) (dx pn pu pt pk : Addr) (ns : List Addr) (i : Nat) (p : Addr) (x : NodeS), vs = [.ref sa, .int (i : Int)] ∧ (h.offices : Int) ≤ i ∧ (i : Int) ≤ (h.offices : Int) + 1 ∧
  SentP P w a wo H sa h dx pn pu pt pk ns i p x (Vbcsah.post h 3 i (Vbcsah.otherCentre h i) x.memory.book) Q
theorem ok_send_summary (T : Txt K mg a) : FnOk P w K mg base CX0 3 a.f_send_summary a.d_send_summary ["session", "centre"] (sp_send_summary P w a) := by
  refine T.F_send_summary.ok sc_send_summary (fun vs H Q E h => ?_) (fun cdv A outer s H vs Q E hr h => ⟨_, (pss_cons (ps_set (i := 2) sc_send_summary.nd rfl (Or.inl rfl) (pe_call (ok_items_of T) (hr.mono (by decide)) rfl T.g_items_of T.F_items_of.kp T.b_items_of .nil pass0 (pa_cons (pe_fld (pe_ix ix_list (pe_fld (pv 0) rfl) (pv 1) (fun _ _ => rfl)) rfl) pa_nil)))
    (pss_one (ps_ret (pe_meth (pv 0) T.cl_Session T.m_Session_send_off (ok_Session_send_off T) (hr.mono (by decide)) T.b_Session_send_off .nil pass0 (pa_cons (pe_make T.M_Message (ok_Message_init T) hr rfl T.g_Message T.b_Message_init .nil pass0 (pa_cons (pe_const rfl T.c_SUMMARY) (pa_cons (pv 1) (pa_cons (pe_meth (pv 0) T.cl_Session T.m_Session_other_centre (ok_Session_other_centre T) (hr.mono (by decide)) T.b_Session_other_centre .nil pass0 (pa_cons (pv 1) pa_nil)) (pa_cons (pv 2) pa_nil))))) pa_nil))))), ?_⟩)
  · obtain ⟨wo, sa, h, dx, pn, pu, pt, pk, ns, i, p, x, rfl, _⟩ := h; rfl
  · obtain ⟨wo, sa, h, dx, pn, pu, pt, pk, ns, i, p, x, rfl, h1, h2, S, hx, hp, hb, nu, hfl, h90, k⟩ := h
    obtain ⟨p', hp', N⟩ := S.nd i x hx
    rw [hp] at hp'; cases hp'
    obtain ⟨xd, pb, pr, po, pss, s0, s1, N'⟩ := id N
    refine ⟨_, rfl, sa, _, dx, _, _, rfl, S.at_, T.cl_Session, T.na_Session_nodes, rfl, _, rfl, pn, _, _, _, rfl, rfl, SqL.of S.nodes, ix_at rfl (by rw [List.getElem?_map, hp]; rfl), ?_⟩
    refine ⟨p, _, xd, _, _, rfl, N'.at_, T.cl_Node, T.na_Node_book, rfl, pb, _, rfl, N'.book, ?_⟩
    rintro H1 q1 ⟨sm, hq1, its, eN, aN⟩
    have f1 : Frm NoB wo wo H H1 := Frm.same sm
    have S1 := S.up f1 (fun z => z) (fun _ _ z => z) h90
    refine ⟨_, rfl, sa, dx, _, rfl, S1.at_, rfl, _, rfl, _, rfl, sa, dx, _, rfl, S1.at_, rfl, _, rfl, sa, h.offices, (i : Int), rfl, S1.inS, ?_⟩
    refine ⟨_, rfl, ?_⟩
    intro md mdd nm nmd nmm
    refine make_msg (wo := wo) (k := 3) (s := i) (d := Vbcsah.otherCentre h i) ?_ (.inl eN) aN nm nmd nmm ?_
    · rw [← other_eq h1 h2]; rfl
    intro w5 H5 M5 f5
    have f15 := f1.trans f5
    have S5 := S.up f15 (fun z => z) (fun _ _ z => z) h90
    refine ⟨rfl, w5, sa, h, dx, pn, pu, pt, pk, ns, md, 3, i, Vbcsah.otherCentre h i, _, rfl, S5, M5, nu, hfl, h90, fun H6 S6 f6 => ?_⟩
    exact k w5 H6 S6 ((f15.mono fun _ z => z.elim).trans (f6.mono fun n (z : n = 100) => ⟨by omega, by omega⟩))
end
end Fo

-- FoHap2
/-! What happens when a receipt, a summary comes. -/
namespace Fo
open PySem PySem.Spec PyProof.Rows L2
section
variable {P : Program} {w : World} {K : PySem.W.Frag} {mg : Str → Option Value} {base : Heap} {a : Ad}

theorem noted_snoc (x : NodeS) (c : Nat) (l : List Item) (i : Item) : Vbcsah.noted x c (l ++ [i]) = recd (Vbcsah.noted x c l) c i := by
  unfold Vbcsah.noted recd
  simp only [List.foldl_append, List.foldl_cons, List.foldl_nil]
theorem noted_nil (x : NodeS) (c : Nat) : Vbcsah.noted x c [] = x := rfl
def ackAll (l : List Receipt) (c : Nat) (is : List Item) : List Receipt := is.foldl (fun rs i => Vbcsah.once rs (c, i)) l
theorem ackAll_snoc (l : List Receipt) (c : Nat) (is : List Item) (i : Item) : ackAll l c (is ++ [i]) = Vbcsah.once (ackAll l c is) (c, i) := by
  simp [ackAll, List.foldl_append]
theorem msg_at {wo : Ow} {H : Hp} {p : Addr} {k s d : Nat} {l : List Item} (M : MsgV a wo H p k s d l) : ∃ dx q ps, H p = some (.ins a.c_Message dx (msF k s d q)) ∧ H q = some (.tup (ps.map V.ref)) ∧ Al (ItAt H) ps l := let ⟨dx, q, ps, e, _, eq, al⟩ := M; ⟨dx, q, ps, e, eq, al⟩
/-- what was acknowledged is stored -/
theorem SesA.ack_step {wo : Ow} {H : Hp} {sa : Addr} {h : House} {dx pn pu pt pk : Addr} {ns : List Addr} {xs : List NK} {k : Addr} {r : Receipt} (S : SesA P w a wo H sa h dx pn pu pt pk ns) (e : H pk = some (NstO P w pk xs)) (al : Al (AkR H) xs h.acked) (hz : h.acked.length < LIM) (hk : RcAt H k r) (h90 : h.nodes.length ≤ 90) :
    SesA P w a wo (upd H pk (NstO P w pk (storedH xs (nk r) k (.bool true)))) sa { h with acked := Vbcsah.once h.acked r } dx pn pu pt pk ns ∧ Frm (Own 100) wo wo H (upd H pk (NstO P w pk (storedH xs (nk r) k (.bool true)))) := by
  have f : Frm (Own 100) wo wo H (upd H pk (NstO P w pk (storedH xs (nk r) k (.bool true)))) := Frm.write e (by intro z; exact z) (by rw [S.wK])
  have h0 : ¬ Own 100 0 := fun z => by cases z
  have n1 : sa ≠ pk := ne_own S.wS S.wK (by simp)
  have n2 : pu ≠ pk := ne_own S.wU S.wK (by simp)
  have n3 : pt ≠ pk := ne_own S.wT S.wK (by simp)
  obtain ⟨kvs, eF, aF⟩ := S.fl
  exact ⟨S.own_step (h' := { h with acked := Vbcsah.once h.acked r }) f h90 rfl (upd_other n1 S.at_) ⟨kvs, upd_other n2 eF, aF.imp fun _ _ q => q.up f h0⟩ (upd_other n3 S.tk) (AkAt.once e al hz hk), f⟩

def sp_note_receipts (P : Program) (w : World) (a : Ad) : Sp := fun vs H Q _ => ∃ (wo : Ow) (sa : Addr) (h : House) (dx pn pu pt pk : Addr) (ns : List Addr) (m : Addr) (kd s d : Nat) (l : List Item) (x : NodeS), vs = [.ref sa, .ref m] ∧ SesA P w a wo H sa h dx pn pu pt pk ns ∧
  MsgV a wo H m kd s d l ∧ h.nodes[d]? = some x ∧ x.memory.receipts.length + l.length ≤ LIM ∧ h.acked.length + l.length ≤ LIM ∧ h.nodes.length ≤ 90 ∧
  ∀ w' H', SesA P w a w' H' sa { (Vbcsah.setNode h d (Vbcsah.noted x s l)) with acked := ackAll h.acked s l } dx pn pu pt pk ns → Frm Ses wo w' H H' → Q .non H'
theorem ok_note_receipts (T : Txt K mg a) : FnOk P w K mg base CX0 3 a.f_note_receipts a.d_note_receipts ["session", "message"] (sp_note_receipts P w a) := by
  refine T.F_note_receipts.ok sc_note_receipts (fun vs H Q E h => ?_) (fun cdv A outer s H vs Q E hr h => ⟨_, (pss_cons (ps_set (i := 2) sc_note_receipts.nd rfl (Or.inl rfl) (pe_ix ix_list (pe_fld (pv 0) rfl) (pe_fld (pv 1) rfl) (fun _ _ => rfl)))
    (pss_one (ps_for PassesOwn.never rfl (pi_tup (pe_fld (pv 1) rfl)) (pg_name (i := 3) sc_note_receipts.nd rfl (Or.inl rfl))
    (pss_cons (ps_nput (un65 hr) (pe_fld (pv 0) rfl) (pe_tup (pa_cons (pe_fld (pv 1) rfl) (pa_cons (pv 3) pa_nil))) rfl)
    (pss_one (ps_expr (pe_meth (pv 2) T.cl_Node T.m_Node_add_receipt (ok_Node_add_receipt T) hr T.b_Node_add_receipt .nil pass0 (pa_cons (pe_fld (pv 1) rfl) (pa_cons (pv 3) pa_nil))))))))), ?_⟩)
  · obtain ⟨wo, sa, h, dx, pn, pu, pt, pk, ns, m, kd, s, d, l, x, rfl, _⟩ := h; rfl
  · obtain ⟨wo, sa, h, dx, pn, pu, pt, pk, ns, m, kd, s, d, l, x, rfl, S, M, hx, hz1, hz2, h90, k⟩ := h
    obtain ⟨mx, q, ps, eM, eq, al⟩ := msg_at M
    have hd : d < h.nodes.length := (List.getElem?_eq_some_iff.mp hx).1
    obtain ⟨p, hp, N0⟩ := S.nd d x hx
    refine ⟨_, rfl, sa, _, dx, _, _, rfl, S.at_, T.cl_Session, T.na_Session_nodes, rfl, _, rfl, m, _, mx, _, _, rfl, eM, T.cl_Message, T.na_Message_receiver, rfl, pn, _, _, _, rfl, rfl, SqL.of S.nodes, ix_at rfl (by rw [List.getElem?_map, hp]; rfl), ?_⟩
    refine ⟨_, rfl, m, _, mx, _, _, rfl, eM, T.cl_Message, T.na_Message_carried, rfl, q, rfl, ⟨_, SqT.of eq⟩, for_tup (K := K) (a := q) (xs := ps.map V.ref) (fun j σ H' => ∃ (wj : Ow) (v : Option V), σ = [some (.ref sa), some (.ref m), some (.ref p), v] ∧
      SesA P w a wj H' sa { (Vbcsah.setNode h d (Vbcsah.noted x s (l.take j))) with acked := ackAll h.acked s (l.take j) } dx pn pu pt pk ns ∧ Frm Ses wo wj H H') ⟨wo, none, rfl, ?_, Frm.refl _ _ _⟩ (fun j σ H' _ ⟨_, _, _, _, f⟩ => SqT.of (f.tup _ _ eq)) ?_ ?_⟩
    · have e : ({ (Vbcsah.setNode h d (Vbcsah.noted x s [])) with acked := ackAll h.acked s [] } : House) = h := by
        have : h.nodes.set d x = h.nodes := by
          refine List.ext_getElem? fun i => ?_
          by_cases z : d = i
          · subst z; rw [List.getElem?_set_self hd, hx]
          · rw [List.getElem?_set_ne z]
        show ({ h with nodes := h.nodes.set d x, acked := h.acked } : House) = h
        rw [this]
      show SesA P w a wo H sa { (Vbcsah.setNode h d (Vbcsah.noted x s [])) with acked := ackAll h.acked s [] } dx pn pu pt pk ns
      rw [e]; exact S
    · rintro j y σ H' hy ⟨wj, v, rfl, Sj, Fj⟩
      obtain ⟨pi, hpi, rfl⟩ := refs_get hy
      obtain ⟨it, hit, hi⟩ := al.get hpi
      have hjl := (List.getElem?_eq_some_iff.mp hit).1
      have Mj := M.up Fj (fun z => z.1 rfl)
      obtain ⟨mxj, qj, psj, eMj, _, _⟩ := msg_at Mj
      have hi' := hi.up Fj.tup
      have hnj : (h.nodes.set d (Vbcsah.noted x s (l.take j)))[d]? = some (Vbcsah.noted x s (l.take j)) := List.getElem?_set_self hd
      generalize hhj : ({ (Vbcsah.setNode h d (Vbcsah.noted x s (l.take j))) with acked := ackAll h.acked s (l.take j) } : House) = hj at Sj
      have hjn : hj.nodes = h.nodes.set d (Vbcsah.noted x s (l.take j)) := by rw [← hhj]; rfl
      have hja : hj.acked = ackAll h.acked s (l.take j) := by rw [← hhj]
      have h90j : hj.nodes.length ≤ 90 := by rw [hjn, List.length_set]; exact h90
      have hzj : hj.acked.length < LIM := by
        rw [hja]
        have := onces_len s (l.take j) h.acked
        rw [List.length_take] at this
        have e : (ackAll h.acked s (l.take j)).length ≤ h.acked.length + min j l.length := this
        omega
      obtain ⟨xs, eK, aK, zK⟩ := Sj.ak
      refine ⟨_, rfl, sa, _, dx, _, _, rfl, Sj.at_, T.cl_Session, T.na_Session_acknowledged, rfl, _, rfl, m, _, mxj, _, _, rfl, eMj, T.cl_Message, T.na_Message_sender, rfl, _, rfl, (by show 2 ≤ sizeLine; decide), fun t ht => ?_⟩
      have ft : Frm NoB wj wj H' (upd H' t (.tup [.int (s : Int), .ref pi])) := Frm.new ht
      have S1 := Sj.up ft (fun z => z) (fun _ _ z => z) h90j
      have hrc : RcAt (upd H' t (.tup [.int (s : Int), .ref pi])) t (s, it) := ⟨pi, upd_same, hi'.up ft.tup⟩
      have eK1 := ft.keep _ _ eK (fun z => z)
      have aK1 := aK.imp fun _ _ r => AkR.up ft.tup r
      obtain ⟨S2, f2⟩ := S1.ack_step eK1 aK1 hzj hrc h90j
      refine ⟨pk, t, xs, (s, it), rfl, rfl, eK1, AkAt.keys aK1, hrc, ?_, ?_⟩
      · rw [aK.len]; exact Nat.lt_trans hzj lim_line
      · have hn2 : ({ hj with acked := Vbcsah.once hj.acked (s, it) } : House).nodes[d]? = some (Vbcsah.noted x s (l.take j)) := by show hj.nodes[d]? = _; rw [hjn]; exact hnj
        obtain ⟨p2, hp2, N2⟩ := S2.nd d _ hn2
        rw [hp] at hp2; cases hp2
        obtain ⟨xd2, pb2, pr2, po2, ps2, s02, s12, N2'⟩ := id N2
        have Fc := (Fj.trans (ft.mono fun _ z => z.elim)).trans (f2.mono fun n (z : n = 100) => ⟨by omega, by omega⟩)
        have M2 := M.up Fc (fun z => z.1 rfl)
        obtain ⟨mx2, q2, psq2, eM2, _, _⟩ := msg_at M2
        refine ⟨_, rfl, p, xd2, _, rfl, N2'.at_, rfl, _, rfl, m, _, mx2, _, _, rfl, eM2, T.cl_Message, T.na_Message_sender, rfl, _, rfl, wj, d + 1, p, pi, Vbcsah.noted x s (l.take j), s, it, rfl, N2, by omega, hi.up Fc.tup, ?_, ?_⟩
        · have := noted_len x.memory.book s (l.take j) x.memory.receipts
          rw [List.length_take] at this
          have e : (Vbcsah.noted x s (l.take j)).memory.receipts.length ≤ x.memory.receipts.length + min j l.length := this
          omega
        · intro w3 H3 N3 f3
          have S3 := S2.node_step f3 h90j (by show d < hj.nodes.length; rw [hjn, List.length_set]; exact hd) hp N3
          refine ⟨w3, _, rfl, ?_, Fc.trans (f3.mono fun n (z : n = d + 1) => ⟨by omega, by omega⟩)⟩
          have e3 : Vbcsah.setNode { hj with acked := Vbcsah.once hj.acked (s, it) } d (recd (Vbcsah.noted x s (l.take j)) s it) = ({ (Vbcsah.setNode h d (Vbcsah.noted x s (l.take (j + 1)))) with acked := ackAll h.acked s (l.take (j + 1)) } : House) := by
            rw [take_snoc hit, noted_snoc, ackAll_snoc, ← hhj]
            unfold Vbcsah.setNode
            simp
          rw [← e3]
          exact S3
    · rintro σ H' ⟨wj, v, rfl, Sj, Fj⟩
      rw [List.length_map, al.len, List.take_length] at Sj
      exact k wj H' Sj Fj

def sp_send_back (P : Program) (w : World) (a : Ad) : Sp := fun vs H Q _ => ∃ (wo : Ow) (sa : Addr) (h : House) (dx pn pu pt pk : Addr) (ns : List Addr) (m : Addr) (kd s d : Nat) (l : List Item) (x : NodeS), vs = [.ref sa, .ref m] ∧ SesA P w a wo H sa h dx pn pu pt pk ns ∧
  MsgV a wo H m kd s d l ∧ h.nodes[d]? = some x ∧ OkB l ∧ Nums h.next h.flight ∧ h.flight.length ≤ 900 ∧ h.nodes.length ≤ 90 ∧
  (Vbcsah.news x.memory.book l = [] → ∀ H' q, SesA P w a wo H' sa h dx pn pu pt pk ns → Frm Ses wo wo H H' → H q = none → H' q = some (.lst []) → Q (.ref q) H') ∧
  (Vbcsah.news x.memory.book l ≠ [] → ∀ w' H' q, SesA P w a w' H' sa (Vbcsah.post h 4 d s (Vbcsah.news x.memory.book l)) dx pn pu pt pk ns → Frm Ses wo w' H H' → H q = none → H' q = some (.lst [.int (h.next : Int)]) → Q (.ref q) H')
theorem ok_send_back (T : Txt K mg a) : FnOk P w K mg base CX0 3 a.f_send_back a.d_send_back ["session", "message"] (sp_send_back P w a) := by
  refine T.F_send_back.ok sc_send_back (fun vs H Q E h => ?_) (fun cdv A outer s H vs Q E hr h => ⟨_, (pss_cons (ps_set (i := 2) sc_send_back.nd rfl (Or.inl rfl) pe_dnewK)
    (pss_cons (ps_expr (pe_call (ok_bring_into T) hr rfl T.g_bring_into T.F_bring_into.kp T.b_bring_into .nil pass0 (pa_cons (pv 2) (pa_cons (pe_fld (pv 1) rfl) pa_nil))))
    (pss_cons (ps_set (i := 3) sc_send_back.nd rfl (Or.inl rfl) (pe_call (ok_news_for T) hr rfl T.g_news_for T.F_news_for.kp T.b_news_for .nil pass0 (pa_cons (pe_fld (pe_ix ix_list (pe_fld (pv 0) rfl) (pe_fld (pv 1) rfl) (fun _ _ => rfl)) rfl) (pa_cons (pv 2) pa_nil))))
    (pss_cons (ps_if (pt_not (pt_truth (pv 3) (by intro _; rfl)))
    (pss_one (ps_ret (pe_lst pa_nil)))
    pss_nil)
    (pss_one (ps_ret (pe_lst (pa_cons (pe_meth (pv 0) T.cl_Session T.m_Session_send_off (ok_Session_send_off T) (hr.mono (by decide)) T.b_Session_send_off .nil pass0 (pa_cons (pe_make T.M_Message (ok_Message_init T) hr rfl T.g_Message T.b_Message_init .nil pass0 (pa_cons (pe_const rfl T.c_FILLING) (pa_cons (pe_fld (pv 1) rfl) (pa_cons (pe_fld (pv 1) rfl) (pa_cons (pv 3) pa_nil))))) pa_nil)) pa_nil)))))))), ?_⟩)
  · obtain ⟨wo, sa, h, dx, pn, pu, pt, pk, ns, m, kd, s, d, l, x, rfl, _⟩ := h; rfl
  · obtain ⟨wo, sa, h, dx, pn, pu, pt, pk, ns, m, kd, s, d, l, x, rfl, S, M, hx, hok, nu, hfl, h90, k1, k2⟩ := h
    intro A0 hA0
    have f1 : Frm NoB wo wo H (upd H A0 (.dK [])) := Frm.new hA0
    obtain ⟨mx, q, ps, eM, eq, al⟩ := msg_at (M.up f1 (fun z => z))
    refine ⟨_, rfl, _, rfl, m, _, mx, _, _, rfl, eM, T.cl_Message, T.na_Message_carried, rfl, A0, q, [], ps, l, rfl, BkAt.nil upd_same, .inr eq, al, ?_⟩
    intro H2 hB2 kp
    rw [bring_empty hok.srt] at hB2
    have f2 : Frm NoB wo wo H H2 := ⟨fun b o h _ => kp _ _ (f1.keep b o h (fun z => z)) (ne_of_none h hA0), fun b xs h => kp _ _ (f1.keep b _ h (fun z => z)) (ne_of_none h hA0), fun _ _ _ => rfl, fun b o h => ⟨o, kp _ _ (f1.keep b o h (fun z => z)) (ne_of_none h hA0)⟩⟩
    have S2 := S.up f2 (fun z => z) (fun _ _ z => z) h90
    obtain ⟨p, hp, N⟩ := S2.nd d x hx
    obtain ⟨xd, pb, pr, po, pss, s0, s1, N'⟩ := id N
    obtain ⟨mx2, q2, ps2, eM2, _, _⟩ := msg_at (M.up f2 (fun z => z))
    refine ⟨_, rfl, sa, _, dx, _, _, rfl, S2.at_, T.cl_Session, T.na_Session_nodes, rfl, _, rfl, m, _, mx2, _, _, rfl, eM2, T.cl_Message, T.na_Message_receiver, rfl, pn, _, _, _, rfl, rfl, SqL.of S2.nodes, ix_at rfl (by rw [List.getElem?_map, hp]; rfl), p, _, xd, _, _, rfl, N'.at_, T.cl_Node, T.na_Node_book, rfl, _, rfl, ?_⟩
    refine ⟨pb, A0, x.memory.book, l, rfl, N'.book, hB2, ?_⟩
    rintro H3 nq ⟨sm, hnq, its, eN, aN⟩
    have f3 : Frm NoB wo wo H H3 := f2.trans (Frm.same sm)
    have S3 := S.up f3 (fun z => z) (fun _ _ z => z) h90
    have hempty : (its.map V.ref).isEmpty = (Vbcsah.news x.memory.book l).isEmpty := by
      have := aN.len
      cases its with
      | nil => cases c : Vbcsah.news x.memory.book l with
        | nil => rfl
        | cons y ys => rw [c] at this; cases this
      | cons y ys => cases c : Vbcsah.news x.memory.book l with
        | nil => rw [c] at this; cases this
        | cons y ys => rfl
    refine ⟨_, rfl, _, .inl ⟨_, SqL.of eN, rfl⟩, ?_⟩
    rw [hempty]
    cases c : Vbcsah.news x.memory.book l with
    | nil =>
      refine iteT ⟨(by show 0 ≤ sizeLine; decide), fun r hr2 => ?_⟩
      have f4 : Frm NoB wo wo H (upd H3 r (.lst [])) := f3.trans (Frm.new hr2)
      refine k1 c _ r (S.up f4 (fun z => z) (fun _ _ z => z) h90) (f4.mono fun _ z => z.elim) ?_ upd_same
      cases c2 : H r with
      | none => rfl
      | some o => obtain ⟨o', e⟩ := f3.there r o c2; rw [hr2] at e; cases e
    | cons y ys =>
      rw [c] at aN
      obtain ⟨mx3, q3, ps3, eM3, _, _⟩ := msg_at (M.up f3 (fun z => z))
      refine iteF ⟨_, rfl, sa, dx, _, rfl, S3.at_, rfl, _, rfl, m, _, mx3, _, _, rfl, eM3, T.cl_Message, T.na_Message_receiver, rfl, _, rfl, m, _, mx3, _, _, rfl, eM3, T.cl_Message, T.na_Message_sender, rfl, _, rfl, ?_⟩
      intro md mdd nm nmd nmm
      refine make_msg (wo := wo) (k := 4) (s := d) (d := s) ?_ (.inl eN) aN nm nmd nmm ?_
      · rfl
      intro w5 H5 M5 f5
      have f35 := f3.trans f5
      refine ⟨rfl, w5, sa, h, dx, pn, pu, pt, pk, ns, md, 4, d, s, y :: ys, rfl, S.up f35 (fun z => z) (fun _ _ z => z) h90, M5, nu, by omega, h90, ?_⟩
      intro H6 S6 f6
      refine ⟨(by show 1 ≤ sizeLine; decide), fun r hr2 => ?_⟩
      have f7 := (f35.mono (k' := Ses) fun _ z => z.elim).trans (f6.mono fun n (z : n = 100) => ⟨by omega, by omega⟩)
      have f8 := f7.trans (Frm.new (o := .lst [.int (h.next : Int)]) hr2)
      rw [c] at k2
      refine k2 (by simp) w5 _ r (S6.up (Frm.new (k := NoB) hr2) (fun z => z) (fun _ _ z => z) h90) f8 ?_ upd_same
      cases c2 : H r with
      | none => rfl
      | some o => obtain ⟨o', e⟩ := f7.there r o c2; rw [hr2] at e; cases e
end
end Fo

-- FoHap3
/-! A message comes. -/
namespace Fo
open PySem PySem.Spec PyProof.Rows L2
section
variable {P : Program} {w : World} {K : PySem.W.Frag} {mg : Str → Option Value} {base : Heap} {a : Ad}

theorem fl_drop {wo : Ow} {H : Hp} {z : Int} : ∀ {kvs : List (Key × V)} {l : List MsgS}, Al (FlR a wo H) kvs l → Al (FlR a wo H) (dropK kvs (.inl z)) (l.filter fun x => !((x.number : Int) == z))
  | _, _, .nil => .nil
  | _, _, .cons (a := kv) (b := m) r t => by
    have ih := fl_drop (z := z) t
    unfold dropK at ih ⊢
    rw [List.filter_cons, List.filter_cons]
    by_cases c : (m.number : Int) = z
    · have e1 : ((m.number : Int) == z) = true := by simpa using c
      have e2 : decide (kv.1 ≠ Sum.inl z) = false := decide_eq_false (fun n => n (by rw [r.1, c]))
      rw [e1, e2]
      exact ih
    · have e1 : ((m.number : Int) == z) = false := by simpa using c
      have e2 : decide (kv.1 ≠ Sum.inl z) = true := decide_eq_true (fun q => c (by rw [r.1] at q; exact Sum.inl.inj q))
      rw [e1, e2]
      exact .cons r ih
theorem at_number {h : House} {z : Int} {m : MsgS} (e : Vbcsah.messageAt h z = some m) : (m.number : Int) = z ∧ m ∈ h.flight := by
  unfold Vbcsah.messageAt at e
  refine ⟨by have := List.find?_some e; simpa using this, List.mem_of_find?_eq_some e⟩
theorem without_at {h : House} {z : Int} {m : MsgS} (e : (m.number : Int) = z) : (Vbcsah.without h m.number).flight = h.flight.filter fun x => !((x.number : Int) == z) := by
  have q : ∀ x : MsgS, (x.number != m.number) = !((x.number : Int) == z) := fun x => by
    have : ((x.number : Int) == z) = (x.number == m.number) := by
      by_cases c : x.number = m.number
      · rw [c, e]; simp
      · have c2 : ¬ ((x.number : Int) = z) := by omega
        rw [beq_eq_false_iff_ne.mpr c2, beq_eq_false_iff_ne.mpr c]
    rw [this]; rfl
  show h.flight.filter (fun x => x.number != m.number) = _
  exact List.filter_congr fun x _ => q x
/-- a message is taken off -/
theorem SesA.pop {wo : Ow} {H : Hp} {sa : Addr} {h : House} {dx pn pu pt pk : Addr} {ns : List Addr} {z : Int} {m : MsgS} {kvs : List (Key × V)} (S : SesA P w a wo H sa h dx pn pu pt pk ns) (eF : H pu = some (.dK kvs)) (aF : Al (FlR a wo H) kvs h.flight) (e : (m.number : Int) = z) (h90 : h.nodes.length ≤ 90) :
    SesA P w a wo (upd H pu (.dK (dropK kvs (.inl z)))) sa (Vbcsah.without h m.number) dx pn pu pt pk ns ∧ Frm (Own 100) wo wo H (upd H pu (.dK (dropK kvs (.inl z)))) := by
  have f : Frm (Own 100) wo wo H (upd H pu (.dK (dropK kvs (.inl z)))) := Frm.write eF (by intro z; exact z) (by rw [S.wU])
  have h0 : ¬ Own 100 0 := fun z => by cases z
  have n1 : sa ≠ pu := ne_own S.wS S.wU (by simp)
  have n2 : pt ≠ pu := ne_own S.wT S.wU (by simp)
  have n3 : pk ≠ pu := ne_own S.wK S.wU (by simp)
  refine ⟨S.own_step (h' := Vbcsah.without h m.number) f h90 rfl (upd_other n1 S.at_) ⟨_, upd_same, ?_⟩ (upd_other n2 S.tk) (S.ak.up f.tup fun o h => upd_other n3 h), f⟩
  rw [without_at e]
  exact (fl_drop aF).imp fun _ _ r => r.up f h0

def deliverRow (h : House) (m : MsgS) : List Int := (Vbcsah.bit (Vbcsah.node h m.dst).on : Int) :: (if (Vbcsah.deliver h m).next = h.next then [] else [(h.next : Int)])
theorem owes_snoc (x : NodeS) (s : Nat) (l : List Item) (i : Item) : ({ x with owed := (l ++ [i]).foldl (fun rs i => Vbcsah.once rs (s, i)) x.owed } : NodeS) = owes { x with owed := l.foldl (fun rs i => Vbcsah.once rs (s, i)) x.owed } s i := by
  unfold owes
  simp only [List.foldl_append, List.foldl_cons, List.foldl_nil]
theorem fresh_of {k : Nat → Prop} {wo w' : Ow} {H H' : Hp} {q : Addr} (f : Frm k wo w' H H') (h : H' q = none) : H q = none := by
  cases c : H q with
  | none => rfl
  | some o => obtain ⟨o', e⟩ := f.there q o c; rw [h] at e; cases e
def sp_let_come (P : Program) (w : World) (a : Ad) : Sp := fun vs H Q _ => ∃ (wo : Ow) (sa : Addr) (h : House) (dx pn pu pt pk : Addr) (ns : List Addr) (z : Int) (m : MsgS) (b mm r : Nat), vs = [.ref sa, .int z] ∧ SesA P w a wo H sa h dx pn pu pt pk ns ∧
  Vbcsah.messageAt h z = some m ∧ Wf b mm r h ∧ r + mm ≤ LIM ∧ b + 20 ≤ LIM ∧ h.flight.length ≤ 900 ∧
  ∀ w' H' q, SesA P w a w' H' sa (Vbcsah.deliver h m) dx pn pu pt pk ns → Frm Ses wo w' H H' → H q = none → H' q = some (.lst ((deliverRow h m).map V.int)) → Q (.ref q) H'
theorem ok_let_come (T : Txt K mg a) : FnOk P w K mg base CX0 4 a.f_let_come a.d_let_come ["session", "number"] (sp_let_come P w a) := by
  refine T.F_let_come.ok sc_let_come (fun vs H Q E h => ?_) (fun cdv A outer s H vs Q E hr h => ⟨_, (pss_cons (ps_set (i := 2) sc_let_come.nd rfl (Or.inl rfl) (pe_dpop1 (pe_fld (pv 0) rfl) (pv 1) ⟨rfl, rfl, rfl, rfl⟩))
    (pss_cons (ps_set (i := 3) sc_let_come.nd rfl (Or.inl rfl) (pe_ix ix_list (pe_fld (pv 0) rfl) (pe_fld (pv 2) rfl) (fun _ _ => rfl)))
    (pss_cons (ps_if (pt_not (pt_val (pe_fld (pv 3) rfl)))
    (pss_one (ps_ret (pe_lst (pa_cons pe_int pa_nil))))
    pss_nil)
    (pss_cons (ps_if (pt_cmpR op_eq (pe_fld (pv 2) rfl) (pe_const rfl T.c_SUMMARY) (nomark _))
    (pss_one (ps_ret (pe_op op_cat (pe_lst (pa_cons pe_int pa_nil)) (pe_call (ok_send_back T) hr rfl T.g_send_back T.F_send_back.kp T.b_send_back .nil pass0 (pa_cons (pv 0) (pa_cons (pv 2) pa_nil))))))
    pss_nil)
    (pss_cons (ps_if (pt_cmpR op_eq (pe_fld (pv 2) rfl) (pe_const rfl T.c_RECEIPT) (nomark _))
    (pss_one (ps_expr (pe_call (ok_note_receipts T) hr rfl T.g_note_receipts T.F_note_receipts.kp T.b_note_receipts .nil pass0 (pa_cons (pv 0) (pa_cons (pv 2) pa_nil)))))
    (pss_one (ps_expr (pe_meth (pv 3) T.cl_Node T.m_Node_take_in (ok_Node_take_in T) hr T.b_Node_take_in .nil pass0 (pa_cons (pe_fld (pv 2) rfl) pa_nil)))))
    (pss_cons (ps_if (pt_cmpR op_eq (pe_fld (pv 2) rfl) (pe_const rfl T.c_FORMS) (nomark _))
    (pss_one (ps_for PassesOwn.never rfl (pi_tup (pe_fld (pv 2) rfl)) (pg_name (i := 4) sc_let_come.nd rfl (Or.inl rfl))
    (pss_one (ps_expr (pe_meth (pv 3) T.cl_Node T.m_Node_owe (ok_Node_owe T) (hr.mono (by decide)) T.b_Node_owe .nil pass0 (pa_cons (pe_fld (pv 2) rfl) (pa_cons (pv 4) pa_nil)))))))
    pss_nil)
    (pss_one (ps_ret (pe_lst (pa_cons pe_int pa_nil)))))))))), ?_⟩)
  · obtain ⟨wo, sa, h, dx, pn, pu, pt, pk, ns, z, m, b, mm, r, rfl, _⟩ := h; rfl
  · obtain ⟨wo, sa, h, dx, pn, pu, pt, pk, ns, z, m, b, mm, r, rfl, S, hm, W, hr1, hb1, hfl, k⟩ := h
    obtain ⟨ez, hmem⟩ := at_number hm
    have wm := W.fl m hmem
    have h90 : h.nodes.length ≤ 90 := by have := W.len; have := W.of4; omega
    obtain ⟨kvs, eF, aF⟩ := S.fl
    have q := fl_find (z := z) aF
    have eM : h.flight.find? (fun x => (x.number : Int) == z) = some m := hm
    rw [eM] at q
    obtain ⟨mp, em, M⟩ := q
    obtain ⟨S1, f1⟩ := S.pop eF aF ez h90
    have hd : m.dst < h.nodes.length := by rw [W.len]; exact wm.ds
    have hx : h.nodes[m.dst]? = some (Vbcsah.node h m.dst) := by unfold Vbcsah.node; rw [List.getD_eq_getElem?_getD, List.getElem?_eq_getElem hd]; rfl
    have wn := W.node wm.ds
    generalize hxx : Vbcsah.node h m.dst = x at hx wn
    have hx1 : (Vbcsah.without h m.number).nodes[m.dst]? = some x := hx
    have exx : Vbcsah.node (Vbcsah.without h m.number) m.dst = x := by rw [← hxx]; rfl
    have h90' : (Vbcsah.without h m.number).nodes.length ≤ 90 := h90
    have nu1 : Nums (Vbcsah.without h m.number).next (Vbcsah.without h m.number).flight := (W.without m.number).nu
    have hfl1 : (Vbcsah.without h m.number).flight.length ≤ 900 := Nat.le_trans (List.length_filter_le _ _) hfl
    obtain ⟨p, hp, N⟩ := S1.nd m.dst x hx1
    obtain ⟨xd, pb, pr, po, pss, s0, s1, N'⟩ := id N
    have M1 := M.up f1 (fun z => by cases z)
    obtain ⟨mx, qc, ps, eM1, eq1, al1⟩ := msg_at M1
    have F1 : Frm Ses wo wo H (upd H pu (.dK (dropK kvs (.inl z)))) := f1.mono fun n (z : n = 100) => ⟨by omega, by omega⟩
    generalize hH1 : upd H pu (.dK (dropK kvs (.inl z))) = H1 at S1 f1 N N' M1 eM1 eq1 al1 F1
    refine ⟨_, rfl, sa, _, dx, _, _, rfl, S.at_, T.cl_Session, T.na_Session_under_way, rfl, pu, rfl, .inl ⟨kvs, Rd.of eF⟩, _, rfl, kvs, .inl z, _, eF, rfl, em, ?_⟩
    rw [hH1]
    refine ⟨_, rfl, sa, _, dx, _, _, rfl, S1.at_, T.cl_Session, T.na_Session_nodes, rfl, _, rfl, mp, _, mx, _, _, rfl, eM1, T.cl_Message, T.na_Message_receiver, rfl, pn, _, _, _, rfl, rfl, SqL.of S1.nodes, ix_at rfl (by rw [List.getElem?_map, hp]; rfl), ?_⟩
    refine ⟨_, rfl, p, _, xd, _, _, rfl, N'.at_, T.cl_Node, T.na_Node_power, rfl, _, rfl, ?_⟩
    have dcmp : Vbcsah.deliver h m = Vbcsah.comes (Vbcsah.without h m.number) m := rfl
    cases on : x.on with
    | false =>
      have ed : Vbcsah.deliver h m = Vbcsah.without h m.number := by
        rw [dcmp]; unfold Vbcsah.comes
        simp only [exx, on, if_true]
      refine iteT ⟨(by show 1 ≤ sizeLine; decide), fun q0 hq0 => ?_⟩
      refine k wo _ q0 (by rw [ed]; exact S1.up (Frm.new (k := NoB) hq0) (fun z => z) (fun _ _ z => z) h90') (F1.trans (Frm.new hq0)) (fresh_of F1 hq0) ?_
      rw [upd_same]
      unfold deliverRow
      rw [ed, hxx, on, if_pos (show (Vbcsah.without h m.number).next = h.next from rfl)]
      rfl
    | true =>
      refine iteF ⟨_, rfl, mp, _, mx, _, _, rfl, eM1, T.cl_Message, T.na_Message_kind, rfl, rfl, _, rfl, ?_⟩
      by_cases k3 : m.kind = 3
      · -- a summary
        have ek : decide (V.int (m.kind : Int) = V.int 3) = true := by rw [k3]; rfl
        rw [ek]
        have ok := wm.ok (by omega)
        refine iteT ⟨(by show 1 ≤ sizeLine; decide), fun q0 hq0 => ?_⟩
        have g0 : Frm NoB wo (setW wo q0 (200, 0)) H1 (upd H1 q0 (.lst [.int 1])) := Frm.laid (200, 0) hq0
        have S2 := S1.up g0 (fun z => z) (fun _ _ z => z) h90'
        have hq00 := fresh_of F1 hq0
        have hcom : Vbcsah.deliver h m = if (Vbcsah.news x.memory.book m.items).isEmpty = true then Vbcsah.without h m.number else Vbcsah.post (Vbcsah.without h m.number) 4 m.dst m.src (Vbcsah.news x.memory.book m.items) := by
          rw [dcmp]; unfold Vbcsah.comes
          simp only [exx, on, k3]
          rfl
        have kq : ¬ Ses (setW wo q0 (200, 0) q0).1 := by rw [setW_same]; exact fun z => absurd z.2 (by decide)
        refine ⟨_, rfl, _, rfl, setW wo q0 (200, 0), sa, Vbcsah.without h m.number, dx, pn, pu, pt, pk, ns, mp, m.kind, m.src, m.dst, m.items, x, rfl, S2, M1.up g0 (fun z => z), hx1, ok, nu1, hfl1, h90', fun c H2 q2 S3 f3 hq2 eq2 => ?_, fun c w2 H2 q2 S3 f3 hq2 eq2 => ?_⟩
        · have e02 := f3.keep _ _ upd_same kq
          refine ⟨q0, q2, _, _, rfl, rfl, e02, eq2, (by show 1 ≤ sizeLine; decide), fun q3 hq3 => ?_⟩
          have ed : Vbcsah.deliver h m = Vbcsah.without h m.number := by rw [hcom, c]; rfl
          have Fc := (F1.trans (g0.mono fun _ z => z.elim)).trans f3
          refine k _ _ q3 (by rw [ed]; exact S3.up (Frm.new (k := NoB) hq3) (fun z => z) (fun _ _ z => z) h90') (Fc.trans (Frm.new hq3)) (fresh_of Fc hq3) ?_
          rw [upd_same]
          unfold deliverRow
          rw [ed, hxx, on, if_pos (show (Vbcsah.without h m.number).next = h.next from rfl)]
          rfl
        · have e02 := f3.keep _ _ upd_same kq
          refine ⟨q0, q2, _, _, rfl, rfl, e02, eq2, (by show 2 ≤ sizeLine; decide), fun q3 hq3 => ?_⟩
          have ed : Vbcsah.deliver h m = Vbcsah.post (Vbcsah.without h m.number) 4 m.dst m.src (Vbcsah.news x.memory.book m.items) := by
            rw [hcom, if_neg]
            cases c2 : Vbcsah.news x.memory.book m.items with
            | nil => exact absurd c2 c
            | cons y ys => exact Bool.false_ne_true
          have Fc := (F1.trans (g0.mono fun _ z => z.elim)).trans f3
          refine k _ _ q3 (by rw [ed]; exact S3.up (Frm.new (k := NoB) hq3) (fun z => z) (fun _ _ z => z) h90') (Fc.trans (Frm.new hq3)) (fresh_of Fc hq3) ?_
          rw [upd_same]
          unfold deliverRow
          have en : ¬ (Vbcsah.post (Vbcsah.without h m.number) 4 m.dst m.src (Vbcsah.news x.memory.book m.items)).next = h.next := by
            show ¬ (h.next + 1 = h.next); omega
          rw [ed, hxx, on, if_neg en]
          rfl
      · have ek : decide (V.int (m.kind : Int) = V.int 3) = false := decide_eq_false (fun z => k3 (by have := V.int.inj z; omega))
        rw [ek]
        refine iteF ⟨_, rfl, mp, _, mx, _, _, rfl, eM1, T.cl_Message, T.na_Message_kind, rfl, rfl, _, rfl, ?_⟩
        -- behind it: a 1 alone
        have fin : ∀ {w2 : Ow} {H2 : Hp}, SesA P w a w2 H2 sa (Vbcsah.deliver h m) dx pn pu pt pk ns → Frm Ses wo w2 H H2 → (Vbcsah.deliver h m).next = h.next →
            tRet (tLst (tCons (tC (.int 1)) tNil)) { nx := fun _ H' => Q .non H', rt := Q } [some (.ref sa), some (.int z), some (.ref mp), some (.ref p), none] H2 := fun {w2 H2} S2 F2 en => by
          refine ⟨(by show 1 ≤ sizeLine; decide), fun q0 hq0 => ?_⟩
          refine k w2 _ q0 (S2.up (Frm.new (k := NoB) hq0) (fun z => z) (fun _ _ z => z) (by rw [← S2.nl, S.nl]; exact h90)) (F2.trans (Frm.new hq0)) (fresh_of F2 hq0) ?_
          rw [upd_same]
          unfold deliverRow
          rw [hxx, on, if_pos en]
          rfl
        by_cases k2 : m.kind = 2
        · -- a receipt
          have ek2 : decide (V.int (m.kind : Int) = V.int 2) = true := by rw [k2]; rfl
          rw [ek2]
          have ed : Vbcsah.deliver h m = { (Vbcsah.setNode (Vbcsah.without h m.number) m.dst (Vbcsah.noted x m.src m.items)) with acked := ackAll (Vbcsah.without h m.number).acked m.src m.items } := by
            rw [dcmp]; unfold Vbcsah.comes
            simp only [exx, on, k2]
            rfl
          refine iteT ⟨_, rfl, _, rfl, wo, sa, Vbcsah.without h m.number, dx, pn, pu, pt, pk, ns, mp, m.kind, m.src, m.dst, m.items, x, rfl, S1, M1, hx1, ?_, ?_, h90', fun w2 H2 S2 f2 => ?_⟩
          · have := wn.rl; have := wm.ln; omega
          · have := W.ak; have := wm.ln
            show h.acked.length + m.items.length ≤ LIM
            omega
          · obtain ⟨mx2, qc2, ps2, eM2, _, _⟩ := msg_at (M1.up f2 (fun z => z.1 rfl))
            refine ⟨_, rfl, mp, _, mx2, _, _, rfl, eM2, T.cl_Message, T.na_Message_kind, rfl, rfl, _, rfl, ?_⟩
            have ek1 : decide (V.int (m.kind : Int) = V.int 1) = false := by rw [k2]; rfl
            rw [ek1]
            exact iteF (fin (by rw [ed]; exact S2) (F1.trans f2) (by rw [ed]; rfl))
        · have ek2 : decide (V.int (m.kind : Int) = V.int 2) = false := decide_eq_false (fun z => k2 (by have := V.int.inj z; omega))
          rw [ek2]
          have ok := wm.ok k2
          have ecf : come x m.items = Vbcsah.filled x m.items := come_filled wn.bk ok.srt
          refine iteF ⟨_, rfl, p, xd, _, rfl, N'.at_, rfl, _, rfl, mp, _, mx, _, _, rfl, eM1, T.cl_Message, T.na_Message_carried, rfl, wo, m.dst + 1, p, qc, x, ps, m.items, rfl, N, by omega, .inr eq1, al1, fun w2 H2 N2 f2 => ?_⟩
          have S2 := S1.node_step f2 h90' (by rw [show (Vbcsah.without h m.number).nodes = h.nodes from rfl]; exact hd) hp N2
          have M2 := M1.up f2 (fun z => by cases z)
          obtain ⟨mx2, qc2, ps2, eM2, eq2, al2⟩ := msg_at M2
          have F2 : Frm Ses wo w2 H H2 := F1.trans (f2.mono fun n (z : n = m.dst + 1) => ⟨by omega, by have := wm.ds; have := W.of4; omega⟩)
          refine ⟨_, rfl, mp, _, mx2, _, _, rfl, eM2, T.cl_Message, T.na_Message_kind, rfl, rfl, _, rfl, ?_⟩
          by_cases k1 : m.kind = 1
          · -- forms
            have ek1 : decide (V.int (m.kind : Int) = V.int 1) = true := by rw [k1]; rfl
            rw [ek1]
            have ed : Vbcsah.deliver h m = Vbcsah.setNode (Vbcsah.without h m.number) m.dst { come x m.items with owed := m.items.foldl (fun rs i => Vbcsah.once rs (m.src, i)) x.owed } := by
              rw [ecf, dcmp]; unfold Vbcsah.comes
              simp only [exx, on, k1]
              rfl
            have l20 := okB_len ok
            refine iteT ⟨_, rfl, mp, _, mx2, _, _, rfl, eM2, T.cl_Message, T.na_Message_carried, rfl, qc2, rfl, ⟨_, SqT.of eq2⟩, for_tup (K := K) (a := qc2) (xs := ps2.map V.ref) (fun j σ H' => ∃ (wj : Ow) (v : Option V), σ = [some (.ref sa), some (.int z), some (.ref mp), some (.ref p), v] ∧
              SesA P w a wj H' sa (Vbcsah.setNode (Vbcsah.without h m.number) m.dst { come x m.items with owed := (m.items.take j).foldl (fun rs i => Vbcsah.once rs (m.src, i)) x.owed }) dx pn pu pt pk ns ∧ Frm Ses w2 wj H2 H')
              ⟨w2, none, rfl, S2, Frm.refl _ _ _⟩ (fun j σ H' _ ⟨_, _, _, _, f⟩ => SqT.of (f.tup _ _ eq2)) ?_ ?_⟩
            · rintro j y σ H' hy ⟨wj, v, rfl, Sj, Fj⟩
              obtain ⟨pi, hpi, rfl⟩ := refs_get hy
              obtain ⟨it, hit, hi⟩ := al2.get hpi
              have hjl := (List.getElem?_eq_some_iff.mp hit).1
              obtain ⟨mxj, qcj, psj, eMj, _, _⟩ := msg_at (M2.up Fj (fun z => z.1 rfl))
              have hnj : (Vbcsah.setNode (Vbcsah.without h m.number) m.dst { come x m.items with owed := (m.items.take j).foldl (fun rs i => Vbcsah.once rs (m.src, i)) x.owed }).nodes[m.dst]? = some { come x m.items with owed := (m.items.take j).foldl (fun rs i => Vbcsah.once rs (m.src, i)) x.owed } := by
                show (h.nodes.set m.dst _)[m.dst]? = _
                rw [List.getElem?_set_self hd]
              obtain ⟨pj, hpj, Nj⟩ := Sj.nd m.dst _ hnj
              rw [hp] at hpj; cases hpj
              obtain ⟨xdj, pbj, prj, poj, psj2, s0j, s1j, Nj'⟩ := id Nj
              have hj90 : (Vbcsah.setNode (Vbcsah.without h m.number) m.dst { come x m.items with owed := (m.items.take j).foldl (fun rs i => Vbcsah.once rs (m.src, i)) x.owed }).nodes.length ≤ 90 := by
                show (h.nodes.set m.dst _).length ≤ 90
                rw [List.length_set]; exact h90
              refine ⟨_, rfl, p, xdj, _, rfl, Nj'.at_, rfl, _, rfl, mp, _, mxj, _, _, rfl, eMj, T.cl_Message, T.na_Message_sender, rfl, _, rfl, wj, m.dst + 1, p, pi, _, m.src, it, rfl, Nj, by omega, hi.up Fj.tup, ?_, ?_⟩
              · have h1 := onces_len m.src (m.items.take j) x.owed
                rw [List.length_take] at h1
                have h2 := wn.ol
                show ((m.items.take j).foldl (fun rs i => Vbcsah.once rs (m.src, i)) x.owed).length < LIM
                omega
              · intro w3 H3 N3 f3
                have S3 := Sj.node_step f3 hj90 (by show m.dst < (h.nodes.set m.dst _).length; rw [List.length_set]; exact hd) hp N3
                refine ⟨w3, _, rfl, ?_, Fj.trans (f3.mono fun n (z : n = m.dst + 1) => ⟨by omega, by have := wm.ds; have := W.of4; omega⟩)⟩
                rw [set_set] at S3
                have e := owes_snoc (come x m.items) m.src (m.items.take j) it
                rw [← take_snoc hit] at e
                rw [show ({ come x m.items with owed := (m.items.take (j + 1)).foldl (fun rs i => Vbcsah.once rs (m.src, i)) x.owed } : NodeS) = _ from e]
                exact S3
            · rintro σ H' ⟨wj, v, rfl, Sj, Fj⟩
              rw [List.length_map, al2.len, List.take_length] at Sj
              refine ⟨(by show 1 ≤ sizeLine; decide), fun q0 hq0 => ?_⟩
              have Fc := F2.trans Fj
              refine k wj _ q0 (by rw [ed]; exact Sj.up (Frm.new (k := NoB) hq0) (fun z => z) (fun _ _ z => z) (by show (h.nodes.set m.dst _).length ≤ 90; rw [List.length_set]; exact h90)) (Fc.trans (Frm.new hq0)) (fresh_of Fc hq0) ?_
              rw [upd_same]
              unfold deliverRow
              rw [ed, hxx, on, if_pos (show (Vbcsah.setNode (Vbcsah.without h m.number) m.dst _).next = h.next from rfl)]
              rfl
          · -- a filling
            have ek1 : decide (V.int (m.kind : Int) = V.int 1) = false := decide_eq_false (fun z => k1 (by have := V.int.inj z; omega))
            rw [ek1]
            have ed : Vbcsah.deliver h m = Vbcsah.setNode (Vbcsah.without h m.number) m.dst (come x m.items) := by
              rw [ecf, dcmp]; unfold Vbcsah.comes
              simp only [exx, on, k1, k2, k3, if_false]
              rfl
            exact iteF (fin (by rw [ed]; exact S2) F2 (by rw [ed]; rfl))
end
end Fo

-- FoDoes
/-! What a call leaves: sizes and order hold on. Plain Lean about the specification. -/
namespace Fo
open Vbcsah

/-! ### a message that comes, by its kind -/
theorem comes_off {h : House} {x : Message} (on : (node h x.dst).on = false) : comes h x = h := if_pos on
theorem comes_k1 {h : House} {x : Message} (on : (node h x.dst).on = true) (k : x.kind = 1) : comes h x = setNode h x.dst { filled (node h x.dst) x.items with owed := x.items.foldl (fun rs i => once rs (x.src, i)) (filled (node h x.dst) x.items).owed } := by
  unfold comes
  simp only [on, Bool.true_eq_false, if_false]
  rw [if_pos k]
theorem comes_k2 {h : House} {x : Message} (on : (node h x.dst).on = true) (k : x.kind = 2) : comes h x = { (setNode h x.dst (noted (node h x.dst) x.src x.items)) with acked := x.items.foldl (fun rs i => once rs (x.src, i)) h.acked } := by
  unfold comes
  simp only [on, Bool.true_eq_false, if_false]
  rw [if_neg (by omega), if_pos k]
theorem comes_k3 {h : House} {x : Message} (on : (node h x.dst).on = true) (k : x.kind = 3) : comes h x = if (news (node h x.dst).memory.book x.items).isEmpty = true then h else post h 4 x.dst x.src (news (node h x.dst).memory.book x.items) := by
  unfold comes
  simp only [on, Bool.true_eq_false, if_false]
  rw [if_neg (by omega), if_neg (by omega), if_pos k]
theorem comes_k4 {h : House} {x : Message} (on : (node h x.dst).on = true) (k : x.kind = 4) : comes h x = setNode h x.dst (filled (node h x.dst) x.items) := by
  unfold comes
  simp only [on, Bool.true_eq_false, if_false]
  rw [if_neg (by omega), if_neg (by omega), if_neg (by omega)]
theorem Wf.comes1 {b m r : Nat} {h : House} (w : Wf b m r h) {x : Message} (hx : WfM h.offices m x) (k : x.kind = 1) : Wf (b + 20) m r (Vbcsah.comes h x) := by
  have w2 : Wf (b + 20) m r h := w.mono (by omega) (Nat.le_refl _) (Nat.le_refl _)
  cases on : (Vbcsah.node h x.dst).on with
  | false => rw [comes_off on]; exact w2
  | true =>
    rw [comes_k1 on k]
    have ok := hx.ok (by omega)
    exact w2.set (((w.node hx.ds).filled on ok).owes (x := Vbcsah.filled (Vbcsah.node h x.dst) x.items) on (hx.k1 k) (okB_len ok))
theorem Wf.comes2 {b m r : Nat} {h : House} (w : Wf b m r h) {x : Message} (hx : WfM h.offices m x) (k : x.kind = 2) : Wf b m (r + m) (Vbcsah.comes h x) := by
  have w2 : Wf b m (r + m) h := w.mono (Nat.le_refl _) (Nat.le_refl _) (by omega)
  cases on : (Vbcsah.node h x.dst).on with
  | false => rw [comes_off on]; exact w2
  | true =>
    rw [comes_k2 on k]
    have w3 := w2.set (i := x.dst) ((w.node hx.ds).noted on x.src hx.ln)
    exact ⟨w3.of1, w3.of4, w3.len, w3.nd, w3.fl, w3.nu, Nat.le_trans (onces_len _ _ _) (Nat.add_le_add w.ak hx.ln), w3.tk, w3.m20, w3.nx⟩
theorem Wf.comes3 {b m r : Nat} {h : House} (w : Wf b m r h) {x : Message} (hx : WfM h.offices m x) (k : x.kind = 3) : Wf b m r (Vbcsah.comes h x) := by
  cases on : (Vbcsah.node h x.dst).on with
  | false => rw [comes_off on]; exact w
  | true =>
    rw [comes_k3 on k]
    have nk := news_okB (b := x.items) (w.node hx.ds).bk
    split
    · exact w
    · exact w.post ⟨.inr (.inr (.inr rfl)), hx.ds, hx.sr, (fun z => by cases z), fun _ => nk, Nat.le_trans (okB_len nk) w.m20⟩
theorem Wf.comes4 {b m r : Nat} {h : House} (w : Wf b m r h) {x : Message} (hx : WfM h.offices m x) (k : x.kind = 4) : Wf b m r (Vbcsah.comes h x) := by
  cases on : (Vbcsah.node h x.dst).on with
  | false => rw [comes_off on]; exact w
  | true => rw [comes_k4 on k]; exact w.set ((w.node hx.ds).filled on (hx.ok (by omega)))
theorem comes_flight {h : House} {x : Message} (k : x.kind ≠ 3) (hx : x.kind = 1 ∨ x.kind = 2 ∨ x.kind = 3 ∨ x.kind = 4) : (comes h x).flight = h.flight ∧ (comes h x).next = h.next := by
  cases on : (Vbcsah.node h x.dst).on with
  | false => rw [comes_off on]; exact ⟨rfl, rfl⟩
  | true =>
    rcases hx with k1 | k1 | k1 | k1
    · rw [comes_k1 on k1]; exact ⟨rfl, rfl⟩
    · rw [comes_k2 on k1]; exact ⟨rfl, rfl⟩
    · exact absurd k1 k
    · rw [comes_k4 on k1]; exact ⟨rfl, rfl⟩
theorem comes_flight_le (h : House) (x : Message) (hx : x.kind = 1 ∨ x.kind = 2 ∨ x.kind = 3 ∨ x.kind = 4) : (comes h x).flight.length ≤ h.flight.length + 1 := by
  by_cases k : x.kind = 3
  · cases on : (Vbcsah.node h x.dst).on with
    | false => rw [comes_off on]; omega
    | true =>
      rw [comes_k3 on k]
      split
      · omega
      · show (h.flight ++ [_]).length ≤ _
        rw [List.length_append]; simp
  · rw [(comes_flight k hx).1]; omega
theorem without_lt {h : House} {x : Message} (hx : x ∈ h.flight) : (without h x.number).flight.length + 1 ≤ h.flight.length := by
  show (h.flight.filter fun m => m.number != x.number).length + 1 ≤ _
  have : (h.flight.filter fun m => m.number != x.number).length < h.flight.length := by
    rw [List.length_filter_lt_length_iff_exists]
    exact ⟨x, hx, by simp⟩
  omega
theorem message_mem {h : House} {m : Int} {x : Message} (e : messageAt h m = some x) : x ∈ h.flight := List.mem_of_find?_eq_some e

/-! ### settle, piece by piece -/
theorem deliverAll_nil {k : Nat} {h : House} (e : h.flight = []) : deliverAll k h = h := by
  cases k with
  | zero => rfl
  | succ k => unfold deliverAll; rw [e]
theorem deliverAll_cons {k : Nat} {h : House} {x : Message} {l : List Message} (e : h.flight = x :: l) : deliverAll (k + 1) h = deliverAll k (deliver h x) := by
  conv => lhs; unfold deliverAll
  rw [e]
theorem without_head {h : House} {x : Message} {l : List Message} (n : Nums h.next h.flight) (e : h.flight = x :: l) : (without h x.number).flight = l := by
  show (h.flight.filter fun m => m.number != x.number) = l
  rw [e] at n ⊢
  have n1 := n.1
  rw [List.map_cons, List.pairwise_cons] at n1
  rw [List.filter_cons]
  simp only [bne_self_eq_false, Bool.false_eq_true, if_false]
  rw [List.filter_eq_self]
  intro m hm
  have := n1.1 m.number (List.mem_map_of_mem hm)
  simp only [bne_iff_ne]
  omega
theorem Wf.tight {b B m r : Nat} {h : House} (w : Wf B m r h) (hb : ∀ i, i < h.offices + 2 → (Vbcsah.node h i).owed.length ≤ b) : Wf b m r h :=
  ⟨w.of1, w.of4, w.len, fun x hx => by
    obtain ⟨i, hi, rfl⟩ := List.getElem_of_mem hx
    have n := w.nd _ (List.getElem_mem hi)
    have e : Vbcsah.node h i = h.nodes[i] := by unfold Vbcsah.node; rw [List.getD_eq_getElem?_getD, List.getElem?_eq_getElem hi]; rfl
    exact ⟨n.bk, n.rl, by rw [← e]; exact hb i (by rw [w.len] at hi; exact hi), n.oo, n.dk, n.s0, n.s1⟩, w.fl, w.nu, w.ak, w.tk, w.m20, w.nx⟩
/-- light everywhere -/
def litAll (l : List Nat) (h : House) : House := l.foldl (fun g i => if (node g i).on = true then g else setNode g i (lit (node g i))) h
theorem Wf.litAll {b m r : Nat} : ∀ (l : List Nat) {h : House}, Wf b m r h → (∀ i ∈ l, i < h.offices + 2) → Wf b m r (litAll l h) ∧ (Fo.litAll l h).offices = h.offices ∧ (Fo.litAll l h).next = h.next ∧ (Fo.litAll l h).taken = h.taken ∧ (Fo.litAll l h).acked = h.acked
  | [], h, w, _ => ⟨w, rfl, rfl, rfl, rfl⟩
  | i :: l, h, w, hl => by
    have e : Fo.litAll (i :: l) h = Fo.litAll l (if (Vbcsah.node h i).on = true then h else setNode h i (lit (Vbcsah.node h i))) := rfl
    rw [e]
    split
    · exact Wf.litAll l w fun j hj => hl j (List.mem_cons_of_mem _ hj)
    · have w2 := w.set (i := i) (w.node (hl i (List.mem_cons_self ..))).lit
      exact Wf.litAll l w2 fun j hj => hl j (List.mem_cons_of_mem _ hj)
/-- what behind a settling piece holds: nothing under way, so many offices -/
structure Calm (b m r : Nat) (h : House) : Prop where
  wf : Wf b m r h
  none_ : h.flight = []
theorem node_post (h : House) (k s d : Nat) (l : Book) (i : Nat) : node (post h k s d l) i = node h i := rfl
/-- an office sends, all comes -/
theorem sends_calm {b m r : Nat} {h : House} (C : Calm b m r h) {o c : Nat} (ho : o < h.offices) (hc : c < h.offices + 2) :
    Calm (b + 20) m r (deliverAll MANY (sends h o c)) ∧ (deliverAll MANY (sends h o c)).offices = h.offices ∧ (∀ i, i ≠ c → node (deliverAll MANY (sends h o c)) i = node h i) ∧
    (node (deliverAll MANY (sends h o c)) c).owed.length ≤ (node h c).owed.length + 20 := by
  obtain ⟨w, e0⟩ := C
  unfold sends
  dsimp only
  split
  · rw [deliverAll_nil e0]
    exact ⟨⟨w.mono (by omega) (Nat.le_refl _) (Nat.le_refl _), e0⟩, rfl, fun _ _ => rfl, by omega⟩
  · generalize hl : open_ (Vbcsah.node h o) c = l
    have okl : OkB l := by rw [← hl]; exact filter_okB (w.node (Nat.lt_of_lt_of_le ho (Nat.le_add_right _ _))).bk
    let x : Message := { number := h.next, kind := 1, src := o, dst := c, items := l }
    have hx : WfM h.offices m x := ⟨.inl rfl, Nat.lt_of_lt_of_le ho (Nat.le_add_right _ _), hc, fun _ => ho, fun _ => okl, Nat.le_trans (okB_len okl) w.m20⟩
    have wp : Wf b m r (post h 1 o c l) := w.post hx
    have ef : (post h 1 o c l).flight = [x] := by show h.flight ++ [x] = [x]; rw [e0]; rfl
    have e1 : deliverAll MANY (post h 1 o c l) = deliverAll 199 (deliver (post h 1 o c l) x) := deliverAll_cons ef
    have ew : (without (post h 1 o c l) x.number).flight = [] := without_head wp.nu ef
    have e2 : (deliver (post h 1 o c l) x).flight = [] := by
      show (comes (without (post h 1 o c l) x.number) x).flight = []
      rw [(comes_flight (by show (1:Nat) ≠ 3; decide) (.inl rfl)).1, ew]
    rw [e1, deliverAll_nil e2]
    have w2 : Wf (b + 20) m r (deliver (post h 1 o c l) x) := (wp.without x.number).comes1 hx rfl
    refine ⟨⟨w2, e2⟩, comes_offices _ _, fun i hi => ?_, ?_⟩
    · show node (comes (without (post h 1 o c l) x.number) x) i = _
      cases on : (node (without (post h 1 o c l) x.number) x.dst).on with
      | false => rw [comes_off on]; rfl
      | true => rw [comes_k1 on rfl, node_set_ne (fun z => hi z.symm)]; rfl
    · show (node (comes (without (post h 1 o c l) x.number) x) c).owed.length ≤ _
      cases on : (node (without (post h 1 o c l) x.number) x.dst).on with
      | false => rw [comes_off on]; exact Nat.le_add_right _ _
      | true =>
        rw [comes_k1 on rfl, node_set_same (by show c < h.nodes.length; rw [w.len]; exact hc)]
        exact Nat.le_trans (onces_len _ _ _) (Nat.add_le_add_left (okB_len okl) _)
/-- all receipts that are under way come -/
theorem acks_calm {b m : Nat} : ∀ (k n : Nat) {r : Nat} {h : House}, Wf b m r h → (∀ x ∈ h.flight, x.kind = 2) → h.flight.length = k → k ≤ n →
    Calm b m (r + k * m) (deliverAll n h) ∧ (deliverAll n h).offices = h.offices
  | 0, n, r, h, w, _, e, _ => by
    have e0 : h.flight = [] := List.eq_nil_of_length_eq_zero e
    rw [deliverAll_nil e0]
    exact ⟨⟨w.mono (Nat.le_refl _) (Nat.le_refl _) (by omega), e0⟩, rfl⟩
  | k + 1, 0, r, h, w, _, e, hn => by omega
  | k + 1, n + 1, r, h, w, h2, e, hn => by
    cases ef : h.flight with
    | nil => rw [ef] at e; cases e
    | cons x l =>
      rw [deliverAll_cons ef]
      have hx : x ∈ h.flight := by rw [ef]; exact List.mem_cons_self ..
      have k2 := h2 x hx
      have w2 : Wf b m (r + m) (deliver h x) := (w.without x.number).comes2 (w.fl x hx) k2
      have e2 : (deliver h x).flight = l := by
        show (comes (without h x.number) x).flight = l
        rw [(comes_flight (by omega) (.inr (.inl k2))).1, without_head w.nu ef]
      obtain ⟨C, eo⟩ := acks_calm k n w2 (fun y hy => h2 y (by rw [ef]; rw [e2] at hy; exact List.mem_cons_of_mem _ hy)) (by rw [e2]; rw [ef] at e; simpa using e) (by omega)
      have er : r + m + k * m = r + (k + 1) * m := by rw [Nat.succ_mul]; omega
      rw [er] at C
      exact ⟨C, eo.trans (comes_offices _ _)⟩
theorem acks_owed : ∀ (n : Nat) {b m r : Nat} {h : House}, Wf b m r h → (∀ x ∈ h.flight, x.kind = 2) → ∀ i, (node (deliverAll n h) i).owed = (node h i).owed
  | 0, b, m, r, h, w, _, i => rfl
  | n + 1, b, m, r, h, w, h2, i => by
    cases ef : h.flight with
    | nil => rw [deliverAll_nil ef]
    | cons x l =>
      rw [deliverAll_cons ef]
      have hx : x ∈ h.flight := by rw [ef]; exact List.mem_cons_self ..
      have k2 := h2 x hx
      have w2 : Wf b m (r + m) (deliver h x) := (w.without x.number).comes2 (w.fl x hx) k2
      have e2 : (deliver h x).flight = l := by
        show (comes (without h x.number) x).flight = l
        rw [(comes_flight (by omega) (.inr (.inl k2))).1, without_head w.nu ef]
      rw [acks_owed n w2 (fun y hy => h2 y (by rw [ef]; rw [e2] at hy; exact List.mem_cons_of_mem _ hy)) i]
      show (node (comes (without h x.number) x) i).owed = _
      cases on : (node (without h x.number) x.dst).on with
      | false => rw [comes_off on]; rfl
      | true =>
        rw [comes_k2 on k2]
        show (node (setNode (without h x.number) x.dst _) i).owed = _
        by_cases c : x.dst = i
        · subst c
          rw [node_set_same (by show x.dst < h.nodes.length; rw [w.len]; exact (w.fl x hx).ds)]
          rfl
        · rw [node_set_ne c]; rfl
theorem postAll_flight (i : Nat) (f : Nat → Book) : ∀ (os : List Nat) (h : House), ∀ x ∈ (postAll i f os h).flight, x ∈ h.flight ∨ (x.kind = 2 ∧ x.src = i ∧ x.dst ∈ os)
  | [], h, x, hx => .inl hx
  | o :: os, h, x, hx => by
    rcases postAll_flight i f os (post h 2 i o (f o)) x hx with z | ⟨z1, z2, z3⟩
    · rcases List.mem_append.mp z with z | z
      · exact .inl z
      · rw [List.mem_singleton.mp z]; exact .inr ⟨rfl, rfl, List.mem_cons_self ..⟩
    · exact .inr ⟨z1, z2, List.mem_cons_of_mem _ z3⟩
theorem owedOffices_le (h : House) (x : Node) : (owedOffices h x).length ≤ h.offices := by
  unfold owedOffices
  exact Nat.le_trans (List.length_filter_le _ _) (by simp)
theorem keeps_len (h : House) (i : Nat) : (keeps h i).flight.length = h.flight.length + (owedOffices h (node h i)).length := by
  rw [keeps_eq]
  exact (postAll_nodes _ _ _ _).2.2.2.2.2
theorem keeps_node (h : House) (i j : Nat) : node (keeps h i) j = node (setNode h i { kept (node h i) with owed := [] }) j := by
  rw [keeps_eq]
  unfold node
  rw [(postAll_nodes _ _ _ _).1]
theorem keeps_owed (h : House) {i : Nat} (hi : i < h.nodes.length) : (node (keeps h i) i).owed = [] := by
  rw [keeps_node, node_set_same hi]
theorem keeps_offices (h : House) (i : Nat) : (keeps h i).offices = h.offices := by rw [keeps_eq]; exact (postAll_nodes _ _ _ _).2.1
/-- a node keeps, all comes -/
theorem keeps_calm {b m r : Nat} {h : House} (C : Calm b m r h) {i : Nat} (hi : i < h.offices + 2) (hb : b ≤ m) :
    Calm b m (r + 4 * m) (deliverAll MANY (keeps h i)) ∧ (deliverAll MANY (keeps h i)).offices = h.offices ∧ (∀ j, j ≠ i → (node (deliverAll MANY (keeps h i)) j).owed = (node h j).owed) ∧ (node (deliverAll MANY (keeps h i)) i).owed = [] := by
  obtain ⟨w, e0⟩ := C
  have wk := w.keeps hi hb
  have k2 : ∀ x ∈ (keeps h i).flight, x.kind = 2 := fun x hx => by
    rw [keeps_eq] at hx
    rcases postAll_flight _ _ _ _ x hx with z | z
    · rw [show (setNode h i { kept (node h i) with owed := [] }).flight = h.flight from rfl, e0] at z; cases z
    · exact z.1
  have hl : (keeps h i).flight.length ≤ 4 := by
    rw [keeps_len, e0]
    have := owedOffices_le h (node h i)
    have := w.of4
    simp only [List.length_nil]; omega
  obtain ⟨C2, eo⟩ := acks_calm (keeps h i).flight.length MANY wk k2 rfl (Nat.le_trans hl (by decide))
  have ow := acks_owed MANY wk k2
  refine ⟨⟨C2.wf.mono (Nat.le_refl _) (Nat.le_refl _) (Nat.add_le_add_left (Nat.mul_le_mul_right _ hl) _), C2.none_⟩, eo.trans (keeps_offices h i), fun j hj => ?_, ?_⟩
  · rw [ow j, keeps_node, node_set_ne (fun z => hj z.symm)]
  · rw [ow i, keeps_owed h (by rw [w.len]; exact hi)]
theorem other_lt {h : House} {c : Nat} : otherCentre h c < h.offices + 2 := by unfold otherCentre; split <;> omega
/-- a centre asks, all comes -/
theorem asks_calm {b m r : Nat} {h : House} (C : Calm b m r h) {c : Nat} (hc : c < h.offices + 2) :
    Calm b m r (deliverAll MANY (asks h c)) ∧ (deliverAll MANY (asks h c)).offices = h.offices ∧ (∀ j, (node (deliverAll MANY (asks h c)) j).owed = (node h j).owed) := by
  obtain ⟨w, e0⟩ := C
  have bk := (w.node hc).bk
  unfold asks
  generalize hd : otherCentre h c = d
  have hdl : d < h.offices + 2 := hd ▸ other_lt
  let x : Message := { number := h.next, kind := 3, src := c, dst := d, items := (node h c).memory.book }
  have hx : WfM h.offices m x := ⟨.inr (.inr (.inl rfl)), hc, hdl, (fun z => by cases z), fun _ => bk, Nat.le_trans (okB_len bk) w.m20⟩
  have wp : Wf b m r (post h 3 c d (node h c).memory.book) := w.post hx
  have ef : (post h 3 c d (node h c).memory.book).flight = [x] := by show h.flight ++ [x] = [x]; rw [e0]; rfl
  rw [show deliverAll MANY (post h 3 c d (node h c).memory.book) = deliverAll 199 (deliver (post h 3 c d (node h c).memory.book) x) from deliverAll_cons ef]
  have ew : (without (post h 3 c d (node h c).memory.book) x.number).flight = [] := without_head wp.nu ef
  have w0 : Wf b m r (without (post h 3 c d (node h c).memory.book) x.number) := wp.without x.number
  have nn : ∀ j, node (without (post h 3 c d (node h c).memory.book) x.number) j = node h j := fun _ => rfl
  have oo : (without (post h 3 c d (node h c).memory.book) x.number).offices = h.offices := rfl
  have w1 : Wf b m r (deliver (post h 3 c d (node h c).memory.book) x) := w0.comes3 hx rfl
  have ed : deliver (post h 3 c d (node h c).memory.book) x = comes (without (post h 3 c d (node h c).memory.book) x.number) x := rfl
  rw [ed] at w1 ⊢
  generalize without (post h 3 c d (node h c).memory.book) x.number = g at ew w0 nn oo w1
  cases on : (node g x.dst).on with
  | false =>
    rw [comes_off on, deliverAll_nil ew]
    exact ⟨⟨w0, ew⟩, oo, fun j => by rw [nn]⟩
  | true =>
    rw [comes_k3 on rfl] at w1 ⊢
    split
    · rw [deliverAll_nil ew]
      exact ⟨⟨w0, ew⟩, oo, fun j => by rw [nn]⟩
    · rename_i ne
      rw [if_neg ne] at w1
      generalize hl : news (node g x.dst).memory.book x.items = l at w1
      let y : Message := { number := g.next, kind := 4, src := d, dst := c, items := l }
      have okl : OkB l := hl ▸ news_okB (w0.node (oo ▸ hdl)).bk
      have hy : WfM g.offices m y := ⟨.inr (.inr (.inr rfl)), oo ▸ hdl, oo ▸ hc, (fun z => by cases z), fun _ => okl, Nat.le_trans (okB_len okl) w.m20⟩
      have ef2 : (post g 4 x.dst x.src l).flight = [y] := by show g.flight ++ [y] = [y]; rw [ew]; rfl
      rw [show deliverAll 199 (post g 4 x.dst x.src l) = deliverAll 198 (deliver (post g 4 x.dst x.src l) y) from deliverAll_cons ef2]
      have ew2 : (without (post g 4 x.dst x.src l) y.number).flight = [] := without_head w1.nu ef2
      have e3 : (deliver (post g 4 x.dst x.src l) y).flight = [] := by
        show (comes (without (post g 4 x.dst x.src l) y.number) y).flight = []
        rw [(comes_flight (by show (4:Nat) ≠ 3; decide) (.inr (.inr (.inr rfl)))).1, ew2]
      rw [deliverAll_nil e3]
      refine ⟨⟨(w1.without y.number).comes4 hy rfl, e3⟩, (comes_offices _ _).trans oo, fun j => ?_⟩
      show (node (comes (without (post g 4 x.dst x.src l) y.number) y) j).owed = _
      cases on2 : (node (without (post g 4 x.dst x.src l) y.number) y.dst).on with
      | false => rw [comes_off on2, ← nn]; rfl
      | true =>
        rw [comes_k4 on2 rfl]
        by_cases cj : y.dst = j
        · subst cj
          rw [node_set_same (by show c < g.nodes.length; rw [w0.len, oo]; exact hc), ← nn]
          rfl
        · rw [node_set_ne cj, ← nn]; rfl
/-- settle's first piece: one office sends to both centres -/
theorem office_calm {b m r : Nat} {h : House} (C : Calm b m r h) {B : Nat} (hB : B ≤ b) (hw : ∀ i, i < h.offices + 2 → (node h i).owed.length ≤ B) {o : Nat} (ho : o < h.offices) :
    let g := (centres h).foldl (fun g c => deliverAll MANY (sends g o c)) h
    Calm (b + 20) m r g ∧ g.offices = h.offices ∧ (∀ i, i < h.offices + 2 → (node g i).owed.length ≤ B + 20) := by
  intro g
  obtain ⟨C1, o1, n1, l1⟩ := sends_calm C ho (c := h.offices) (by omega)
  obtain ⟨C2, o2, n2, l2⟩ := sends_calm C1 (o := o) (c := h.offices + 1) (by rw [o1]; exact ho) (by rw [o1]; omega)
  have eg : g = deliverAll MANY (sends (deliverAll MANY (sends h o h.offices)) o (h.offices + 1)) := rfl
  rw [eg]
  generalize deliverAll MANY (sends h o h.offices) = g1 at *
  generalize deliverAll MANY (sends g1 o (h.offices + 1)) = g2 at *
  have hb : ∀ i, i < h.offices + 2 → (node g2 i).owed.length ≤ B + 20 := fun i hi => by
    by_cases c1 : i = h.offices + 1
    · subst c1
      rw [n1 _ (by omega)] at l2
      have := hw _ hi
      omega
    · rw [n2 i c1]
      by_cases c2 : i = h.offices
      · subst c2
        have := hw _ hi
        omega
      · rw [n1 i c2]
        have := hw _ hi
        omega
  exact ⟨⟨C2.wf.tight fun i hi => Nat.le_trans (hb i (by rw [o2, o1] at hi; exact hi)) (by omega), C2.none_⟩, o2.trans o1, hb⟩
def officesSend (h : House) (l : List Nat) (g : House) : House := l.foldl (fun g o => (centres h).foldl (fun g c => deliverAll MANY (sends g o c)) g) g
theorem offices_calm {m r : Nat} {h0 : House} : ∀ (l : List Nat) {B : Nat} {h : House}, Calm B m r h → h.offices = h0.offices → (∀ o ∈ l, o < h.offices) →
    Calm (B + 20 * l.length) m r (officesSend h0 l h) ∧ (officesSend h0 l h).offices = h.offices
  | [], B, h, C, e, hl => ⟨C, rfl⟩
  | o :: l, B, h, C, e, hl => by
    have ec : centres h0 = centres h := by unfold centres; rw [e]
    have eg : officesSend h0 (o :: l) h = officesSend h0 l ((centres h).foldl (fun g c => deliverAll MANY (sends g o c)) h) := by
      unfold officesSend
      rw [List.foldl_cons, ec]
    rw [eg]
    obtain ⟨C1, o1, _⟩ := office_calm C (Nat.le_refl B) (fun i hi => (C.wf.node hi).ol) (hl o (List.mem_cons_self ..))
    obtain ⟨C2, o2⟩ := offices_calm l C1 (o1.trans e) fun p hp => by rw [o1]; exact hl p (List.mem_cons_of_mem _ hp)
    rw [List.length_cons, show B + 20 * (l.length + 1) = B + 20 + 20 * l.length by omega]
    exact ⟨C2, o2.trans o1⟩
theorem keepAll {b m r : Nat} : ∀ (l : List Nat) {h : House} (d : List Nat), Wf b m r h → b ≤ m → (∀ i ∈ l, i < h.offices + 2) → (∀ i ∈ d, i < h.offices + 2 ∧ (node h i).owed = []) →
    Wf b m r (l.foldl keeps h) ∧ (l.foldl keeps h).offices = h.offices ∧ (l.foldl keeps h).flight.length ≤ h.flight.length + 4 * l.length ∧ (∀ i ∈ d ++ l, i < h.offices + 2 ∧ (node (l.foldl keeps h) i).owed = [])
  | [], h, d, w, hb, hl, hd => ⟨w, rfl, by simp, by simpa using hd⟩
  | i :: l, h, d, w, hb, hl, hd => by
    have hi := hl i (List.mem_cons_self ..)
    have wk := w.keeps hi hb
    have eo := keeps_offices h i
    have hin : i < h.nodes.length := by rw [w.len]; exact hi
    obtain ⟨w2, o2, f2, n2⟩ := keepAll l (h := keeps h i) (d ++ [i]) wk hb (fun j hj => by rw [eo]; exact hl j (List.mem_cons_of_mem _ hj)) (fun j hj => by
      rcases List.mem_append.mp hj with hj | hj
      · refine ⟨by rw [eo]; exact (hd j hj).1, ?_⟩
        rw [keeps_node]
        by_cases c : i = j
        · subst c; rw [node_set_same hin]
        · rw [node_set_ne c]; exact (hd j hj).2
      · rw [List.mem_singleton.mp hj]; exact ⟨by rw [eo]; exact hi, keeps_owed h hin⟩)
    refine ⟨w2, o2.trans eo, ?_, fun j hj => ?_⟩
    · have h1 := keeps_len h i
      have h2 := owedOffices_le h (node h i)
      have := w.of4
      rw [List.length_cons]
      show (l.foldl keeps (keeps h i)).flight.length ≤ _
      omega
    · have := n2 j (by simpa using hj)
      rw [eo] at this
      exact this
/-- settle: what was owed is no more; the receipts grow by so much -/
theorem Wf.settled {b r : Nat} {h : House} (w : Wf b 4080 r h) (hb : b ≤ 4000) : Wf b 4080 (r + 32640) (Vbcsah.settled h) ∧ (Vbcsah.settled h).flight.length ≤ 24 ∧ (Vbcsah.settled h).offices = h.offices := by
  have an : ∀ i ∈ allNodes h, i < h.offices + 2 := fun i hi => List.mem_range.mp hi
  obtain ⟨wl, ol, _⟩ := w.litAll (allNodes h) an
  have C0 : Calm b 4080 r { Fo.litAll (allNodes h) h with flight := [] } := ⟨wl.emptied, rfl⟩
  have o0 : ({ Fo.litAll (allNodes h) h with flight := [] } : House).offices = h.offices := ol
  have e1 : Vbcsah.settled h = (allNodes h).foldl Vbcsah.keeps ((centres h).foldl (fun g c => deliverAll MANY (asks g c)) ((centres h).foldl (fun g c => deliverAll MANY (Vbcsah.keeps g c)) (officesSend h (List.range h.offices) { Fo.litAll (allNodes h) h with flight := [] }))) := rfl
  rw [e1]
  generalize ({ Fo.litAll (allNodes h) h with flight := [] } : House) = h0 at *
  obtain ⟨C1, o1⟩ := offices_calm (h0 := h) (List.range h.offices) C0 o0 fun o ho => by rw [o0]; exact List.mem_range.mp ho
  rw [List.length_range] at C1
  generalize officesSend h (List.range h.offices) h0 = h1 at *
  have p4 := w.of4
  have C1' : Calm 4080 4080 r h1 := ⟨C1.wf.mono (by omega) (Nat.le_refl _) (Nat.le_refl _), C1.none_⟩
  rw [o0] at o1
  obtain ⟨C2, o2, _, _⟩ := keeps_calm C1' (i := h.offices) (by omega) (Nat.le_refl _)
  obtain ⟨C3, o3, _, _⟩ := keeps_calm C2 (i := h.offices + 1) (by omega) (Nat.le_refl _)
  have e2 : (centres h).foldl (fun g c => deliverAll MANY (Vbcsah.keeps g c)) h1 = deliverAll MANY (Vbcsah.keeps (deliverAll MANY (Vbcsah.keeps h1 h.offices)) (h.offices + 1)) := rfl
  rw [e2]
  generalize deliverAll MANY (Vbcsah.keeps h1 h.offices) = h2 at *
  generalize deliverAll MANY (Vbcsah.keeps h2 (h.offices + 1)) = h3 at *
  obtain ⟨C4, o4, _⟩ := asks_calm C3 (c := h.offices) (by omega)
  obtain ⟨C5, o5, _⟩ := asks_calm C4 (c := h.offices + 1) (by omega)
  have e3 : (centres h).foldl (fun g c => deliverAll MANY (asks g c)) h3 = deliverAll MANY (asks (deliverAll MANY (asks h3 h.offices)) (h.offices + 1)) := rfl
  rw [e3]
  generalize deliverAll MANY (asks h3 h.offices) = h4 at *
  generalize deliverAll MANY (asks h4 (h.offices + 1)) = h5 at *
  have o5' : h5.offices = h.offices := by omega
  obtain ⟨w6, o6, f6, n6⟩ := keepAll (allNodes h) (h := h5) [] C5.wf (Nat.le_refl _) (fun i hi => by rw [o5']; exact an i hi) (fun i hi => by cases hi)
  refine ⟨(w6.mono (Nat.le_refl _) (Nat.le_refl _) (by omega)).tight fun i hi => ?_, ?_, o6.trans o5'⟩
  · rw [o6, o5'] at hi
    rw [(n6 i (by rw [List.nil_append]; exact List.mem_range.mpr hi)).2]
    exact Nat.zero_le _
  · rw [C5.none_] at f6
    have : (allNodes h).length = h.offices + 2 := List.length_range
    simp only [List.length_nil] at f6
    omega
/-- **What a call leaves keeps to the sizes.** -/
theorem does_wf {b r : Nat} {h h' : House} {c : Call} {l : List Int} (w : Wf b 4080 r h) (hb : b ≤ 4000) (hf : h.flight.length ≤ 40) (e : does h c = (some h', l)) : Wf (b + 20) 4080 (r + 32640) h' ∧ h'.flight.length ≤ 40 := by
  have same : Wf (b + 20) 4080 (r + 32640) h ∧ h.flight.length ≤ 40 := ⟨w.mono (by omega) (Nat.le_refl _) (by omega), hf⟩
  have up : ∀ {g : House}, Wf b 4080 r g → g.flight.length ≤ 40 → some g = some h' → Wf (b + 20) 4080 (r + 32640) h' ∧ h'.flight.length ≤ 40 := fun {g} wg fg eg => by
    cases eg; exact ⟨wg.mono (by omega) (Nat.le_refl _) (by omega), fg⟩
  have no_ : ∀ k, no (some h) k = (some h', l) → Wf (b + 20) 4080 (r + 32640) h' ∧ h'.flight.length ≤ 40 := fun k ek => up w hf (congrArg Prod.fst ek)
  have yes_ : ∀ {g : House} {x : List Int}, Wf b 4080 r g → g.flight.length ≤ 40 → yes g x = (some h', l) → Wf (b + 20) 4080 (r + 32640) h' ∧ h'.flight.length ≤ 40 := fun {g x} wg fg eg => up wg fg (congrArg Prod.fst eg)
  have nat_ : ∀ {z : Int} {k : Nat}, inR z 0 (k : Int) = true → z.toNat ≤ k := fun {z k} hz => by
    have := of_decide_eq_true hz; omega
  have nd : ∀ {z : Int}, ¬ isNode h z = false → z.toNat < h.offices + 2 := fun {z} hz => by
    have h1 : isNode h z = true := by simpa using hz
    have := of_decide_eq_true h1; omega
  have oc : ∀ {z : Int}, ¬ isOffice h z = false → z.toNat < h.offices := fun {z} hz => by
    have h1 : isOffice h z = true := by simpa using hz
    have := of_decide_eq_true h1
    have := w.of1
    omega
  have ct : ∀ {z : Int}, ¬ isCentre_ h z = false → z.toNat < h.offices + 2 := fun {z} hz => by
    have h1 : isCentre_ h z = true := by simpa using hz
    have := of_decide_eq_true h1
    omega
  have rm : ∀ {k : Nat}, ¬ room h k = false → h.flight.length + k ≤ 40 := fun {k} hz => by
    have h1 : room h k = true := by simpa using hz
    exact of_decide_eq_true h1
  cases c with
  | begin_ n => exact no_ _ e
  | take o n v g t =>
    rw [does] at e
    split at e
    · exact no_ _ e
    · rename_i hr
      split at e
      · exact no_ _ e
      · rename_i hn
        have h1 : ¬ isOffice h o = false := fun z => hr (.inl z)
        have h2 : inR n 1 FORMS = true := by
          cases z : inR n 1 FORMS with
          | true => rfl
          | false => exact absurd (.inr (.inl z)) hr
        have h3 := of_decide_eq_true h2
        have hon : (node h o.toNat).on = true := by simpa using hn
        have wt : Wf b 4080 (r + 1) (take_ h o.toNat { number := n.toNat, version := v.toNat, gone := g == 1, tells := if g = 1 then 0 else t.toNat }) := w.take (Nat.lt_of_lt_of_le (oc h1) (Nat.le_add_right _ _)) hon ⟨by show 1 ≤ n.toNat; omega, by
          show n.toNat ≤ 20
          have : n ≤ (FORMS : Int) := h3.2
          have : (FORMS : Int) = 20 := rfl
          omega⟩
        cases congrArg Prod.fst e
        exact ⟨wt.mono (by omega) (Nat.le_refl _) (by omega), hf⟩
  | keep i =>
    rw [does] at e
    split at e
    · exact no_ _ e
    · rename_i h1
      split at e
      · exact no_ _ e
      · dsimp only at e
        split at e
        · exact no_ _ e
        · rename_i h3
          exact yes_ (w.keeps (nd h1) (by omega)) (by rw [keeps_len]; exact rm h3) e
  | torn i t =>
    rw [does] at e
    split at e
    · exact no_ _ e
    · rename_i h1
      split at e
      · exact no_ _ e
      · have hi := nd fun z => h1 (.inl z)
        refine yes_ (w.set ?_) hf e
        split
        · exact ((w.node hi).written none fun s z => by cases z).dark
        · exact (w.node hi).dark
  | cut i =>
    rw [does] at e
    split at e
    · exact no_ _ e
    · rename_i h1
      split at e
      · exact no_ _ e
      · exact yes_ (w.set (w.node (nd h1)).dark) hf e
  | up i =>
    rw [does] at e
    split at e
    · exact no_ _ e
    · rename_i h1
      split at e
      · exact no_ _ e
      · exact yes_ (w.set (w.node (nd h1)).lit) hf e
  | send o c =>
    rw [does] at e
    split at e
    · exact no_ _ e
    · rename_i h1
      split at e
      · exact no_ _ e
      · split at e
        · exact no_ _ e
        · rename_i h3
          split at e
          · exact no_ _ e
          · rename_i h4
            have ho := oc fun z => h1 (.inl z)
            have hc := ct fun z => h1 (.inr z)
            have hr := rm h4
            have okl : OkB (open_ (node h o.toNat) c.toNat) := filter_okB (w.node (Nat.lt_of_lt_of_le ho (Nat.le_add_right _ _))).bk
            have es : sends h o.toNat c.toNat = post h 1 o.toNat c.toNat (open_ (node h o.toNat) c.toNat) := if_neg h3
            rw [es] at e
            refine yes_ (w.post ⟨.inl rfl, Nat.lt_of_lt_of_le ho (Nat.le_add_right _ _), hc, fun _ => ho, fun _ => okl, Nat.le_trans (okB_len okl) (by decide)⟩) ?_ e
            show (h.flight ++ [_]).length ≤ 40
            rw [List.length_append]; exact hr
  | ask c =>
    rw [does] at e
    split at e
    · exact no_ _ e
    · rename_i h1
      split at e
      · exact no_ _ e
      · split at e
        · exact no_ _ e
        · rename_i h4
          have hc := ct h1
          have okl := (w.node hc).bk
          refine yes_ (w.post ⟨.inr (.inr (.inl rfl)), hc, other_lt, (fun z => by cases z), fun _ => okl, Nat.le_trans (okB_len okl) (by decide)⟩) ?_ e
          show (h.flight ++ [_]).length ≤ 40
          rw [List.length_append]; exact rm h4
  | deliver_ m =>
    rw [does] at e
    split at e
    · exact no_ _ e
    · rename_i x ex
      have hx := message_mem ex
      have wx := w.fl x hx
      have wd : Wf (b + 20) 4080 (r + 4080) (deliver h x) := (w.without x.number).comes wx
      cases congrArg Prod.fst e
      refine ⟨wd.mono (Nat.le_refl _) (Nat.le_refl _) (by omega), ?_⟩
      have h1 := comes_flight_le (without h x.number) x wx.kd
      have h2 := without_lt hx
      show (comes (without h x.number) x).flight.length ≤ 40
      omega
  | lose m =>
    rw [does] at e
    split at e
    · exact no_ _ e
    · rename_i x ex
      have h2 := without_lt (message_mem ex)
      exact yes_ (w.without x.number) (by omega) e
  | double m =>
    rw [does] at e
    split at e
    · exact no_ _ e
    · rename_i x ex
      split at e
      · exact no_ _ e
      · rename_i h4
        have wx := w.fl x (message_mem ex)
        refine yes_ (w.post ⟨wx.kd, wx.sr, wx.ds, wx.k1, wx.ok, wx.ln⟩) ?_ e
        show (h.flight ++ [_]).length ≤ 40
        rw [List.length_append]; exact rm h4
  | settle =>
    obtain ⟨ws, fs, _⟩ := w.settled hb
    cases congrArg Prod.fst e
    exact ⟨ws.mono (by omega) (Nat.le_refl _) (Nat.le_refl _), by omega⟩
  | memory i => rw [does] at e; split at e; exact no_ _ e; split at e; exact no_ _ e; exact yes_ w hf e
  | disk i => rw [does] at e; split at e; exact no_ _ e; exact yes_ w hf e
  | receipts i => rw [does] at e; split at e; exact no_ _ e; split at e; exact no_ _ e; exact yes_ w hf e
  | flight => exact yes_ w hf e
  | message m => rw [does] at e; split at e; exact no_ _ e; exact yes_ w hf e
  | acknowledged => exact yes_ w hf e
  | lacks i j => rw [does] at e; split at e; exact no_ _ e; split at e; exact no_ _ e; exact yes_ w hf e
  | even_ => exact yes_ w hf e
  | state => exact yes_ w hf e
  | owed c => rw [does] at e; split at e; exact no_ _ e; split at e; exact no_ _ e; exact yes_ w hf e
  | taken => exact yes_ w hf e
end Fo

-- FoFit
/-! What else holds of every house: receipts are of what stands, each once, of centres; offices owe nothing. Plain Lean about the specification. -/
namespace Fo
open Vbcsah

structure RcOk (off : Nat) (c : Content) : Prop where
  st : ∀ r ∈ c.receipts, formOf c.book r.2.number = some r.2
  nd : c.receipts.Nodup
  ct : ∀ r ∈ c.receipts, off ≤ r.1 ∧ r.1 < off + 2
structure NdR (off : Nat) (x : Node) : Prop where
  me : RcOk off x.memory
  s0 : ∀ s, x.slot0 = some s → RcOk off s.content
  s1 : ∀ s, x.slot1 = some s → RcOk off s.content
structure FitM (off : Nat) (m : Message) : Prop where
  k1 : m.kind = 1 → off ≤ m.dst
  k2 : m.kind = 2 → off ≤ m.src ∧ m.src < off + 2 ∧ m.dst < off
structure Fit (h : House) : Prop where
  nd : ∀ x ∈ h.nodes, NdR h.offices x
  ow : ∀ i, i < h.offices → (node h i).owed = []
  fl : ∀ m ∈ h.flight, FitM h.offices m

theorem rcOk_nil (off : Nat) : RcOk off {} := ⟨(fun r h => by cases h), .nil, (fun r h => by cases h)⟩
theorem ndR_new (off : Nat) : NdR off {} := ⟨rcOk_nil off, (fun s h => by cases h), (fun s h => by cases h)⟩
theorem Fit.node {h : House} (F : Fit h) (i : Nat) : NdR h.offices (Vbcsah.node h i) := by
  by_cases c : i < h.nodes.length
  · exact F.nd _ (node_mem c)
  · have : Vbcsah.node h i = {} := by
      unfold Vbcsah.node
      rw [List.getD_eq_getElem?_getD, List.getElem?_eq_none (by omega)]; rfl
    rw [this]; exact ndR_new _
theorem node_set_cases (h : House) (d i : Nat) (x : Node) : (node (setNode h d x) i = x ∧ i = d) ∨ node (setNode h d x) i = node h i := by
  by_cases c : d = i
  · subst c
    by_cases hd : d < h.nodes.length
    · exact .inl ⟨node_set_same hd, rfl⟩
    · right
      unfold node setNode
      rw [List.getD_eq_getElem?_getD, List.getD_eq_getElem?_getD, List.getElem?_eq_none (by rw [List.length_set]; omega), List.getElem?_eq_none (by omega)]
  · exact .inr (node_set_ne c)
theorem Fit.set {h : House} (F : Fit h) {d : Nat} {x : Node} (hx : NdR h.offices x) (ho : d < h.offices → x.owed = []) : Fit (setNode h d x) :=
  ⟨fun y hy => by
    rcases List.mem_or_eq_of_mem_set hy with h1 | h1
    · exact F.nd y h1
    · rw [h1]; exact hx, fun i hi => by
    rcases node_set_cases h d i x with ⟨e, rfl⟩ | e
    · rw [e]; exact ho hi
    · rw [e]; exact F.ow i hi, F.fl⟩
theorem RcOk.filled {off : Nat} {x : Node} (h : RcOk off x.memory) (b : Book) : RcOk off (Vbcsah.filled x b).memory :=
  ⟨fun r hr => by
    have := (List.mem_filter.mp hr).2
    exact beq_iff_eq.mp this, h.nd.filter _, fun r hr => h.ct r (List.mem_filter.mp hr).1⟩
theorem NdR.filled {off : Nat} {x : Node} (h : NdR off x) (b : Book) : NdR off (Vbcsah.filled x b) := ⟨h.me.filled b, h.s0, h.s1⟩
theorem once_nodup {l : List Receipt} {x : Receipt} (h : l.Nodup) : (once l x).Nodup := by
  unfold once
  split
  · exact h
  · rename_i c
    rw [List.nodup_append]
    refine ⟨h, by simp, fun a ha b hb => ?_⟩
    rw [List.mem_singleton.mp hb]
    intro e
    subst e
    exact c (List.contains_iff_mem.mpr ha)
theorem noted_ok {off c : Nat} (b : Book) (hc : off ≤ c ∧ c < off + 2) : ∀ (l : List Item) (rs : List Receipt), RcOk off { book := b, receipts := rs } →
    RcOk off { book := b, receipts := l.foldl (fun rs i => if (formOf b i.number == some i) = true then once rs (c, i) else rs) rs }
  | [], rs, h => h
  | i :: l, rs, h => by
    rw [List.foldl_cons]
    refine noted_ok b hc l _ ?_
    split
    · rename_i e
      refine ⟨fun r hr => ?_, once_nodup h.nd, fun r hr => ?_⟩
      · rcases once_mem hr with z | z
        · exact h.st r z
        · rw [z]; exact beq_iff_eq.mp e
      · rcases once_mem hr with z | z
        · exact h.ct r z
        · rw [z]; exact hc
    · exact h
theorem NdR.noted {off c : Nat} {x : Node} (h : NdR off x) (hc : off ≤ c ∧ c < off + 2) (l : Book) : NdR off (Vbcsah.noted x c l) := ⟨noted_ok x.memory.book hc l x.memory.receipts ⟨h.me.st, h.me.nd, h.me.ct⟩, h.s0, h.s1⟩
theorem NdR.content {off : Nat} {x : Node} (h : NdR off x) : RcOk off (contentOf x) := by
  unfold contentOf
  cases e : readSlot x with
  | none => exact rcOk_nil off
  | some s =>
    rcases readSlot_cases x with q | q
    · exact h.s0 s (q.symm.trans e)
    · exact h.s1 s (q.symm.trans e)
theorem NdR.lit {off : Nat} {x : Node} (h : NdR off x) : NdR off (Vbcsah.lit x) := ⟨h.content, h.s0, h.s1⟩
theorem NdR.dark {off : Nat} {x : Node} (h : NdR off x) : NdR off (Vbcsah.dark x) := ⟨rcOk_nil off, h.s0, h.s1⟩
theorem NdR.owed {off : Nat} {x : Node} (h : NdR off x) (l : List Receipt) : NdR off { x with owed := l } := ⟨h.me, h.s0, h.s1⟩
theorem NdR.written {off : Nat} {x : Node} (h : NdR off x) (o : Option Slot) (ho : ∀ s, o = some s → RcOk off s.content) : NdR off (Vbcsah.written x o) := by
  unfold Vbcsah.written
  split
  · exact ⟨h.me, h.s0, ho⟩
  · exact ⟨h.me, ho, h.s1⟩
theorem NdR.kept {off : Nat} {x : Node} (h : NdR off x) : NdR off (Vbcsah.kept x) := h.written _ fun s e => by cases e; exact h.me
theorem Fit.post {h : House} (F : Fit h) {k s d : Nat} {l : Book} (hm : FitM h.offices { number := h.next, kind := k, src := s, dst := d, items := l }) : Fit (Vbcsah.post h k s d l) :=
  ⟨F.nd, F.ow, fun m hm' => by
    rcases List.mem_append.mp hm' with z | z
    · exact F.fl m z
    · rw [List.mem_singleton.mp z]; exact hm⟩
theorem Fit.without {h : House} (F : Fit h) (n : Nat) : Fit (Vbcsah.without h n) := ⟨F.nd, F.ow, fun m hm => F.fl m (List.mem_filter.mp hm).1⟩
theorem Fit.emptied {h : House} (F : Fit h) : Fit { h with flight := [] } := ⟨F.nd, F.ow, fun m hm => by cases hm⟩
theorem Fit.comes {h : House} (F : Fit h) {x : Message} (hx : FitM h.offices x) (kd : x.kind = 1 ∨ x.kind = 2 ∨ x.kind = 3 ∨ x.kind = 4) : Fit (Vbcsah.comes h x) := by
  cases on : (Vbcsah.node h x.dst).on with
  | false => rw [comes_off on]; exact F
  | true =>
    rcases kd with k | k | k | k
    · rw [comes_k1 on k]
      exact F.set (((F.node x.dst).filled _).owed _) (fun z => absurd (hx.k1 k) (by omega))
    · rw [comes_k2 on k]
      obtain ⟨h1, h2, h3⟩ := hx.k2 k
      have G := F.set (d := x.dst) (x := Vbcsah.noted (Vbcsah.node h x.dst) x.src x.items) ((F.node x.dst).noted ⟨h1, h2⟩ _) (fun z => F.ow _ z)
      exact ⟨G.nd, G.ow, G.fl⟩
    · rw [comes_k3 on k]
      split
      · exact F
      · exact F.post ⟨(fun z => by cases z), fun z => by cases z⟩
    · rw [comes_k4 on k]
      exact F.set ((F.node x.dst).filled _) (fun z => F.ow _ z)
theorem Fit.deliver {b m r : Nat} {h : House} (F : Fit h) (w : Wf b m r h) {x : Message} (hx : x ∈ h.flight) : Fit (Vbcsah.deliver h x) := (F.without x.number).comes (F.fl x hx) (w.fl x hx).kd
theorem Fit.posts (i : Nat) (f : Nat → Book) : ∀ (os : List Nat) {h : House}, Fit h → (∀ o ∈ os, h.offices ≤ i ∧ i < h.offices + 2 ∧ o < h.offices) → Fit (postAll i f os h)
  | [], h, F, _ => F
  | o :: os, h, F, hi => by
    have := hi o (List.mem_cons_self ..)
    exact Fit.posts i f os (h := Vbcsah.post h 2 i o (f o)) (F.post ⟨(fun z => by cases z), fun _ => this⟩) fun p hp => hi p (List.mem_cons_of_mem _ hp)
theorem owed_nil {h : House} {x : Node} (e : x.owed = []) : owedOffices h x = [] := by
  unfold owedOffices owedTo
  rw [e]
  simp
theorem Fit.keeps {h : House} (F : Fit h) {i : Nat} (hi : i < h.offices + 2) : Fit (Vbcsah.keeps h i) := by
  rw [keeps_eq]
  refine Fit.posts i _ _ (F.set ((F.node i).kept.owed _) (fun _ => rfl)) fun o ho => ?_
  by_cases c : i < h.offices
  · rw [owed_nil (F.ow i c)] at ho; cases ho
  · exact ⟨by show h.offices ≤ i; omega, hi, List.mem_range.mp (List.mem_filter.mp ho).1⟩
/-- an office that keeps sends nothing -/
theorem keeps_office {h : House} (F : Fit h) {i : Nat} (hi : i < h.offices) : Vbcsah.keeps h i = setNode h i { Vbcsah.kept (Vbcsah.node h i) with owed := [] } := by
  rw [keeps_eq, owed_nil (F.ow i hi)]; rfl
theorem Fit.litAll : ∀ (l : List Nat) {h : House}, Fit h → Fit (litAll l h)
  | [], h, F => F
  | i :: l, h, F => by
    have e : Fo.litAll (i :: l) h = Fo.litAll l (if (Vbcsah.node h i).on = true then h else setNode h i (lit (Vbcsah.node h i))) := rfl
    rw [e]
    split
    · exact Fit.litAll l F
    · exact Fit.litAll l (F.set (F.node i).lit fun _ => rfl)

/-! ### settle, piece by piece, as equations -/
/-- the message that is posted -/
def msgOf (h : House) (k s d : Nat) (l : Book) : Message := { number := h.next, kind := k, src := s, dst := d, items := l }
theorem send_one {b m r : Nat} {h : House} (C : Calm b m r h) {o c : Nat} (ho : o < h.offices) (hc : c < h.offices + 2) : deliverAll MANY (sends h o c) =
    if (open_ (Vbcsah.node h o) c).isEmpty = true then h else deliver (post h 1 o c (open_ (Vbcsah.node h o) c)) (msgOf h 1 o c (open_ (Vbcsah.node h o) c)) := by
  obtain ⟨w, e0⟩ := C
  unfold sends
  dsimp only
  split
  · rw [deliverAll_nil e0]
  · generalize hl : open_ (Vbcsah.node h o) c = l
    have okl : OkB l := by rw [← hl]; exact filter_okB (w.node (Nat.lt_of_lt_of_le ho (Nat.le_add_right _ _))).bk
    have hx : WfM h.offices m (msgOf h 1 o c l) := ⟨.inl rfl, Nat.lt_of_lt_of_le ho (Nat.le_add_right _ _), hc, fun _ => ho, fun _ => okl, Nat.le_trans (okB_len okl) w.m20⟩
    have wp : Wf b m r (post h 1 o c l) := w.post hx
    have ef : (post h 1 o c l).flight = [msgOf h 1 o c l] := by show h.flight ++ [_] = [_]; rw [e0]; rfl
    rw [show deliverAll MANY (post h 1 o c l) = deliverAll 199 (deliver (post h 1 o c l) (msgOf h 1 o c l)) from deliverAll_cons ef]
    have ew : (without (post h 1 o c l) (msgOf h 1 o c l).number).flight = [] := without_head wp.nu ef
    refine deliverAll_nil ?_
    show (comes (without (post h 1 o c l) (msgOf h 1 o c l).number) (msgOf h 1 o c l)).flight = []
    rw [(comes_flight (by show (1:Nat) ≠ 3; decide) (.inl rfl)).1, ew]
/-- all that is under way comes, if it is receipts: one behind another -/
theorem acks_fold {b m : Nat} : ∀ (n : Nat) {r : Nat} {h : House}, Wf b m r h → (∀ x ∈ h.flight, x.kind = 2) → h.flight.length ≤ n → deliverAll n h = h.flight.foldl deliver h
  | 0, r, h, w, _, e => by
    have e0 : h.flight = [] := List.eq_nil_of_length_eq_zero (by omega)
    rw [e0]; rfl
  | n + 1, r, h, w, h2, e => by
    cases ef : h.flight with
    | nil => rw [deliverAll_nil ef]; rfl
    | cons x l =>
      rw [deliverAll_cons ef, List.foldl_cons]
      have hx : x ∈ h.flight := by rw [ef]; exact List.mem_cons_self ..
      have k2 := h2 x hx
      have w2 : Wf b m (r + m) (deliver h x) := (w.without x.number).comes2 (w.fl x hx) k2
      have e2 : (deliver h x).flight = l := by
        show (comes (without h x.number) x).flight = l
        rw [(comes_flight (by omega) (.inr (.inl k2))).1, without_head w.nu ef]
      rw [acks_fold n w2 (fun y hy => h2 y (by rw [ef]; rw [e2] at hy; exact List.mem_cons_of_mem _ hy)) (by rw [e2]; rw [ef] at e; simp only [List.length_cons] at e; omega), e2]
/-- a centre asks: the summary comes, and what is sent back comes -/
theorem ask_two {b m r : Nat} {h : House} (C : Calm b m r h) {c : Nat} (hc : c < h.offices + 2) :
    let g := deliver (Vbcsah.asks h c) (msgOf h 3 c (otherCentre h c) (Vbcsah.node h c).memory.book)
    deliverAll MANY (Vbcsah.asks h c) = (match g.flight with | [] => g | y :: _ => deliver g y) ∧ (g.flight = [] ∨ ∃ l, g.flight = [{ number := h.next + 1, kind := 4, src := otherCentre h c, dst := c, items := l }] ∧ OkB l) := by
  obtain ⟨w, e0⟩ := C
  have bk := (w.node hc).bk
  have hdl : otherCentre h c < h.offices + 2 := other_lt
  have hx : WfM h.offices m (msgOf h 3 c (otherCentre h c) (Vbcsah.node h c).memory.book) := ⟨.inr (.inr (.inl rfl)), hc, hdl, (fun z => by cases z), fun _ => bk, Nat.le_trans (okB_len bk) w.m20⟩
  have wp : Wf b m r (Vbcsah.asks h c) := w.post hx
  have ef : (Vbcsah.asks h c).flight = [msgOf h 3 c (otherCentre h c) (Vbcsah.node h c).memory.book] := by show h.flight ++ [_] = [_]; rw [e0]; rfl
  have e1 : deliverAll MANY (Vbcsah.asks h c) = deliverAll 199 (deliver (Vbcsah.asks h c) (msgOf h 3 c (otherCentre h c) (Vbcsah.node h c).memory.book)) := deliverAll_cons ef
  have ew : (without (Vbcsah.asks h c) (msgOf h 3 c (otherCentre h c) (Vbcsah.node h c).memory.book).number).flight = [] := without_head wp.nu ef
  have w0 : Wf b m r (without (Vbcsah.asks h c) (msgOf h 3 c (otherCentre h c) (Vbcsah.node h c).memory.book).number) := wp.without _
  have en : (without (Vbcsah.asks h c) (msgOf h 3 c (otherCentre h c) (Vbcsah.node h c).memory.book).number).next = h.next + 1 := rfl
  have eo : (without (Vbcsah.asks h c) (msgOf h 3 c (otherCentre h c) (Vbcsah.node h c).memory.book).number).offices = h.offices := rfl
  have ed : deliver (Vbcsah.asks h c) (msgOf h 3 c (otherCentre h c) (Vbcsah.node h c).memory.book) = comes (without (Vbcsah.asks h c) (msgOf h 3 c (otherCentre h c) (Vbcsah.node h c).memory.book).number) (msgOf h 3 c (otherCentre h c) (Vbcsah.node h c).memory.book) := rfl
  have w1 : Wf b m r (deliver (Vbcsah.asks h c) (msgOf h 3 c (otherCentre h c) (Vbcsah.node h c).memory.book)) := w0.comes3 hx rfl
  have fl : (deliver (Vbcsah.asks h c) (msgOf h 3 c (otherCentre h c) (Vbcsah.node h c).memory.book)).flight = [] ∨ ∃ l, (deliver (Vbcsah.asks h c) (msgOf h 3 c (otherCentre h c) (Vbcsah.node h c).memory.book)).flight = [{ number := h.next + 1, kind := 4, src := otherCentre h c, dst := c, items := l }] ∧ OkB l := by
    rw [ed]
    generalize without (Vbcsah.asks h c) (msgOf h 3 c (otherCentre h c) (Vbcsah.node h c).memory.book).number = g at *
    cases on : (Vbcsah.node g (msgOf h 3 c (otherCentre h c) (Vbcsah.node h c).memory.book).dst).on with
    | false => rw [comes_off on]; exact .inl ew
    | true =>
      rw [comes_k3 on rfl]
      split
      · exact .inl ew
      · refine .inr ⟨_, ?_, news_okB (b := (msgOf h 3 c (otherCentre h c) (Vbcsah.node h c).memory.book).items) (w0.node (i := otherCentre h c) (by rw [eo]; exact hdl)).bk⟩
        show g.flight ++ [_] = _
        rw [ew, en]; rfl
  refine ⟨?_, fl⟩
  rw [e1]
  generalize deliver (Vbcsah.asks h c) (msgOf h 3 c (otherCentre h c) (Vbcsah.node h c).memory.book) = g at *
  rcases fl with e | ⟨l, e, _⟩
  · rw [e, deliverAll_nil e]
  · rw [e, show deliverAll 199 g = deliverAll 198 (deliver g _) from deliverAll_cons e]
    refine deliverAll_nil ?_
    show (comes (without g _) _).flight = []
    rw [(comes_flight (by show (4:Nat) ≠ 3; decide) (.inr (.inr (.inr rfl)))).1, without_head w1.nu e]
theorem Fit.all {m : Nat} : ∀ (n : Nat) {b r : Nat} {g : House}, Wf b m r g → Fit g → Fit (deliverAll n g)
  | 0, b, r, g, w, G => G
  | n + 1, b, r, g, w, G => by
    cases ef : g.flight with
    | nil => rw [deliverAll_nil ef]; exact G
    | cons x l =>
      rw [deliverAll_cons ef]
      have hx : x ∈ g.flight := by rw [ef]; exact List.mem_cons_self ..
      exact Fit.all n ((w.without x.number).comes (w.fl x hx)) (G.deliver w hx)
theorem Fit.sends {h : House} (F : Fit h) {o c : Nat} (hc : h.offices ≤ c) : Fit (Vbcsah.sends h o c) := by
  unfold Vbcsah.sends
  dsimp only
  split
  · exact F
  · exact F.post ⟨fun _ => hc, fun z => by cases z⟩
theorem Wf.sends {b m r : Nat} {h : House} (w : Wf b m r h) {o c : Nat} (ho : o < h.offices) (hc : c < h.offices + 2) : Wf b m r (Vbcsah.sends h o c) := by
  unfold Vbcsah.sends
  dsimp only
  split
  · exact w
  · have okl : OkB (open_ (Vbcsah.node h o) c) := filter_okB (w.node (Nat.lt_of_lt_of_le ho (Nat.le_add_right _ _))).bk
    exact w.post ⟨.inl rfl, Nat.lt_of_lt_of_le ho (Nat.le_add_right _ _), hc, fun _ => ho, fun _ => okl, Nat.le_trans (okB_len okl) w.m20⟩
theorem Fit.asks {h : House} (F : Fit h) (c : Nat) : Fit (Vbcsah.asks h c) := F.post ⟨(fun z => by cases z), fun z => by cases z⟩
theorem Wf.asks {b m r : Nat} {h : House} (w : Wf b m r h) {c : Nat} (hc : c < h.offices + 2) : Wf b m r (Vbcsah.asks h c) :=
  w.post ⟨.inr (.inr (.inl rfl)), hc, other_lt, (fun z => by cases z), fun _ => (w.node hc).bk, Nat.le_trans (okB_len (w.node hc).bk) w.m20⟩
theorem Fit.office {b m r : Nat} {h : House} (F : Fit h) (C : Calm b m r h) {o : Nat} (ho : o < h.offices) : Fit ((centres h).foldl (fun g c => deliverAll MANY (Vbcsah.sends g o c)) h) := by
  obtain ⟨C1, o1, n1, l1⟩ := sends_calm C ho (c := h.offices) (by omega)
  have F1 := Fit.all MANY (C.wf.sends ho (c := h.offices) (by omega)) (F.sends (o := o) (Nat.le_refl _))
  have eg : (centres h).foldl (fun g c => deliverAll MANY (Vbcsah.sends g o c)) h = deliverAll MANY (Vbcsah.sends (deliverAll MANY (Vbcsah.sends h o h.offices)) o (h.offices + 1)) := rfl
  rw [eg]
  generalize deliverAll MANY (Vbcsah.sends h o h.offices) = g1 at *
  exact Fit.all MANY (C1.wf.sends (o := o) (c := h.offices + 1) (by rw [o1]; exact ho) (by rw [o1]; omega)) (F1.sends (by rw [o1]; omega))
theorem Fit.officesSend {m r : Nat} {h0 : House} : ∀ (l : List Nat) {B : Nat} {h : House}, Fit h → Calm B m r h → h.offices = h0.offices → (∀ o ∈ l, o < h.offices) → Fit (officesSend h0 l h)
  | [], B, h, F, C, e, hl => F
  | o :: l, B, h, F, C, e, hl => by
    have ec : centres h0 = centres h := by unfold centres; rw [e]
    have eg : Fo.officesSend h0 (o :: l) h = Fo.officesSend h0 l ((centres h).foldl (fun g c => deliverAll MANY (Vbcsah.sends g o c)) h) := by
      unfold Fo.officesSend
      rw [List.foldl_cons, ec]
    rw [eg]
    have F1 := F.office C (hl o (List.mem_cons_self ..))
    obtain ⟨C1, o1, _⟩ := office_calm C (Nat.le_refl B) (fun i hi => (C.wf.node hi).ol) (hl o (List.mem_cons_self ..))
    exact Fit.officesSend l F1 C1 (o1.trans e) fun p hp => by rw [o1]; exact hl p (List.mem_cons_of_mem _ hp)
theorem Fit.keepAll : ∀ (l : List Nat) {h : House}, Fit h → (∀ i ∈ l, i < h.offices + 2) → Fit (l.foldl Vbcsah.keeps h)
  | [], h, F, hl => F
  | i :: l, h, F, hl => Fit.keepAll l (h := Vbcsah.keeps h i) (F.keeps (hl i (List.mem_cons_self ..))) fun j hj => by rw [keeps_offices]; exact hl j (List.mem_cons_of_mem _ hj)
theorem Fit.settled {b r : Nat} {h : House} (F : Fit h) (w : Wf b 4080 r h) (hb : b ≤ 4000) : Fit (Vbcsah.settled h) := by
  have an : ∀ i ∈ allNodes h, i < h.offices + 2 := fun i hi => List.mem_range.mp hi
  obtain ⟨wl, ol, _⟩ := w.litAll (allNodes h) an
  have C0 : Calm b 4080 r { Fo.litAll (allNodes h) h with flight := [] } := ⟨wl.emptied, rfl⟩
  have F0 : Fit { Fo.litAll (allNodes h) h with flight := [] } := (F.litAll (allNodes h)).emptied
  have o0 : ({ Fo.litAll (allNodes h) h with flight := [] } : House).offices = h.offices := ol
  have e1 : Vbcsah.settled h = (allNodes h).foldl Vbcsah.keeps ((centres h).foldl (fun g c => deliverAll MANY (Vbcsah.asks g c)) ((centres h).foldl (fun g c => deliverAll MANY (Vbcsah.keeps g c)) (Fo.officesSend h (List.range h.offices) { Fo.litAll (allNodes h) h with flight := [] }))) := rfl
  rw [e1]
  generalize ({ Fo.litAll (allNodes h) h with flight := [] } : House) = h0 at *
  obtain ⟨C1, o1⟩ := offices_calm (h0 := h) (List.range h.offices) C0 o0 fun o ho => by rw [o0]; exact List.mem_range.mp ho
  have F1 := Fit.officesSend (h0 := h) (List.range h.offices) F0 C0 o0 fun o ho => by rw [o0]; exact List.mem_range.mp ho
  rw [List.length_range] at C1
  generalize Fo.officesSend h (List.range h.offices) h0 = h1 at *
  have p4 := w.of4
  have C1' : Calm 4080 4080 r h1 := ⟨C1.wf.mono (by omega) (Nat.le_refl _) (Nat.le_refl _), C1.none_⟩
  rw [o0] at o1
  obtain ⟨C2, o2, _, _⟩ := keeps_calm C1' (i := h.offices) (by omega) (Nat.le_refl _)
  have F2 := Fit.all MANY (C1'.wf.keeps (i := h.offices) (by omega) (Nat.le_refl _)) (F1.keeps (i := h.offices) (by omega))
  obtain ⟨C3, o3, _, _⟩ := keeps_calm C2 (i := h.offices + 1) (by omega) (Nat.le_refl _)
  have F3 := Fit.all MANY (C2.wf.keeps (i := h.offices + 1) (by omega) (Nat.le_refl _)) (F2.keeps (i := h.offices + 1) (by omega))
  have e2 : (centres h).foldl (fun g c => deliverAll MANY (Vbcsah.keeps g c)) h1 = deliverAll MANY (Vbcsah.keeps (deliverAll MANY (Vbcsah.keeps h1 h.offices)) (h.offices + 1)) := rfl
  rw [e2]
  generalize deliverAll MANY (Vbcsah.keeps h1 h.offices) = h2 at *
  generalize deliverAll MANY (Vbcsah.keeps h2 (h.offices + 1)) = h3 at *
  obtain ⟨C4, o4, _⟩ := asks_calm C3 (c := h.offices) (by omega)
  have F4 := Fit.all MANY (C3.wf.asks (c := h.offices) (by omega)) (F3.asks h.offices)
  obtain ⟨C5, o5, _⟩ := asks_calm C4 (c := h.offices + 1) (by omega)
  have F5 := Fit.all MANY (C4.wf.asks (c := h.offices + 1) (by omega)) (F4.asks (h.offices + 1))
  have e3 : (centres h).foldl (fun g c => deliverAll MANY (Vbcsah.asks g c)) h3 = deliverAll MANY (Vbcsah.asks (deliverAll MANY (Vbcsah.asks h3 h.offices)) (h.offices + 1)) := rfl
  rw [e3]
  generalize deliverAll MANY (Vbcsah.asks h3 h.offices) = h4 at *
  generalize deliverAll MANY (Vbcsah.asks h4 (h.offices + 1)) = h5 at *
  exact Fit.keepAll (allNodes h) F5 fun i hi => by have := an i hi; omega
/-- **What a call leaves is fit.** -/
theorem does_fit {b r : Nat} {h h' : House} {c : Call} {l : List Int} (F : Fit h) (w : Wf b 4080 r h) (hb : b ≤ 4000) (e : does h c = (some h', l)) : Fit h' := by
  have up : ∀ {g : House}, Fit g → some g = some h' → Fit h' := fun {g} wg eg => by cases eg; exact wg
  have no_ : ∀ k, no (some h) k = (some h', l) → Fit h' := fun k ek => up F (congrArg Prod.fst ek)
  have yes_ : ∀ {g : House} {x : List Int}, Fit g → yes g x = (some h', l) → Fit h' := fun {g x} wg eg => up wg (congrArg Prod.fst eg)
  have nd : ∀ {z : Int}, ¬ isNode h z = false → z.toNat < h.offices + 2 := fun {z} hz => by
    have h1 : isNode h z = true := by simpa using hz
    have := of_decide_eq_true h1; omega
  have ct : ∀ {z : Int}, ¬ isCentre_ h z = false → h.offices ≤ z.toNat := fun {z} hz => by
    have h1 : isCentre_ h z = true := by simpa using hz
    have := of_decide_eq_true h1
    omega
  cases c with
  | begin_ n => exact no_ _ e
  | take o n v g t =>
    rw [does] at e
    split at e
    · exact no_ _ e
    · split at e
      · exact no_ _ e
      · have F1 : Fit (take_ h o.toNat { number := n.toNat, version := v.toNat, gone := g == 1, tells := if g = 1 then 0 else t.toNat }) := by
          have G := F.set (d := o.toNat) ((F.node o.toNat).filled [{ number := n.toNat, version := v.toNat, gone := g == 1, tells := if g = 1 then 0 else t.toNat }]) (fun z => F.ow _ z)
          exact ⟨G.nd, G.ow, G.fl⟩
        exact up F1 (congrArg Prod.fst e)
  | keep i =>
    rw [does] at e
    split at e
    · exact no_ _ e
    · rename_i h1
      split at e
      · exact no_ _ e
      · dsimp only at e
        split at e
        · exact no_ _ e
        · exact yes_ (F.keeps (nd h1)) e
  | torn i t =>
    rw [does] at e
    split at e
    · exact no_ _ e
    · split at e
      · exact no_ _ e
      · refine yes_ (F.set ?_ (fun _ => rfl)) e
        split
        · exact ((F.node i.toNat).written none fun s z => by cases z).dark
        · exact (F.node i.toNat).dark
  | cut i =>
    rw [does] at e
    split at e
    · exact no_ _ e
    · split at e
      · exact no_ _ e
      · exact yes_ (F.set (F.node i.toNat).dark (fun _ => rfl)) e
  | up i =>
    rw [does] at e
    split at e
    · exact no_ _ e
    · split at e
      · exact no_ _ e
      · exact yes_ (F.set (F.node i.toNat).lit (fun _ => rfl)) e
  | send o c =>
    rw [does] at e
    split at e
    · exact no_ _ e
    · rename_i h1
      split at e
      · exact no_ _ e
      · split at e
        · exact no_ _ e
        · split at e
          · exact no_ _ e
          · exact yes_ (F.sends (ct fun z => h1 (.inr z))) e
  | ask c =>
    rw [does] at e
    split at e
    · exact no_ _ e
    · split at e
      · exact no_ _ e
      · split at e
        · exact no_ _ e
        · exact yes_ (F.asks _) e
  | deliver_ m =>
    rw [does] at e
    split at e
    · exact no_ _ e
    · rename_i x ex
      exact up (F.deliver w (message_mem ex)) (congrArg Prod.fst e)
  | lose m =>
    rw [does] at e
    split at e
    · exact no_ _ e
    · exact yes_ (F.without _) e
  | double m =>
    rw [does] at e
    split at e
    · exact no_ _ e
    · rename_i x ex
      split at e
      · exact no_ _ e
      · have fx := F.fl x (message_mem ex)
        exact yes_ (F.post ⟨fx.k1, fx.k2⟩) e
  | settle => exact up (F.settled w hb) (congrArg Prod.fst e)
  | memory i => rw [does] at e; split at e; exact no_ _ e; split at e; exact no_ _ e; exact yes_ F e
  | disk i => rw [does] at e; split at e; exact no_ _ e; exact yes_ F e
  | receipts i => rw [does] at e; split at e; exact no_ _ e; split at e; exact no_ _ e; exact yes_ F e
  | flight => exact yes_ F e
  | message m => rw [does] at e; split at e; exact no_ _ e; exact yes_ F e
  | acknowledged => exact yes_ F e
  | lacks i j => rw [does] at e; split at e; exact no_ _ e; split at e; exact no_ _ e; exact yes_ F e
  | even_ => exact yes_ F e
  | state => exact yes_ F e
  | owed c => rw [does] at e; split at e; exact no_ _ e; split at e; exact no_ _ e; exact yes_ F e
  | taken => exact yes_ F e
theorem fit_new (off : Nat) : Fit { offices := off, nodes := List.replicate (off + 2) {} } :=
  ⟨fun x hx => by rw [List.eq_of_mem_replicate hx]; exact ndR_new _, fun i hi => by
    unfold node
    rw [List.getD_eq_getElem?_getD, List.getElem?_replicate]
    split <;> rfl, fun m hm => by cases hm⟩
end Fo

-- FoTell
/-! What the calls of the second stage tell, in plainer words. Plain Lean about the specification. -/
namespace Fo
open Vbcsah

theorem two_of {l : List Receipt} {p q : Receipt} (nd : l.Nodup) (h : ∀ r ∈ l, r = p ∨ r = q) : l = [] ∨ l = [p] ∨ l = [q] ∨ l = [p, q] ∨ l = [q, p] := by
  match l, nd, h with
  | [], _, _ => exact .inl rfl
  | [x], _, h =>
    rcases h x (by simp) with rfl | rfl
    · exact .inr (.inl rfl)
    · exact .inr (.inr (.inl rfl))
  | [x, y], nd, h =>
    have hn : x ≠ y := by simpa using nd
    rcases h x (by simp) with rfl | rfl
    · rcases h y (by simp) with rfl | rfl
      · exact absurd rfl hn
      · exact .inr (.inr (.inr (.inl rfl)))
    · rcases h y (by simp) with rfl | rfl
      · exact .inr (.inr (.inr (.inr rfl)))
      · exact absurd rfl hn
  | x :: y :: z :: l, nd, h =>
    exfalso
    simp only [List.nodup_cons, List.mem_cons, not_or] at nd
    obtain ⟨⟨h1, h2, _⟩, ⟨h3, _⟩, _⟩ := nd
    rcases h x (by simp) with e1 | e1 <;> rcases h y (by simp) with e2 | e2 <;> rcases h z (by simp) with e3 | e3 <;> simp_all
/-- the receipts by forms, then by centres: of each item that stands, which of the two centres gave one -/
theorem sorted_two {off : Nat} {x : Node} (h : RcOk off x.memory) : sortedReceipts x = x.memory.book.flatMap fun i => ([off, off + 1].filter fun c => x.memory.receipts.contains (c, i)).map fun c => (c, i) := by
  unfold sortedReceipts
  congr 1
  funext i
  generalize hl : x.memory.receipts.filter (fun r => r.2 == i) = l
  have nd : l.Nodup := hl ▸ h.nd.filter _
  have hm : ∀ r, r ∈ l ↔ r ∈ x.memory.receipts ∧ r.2 = i := fun r => by rw [← hl, List.mem_filter, beq_iff_eq]
  have h2 : ∀ r ∈ l, r = (off, i) ∨ r = (off + 1, i) := fun r hr => by
    obtain ⟨h3, h4⟩ := (hm r).mp hr
    have := h.ct r h3
    obtain ⟨c, j⟩ := r
    simp only at h4 this
    subst h4
    have : c = off ∨ c = off + 1 := by omega
    rcases this with rfl | rfl
    · exact .inl rfl
    · exact .inr rfl
  have c1 : x.memory.receipts.contains (off, i) = l.contains (off, i) := by
    rw [Bool.eq_iff_iff, List.contains_iff_mem, List.contains_iff_mem, hm]; simp
  have c2 : x.memory.receipts.contains (off + 1, i) = l.contains (off + 1, i) := by
    rw [Bool.eq_iff_iff, List.contains_iff_mem, List.contains_iff_mem, hm]; simp
  rw [List.filter_cons, List.filter_cons, List.filter_nil, c1, c2]
  rcases two_of nd h2 with rfl | rfl | rfl | rfl | rfl
  · simp
  · simp
  · simp
  · simp [List.mergeSort, List.MergeSort.Internal.splitInTwo, List.splitAt, List.splitAt.go, List.merge]
  · simp [List.mergeSort, List.MergeSort.Internal.splitInTwo, List.splitAt, List.splitAt.go, List.merge]
end Fo

-- FoTell2
/-! The receipts by forms, then by centres: the one sorted list of them. Plain Lean about the specification. -/
namespace Fo
open Vbcsah

def prs (l : List Receipt) : List (Int × Int) := l.map fun r => ((r.2.number : Int), (r.1 : Int))
def lexLe (p q : Int × Int) : Prop := ¬ (q.1 < p.1 ∨ (q.1 = p.1 ∧ q.2 < p.2))
theorem two_mem {off : Nat} {x : Node} {i : Item} {r : Receipt} (h : r ∈ ([off, off + 1].filter fun c => x.memory.receipts.contains (c, i)).map fun c => (c, i)) : r.2 = i ∧ r ∈ x.memory.receipts ∧ (r.1 = off ∨ r.1 = off + 1) := by
  obtain ⟨c, hc, rfl⟩ := List.mem_map.mp h
  obtain ⟨h1, h2⟩ := List.mem_filter.mp hc
  refine ⟨rfl, List.contains_iff_mem.mp h2, ?_⟩
  simpa using h1
theorem sorted_mem {off : Nat} {x : Node} (h : RcOk off x.memory) (r : Receipt) : r ∈ sortedReceipts x ↔ r ∈ x.memory.receipts := by
  rw [sorted_two h, List.mem_flatMap]
  constructor
  · rintro ⟨i, _, hr⟩
    exact (two_mem hr).2.1
  · intro hr
    refine ⟨r.2, (formOf_mem (h.st r hr)).1, List.mem_map.mpr ⟨r.1, List.mem_filter.mpr ⟨?_, List.contains_iff_mem.mpr hr⟩, rfl⟩⟩
    have := h.ct r hr
    have : r.1 = off ∨ r.1 = off + 1 := by omega
    simpa using this
theorem two_lt {off : Nat} {x : Node} (i : Item) : (([off, off + 1].filter fun c => x.memory.receipts.contains (c, i)).map fun c => (c, i)).Pairwise fun p q => p.1 < q.1 := by
  rw [List.pairwise_map]
  refine List.Pairwise.filter _ ?_
  simp
/-- strictly by the forms, then the centres -/
theorem sorted_strict {off : Nat} {x : Node} (h : RcOk off x.memory) (hs : Srt x.memory.book) : (sortedReceipts x).Pairwise fun p q => p.2.number < q.2.number ∨ (p.2.number = q.2.number ∧ p.1 < q.1) := by
  rw [sorted_two h, List.pairwise_flatMap]
  refine ⟨fun i _ => ?_, ?_⟩
  · refine (List.Pairwise.and_mem.mp (two_lt i)).imp fun {p q} hpq => .inr ⟨?_, hpq.2.2⟩
    rw [(two_mem hpq.1).1, (two_mem hpq.2.1).1]
  · refine hs.imp fun {i j} hij p hp q hq => .inl ?_
    rw [(two_mem hp).1, (two_mem hq).1]
    exact hij
theorem sorted_perm {off : Nat} {x : Node} (h : RcOk off x.memory) (hs : Srt x.memory.book) : (sortedReceipts x).Perm x.memory.receipts := by
  refine (List.perm_ext_iff_of_nodup ?_ h.nd).mpr fun r => sorted_mem h r
  rw [List.nodup_iff_pairwise_ne]
  exact (sorted_strict h hs).imp fun {p q} hpq z => by subst z; omega
theorem sorted_is {off : Nat} {x : Node} (h : RcOk off x.memory) (hs : Srt x.memory.book) {ys : List (Int × Int)} (hp : ys.Perm (prs x.memory.receipts)) (hy : ys.Pairwise lexLe) : ys = prs (sortedReceipts x) := by
  have p2 : ys.Perm (prs (sortedReceipts x)) := hp.trans ((sorted_perm h hs).map _).symm
  refine p2.eq_of_pairwise (le := lexLe) (fun p q _ _ h1 h2 => ?_) hy ?_
  · unfold lexLe at h1 h2
    exact Prod.ext (by omega) (by omega)
  · unfold prs
    rw [List.pairwise_map]
    exact (sorted_strict h hs).imp fun {p q} hpq => by unfold lexLe; simp only; omega
end Fo

-- FoCalls
/-! The calls on a session. -/
namespace Fo
open PySem PySem.Spec PyProof.Rows L2
section
variable {P : Program} {w : World} {K : PySem.W.Frag} {mg : Str → Option Value} {base : Heap} {a : Ad}

def excOf (a : Ad) : Nat → Addr
  | 1 => a.c_NotInRange
  | 3 => a.c_NoPower
  | 4 => a.c_NothingThere
  | 5 => a.c_TooManyUnderWay
  | _ => a.c_NotBegun
/-- a refusal of a call on a session -/
def okRef (k : Nat) : Bool := k == 1 || k == 3 || k == 4 || k == 5
/-- the sizes that calls keep to -/
structure Bd (b r : Nat) (h : House) : Prop where
  wf : Wf b 4080 r h
  b4 : b ≤ 4000
  r7 : r ≤ 7000000
  fl : h.flight.length ≤ 40
  fit : Fit h
/-- what a call with these numbers asks and leaves, by the specification -/
def CallP (P : Program) (w : World) (a : Ad) (nums : List Int) (cl : Vbcsah.Call) (vs : List V) (H : Hp) (Q : VK) (E : XK) : Prop := ∃ (wo : Ow) (sa : Addr) (h : House) (dx pn pu pt pk : Addr) (ns : List Addr) (q : Addr) (b r : Nat),
  vs = [.ref sa, .ref q] ∧ SesA P w a wo H sa h dx pn pu pt pk ns ∧ H q = some (.lst (nums.map V.int)) ∧ Bd b r h ∧ (Vbcsah.does h cl).2.length ≤ 10000000 ∧
  (∀ h' l w' H' p {pu' : Addr}, Vbcsah.does h cl = (some h', 0 :: l) → SesA P w a w' H' sa h' dx pn pu' pt pk ns → Frm Ses wo w' H H' → H p = none → H' p = some (.lst (l.map V.int)) → Q (.ref p) H') ∧
  (∀ (k : Nat), okRef k = true → ∀ w' H', Vbcsah.does h cl = (some h, [-(k : Int)]) → SesA P w a w' H' sa h dx pn pu pt pk ns → Frm Ses wo w' H H' → E (.ref (excOf a k)) none H')
theorem CallP.len {nums : List Int} {cl : Vbcsah.Call} {vs : List V} {H : Hp} {Q : VK} {E : XK} (h : CallP P w a nums cl vs H Q E) : vs.length = 2 := by
  obtain ⟨_, _, _, _, _, _, _, _, _, _, _, _, rfl, _⟩ := h; rfl
def sp0 (P : Program) (w : World) (a : Ad) (cl : Vbcsah.Call) : Sp := fun vs H Q E => CallP P w a [] cl vs H Q E
def sp1 (P : Program) (w : World) (a : Ad) (cl : Int → Vbcsah.Call) : Sp := fun vs H Q E => ∃ z, CallP P w a [z] (cl z) vs H Q E
def sp2 (P : Program) (w : World) (a : Ad) (cl : Int → Int → Vbcsah.Call) : Sp := fun vs H Q E => ∃ y z, CallP P w a [y, z] (cl y z) vs H Q E

theorem Bd.h90 {b r : Nat} {h : House} (B : Bd b r h) : h.nodes.length ≤ 90 := by have := B.wf.len; have := B.wf.of4; omega
theorem inR_true {z lo hi : Int} (h : lo ≤ z ∧ z ≤ hi) : Vbcsah.inR z lo hi = true := decide_eq_true h
theorem inR_false {z lo hi : Int} (h : ¬ (lo ≤ z ∧ z ≤ hi)) : Vbcsah.inR z lo hi = false := decide_eq_false h
/-- a node by a number that is one -/
theorem Bd.node {b r : Nat} {h : House} (B : Bd b r h) {z : Int} (h1 : 0 ≤ z) (h2 : z ≤ (h.offices : Int) + 1) : ∃ i : Nat, z = (i : Int) ∧ z.toNat = i ∧ i < h.nodes.length ∧ i < h.offices + 2 ∧ h.nodes[i]? = some (Vbcsah.node h i) := by
  refine ⟨z.toNat, by omega, rfl, by have := B.wf.len; omega, by omega, ?_⟩
  have hi : z.toNat < h.nodes.length := by have := B.wf.len; omega
  unfold Vbcsah.node
  rw [List.getD_eq_getElem?_getD, List.getElem?_eq_getElem hi]
  rfl

/-! ### cut, torn -/
theorem ok_cut (T : Txt K mg a) : FnOk P w K mg base (L2.CX P w) 3 a.f_cut a.d_cut ["session", "numbers"] (sp1 P w a .cut) := by
  refine T.F_cut.okX sc_cut (fun vs H Q E h => ?_) (fun cdv A outer s H vs Q E hr h => ⟨_, (pss_cons (ps_set (i := 2) sc_cut.nd rfl (Or.inl rfl) (pe_ix ix_list (pv 1) pe_int (fun _ _ => rfl)))
    (pss_cons (ps_expr (pe_meth (pv 0) T.cl_Session T.m_Session_check_node (ok_Session_check_node T) hr T.b_Session_check_node .nil (passes_call (takes_of rfl rfl rfl rfl) (fun _ _ _ _ h => h)) (pa_cons (pv 2) pa_nil)))
    (pss_cons (ps_set (i := 3) sc_cut.nd rfl (Or.inl rfl) (pe_meth (pv 0) T.cl_Session T.m_Session_node_with_power (ok_Session_node_with_power T) (hr.mono (by decide)) T.b_Session_node_with_power .nil (passes_call (takes_of rfl rfl rfl rfl) (fun _ _ _ _ h => h)) (pa_cons (pv 2) pa_nil)))
    (pss_cons (ps_expr (pe_meth0 (pv 3) T.cl_Node T.m_Node_lose_power (ok_Node_lose_power T) (hr.mono (by decide)) T.b_Node_lose_power .nil pass0))
    (pss_one (ps_ret (pe_lst pa_nil))))))), ?_⟩)
  · obtain ⟨z, h⟩ := h; exact h.len
  · obtain ⟨z, wo, sa, h, dx, pn, pu, pt, pk, ns, q, b, r, rfl, S, hq, B, hL, kQ, kE⟩ := h
    refine ⟨_, rfl, q, _, 0, _, rfl, rfl, SqL.of hq, atI_nat (j := 0) rfl, ?_⟩
    refine ⟨_, rfl, sa, dx, _, rfl, S.at_, rfl, _, rfl, sa, h.offices, z, rfl, S.inS, fun hz => ?_, fun hz => ?_⟩
    · obtain ⟨i, rfl, ei, hi, hi2, hx⟩ := B.node hz.1 hz.2
      obtain ⟨p, hp, N⟩ := S.nd i _ hx
      have e1 : Vbcsah.isNode h (i : Int) = true := inR_true hz
      have e2 : Vbcsah.does h (.cut (i : Int)) = if (Vbcsah.node h i).on = false then Vbcsah.no (some h) 3 else Vbcsah.yes (Vbcsah.setNode h i (Vbcsah.dark (Vbcsah.node h i))) [] := by
        show (if Vbcsah.isNode h (i : Int) = false then _ else _) = _
        rw [e1, if_neg (by decide)]
        rfl
      refine ⟨_, rfl, sa, dx, _, rfl, S.at_, rfl, _, rfl, wo, sa, h, dx, pn, pu, pt, pk, ns, i, p, _, rfl, S, hx, hp, fun on => ?_, fun on => ?_⟩
      · rw [on, if_neg (by decide)] at e2
        obtain ⟨xd, pb, pr, po, pss, s0, s1, N'⟩ := id N
        refine ⟨_, rfl, p, xd, _, rfl, N'.at_, rfl, wo, i + 1, p, _, rfl, N, by omega, trivial, fun w1 H1 N1 f1 => ?_⟩
        have S1 := S.node_step f1 B.h90 hi hp N1
        have F1 : Frm Ses wo w1 H H1 := f1.mono fun n (z : n = i + 1) => ⟨by omega, by have := B.h90; omega⟩
        refine ⟨(by show 0 ≤ sizeLine; decide), fun t ht => ?_⟩
        exact kQ _ [] w1 _ t e2 (S1.up (Frm.new (k := NoB) ht) (fun z => z) (fun _ _ z => z) (by show (h.nodes.set i _).length ≤ 90; rw [List.length_set]; exact B.h90)) (F1.trans (Frm.new ht)) (fresh_of F1 ht) upd_same
      · rw [on, if_pos rfl] at e2
        exact kE 3 rfl wo H e2 S (Frm.refl _ _ _)
    · have e1 : Vbcsah.isNode h z = false := inR_false hz
      have e2 : Vbcsah.does h (.cut z) = Vbcsah.no (some h) 1 := by
        show (if Vbcsah.isNode h z = false then _ else _) = _
        rw [e1]; rfl
      exact kE 1 rfl wo H e2 S (Frm.refl _ _ _)
theorem ok_torn (T : Txt K mg a) : FnOk P w K mg base (L2.CX P w) 4 a.f_torn a.d_torn ["session", "numbers"] (sp2 P w a .torn) := by
  refine T.F_torn.okX sc_torn (fun vs H Q E h => ?_) (fun cdv A outer s H vs Q E hr h => ⟨_, (pss_cons (ps_asg (pv 1) (pg_unl rfl (pgs_cons (pg_name (i := 2) sc_torn.nd rfl (Or.inl rfl)) (pgs_cons (pg_name (i := 3) sc_torn.nd rfl (Or.inl rfl)) pgs_nil))))
    (pss_cons (ps_expr (pe_meth (pv 0) T.cl_Session T.m_Session_check_node (ok_Session_check_node T) (hr.mono (by decide)) T.b_Session_check_node .nil (passes_call (takes_of rfl rfl rfl rfl) (fun _ _ _ _ h => h)) (pa_cons (pv 2) pa_nil)))
    (pss_cons (ps_expr (pe_call (ok_check_range T) (hr.mono (by decide)) rfl T.g_check_range T.F_check_range.kp T.b_check_range .nil (passes_call (takes_of rfl rfl rfl rfl) (fun _ _ _ _ h => h)) (pa_cons (pv 3) (pa_cons pe_int (pa_cons pe_int pa_nil)))))
    (pss_cons (ps_set (i := 4) sc_torn.nd rfl (Or.inl rfl) (pe_meth (pv 0) T.cl_Session T.m_Session_node_with_power (ok_Session_node_with_power T) (hr.mono (by decide)) T.b_Session_node_with_power .nil (passes_call (takes_of rfl rfl rfl rfl) (fun _ _ _ _ h => h)) (pa_cons (pv 2) pa_nil)))
    (pss_cons (ps_if (pt_cmpR op_eq (pv 3) pe_int (nomark _))
    (pss_one (ps_expr (pe_meth0 (pv 4) T.cl_Node T.m_Node_spoil_other (ok_Node_spoil_other T) hr T.b_Node_spoil_other .nil pass0)))
    pss_nil)
    (pss_cons (ps_expr (pe_meth0 (pv 4) T.cl_Node T.m_Node_lose_power (ok_Node_lose_power T) (hr.mono (by decide)) T.b_Node_lose_power .nil pass0))
    (pss_one (ps_ret (pe_lst pa_nil))))))))), ?_⟩)
  · obtain ⟨y, z, h⟩ := h; exact h.len
  · obtain ⟨z, y, wo, sa, h, dx, pn, pu, pt, pk, ns, q, b, r, rfl, S, hq, B, hL, kQ, kE⟩ := h
    have h90 := B.h90
    refine ⟨_, rfl, q, _, rfl, SqL.of hq, rfl, _, _, rfl, _, _, rfl, rfl, ?_⟩
    have no1 : (Vbcsah.isNode h z = false ∨ Vbcsah.inR y 0 1 = false) → Vbcsah.does h (.torn z y) = Vbcsah.no (some h) 1 := fun c => if_pos c
    refine ⟨_, rfl, sa, dx, _, rfl, S.at_, rfl, _, rfl, sa, h.offices, z, rfl, S.inS, fun hz => ?_, fun hz => kE 1 rfl wo H (no1 (.inl (inR_false hz))) S (Frm.refl _ _ _)⟩
    refine ⟨_, rfl, y, 0, 1, rfl, fun hy => ?_, fun hy => kE 1 rfl wo H (no1 (.inr (inR_false hy))) S (Frm.refl _ _ _)⟩
    obtain ⟨i, rfl, ei, hi, hi2, hx⟩ := B.node hz.1 hz.2
    obtain ⟨p, hp, N⟩ := S.nd i _ hx
    have e2 : Vbcsah.does h (.torn (i : Int) y) = if (Vbcsah.node h i).on = false then Vbcsah.no (some h) 3 else Vbcsah.yes (Vbcsah.setNode h i (Vbcsah.dark (if y = 1 then Vbcsah.written (Vbcsah.node h i) none else Vbcsah.node h i))) [] := by
      have e1 : ¬ (Vbcsah.isNode h (i : Int) = false ∨ Vbcsah.inR y 0 1 = false) := by
        rw [show Vbcsah.isNode h (i : Int) = true from inR_true hz, inR_true hy]; simp
      exact if_neg e1
    refine ⟨_, rfl, sa, dx, _, rfl, S.at_, rfl, _, rfl, wo, sa, h, dx, pn, pu, pt, pk, ns, i, p, _, rfl, S, hx, hp, fun on => ?_, fun on => ?_⟩
    · rw [on, if_neg (by decide)] at e2
      obtain ⟨xd, pb, pr, po, pss, s0, s1, N'⟩ := id N
      -- behind the writing
      have go : ∀ (x1 : NodeS) (w1 : Ow) (H1 : Hp), NodeAt a w1 H1 (i + 1) p x1 → Frm (Own (i + 1)) wo w1 H H1 → Vbcsah.dark x1 = Vbcsah.dark (if y = 1 then Vbcsah.written (Vbcsah.node h i) none else Vbcsah.node h i) →
          tSeq (tDrop (tMeth a.c_Node "lose_power" (NodeSp a (fun _ => True) Vbcsah.dark fun _ => .non) [] E0 (tVar 4) tNil)) (tRet (tLst tNil)) { nx := fun _ H' => Q .non H', rt := Q } [some (.ref sa), some (.ref q), some (.int (i : Int)), some (.int y), some (.ref p)] H1 := fun x1 w1 H1 N1 f1 ed => by
        obtain ⟨xd1, pb1, pr1, po1, pss1, s01, s11, N1'⟩ := id N1
        refine ⟨_, rfl, p, xd1, _, rfl, N1'.at_, rfl, w1, i + 1, p, x1, rfl, N1, by omega, trivial, fun w2 H2 N2 f2 => ?_⟩
        have f12 := f1.trans f2
        have S2 := S.node_step f12 h90 hi hp N2
        have F2 : Frm Ses wo w2 H H2 := f12.mono fun n (z : n = i + 1) => ⟨by omega, by omega⟩
        refine ⟨(by show 0 ≤ sizeLine; decide), fun t ht => ?_⟩
        rw [ed] at S2
        exact kQ _ [] w2 _ t e2 (S2.up (Frm.new (k := NoB) ht) (fun z => z) (fun _ _ z => z) (by show (h.nodes.set i _).length ≤ 90; rw [List.length_set]; exact h90)) (F2.trans (Frm.new ht)) (fresh_of F2 ht) upd_same
      refine ⟨_, rfl, rfl, _, rfl, ?_⟩
      by_cases y1 : y = 1
      · have ey : decide (V.int y = V.int 1) = true := by rw [y1]; rfl
        rw [ey]
        refine iteT ⟨_, rfl, p, xd, _, rfl, N'.at_, rfl, wo, i + 1, p, _, rfl, N, by omega, trivial, fun w1 H1 N1 f1 => ?_⟩
        exact go _ w1 H1 N1 f1 (by rw [if_pos y1])
      · have ey : decide (V.int y = V.int 1) = false := decide_eq_false (fun z => y1 (V.int.inj z))
        rw [ey]
        exact iteF (go _ wo H N (Frm.refl _ _ _) (by rw [if_neg y1]))
    · rw [on, if_pos rfl] at e2
      exact kE 3 rfl wo H e2 S (Frm.refl _ _ _)
end
end Fo

-- FoCalls2
namespace Fo
open PySem PySem.Spec PyProof.Rows L2
section
variable {P : Program} {w : World} {K : PySem.W.Frag} {mg : Str → Option Value} {base : Heap} {a : Ad}

theorem not_node {h : House} {z : Int} (hz : ¬ ((0 : Int) ≤ z ∧ z ≤ (h.offices : Int) + 1)) : Vbcsah.isNode h z = false := inR_false hz
theorem is_node {h : House} {z : Int} (hz : (0 : Int) ≤ z ∧ z ≤ (h.offices : Int) + 1) : Vbcsah.isNode h z = true := inR_true hz

/-! ### up -/
theorem ok_up (T : Txt K mg a) : FnOk P w K mg base (L2.CX P w) 4 a.f_up a.d_up ["session", "numbers"] (sp1 P w a .up) := by
  refine T.F_up.okX sc_up (fun vs H Q E h => ?_) (fun cdv A outer s H vs Q E hr h => ⟨_, (pss_cons (ps_set (i := 2) sc_up.nd rfl (Or.inl rfl) (pe_ix ix_list (pv 1) pe_int (fun _ _ => rfl)))
    (pss_cons (ps_expr (pe_meth (pv 0) T.cl_Session T.m_Session_check_node (ok_Session_check_node T) (hr.mono (by decide)) T.b_Session_check_node .nil (passes_call (takes_of rfl rfl rfl rfl) (fun _ _ _ _ h => h)) (pa_cons (pv 2) pa_nil)))
    (pss_cons (ps_set (i := 3) sc_up.nd rfl (Or.inl rfl) (pe_ix ix_list (pe_fld (pv 0) rfl) (pv 2) (fun _ _ => rfl)))
    (pss_cons (ps_if (pt_val (pe_fld (pv 3) rfl))
    (pss_one (ps_raise rfl (takes_of rfl rfl rfl rfl) (pmk_own0 PySem.F.excBase_Exception T.x_NothingThere T.g_NothingThere T.k_NothingThere (raises_own T.b_NothingThere T.t_NothingThere) (by exact rfl))))
    pss_nil)
    (pss_cons (ps_expr (pe_meth0 (pv 3) T.cl_Node T.m_Node_gain_power (ok_Node_gain_power T) hr T.b_Node_gain_power .nil pass0))
    (pss_one (ps_ret (pe_lst (pa_cons (pe_fld (pe_meth0 (pv 3) T.cl_Node T.m_Node_slot_read (ok_Node_slot_read T) (hr.mono (by decide)) T.b_Node_slot_read .nil pass0) rfl) (pa_cons (pe_callB call_lenD (by rfl) T.n_len (by decide +kernel) (pa_cons (pe_fld (pv 3) rfl) pa_nil)) pa_nil)))))))))), ?_⟩)
  · obtain ⟨z, h⟩ := h; exact h.len
  · obtain ⟨z, wo, sa, h, dx, pn, pu, pt, pk, ns, q, b, r, rfl, S, hq, B, hL, kQ, kE⟩ := h
    have h90 := B.h90
    refine ⟨_, rfl, q, _, 0, _, rfl, rfl, SqL.of hq, atI_nat (j := 0) rfl, ?_⟩
    refine ⟨_, rfl, sa, dx, _, rfl, S.at_, rfl, _, rfl, sa, h.offices, z, rfl, S.inS, fun hz => ?_, fun hz => kE 1 rfl wo H (if_pos (not_node hz)) S (Frm.refl _ _ _)⟩
    obtain ⟨i, rfl, ei, hi, hi2, hx⟩ := B.node hz.1 hz.2
    obtain ⟨p, hp, N⟩ := S.nd i _ hx
    obtain ⟨xd, pb, pr, po, pss, s0, s1, N'⟩ := id N
    have e2 : Vbcsah.does h (.up (i : Int)) = if (Vbcsah.node h i).on = true then Vbcsah.no (some h) 4 else Vbcsah.yes (Vbcsah.setNode h i (Vbcsah.lit (Vbcsah.node h i))) [(Vbcsah.seqOf (Vbcsah.readSlot (Vbcsah.lit (Vbcsah.node h i))) : Int), ((Vbcsah.lit (Vbcsah.node h i)).memory.book.length : Int)] :=
      if_neg (by rw [is_node hz]; decide)
    refine ⟨_, rfl, sa, _, dx, _, _, rfl, S.at_, T.cl_Session, T.na_Session_nodes, rfl, _, rfl, pn, _, _, _, rfl, rfl, SqL.of S.nodes, ix_at rfl (by rw [List.getElem?_map, hp]; rfl), ?_⟩
    refine ⟨_, rfl, p, _, xd, _, _, rfl, N'.at_, T.cl_Node, T.na_Node_power, rfl, _, rfl, ?_⟩
    cases on : (Vbcsah.node h i).on with
    | true =>
      rw [on, if_pos rfl] at e2
      exact iteT (kE 4 rfl wo H e2 S (Frm.refl _ _ _))
    | false =>
      rw [on, if_neg (by decide)] at e2
      have wn := B.wf.node hi2
      refine iteF ⟨_, rfl, p, xd, _, rfl, N'.at_, rfl, wo, i + 1, p, _, rfl, N, by omega, (wn.dk on).2, fun w1 H1 N1 f1 => ?_⟩
      have S1 := S.node_step f1 h90 hi hp N1
      have F1 : Frm Ses wo w1 H H1 := f1.mono fun n (z : n = i + 1) => ⟨by omega, by omega⟩
      obtain ⟨xd1, pb1, pr1, po1, pss1, s01, s11, N1'⟩ := id N1
      refine ⟨_, rfl, p, xd1, _, rfl, N1'.at_, rfl, w1, i + 1, p, _, rfl, N1, fun sr hsr => ?_⟩
      obtain ⟨xr, br, rr, er, _⟩ := hsr
      obtain ⟨kvs, eB, rep⟩ := N1'.book
      have hl := rep.len
      refine ⟨sr, _, xr, _, _, rfl, er, T.cl_Slot, T.na_Slot_sequence, rfl, _, rfl, p, _, xd1, _, _, rfl, N1'.at_, T.cl_Node, T.na_Node_book, rfl, pb1, kvs, rfl, eB, (by show 2 ≤ sizeLine; decide), fun t ht => ?_⟩
      refine kQ _ _ w1 _ t e2 (S1.up (Frm.new (k := NoB) ht) (fun z => z) (fun _ _ z => z) (by show (h.nodes.set i _).length ≤ 90; rw [List.length_set]; exact h90)) (F1.trans (Frm.new ht)) (fresh_of F1 ht) ?_
      rw [upd_same, hl]
      rfl

/-! ### keep -/
theorem node_keeps {h : House} {i : Nat} (hi : i < h.nodes.length) : Vbcsah.node (Vbcsah.keeps h i) i = { Vbcsah.kept (Vbcsah.node h i) with owed := [] } := by
  rw [keeps_eq]
  have e := (postAll_nodes i (Vbcsah.owedTo (Vbcsah.node h i)) (Vbcsah.owedOffices h (Vbcsah.node h i)) (Vbcsah.setNode h i { Vbcsah.kept (Vbcsah.node h i) with owed := [] })).1
  have e2 : Vbcsah.node (postAll i (Vbcsah.owedTo (Vbcsah.node h i)) (Vbcsah.owedOffices h (Vbcsah.node h i)) (Vbcsah.setNode h i { Vbcsah.kept (Vbcsah.node h i) with owed := [] })) i = Vbcsah.node (Vbcsah.setNode h i { Vbcsah.kept (Vbcsah.node h i) with owed := [] }) i := by
    exact congrArg (fun l : List NodeS => l.getD i {}) e
  rw [e2]
  exact node_set_same hi
theorem ok_keep (T : Txt K mg a) : FnOk P w K mg base (L2.CX P w) 5 a.f_keep a.d_keep ["session", "numbers"] (sp1 P w a .keep) := by
  refine T.F_keep.okX sc_keep (fun vs H Q E h => ?_) (fun cdv A outer s H vs Q E hr h => ⟨_, (pss_cons (ps_set (i := 2) sc_keep.nd rfl (Or.inl rfl) (pe_ix ix_list (pv 1) pe_int (fun _ _ => rfl)))
    (pss_cons (ps_expr (pe_meth (pv 0) T.cl_Session T.m_Session_check_node (ok_Session_check_node T) (hr.mono (by decide)) T.b_Session_check_node .nil (passes_call (takes_of rfl rfl rfl rfl) (fun _ _ _ _ h => h)) (pa_cons (pv 2) pa_nil)))
    (pss_cons (ps_set (i := 3) sc_keep.nd rfl (Or.inl rfl) (pe_meth (pv 0) T.cl_Session T.m_Session_node_with_power (ok_Session_node_with_power T) (hr.mono (by decide)) T.b_Session_node_with_power .nil (passes_call (takes_of rfl rfl rfl rfl) (fun _ _ _ _ h => h)) (pa_cons (pv 2) pa_nil)))
    (pss_cons (ps_expr (pe_meth (pv 0) T.cl_Session T.m_Session_check_room (ok_Session_check_room T) (hr.mono (by decide)) T.b_Session_check_room .nil (passes_call (takes_of rfl rfl rfl rfl) (fun _ _ _ _ h => h)) (pa_cons (pe_callB call_len_seq (by rfl) T.n_len (by decide +kernel) (pa_cons (pe_meth0 (pv 3) T.cl_Node T.m_Node_offices_owed (ok_Node_offices_owed T) (hr.mono (by decide)) T.b_Node_offices_owed .nil pass0) pa_nil)) pa_nil)))
    (pss_one (ps_ret (pe_call (ok_keep_memory T) hr rfl T.g_keep_memory T.F_keep_memory.kp T.b_keep_memory .nil pass0 (pa_cons (pv 0) (pa_cons (pv 2) pa_nil))))))))), ?_⟩)
  · obtain ⟨z, h⟩ := h; exact h.len
  · obtain ⟨z, wo, sa, h, dx, pn, pu, pt, pk, ns, q, b, r, rfl, S, hq, B, hL, kQ, kE⟩ := h
    have h90 := B.h90
    refine ⟨_, rfl, q, _, 0, _, rfl, rfl, SqL.of hq, atI_nat (j := 0) rfl, ?_⟩
    refine ⟨_, rfl, sa, dx, _, rfl, S.at_, rfl, _, rfl, sa, h.offices, z, rfl, S.inS, fun hz => ?_, fun hz => kE 1 rfl wo H (if_pos (not_node hz)) S (Frm.refl _ _ _)⟩
    obtain ⟨i, rfl, ei, hi, hi2, hx⟩ := B.node hz.1 hz.2
    obtain ⟨p, hp, N⟩ := S.nd i _ hx
    obtain ⟨xd, pb, pr, po, pss, s0, s1, N'⟩ := id N
    have wn := B.wf.node hi2
    have e2 : Vbcsah.does h (.keep (i : Int)) = if (Vbcsah.node h i).on = false then Vbcsah.no (some h) 3 else if Vbcsah.room h (Vbcsah.owedOffices h (Vbcsah.node h i)).length = false then Vbcsah.no (some h) 5 else
        Vbcsah.yes (Vbcsah.keeps h i) ((Vbcsah.seqOf (Vbcsah.readSlot (Vbcsah.node (Vbcsah.keeps h i) i)) : Int) :: (List.range (Vbcsah.owedOffices h (Vbcsah.node h i)).length).map fun (k : Nat) => ((h.next + k : Nat) : Int)) :=
      if_neg (by rw [is_node hz]; decide)
    refine ⟨_, rfl, sa, dx, _, rfl, S.at_, rfl, _, rfl, wo, sa, h, dx, pn, pu, pt, pk, ns, i, p, _, rfl, S, hx, hp, fun on => ?_, fun on => ?_⟩
    · rw [on, if_neg (by decide)] at e2
      have hol : (Vbcsah.node h i).owed.length ≤ 4090 := by have := wn.ol; have := B.b4; omega
      refine ⟨_, rfl, sa, dx, _, rfl, S.at_, rfl, _, rfl, p, xd, _, rfl, N'.at_, rfl, wo, i + 1, p, _, h.offices, rfl, N, wn.oo, B.wf.of4, hol, ?_⟩
      rintro H1 q1 ⟨sm, hq1, eq1⟩
      have f1 : Frm NoB wo wo H H1 := Frm.same sm
      have S1 := S.up f1 (fun z => z) (fun _ _ z => z) h90
      refine ⟨q1, _, rfl, .inl (SqL.of eq1), ?_⟩
      have el : (((offsOf (Vbcsah.node h i).owed h.offices).map fun k : Nat => (k : Int)).map V.int).length = (Vbcsah.owedOffices h (Vbcsah.node h i)).length := by rw [List.length_map, List.length_map]; rfl
      refine ⟨wo, sa, h, (Vbcsah.owedOffices h (Vbcsah.node h i)).length, ?_, ⟨dx, pn, pu, pt, pk, ns, S1⟩, fun rm => ?_, fun rm => ?_⟩
      · rw [← el]; rfl
      · rw [if_neg (by rw [rm]; decide)] at e2
        refine ⟨_, rfl, _, rfl, wo, sa, h, dx, pn, pu, pt, pk, ns, i, p, _, rfl, S1, hx, hp, wn.oo, B.wf.of4, hol, B.wf.nu, B.wf.nx, by have := B.fl; omega, h90, fun w2 H2 q2 S2 f2 hq2 wq2 eq2 => ?_⟩
        refine kQ _ _ w2 H2 q2 e2 S2 ((f1.mono fun _ z => z.elim).trans f2) (fresh_of f1 hq2) ?_
        rw [eq2, node_keeps hi]
        have : Vbcsah.seqOf (Vbcsah.readSlot { Vbcsah.kept (Vbcsah.node h i) with owed := [] }) = Vbcsah.seqOf (Vbcsah.readSlot (Vbcsah.kept (Vbcsah.node h i))) := rfl
        rw [this, seq_kept]
        rfl
      · rw [if_pos rm] at e2
        exact kE 5 rfl wo H1 e2 S1 (f1.mono fun _ z => z.elim)
    · rw [on, if_pos rfl] at e2
      exact kE 3 rfl wo H e2 S (Frm.refl _ _ _)

/-! ### deliver, lose, double -/
theorem ok_deliver (T : Txt K mg a) : FnOk P w K mg base (L2.CX P w) 5 a.f_deliver a.d_deliver ["session", "numbers"] (sp1 P w a .deliver_) := by
  refine T.F_deliver.okX sc_deliver (fun vs H Q E h => ?_) (fun cdv A outer s H vs Q E hr h => ⟨_, (pss_cons (ps_set (i := 2) sc_deliver.nd rfl (Or.inl rfl) (pe_ix ix_list (pv 1) pe_int (fun _ _ => rfl)))
    (pss_cons (ps_expr (pe_meth (pv 0) T.cl_Session T.m_Session_message_under_way (ok_Session_message_under_way T) (hr.mono (by decide)) T.b_Session_message_under_way .nil (passes_call (takes_of rfl rfl rfl rfl) (fun _ _ _ _ h => h)) (pa_cons (pv 2) pa_nil)))
    (pss_one (ps_ret (pe_call (ok_let_come T) hr rfl T.g_let_come T.F_let_come.kp T.b_let_come .nil pass0 (pa_cons (pv 0) (pa_cons (pv 2) pa_nil))))))), ?_⟩)
  · obtain ⟨z, h⟩ := h; exact h.len
  · obtain ⟨z, wo, sa, h, dx, pn, pu, pt, pk, ns, q, b, r, rfl, S, hq, B, hL, kQ, kE⟩ := h
    refine ⟨_, rfl, q, _, 0, _, rfl, rfl, SqL.of hq, atI_nat (j := 0) rfl, ?_⟩
    refine ⟨_, rfl, sa, dx, _, rfl, S.at_, rfl, _, rfl, wo, sa, h, z, rfl, ⟨dx, pn, pu, pt, pk, ns, S⟩, fun m mp hm M => ?_, fun hm => ?_⟩
    · have e2 : Vbcsah.does h (.deliver_ z) = Vbcsah.yes (Vbcsah.deliver h m) (deliverRow h m) := by
        show (match Vbcsah.messageAt h z with | none => _ | some x => _) = _
        rw [hm]; rfl
      refine ⟨_, rfl, _, rfl, wo, sa, h, dx, pn, pu, pt, pk, ns, z, m, b, 4080, r, rfl, S, hm, B.wf, by have := B.r7; show r + 4080 ≤ 8000000; omega, by have := B.b4; show b + 20 ≤ 8000000; omega, by have := B.fl; omega, fun w1 H1 q1 S1 f1 hq1 eq1 => ?_⟩
      exact kQ _ _ w1 H1 q1 e2 S1 f1 hq1 eq1
    · have e2 : Vbcsah.does h (.deliver_ z) = Vbcsah.no (some h) 4 := by
        show (match Vbcsah.messageAt h z with | none => _ | some x => _) = _
        rw [hm]
      exact kE 4 rfl wo H e2 S (Frm.refl _ _ _)
theorem ok_lose (T : Txt K mg a) : FnOk P w K mg base (L2.CX P w) 2 a.f_lose a.d_lose ["session", "numbers"] (sp1 P w a .lose) := by
  refine T.F_lose.okX sc_lose (fun vs H Q E h => ?_) (fun cdv A outer s H vs Q E hr h => ⟨_, (pss_cons (ps_set (i := 2) sc_lose.nd rfl (Or.inl rfl) (pe_ix ix_list (pv 1) pe_int (fun _ _ => rfl)))
    (pss_cons (ps_expr (pe_meth (pv 0) T.cl_Session T.m_Session_message_under_way (ok_Session_message_under_way T) hr T.b_Session_message_under_way .nil (passes_call (takes_of rfl rfl rfl rfl) (fun _ _ _ _ h => h)) (pa_cons (pv 2) pa_nil)))
    (pss_cons (ps_expr (pe_dpop1 (pe_fld (pv 0) rfl) (pv 2) ⟨rfl, rfl, rfl, rfl⟩))
    (pss_one (ps_ret (pe_lst pa_nil)))))), ?_⟩)
  · obtain ⟨z, h⟩ := h; exact h.len
  · obtain ⟨z, wo, sa, h, dx, pn, pu, pt, pk, ns, q, b, r, rfl, S, hq, B, hL, kQ, kE⟩ := h
    refine ⟨_, rfl, q, _, 0, _, rfl, rfl, SqL.of hq, atI_nat (j := 0) rfl, ?_⟩
    refine ⟨_, rfl, sa, dx, _, rfl, S.at_, rfl, _, rfl, wo, sa, h, z, rfl, ⟨dx, pn, pu, pt, pk, ns, S⟩, fun m mp hm M => ?_, fun hm => ?_⟩
    · have e2 : Vbcsah.does h (.lose z) = Vbcsah.yes (Vbcsah.without h m.number) [] := by
        show (match Vbcsah.messageAt h z with | none => _ | some x => _) = _
        rw [hm]
      obtain ⟨ez, _⟩ := at_number hm
      obtain ⟨kvs, eF, aF⟩ := S.fl
      have qq := fl_find (z := z) aF
      have eM : h.flight.find? (fun x => (x.number : Int) == z) = some m := hm
      rw [eM] at qq
      obtain ⟨mp2, em, _⟩ := qq
      obtain ⟨S1, f1⟩ := S.pop eF aF ez B.h90
      have F1 : Frm Ses wo wo H _ := f1.mono fun n (z : n = 100) => ⟨by omega, by omega⟩
      refine ⟨_, rfl, sa, _, dx, _, _, rfl, S.at_, T.cl_Session, T.na_Session_under_way, rfl, pu, rfl, .inl ⟨kvs, Rd.of eF⟩, _, rfl, kvs, .inl z, _, eF, rfl, em, ?_⟩
      refine ⟨(by show 0 ≤ sizeLine; decide), fun t ht => ?_⟩
      exact kQ _ [] wo _ t e2 (S1.up (Frm.new (k := NoB) ht) (fun z => z) (fun _ _ z => z) B.h90) (F1.trans (Frm.new ht)) (fresh_of F1 ht) upd_same
    · have e2 : Vbcsah.does h (.lose z) = Vbcsah.no (some h) 4 := by
        show (match Vbcsah.messageAt h z with | none => _ | some x => _) = _
        rw [hm]
      exact kE 4 rfl wo H e2 S (Frm.refl _ _ _)
theorem ok_double (T : Txt K mg a) : FnOk P w K mg base (L2.CX P w) 2 a.f_double a.d_double ["session", "numbers"] (sp1 P w a .double) := by
  refine T.F_double.okX sc_double (fun vs H Q E h => ?_) (fun cdv A outer s H vs Q E hr h => ⟨_, (pss_cons (ps_set (i := 2) sc_double.nd rfl (Or.inl rfl) (pe_meth (pv 0) T.cl_Session T.m_Session_message_under_way (ok_Session_message_under_way T) hr T.b_Session_message_under_way .nil (passes_call (takes_of rfl rfl rfl rfl) (fun _ _ _ _ h => h)) (pa_cons (pe_ix ix_list (pv 1) pe_int (fun _ _ => rfl)) pa_nil)))
    (pss_cons (ps_expr (pe_meth (pv 0) T.cl_Session T.m_Session_check_room (ok_Session_check_room T) hr T.b_Session_check_room .nil (passes_call (takes_of rfl rfl rfl rfl) (fun _ _ _ _ h => h)) (pa_cons pe_int pa_nil)))
    (pss_one (ps_ret (pe_lst (pa_cons (pe_meth (pv 0) T.cl_Session T.m_Session_send_off (ok_Session_send_off T) hr T.b_Session_send_off .nil pass0 (pa_cons (pv 2) pa_nil)) pa_nil)))))), ?_⟩)
  · obtain ⟨z, h⟩ := h; exact h.len
  · obtain ⟨z, wo, sa, h, dx, pn, pu, pt, pk, ns, q, b, r, rfl, S, hq, B, hL, kQ, kE⟩ := h
    refine ⟨_, rfl, sa, dx, _, rfl, S.at_, rfl, _, rfl, q, _, 0, _, rfl, rfl, SqL.of hq, atI_nat (j := 0) rfl, wo, sa, h, z, rfl, ⟨dx, pn, pu, pt, pk, ns, S⟩, fun m mp hm M => ?_, fun hm => ?_⟩
    · have e2 : Vbcsah.does h (.double z) = if Vbcsah.room h 1 = false then Vbcsah.no (some h) 5 else Vbcsah.yes (Vbcsah.post h m.kind m.src m.dst m.items) [(h.next : Int)] := by
        show (match Vbcsah.messageAt h z with | none => _ | some x => _) = _
        rw [hm]
      refine ⟨_, rfl, sa, dx, _, rfl, S.at_, rfl, wo, sa, h, 1, rfl, ⟨dx, pn, pu, pt, pk, ns, S⟩, fun rm => ?_, fun rm => ?_⟩
      · rw [if_neg (by rw [rm]; decide)] at e2
        refine ⟨_, rfl, sa, dx, _, rfl, S.at_, rfl, _, rfl, wo, sa, h, dx, pn, pu, pt, pk, ns, mp, m.kind, m.src, m.dst, m.items, rfl, S, M, B.wf.nu, by have := B.fl; omega, B.h90, fun H1 S1 f1 => ?_⟩
        have F1 : Frm Ses wo wo H H1 := f1.mono fun n (z : n = 100) => ⟨by omega, by omega⟩
        refine ⟨(by show 1 ≤ sizeLine; decide), fun t ht => ?_⟩
        exact kQ _ [(h.next : Int)] wo _ t e2 (S1.up (Frm.new (k := NoB) ht) (fun z => z) (fun _ _ z => z) B.h90) (F1.trans (Frm.new ht)) (fresh_of F1 ht) upd_same
      · rw [if_pos rm] at e2
        exact kE 5 rfl wo H e2 S (Frm.refl _ _ _)
    · have e2 : Vbcsah.does h (.double z) = Vbcsah.no (some h) 4 := by
        show (match Vbcsah.messageAt h z with | none => _ | some x => _) = _
        rw [hm]
      exact kE 4 rfl wo H e2 S (Frm.refl _ _ _)

/-! ### memory -/
theorem ok_memory (T : Txt K mg a) : FnOk P w K mg base (L2.CX P w) 3 a.f_memory a.d_memory ["session", "numbers"] (sp1 P w a .memory) := by
  refine T.F_memory.okX sc_memory (fun vs H Q E h => ?_) (fun cdv A outer s H vs Q E hr h => ⟨_, (pss_cons (ps_set (i := 2) sc_memory.nd rfl (Or.inl rfl) (pe_ix ix_list (pv 1) pe_int (fun _ _ => rfl)))
    (pss_cons (ps_expr (pe_meth (pv 0) T.cl_Session T.m_Session_check_node (ok_Session_check_node T) hr T.b_Session_check_node .nil (passes_call (takes_of rfl rfl rfl rfl) (fun _ _ _ _ h => h)) (pa_cons (pv 2) pa_nil)))
    (pss_cons (ps_set (i := 3) sc_memory.nd rfl (Or.inl rfl) (pe_meth (pv 0) T.cl_Session T.m_Session_node_with_power (ok_Session_node_with_power T) (hr.mono (by decide)) T.b_Session_node_with_power .nil (passes_call (takes_of rfl rfl rfl rfl) (fun _ _ _ _ h => h)) (pa_cons (pv 2) pa_nil)))
    (pss_one (ps_ret (pe_call (ok_numbers_of T) (hr.mono (by decide)) rfl T.g_numbers_of T.F_numbers_of.kp T.b_numbers_of .nil pass0 (pa_cons (pe_call (ok_items_of T) (hr.mono (by decide)) rfl T.g_items_of T.F_items_of.kp T.b_items_of .nil pass0 (pa_cons (pe_fld (pv 3) rfl) pa_nil)) pa_nil))))))), ?_⟩)
  · obtain ⟨z, h⟩ := h; exact h.len
  · obtain ⟨z, wo, sa, h, dx, pn, pu, pt, pk, ns, q, b, r, rfl, S, hq, B, hL, kQ, kE⟩ := h
    have h90 := B.h90
    refine ⟨_, rfl, q, _, 0, _, rfl, rfl, SqL.of hq, atI_nat (j := 0) rfl, ?_⟩
    refine ⟨_, rfl, sa, dx, _, rfl, S.at_, rfl, _, rfl, sa, h.offices, z, rfl, S.inS, fun hz => ?_, fun hz => kE 1 rfl wo H (if_pos (not_node hz)) S (Frm.refl _ _ _)⟩
    obtain ⟨i, rfl, ei, hi, hi2, hx⟩ := B.node hz.1 hz.2
    obtain ⟨p, hp, N⟩ := S.nd i _ hx
    obtain ⟨xd, pb, pr, po, pss, s0, s1, N'⟩ := id N
    have wn := B.wf.node hi2
    have e2 : Vbcsah.does h (.memory (i : Int)) = if (Vbcsah.node h i).on = false then Vbcsah.no (some h) 3 else Vbcsah.yes h (Vbcsah.bookRow (Vbcsah.node h i).memory.book) := if_neg (by rw [is_node hz]; decide)
    refine ⟨_, rfl, sa, dx, _, rfl, S.at_, rfl, _, rfl, wo, sa, h, dx, pn, pu, pt, pk, ns, i, p, _, rfl, S, hx, hp, fun on => ?_, fun on => ?_⟩
    · rw [on, if_neg (by decide)] at e2
      refine ⟨_, rfl, p, _, xd, _, _, rfl, N'.at_, T.cl_Node, T.na_Node_book, rfl, pb, _, rfl, N'.book, ?_⟩
      rintro H1 q1 ⟨sm, hq1, its, eN, aN⟩
      refine ⟨q1, its, _, rfl, .inl eN, al_itR aN, by have := okB_len wn.bk; omega, ?_⟩
      rintro H2 q2 ⟨sm2, hq2, eN2⟩
      have f2 : Frm NoB wo wo H H2 := Frm.same (sm.trans sm2)
      exact kQ _ _ wo H2 q2 e2 (S.up f2 (fun z => z) (fun _ _ z => z) h90) (f2.mono fun _ z => z.elim) (Same.free sm hq2) eN2
    · rw [on, if_pos rfl] at e2
      exact kE 3 rfl wo H e2 S (Frm.refl _ _ _)
end
end Fo

-- FoCalls3
namespace Fo
open PySem PySem.Spec PyProof.Rows L2
section
variable {P : Program} {w : World} {K : PySem.W.Frag} {mg : Str → Option Value} {base : Heap} {a : Ad}

theorem is_centre {h : House} {z : Int} (hz : (h.offices : Int) ≤ z ∧ z ≤ (h.offices : Int) + 1) : Vbcsah.isCentre_ h z = true := inR_true hz
theorem not_centre {h : House} {z : Int} (hz : ¬ ((h.offices : Int) ≤ z ∧ z ≤ (h.offices : Int) + 1)) : Vbcsah.isCentre_ h z = false := inR_false hz
theorem is_office {h : House} {z : Int} (hz : (0 : Int) ≤ z ∧ z ≤ (h.offices : Int) - 1) : Vbcsah.isOffice h z = true := inR_true hz
theorem not_office {h : House} {z : Int} (hz : ¬ ((0 : Int) ≤ z ∧ z ≤ (h.offices : Int) - 1)) : Vbcsah.isOffice h z = false := inR_false hz
/-! ### ask -/
theorem ok_ask (T : Txt K mg a) : FnOk P w K mg base (L2.CX P w) 4 a.f_ask a.d_ask ["session", "numbers"] (sp1 P w a .ask) := by
  refine T.F_ask.okX sc_ask (fun vs H Q E h => ?_) (fun cdv A outer s H vs Q E hr h => ⟨_, (pss_cons (ps_set (i := 2) sc_ask.nd rfl (Or.inl rfl) (pe_ix ix_list (pv 1) pe_int (fun _ _ => rfl)))
    (pss_cons (ps_expr (pe_meth (pv 0) T.cl_Session T.m_Session_check_centre (ok_Session_check_centre T) (hr.mono (by decide)) T.b_Session_check_centre .nil (passes_call (takes_of rfl rfl rfl rfl) (fun _ _ _ _ h => h)) (pa_cons (pv 2) pa_nil)))
    (pss_cons (ps_expr (pe_meth (pv 0) T.cl_Session T.m_Session_node_with_power (ok_Session_node_with_power T) (hr.mono (by decide)) T.b_Session_node_with_power .nil (passes_call (takes_of rfl rfl rfl rfl) (fun _ _ _ _ h => h)) (pa_cons (pv 2) pa_nil)))
    (pss_cons (ps_expr (pe_meth (pv 0) T.cl_Session T.m_Session_check_room (ok_Session_check_room T) (hr.mono (by decide)) T.b_Session_check_room .nil (passes_call (takes_of rfl rfl rfl rfl) (fun _ _ _ _ h => h)) (pa_cons pe_int pa_nil)))
    (pss_one (ps_ret (pe_lst (pa_cons (pe_call (ok_send_summary T) hr rfl T.g_send_summary T.F_send_summary.kp T.b_send_summary .nil pass0 (pa_cons (pv 0) (pa_cons (pv 2) pa_nil))) pa_nil)))))))), ?_⟩)
  · obtain ⟨z, h⟩ := h; exact h.len
  · obtain ⟨z, wo, sa, h, dx, pn, pu, pt, pk, ns, q, b, r, rfl, S, hq, B, hL, kQ, kE⟩ := h
    have h90 := B.h90
    refine ⟨_, rfl, q, _, 0, _, rfl, rfl, SqL.of hq, atI_nat (j := 0) rfl, ?_⟩
    refine ⟨_, rfl, sa, dx, _, rfl, S.at_, rfl, _, rfl, sa, h.offices, z, rfl, S.inS, fun hz => ?_, fun hz => kE 1 rfl wo H (if_pos (not_centre hz)) S (Frm.refl _ _ _)⟩
    replace hz : (h.offices : Int) ≤ z ∧ z ≤ (h.offices : Int) + 1 := hz
    obtain ⟨i, rfl, ei, hi, hi2, hx⟩ := B.node (by omega) hz.2
    obtain ⟨p, hp, N⟩ := S.nd i _ hx
    obtain ⟨xd, pb, pr, po, pss, s0, s1, N'⟩ := id N
    have e2 : Vbcsah.does h (.ask (i : Int)) = if (Vbcsah.node h i).on = false then Vbcsah.no (some h) 3 else if Vbcsah.room h 1 = false then Vbcsah.no (some h) 5 else Vbcsah.yes (Vbcsah.post h 3 i (Vbcsah.otherCentre h i) (Vbcsah.node h i).memory.book) [(h.next : Int)] :=
      if_neg (by rw [is_centre hz]; decide)
    refine ⟨_, rfl, sa, dx, _, rfl, S.at_, rfl, _, rfl, wo, sa, h, dx, pn, pu, pt, pk, ns, i, p, _, rfl, S, hx, hp, fun on => ?_, fun on => ?_⟩
    · rw [on, if_neg (by decide)] at e2
      refine ⟨_, rfl, sa, dx, _, rfl, S.at_, rfl, wo, sa, h, 1, rfl, ⟨dx, pn, pu, pt, pk, ns, S⟩, fun rm => ?_, fun rm => ?_⟩
      · rw [if_neg (by rw [rm]; decide)] at e2
        refine ⟨_, rfl, _, rfl, wo, sa, h, dx, pn, pu, pt, pk, ns, i, p, _, rfl, hz.1, hz.2, S, hx, hp, (B.wf.node hi2).bk, B.wf.nu, by have := B.fl; omega, h90, fun w6 H6 S6 F6 => ?_⟩
        refine ⟨(by show 1 ≤ sizeLine; decide), fun t ht => ?_⟩
        exact kQ _ [(h.next : Int)] w6 _ t e2 (S6.up (Frm.new (k := NoB) ht) (fun z => z) (fun _ _ z => z) h90) (F6.trans (Frm.new ht)) (fresh_of F6 ht) upd_same
      · rw [if_pos rm] at e2
        exact kE 5 rfl wo H e2 S (Frm.refl _ _ _)
    · rw [on, if_pos rfl] at e2
      exact kE 3 rfl wo H e2 S (Frm.refl _ _ _)

/-! ### send -/
theorem ok_send (T : Txt K mg a) : FnOk P w K mg base (L2.CX P w) 4 a.f_send a.d_send ["session", "numbers"] (sp2 P w a .send) := by
  refine T.F_send.okX sc_send (fun vs H Q E h => ?_) (fun cdv A outer s H vs Q E hr h => ⟨_, (pss_cons (ps_asg (pv 1) (pg_unl rfl (pgs_cons (pg_name (i := 2) sc_send.nd rfl (Or.inl rfl)) (pgs_cons (pg_name (i := 3) sc_send.nd rfl (Or.inl rfl)) pgs_nil))))
    (pss_cons (ps_expr (pe_meth (pv 0) T.cl_Session T.m_Session_check_office (ok_Session_check_office T) (hr.mono (by decide)) T.b_Session_check_office .nil (passes_call (takes_of rfl rfl rfl rfl) (fun _ _ _ _ h => h)) (pa_cons (pv 2) pa_nil)))
    (pss_cons (ps_expr (pe_meth (pv 0) T.cl_Session T.m_Session_check_centre (ok_Session_check_centre T) (hr.mono (by decide)) T.b_Session_check_centre .nil (passes_call (takes_of rfl rfl rfl rfl) (fun _ _ _ _ h => h)) (pa_cons (pv 3) pa_nil)))
    (pss_cons (ps_set (i := 4) sc_send.nd rfl (Or.inl rfl) (pe_meth (pv 0) T.cl_Session T.m_Session_node_with_power (ok_Session_node_with_power T) (hr.mono (by decide)) T.b_Session_node_with_power .nil (passes_call (takes_of rfl rfl rfl rfl) (fun _ _ _ _ h => h)) (pa_cons (pv 2) pa_nil)))
    (pss_cons (ps_if (pt_not (pt_truth (pe_meth (pv 4) T.cl_Node T.m_Node_items_without_receipt (ok_Node_items_without_receipt T) (hr.mono (by decide)) T.b_Node_items_without_receipt .nil pass0 (pa_cons (pv 3) pa_nil)) (by intro _; rfl)))
    (pss_one (ps_raise rfl (takes_of rfl rfl rfl rfl) (pmk_own0 PySem.F.excBase_Exception T.x_NothingThere T.g_NothingThere T.k_NothingThere (raises_own T.b_NothingThere T.t_NothingThere) (by exact rfl))))
    pss_nil)
    (pss_cons (ps_expr (pe_meth (pv 0) T.cl_Session T.m_Session_check_room (ok_Session_check_room T) (hr.mono (by decide)) T.b_Session_check_room .nil (passes_call (takes_of rfl rfl rfl rfl) (fun _ _ _ _ h => h)) (pa_cons pe_int pa_nil)))
    (pss_one (ps_ret (pe_lst (pa_cons (pe_call (ok_send_forms T) hr rfl T.g_send_forms T.F_send_forms.kp T.b_send_forms .nil pass0 (pa_cons (pv 0) (pa_cons (pv 2) (pa_cons (pv 3) pa_nil)))) pa_nil)))))))))), ?_⟩)
  · obtain ⟨y, z, h⟩ := h; exact h.len
  · obtain ⟨y, z, wo, sa, h, dx, pn, pu, pt, pk, ns, q, b, r, rfl, S, hq, B, hL, kQ, kE⟩ := h
    have h90 := B.h90
    have no1 : (Vbcsah.isOffice h y = false ∨ Vbcsah.isCentre_ h z = false) → Vbcsah.does h (.send y z) = Vbcsah.no (some h) 1 := fun c => if_pos c
    refine ⟨_, rfl, q, _, rfl, SqL.of hq, rfl, _, _, rfl, _, _, rfl, rfl, ?_⟩
    refine ⟨_, rfl, sa, dx, _, rfl, S.at_, rfl, _, rfl, sa, h.offices, y, rfl, S.inS, fun hy => ?_, fun hy => kE 1 rfl wo H (no1 (.inl (not_office hy))) S (Frm.refl _ _ _)⟩
    refine ⟨_, rfl, sa, dx, _, rfl, S.at_, rfl, _, rfl, sa, h.offices, z, rfl, S.inS, fun hz => ?_, fun hz => kE 1 rfl wo H (no1 (.inr (not_centre hz))) S (Frm.refl _ _ _)⟩
    replace hz : (h.offices : Int) ≤ z ∧ z ≤ (h.offices : Int) + 1 := hz
    replace hy : (0 : Int) ≤ y ∧ y ≤ (h.offices : Int) - 1 := hy
    obtain ⟨i, rfl, ei, hi, hi2, hx⟩ := B.node hy.1 (by omega)
    obtain ⟨c, rfl, ec, hc, hc2, hxc⟩ := B.node (z := z) (by omega) hz.2
    obtain ⟨p, hp, N⟩ := S.nd i _ hx
    obtain ⟨xd, pb, pr, po, pss, s0, s1, N'⟩ := id N
    have wn := B.wf.node hi2
    have e2 : Vbcsah.does h (.send (i : Int) (c : Int)) = if (Vbcsah.node h i).on = false then Vbcsah.no (some h) 3 else if (Vbcsah.open_ (Vbcsah.node h i) c).isEmpty = true then Vbcsah.no (some h) 4 else if Vbcsah.room h 1 = false then Vbcsah.no (some h) 5 else Vbcsah.yes (Vbcsah.sends h i c) [(h.next : Int)] := by
      have e1 : ¬ (Vbcsah.isOffice h (i : Int) = false ∨ Vbcsah.isCentre_ h (c : Int) = false) := by rw [is_office hy, is_centre hz]; simp
      exact if_neg e1
    refine ⟨_, rfl, sa, dx, _, rfl, S.at_, rfl, _, rfl, wo, sa, h, dx, pn, pu, pt, pk, ns, i, p, _, rfl, S, hx, hp, fun on => ?_, fun on => ?_⟩
    · rw [on, if_neg (by decide)] at e2
      refine ⟨_, rfl, p, xd, _, rfl, N'.at_, rfl, _, rfl, wo, i + 1, p, c, _, rfl, N, wn.bk, ?_⟩
      rintro H3 q1 ⟨sm, hq1, ds, eD, aD⟩
      have f3 : Frm NoB wo wo H H3 := Frm.same sm
      have F3 : Frm Ses wo wo H H3 := f3.mono fun _ z => z.elim
      have S3 := S.up f3 (fun z => z) (fun _ _ z => z) h90
      have hemp : (ds.map V.ref).isEmpty = (Vbcsah.open_ (Vbcsah.node h i) c).isEmpty := by
        have := aD.len
        cases ds with
        | nil => cases c2 : Vbcsah.open_ (Vbcsah.node h i) c with
          | nil => rfl
          | cons y ys => rw [c2] at this; cases this
        | cons y ys => cases c2 : Vbcsah.open_ (Vbcsah.node h i) c with
          | nil => rw [c2] at this; cases this
          | cons y ys => rfl
      refine ⟨_, .inl ⟨_, SqL.of eD, rfl⟩, ?_⟩
      rw [hemp]
      cases ce : (Vbcsah.open_ (Vbcsah.node h i) c).isEmpty with
      | true =>
        rw [ce, if_pos rfl] at e2
        exact iteT (kE 4 rfl wo H3 e2 S3 F3)
      | false =>
        rw [ce, if_neg (by decide)] at e2
        refine iteF ⟨_, rfl, sa, dx, _, rfl, S3.at_, rfl, wo, sa, h, 1, rfl, ⟨dx, pn, pu, pt, pk, ns, S3⟩, fun rm => ?_, fun rm => ?_⟩
        · rw [if_neg (by rw [rm]; decide)] at e2
          refine ⟨_, rfl, _, rfl, _, rfl, wo, sa, h, dx, pn, pu, pt, pk, ns, i, c, p, _, rfl, S3, hx, hp, wn.bk, B.wf.nu, by have := B.fl; omega, h90, fun w6 H6 S6 F6 => ?_⟩
          refine ⟨(by show 1 ≤ sizeLine; decide), fun t ht => ?_⟩
          have F7 := F3.trans F6
          have es : Vbcsah.sends h i c = Vbcsah.post h 1 i c (Vbcsah.open_ (Vbcsah.node h i) c) := by
            unfold Vbcsah.sends
            simp only [ce]
            rfl
          rw [es] at e2
          exact kQ _ [(h.next : Int)] w6 _ t e2 (S6.up (Frm.new (k := NoB) ht) (fun z => z) (fun _ _ z => z) h90) (F7.trans (Frm.new ht)) (fresh_of F7 ht) upd_same
        · rw [if_pos rm] at e2
          exact kE 5 rfl wo H3 e2 S3 F3
    · rw [on, if_pos rfl] at e2
      exact kE 3 rfl wo H e2 S (Frm.refl _ _ _)
end
end Fo

-- FoCalls4
namespace Fo
open PySem PySem.Spec PyProof.Rows L2
section
variable {P : Program} {w : World} {K : PySem.W.Frag} {mg : Str → Option Value} {base : Heap} {a : Ad}

theorem itKey_inj {x y : Item} (h : itKey x = itKey y) : x = y := by
  unfold itKey at h
  injection h with h1 h
  injection h with h2 h
  injection h with h3 h
  injection h with h4 _
  have g1 := Sum.inl.inj h1
  have g2 := Sum.inl.inj h2
  have g3 := Sum.inl.inj h3
  have g4 := Sum.inl.inj h4
  exact item_ext (by omega) (by omega) (bit_inj.mp g3) (by omega)
def tkK (l : List Item) : List (List Key × V) := l.map fun i => (itKey i, V.bl true)
theorem tk_any (l : List Item) (x : Item) : ((tkK l).any fun kv => decide (kv.1 = itKey x)) = l.contains x := by
  induction l with
  | nil => rfl
  | cons y l ih =>
    have e : tkK (y :: l) = (itKey y, V.bl true) :: tkK l := rfl
    rw [e, List.any_cons, ih, List.contains_cons]
    congr 1
    by_cases c : x = y
    · subst c; simp
    · have : ¬ itKey y = itKey x := fun q => c (itKey_inj q).symm
      simp [c, this]
theorem tk_put (l : List Item) (x : Item) : putK (tkK l) (itKey x) (.bl true) = tkK (Vbcsah.takenOnce l x) := by
  unfold putK
  rw [tk_any]
  unfold Vbcsah.takenOnce
  cases c : l.contains x with
  | true =>
    rw [if_pos rfl, if_pos rfl]
    unfold tkK
    rw [List.map_map]
    refine List.map_congr_left fun y _ => ?_
    show (if itKey y = itKey x then (itKey y, V.bl true) else (itKey y, V.bl true)) = (itKey y, V.bl true)
    split <;> rfl
  | false =>
    rw [if_neg (by decide), if_neg (by decide)]
    unfold tkK
    rw [List.map_append]
    rfl
def sp5 (P : Program) (w : World) (a : Ad) (cl : Int → Int → Int → Int → Int → Vbcsah.Call) : Sp := fun vs H Q E => ∃ o n v g t, CallP P w a [o, n, v, g, t] (cl o n v g t) vs H Q E
theorem ok_take (T : Txt K mg a) : FnOk P w K mg base (L2.CX P w) 4 a.f_take a.d_take ["session", "numbers"] (sp5 P w a .take) := by
  refine T.F_take.okX sc_take (fun vs H Q E h => ?_) (fun cdv A outer s H vs Q E hr h => ⟨_, (pss_cons (ps_asg (pv 1) (pg_unl rfl (pgs_cons (pg_name (i := 2) sc_take.nd rfl (Or.inl rfl)) (pgs_cons (pg_name (i := 3) sc_take.nd rfl (Or.inl rfl)) (pgs_cons (pg_name (i := 4) sc_take.nd rfl (Or.inl rfl)) (pgs_cons (pg_name (i := 5) sc_take.nd rfl (Or.inl rfl)) (pgs_cons (pg_name (i := 6) sc_take.nd rfl (Or.inl rfl)) pgs_nil)))))))
    (pss_cons (ps_expr (pe_meth (pv 0) T.cl_Session T.m_Session_check_office (ok_Session_check_office T) (hr.mono (by decide)) T.b_Session_check_office .nil (passes_call (takes_of rfl rfl rfl rfl) (fun _ _ _ _ h => h)) (pa_cons (pv 2) pa_nil)))
    (pss_cons (ps_expr (pe_call (ok_check_range T) (hr.mono (by decide)) rfl T.g_check_range T.F_check_range.kp T.b_check_range .nil (passes_call (takes_of rfl rfl rfl rfl) (fun _ _ _ _ h => h)) (pa_cons (pv 3) (pa_cons pe_int (pa_cons pe_int pa_nil)))))
    (pss_cons (ps_expr (pe_call (ok_check_range T) (hr.mono (by decide)) rfl T.g_check_range T.F_check_range.kp T.b_check_range .nil (passes_call (takes_of rfl rfl rfl rfl) (fun _ _ _ _ h => h)) (pa_cons (pv 4) (pa_cons pe_int (pa_cons pe_int pa_nil)))))
    (pss_cons (ps_expr (pe_call (ok_check_range T) (hr.mono (by decide)) rfl T.g_check_range T.F_check_range.kp T.b_check_range .nil (passes_call (takes_of rfl rfl rfl rfl) (fun _ _ _ _ h => h)) (pa_cons (pv 5) (pa_cons pe_int (pa_cons pe_int pa_nil)))))
    (pss_cons (ps_expr (pe_call (ok_check_range T) (hr.mono (by decide)) rfl T.g_check_range T.F_check_range.kp T.b_check_range .nil (passes_call (takes_of rfl rfl rfl rfl) (fun _ _ _ _ h => h)) (pa_cons (pv 6) (pa_cons pe_int (pa_cons pe_int pa_nil)))))
    (pss_cons (ps_set (i := 7) sc_take.nd rfl (Or.inl rfl) (pe_meth (pv 0) T.cl_Session T.m_Session_node_with_power (ok_Session_node_with_power T) (hr.mono (by decide)) T.b_Session_node_with_power .nil (passes_call (takes_of rfl rfl rfl rfl) (fun _ _ _ _ h => h)) (pa_cons (pv 2) pa_nil)))
    (pss_cons (ps_set (i := 8) sc_take.nd rfl (Or.inl rfl) (pe_call (ok_make_item T) (hr.mono (by decide)) rfl T.g_make_item T.F_make_item.kp T.b_make_item .nil pass0 (pa_cons (pv 3) (pa_cons (pv 4) (pa_cons (pv 5) (pa_cons (pv 6) pa_nil))))))
    (pss_cons (ps_dput (hu_of hr) (pe_fld (pv 0) rfl) (pv 8) pe_bl rfl)
    (pss_cons (ps_expr (pe_meth (pv 7) T.cl_Node T.m_Node_take_in (ok_Node_take_in T) hr T.b_Node_take_in .nil pass0 (pa_cons (pe_lst (pa_cons (pv 8) pa_nil)) pa_nil)))
    (pss_one (ps_ret (pe_lst (pa_cons (pe_ifExp (pt_val (pe_meth (pv 7) T.cl_Node T.m_Node_holds (ok_Node_holds T) (hr.mono (by decide)) T.b_Node_holds .nil pass0 (pa_cons (pv 8) pa_nil))) pe_int pe_int) pa_nil)))))))))))))), ?_⟩)
  · obtain ⟨o, n, v, g, t, h⟩ := h; exact h.len
  · obtain ⟨o, n, v, g, t, wo, sa, h, dx, pn, pu, pt, pk, ns, q, b, r, rfl, S, hq, B, hL, kQ, kE⟩ := h
    have h90 := B.h90
    have no1 : (Vbcsah.isOffice h o = false ∨ Vbcsah.inR n 1 Vbcsah.FORMS = false ∨ Vbcsah.inR v 1 1000 = false ∨ Vbcsah.inR g 0 1 = false ∨ Vbcsah.inR t 0 999 = false) → Vbcsah.does h (.take o n v g t) = Vbcsah.no (some h) 1 := fun c => if_pos c
    refine ⟨_, rfl, q, _, rfl, SqL.of hq, rfl, _, _, rfl, _, _, rfl, _, _, rfl, _, _, rfl, _, _, rfl, rfl, ?_⟩
    refine ⟨_, rfl, sa, dx, _, rfl, S.at_, rfl, _, rfl, sa, h.offices, o, rfl, S.inS, fun ho => ?_, fun ho => kE 1 rfl wo H (no1 (.inl (not_office ho))) S (Frm.refl _ _ _)⟩
    refine ⟨_, rfl, n, 1, 20, rfl, fun hn => ?_, fun hn => kE 1 rfl wo H (no1 (.inr (.inl (inR_false hn)))) S (Frm.refl _ _ _)⟩
    refine ⟨_, rfl, v, 1, 1000, rfl, fun hv => ?_, fun hv => kE 1 rfl wo H (no1 (.inr (.inr (.inl (inR_false hv))))) S (Frm.refl _ _ _)⟩
    refine ⟨_, rfl, g, 0, 1, rfl, fun hg => ?_, fun hg => kE 1 rfl wo H (no1 (.inr (.inr (.inr (.inl (inR_false hg)))))) S (Frm.refl _ _ _)⟩
    refine ⟨_, rfl, t, 0, 999, rfl, fun ht => ?_, fun ht => kE 1 rfl wo H (no1 (.inr (.inr (.inr (.inr (inR_false ht)))))) S (Frm.refl _ _ _)⟩
    replace ho : (0 : Int) ≤ o ∧ o ≤ (h.offices : Int) - 1 := ho
    obtain ⟨i, rfl, ei, hi, hi2, hx⟩ := B.node ho.1 (by omega)
    obtain ⟨p, hp, N⟩ := S.nd i _ hx
    have wn := B.wf.node hi2
    have e2 : Vbcsah.does h (.take (i : Int) n v g t) = if (Vbcsah.node h i).on = false then Vbcsah.no (some h) 3 else
        Vbcsah.yes (Vbcsah.take_ h i (mkI n v g t)) [(Vbcsah.bit (Vbcsah.formOf (Vbcsah.node (Vbcsah.take_ h i (mkI n v g t)) i).memory.book (mkI n v g t).number == some (mkI n v g t)) : Int)] := by
      have e1 : ¬ (Vbcsah.isOffice h (i : Int) = false ∨ Vbcsah.inR n 1 Vbcsah.FORMS = false ∨ Vbcsah.inR v 1 1000 = false ∨ Vbcsah.inR g 0 1 = false ∨ Vbcsah.inR t 0 999 = false) := by
        rw [is_office ho, show Vbcsah.inR n 1 Vbcsah.FORMS = true from inR_true hn, inR_true hv, inR_true hg, inR_true ht]; simp
      exact if_neg e1
    refine ⟨_, rfl, sa, dx, _, rfl, S.at_, rfl, _, rfl, wo, sa, h, dx, pn, pu, pt, pk, ns, i, p, _, rfl, S, hx, hp, fun on => ?_, fun on => ?_⟩
    · rw [on, if_neg (by decide)] at e2
      refine ⟨_, rfl, _, rfl, _, rfl, _, rfl, n, v, g, t, rfl, hn, by omega, by omega, by omega, fun ip H1 hip eH1 hit => ?_⟩
      generalize hmk : mkI n v g t = it at e2 eH1 hit
      subst eH1
      have f1 : Frm NoB wo wo H (upd H ip (.tup (itRow it))) := Frm.new hip
      have S1 := S.up f1 (fun z => z) (fun _ _ z => z) h90
      -- taken
      have zt : (tkK h.taken).length < sizeLine := by
        unfold tkK
        rw [List.length_map]
        have h1 := B.wf.tk; have h2 := B.r7
        have : sizeLine = 16777216 := by decide
        omega
      have eT : upd H ip (.tup (itRow it)) pt = some (.dT (tkK h.taken)) := S1.tk
      refine ⟨_, rfl, sa, _, dx, _, _, rfl, S1.at_, T.cl_Session, T.na_Session_taken, rfl, _, rfl, pt, _, rfl, DPut.t (k := itKey it) eT (by rw [itKey_row]; exact hit.at_) zt, ?_⟩
      rw [tk_put]
      have f2 : Frm (Own 100) wo wo (upd H ip (.tup (itRow it))) (upd (upd H ip (.tup (itRow it))) pt (.dT (tkK (Vbcsah.takenOnce h.taken it)))) := Frm.write eT (by intro z; exact z) (by rw [S.wT])
      have h0 : ¬ Own 100 0 := fun z => by cases z
      have n1 : sa ≠ pt := ne_own S.wS S.wT (by simp)
      have n2 : pu ≠ pt := ne_own S.wU S.wT (by simp)
      have n3 : pk ≠ pt := ne_own S.wK S.wT (by simp)
      obtain ⟨kvs, eF, aF⟩ := S1.fl
      have S2 := S1.own_step (h' := { h with taken := Vbcsah.takenOnce h.taken it }) f2 h90 rfl (upd_other n1 S1.at_) ⟨kvs, upd_other n2 eF, aF.imp fun _ _ r => r.up f2 h0⟩ upd_same (S1.ak.up f2.tup fun o h => upd_other n3 h)
      have hit2 := hit.up f2.tup
      have F2 : Frm Ses wo wo H (upd (upd H ip (.tup (itRow it))) pt (.dT (tkK (Vbcsah.takenOnce h.taken it)))) := (f1.mono fun _ z => z.elim).trans (f2.mono fun n (z : n = 100) => ⟨by omega, by omega⟩)
      generalize upd (upd H ip (.tup (itRow it))) pt (.dT (tkK (Vbcsah.takenOnce h.taken it))) = H2 at S2 hit2 F2
      -- it comes in
      obtain ⟨p2, hp2, N2⟩ := S2.nd i _ hx
      rw [hp] at hp2; cases hp2
      obtain ⟨xd2, pb2, pr2, po2, ps2, s02, s12, N2'⟩ := id N2
      refine ⟨_, rfl, p, xd2, _, rfl, N2'.at_, rfl, _, rfl, (by show 1 ≤ sizeLine; decide), fun l hl => ?_⟩
      have fl : Frm NoB wo wo H2 (upd H2 l (.lst [.ref ip])) := Frm.new hl
      refine ⟨wo, i + 1, p, l, _, [ip], [it], rfl, N2.up fl (fun z => z) (fun z => z), by omega, .inl upd_same, .cons (hit2.up fl.tup) .nil, fun w3 H3 N3 f3 => ?_⟩
      have hT90 : ({ h with taken := Vbcsah.takenOnce h.taken it } : Vbcsah.House).nodes.length ≤ 90 := h90
      have S3 := (S2.up fl (fun z => z) (fun _ _ z => z) hT90).node_step f3 hT90 hi hp N3
      have F3 : Frm Ses wo w3 H H3 := (F2.trans (fl.mono fun _ z => z.elim)).trans (f3.mono fun n (z : n = i + 1) => ⟨by omega, by omega⟩)
      have srt1 : Srt [it] := by simp [Srt]
      rw [come_filled wn.bk srt1] at S3 N3
      have eh : Vbcsah.setNode { h with taken := Vbcsah.takenOnce h.taken it } i (Vbcsah.filled (Vbcsah.node h i) [it]) = Vbcsah.take_ h i it := rfl
      rw [eh] at S3
      have en : Vbcsah.node (Vbcsah.take_ h i it) i = Vbcsah.filled (Vbcsah.node h i) [it] := by
        have : Vbcsah.node (Vbcsah.take_ h i it) i = Vbcsah.node (Vbcsah.setNode h i (Vbcsah.filled (Vbcsah.node h i) [it])) i := rfl
        rw [this, node_set_same hi]
      rw [en] at e2
      obtain ⟨xd3, pb3, pr3, po3, ps3, s03, s13, N3'⟩ := id N3
      have hit3 := (hit2.up fl.tup).up f3.tup
      refine ⟨_, rfl, p, xd3, _, rfl, N3'.at_, rfl, _, rfl, w3, i + 1, p, ip, pb3, xd3, pr3, po3, ps3, _, _, it, rfl, N3'.at_, N3'.book, hit3, _, rfl, ?_⟩
      have fin : ∀ z : Int, z = (Vbcsah.bit (Vbcsah.formOf (Vbcsah.filled (Vbcsah.node h i) [it]).memory.book it.number == some it) : Int) → [V.int z].length ≤ sizeLine ∧ ∀ t, H3 t = none → Q (.ref t) (upd H3 t (.lst [V.int z])) := fun z ez => by
        refine ⟨(by show 1 ≤ sizeLine; decide), fun t ht => ?_⟩
        refine kQ _ _ w3 _ t e2 (S3.up (Frm.new (k := NoB) ht) (fun z => z) (fun _ _ z => z) (by show (h.nodes.set i _).length ≤ 90; rw [List.length_set]; exact h90)) (F3.trans (Frm.new ht)) (fresh_of F3 ht) ?_
        rw [upd_same, ez]
        rfl
      cases c : (Vbcsah.formOf (Vbcsah.filled (Vbcsah.node h i) [it]).memory.book it.number == some it) with
      | true => exact iteT (fin 1 (by rw [c]; rfl))
      | false => exact iteF (fin 0 (by rw [c]; rfl))
    · rw [on, if_pos rfl] at e2
      exact kE 3 rfl wo H e2 S (Frm.refl _ _ _)
end
end Fo

-- FoSettle
/-! Settling, piece by piece: an office brings its forms, a centre keeps, a centre asks. -/
namespace Fo
open PySem PySem.Spec PyProof.Rows L2

/-! ### the specification -/
theorem at_post {h : House} (e0 : h.flight = []) (k s d : Nat) (l : Book) : Vbcsah.messageAt (Vbcsah.post h k s d l) (h.next : Int) = some (msgOf h k s d l) := by
  show (h.flight ++ [msgOf h k s d l]).find? (fun x => (x.number : Int) == (h.next : Int)) = _
  rw [e0]
  simp [msgOf]
theorem Wf.nodeAt {b m r : Nat} {h : House} (w : Wf b m r h) {i : Nat} (hi : i < h.offices + 2) : h.nodes[i]? = some (Vbcsah.node h i) := by
  have hl : i < h.nodes.length := by rw [w.len]; exact hi
  unfold Vbcsah.node
  rw [List.getD_eq_getElem?_getD, List.getElem?_eq_getElem hl]
  rfl
theorem Wf.h90 {b m r : Nat} {h : House} (w : Wf b m r h) : h.nodes.length ≤ 90 := by have := w.len; have := w.of4; omega
theorem posts_nums (i : Nat) (f : Nat → Book) : ∀ (os : List Nat) (h : House), (postAll i f os h).flight.map (fun m => m.number) = h.flight.map (fun m => m.number) ++ (List.range os.length).map fun k => h.next + k
  | [], h => by simp [postAll]
  | o :: os, h => by
    have e : postAll i f (o :: os) h = postAll i f os (Vbcsah.post h 2 i o (f o)) := rfl
    rw [e, posts_nums i f os]
    show (h.flight ++ [_]).map _ ++ (List.range os.length).map (fun k => h.next + 1 + k) = _
    rw [List.map_append, List.append_assoc, List.length_cons, List.range_succ_eq_map]
    congr 1
    show h.next :: (List.range os.length).map (fun k => h.next + 1 + k) = (h.next + 0) :: ((List.range os.length).map Nat.succ).map (fun k => h.next + k)
    rw [List.map_map]
    congr 1
    exact List.map_congr_left fun k _ => by show h.next + 1 + k = h.next + (k + 1); omega
theorem ack_turn {b m r : Nat} {g : House} (w : Wf b m r g) (k2 : ∀ x ∈ g.flight, x.kind = 2) : ∀ j, j ≤ g.flight.length →
    Wf b m (r + j * m) ((g.flight.take j).foldl Vbcsah.deliver g) ∧ ((g.flight.take j).foldl Vbcsah.deliver g).flight = g.flight.drop j
  | 0, _ => by
    rw [List.take_zero, List.drop_zero]
    exact ⟨w.mono (Nat.le_refl _) (Nat.le_refl _) (by omega), rfl⟩
  | j + 1, hj => by
    have hlt : j < g.flight.length := hj
    obtain ⟨wj, ej⟩ := ack_turn w k2 j (Nat.le_of_lt hlt)
    have et : g.flight.take (j + 1) = g.flight.take j ++ [g.flight[j]] := (List.take_append_getElem hlt).symm
    rw [et, List.foldl_append, List.foldl_cons, List.foldl_nil]
    generalize (g.flight.take j).foldl Vbcsah.deliver g = gj at *
    rw [List.drop_eq_getElem_cons hlt] at ej
    have hx : g.flight[j] ∈ gj.flight := by rw [ej]; exact List.mem_cons_self ..
    have kx := k2 _ (List.getElem_mem hlt)
    refine ⟨?_, ?_⟩
    · have := (wj.without g.flight[j].number).comes2 (wj.fl _ hx) kx
      rw [Nat.succ_mul, ← Nat.add_assoc]
      exact this
    · show (Vbcsah.comes (Vbcsah.without gj g.flight[j].number) g.flight[j]).flight = _
      rw [(comes_flight (by omega) (.inr (.inl kx))).1, without_head wj.nu ej]
theorem ask_next {b m r : Nat} {h : House} (C : Calm b m r h) {c : Nat} (hc : c < h.offices + 2) :
    let g := Vbcsah.deliver (Vbcsah.asks h c) (msgOf h 3 c (Vbcsah.otherCentre h c) (Vbcsah.node h c).memory.book)
    Wf b m r g ∧ ((g.flight = [] ∧ g.next = h.next + 1) ∨ (∃ l, g.flight = [{ number := h.next + 1, kind := 4, src := Vbcsah.otherCentre h c, dst := c, items := l }] ∧ g.next = h.next + 2)) := by
  obtain ⟨w, e0⟩ := C
  have bk := (w.node hc).bk
  have hdl : Vbcsah.otherCentre h c < h.offices + 2 := other_lt
  have hx : WfM h.offices m (msgOf h 3 c (Vbcsah.otherCentre h c) (Vbcsah.node h c).memory.book) := ⟨.inr (.inr (.inl rfl)), hc, hdl, (fun z => by cases z), fun _ => bk, Nat.le_trans (okB_len bk) w.m20⟩
  have wp : Wf b m r (Vbcsah.asks h c) := w.post hx
  have ef : (Vbcsah.asks h c).flight = [msgOf h 3 c (Vbcsah.otherCentre h c) (Vbcsah.node h c).memory.book] := by show h.flight ++ [_] = [_]; rw [e0]; rfl
  have ew : (Vbcsah.without (Vbcsah.asks h c) (msgOf h 3 c (Vbcsah.otherCentre h c) (Vbcsah.node h c).memory.book).number).flight = [] := without_head wp.nu ef
  have w0 : Wf b m r (Vbcsah.without (Vbcsah.asks h c) (msgOf h 3 c (Vbcsah.otherCentre h c) (Vbcsah.node h c).memory.book).number) := wp.without _
  have en : (Vbcsah.without (Vbcsah.asks h c) (msgOf h 3 c (Vbcsah.otherCentre h c) (Vbcsah.node h c).memory.book).number).next = h.next + 1 := rfl
  intro g
  have ed : g = Vbcsah.comes (Vbcsah.without (Vbcsah.asks h c) (msgOf h 3 c (Vbcsah.otherCentre h c) (Vbcsah.node h c).memory.book).number) (msgOf h 3 c (Vbcsah.otherCentre h c) (Vbcsah.node h c).memory.book) := rfl
  refine ⟨w0.comes3 hx rfl, ?_⟩
  rw [ed]
  clear ed
  clear g
  generalize Vbcsah.without (Vbcsah.asks h c) (msgOf h 3 c (Vbcsah.otherCentre h c) (Vbcsah.node h c).memory.book).number = g at *
  cases on : (Vbcsah.node g (msgOf h 3 c (Vbcsah.otherCentre h c) (Vbcsah.node h c).memory.book).dst).on with
  | false => rw [comes_off on]; exact .inl ⟨ew, en⟩
  | true =>
    rw [comes_k3 on rfl]
    split
    · exact .inl ⟨ew, en⟩
    · refine .inr ⟨Vbcsah.news (Vbcsah.node g (Vbcsah.otherCentre h c)).memory.book (Vbcsah.node h c).memory.book, ?_, ?_⟩
      · show g.flight ++ [_] = _
        rw [ew, en]; rfl
      · show g.next + 1 = _
        rw [en]

section
variable {P : Program} {w : World} {K : PySem.W.Frag} {mg : Str → Option Value} {base : Heap} {a : Ad}
theorem truth_its {ps : List Addr} {R : Addr → Item → Prop} {l : List Item} (h : Al R ps l) : (ps.map V.ref).isEmpty = l.isEmpty := by
  cases h <;> rfl

/-! ### an office brings its forms -/
def sp_bring_forms (P : Program) (w : World) (a : Ad) : Sp := fun vs H Q _ => ∃ (wo : Ow) (sa : Addr) (h : House) (dx pn pu pt pk : Addr) (ns : List Addr) (o c b r : Nat), vs = [.ref sa, .int (o : Int), .int (c : Int)] ∧ SesA P w a wo H sa h dx pn pu pt pk ns ∧
  Calm b 4080 r h ∧ o < h.offices ∧ c < h.offices + 2 ∧ b + 20 ≤ LIM ∧ r + 4080 ≤ LIM ∧ ∀ w' H', SesA P w a w' H' sa (Vbcsah.deliverAll Vbcsah.MANY (Vbcsah.sends h o c)) dx pn pu pt pk ns → Frm Ses wo w' H H' → Q .non H'
theorem ok_bring_forms (T : Txt K mg a) : FnOk P w K mg base CX0 5 a.f_bring_forms a.d_bring_forms ["session", "office", "centre"] (sp_bring_forms P w a) := by
  refine T.F_bring_forms.ok sc_bring_forms (fun vs H Q E h => ?_) (fun cdv A outer s H vs Q E hr h => ⟨_, (pss_one (ps_if (pt_truth (pe_meth (pe_ix ix_list (pe_fld (pv 0) rfl) (pv 1) (fun _ _ => rfl)) T.cl_Node T.m_Node_items_without_receipt (ok_Node_items_without_receipt T) (hr.mono (by decide)) T.b_Node_items_without_receipt .nil pass0 (pa_cons (pv 2) pa_nil)) (by intro _; rfl))
    (pss_one (ps_expr (pe_call (ok_let_come T) hr rfl T.g_let_come T.F_let_come.kp T.b_let_come .nil pass0 (pa_cons (pv 0) (pa_cons (pe_call (ok_send_forms T) (hr.mono (by decide)) rfl T.g_send_forms T.F_send_forms.kp T.b_send_forms .nil pass0 (pa_cons (pv 0) (pa_cons (pv 1) (pa_cons (pv 2) pa_nil)))) pa_nil)))))
    pss_nil)), ?_⟩)
  · obtain ⟨wo, sa, h, dx, pn, pu, pt, pk, ns, o, c, b, r, rfl, _⟩ := h; rfl
  · obtain ⟨wo, sa, h, dx, pn, pu, pt, pk, ns, o, c, b, r, rfl, S, C, ho, hc, hb, hr', k⟩ := h
    rw [send_one C ho hc] at k
    have W := C.wf
    have h90 := W.h90
    have hx := W.nodeAt (i := o) (by omega)
    have wn := W.node (i := o) (by omega)
    obtain ⟨p, hp, N⟩ := S.nd o _ hx
    obtain ⟨xd, pb, pr, po, pss, s0, s1, N'⟩ := id N
    refine ⟨_, rfl, sa, _, dx, _, _, rfl, S.at_, T.cl_Session, T.na_Session_nodes, rfl, _, rfl, pn, _, _, _, rfl, rfl, SqL.of S.nodes, ix_at rfl (by rw [List.getElem?_map, hp]; rfl), ?_⟩
    refine ⟨p, xd, _, rfl, N'.at_, rfl, _, rfl, wo, o + 1, p, c, _, rfl, N, wn.bk, ?_⟩
    rintro H1 q1 ⟨sm, hq1, its, eN, aN⟩
    have f1 : Frm NoB wo wo H H1 := Frm.same sm
    have F1 : Frm Ses wo wo H H1 := f1.mono fun _ z => z.elim
    have S1 := S.up f1 (fun z => z) (fun _ _ z => z) h90
    refine ⟨_, .inl ⟨_, SqL.of eN, rfl⟩, ?_⟩
    rw [truth_its aN]
    cases ce : (Vbcsah.open_ (Vbcsah.node h o) c).isEmpty with
    | true =>
      rw [ce, if_pos rfl] at k
      exact iteF (k wo H1 S1 F1)
    | false =>
      rw [ce, if_neg (by decide)] at k
      have okl : OkB (Vbcsah.open_ (Vbcsah.node h o) c) := filter_okB wn.bk
      generalize hl : Vbcsah.open_ (Vbcsah.node h o) c = l at *
      have hm : WfM h.offices 4080 (msgOf h 1 o c l) := ⟨.inl rfl, by show o < _; omega, hc, fun _ => ho, fun _ => okl, Nat.le_trans (okB_len okl) W.m20⟩
      have wp : Wf b 4080 r (Vbcsah.post h 1 o c l) := W.post hm
      have fl0 : h.flight.length = 0 := by rw [C.none_]; rfl
      refine iteT ⟨_, rfl, _, rfl, _, rfl, _, rfl, wo, sa, h, dx, pn, pu, pt, pk, ns, o, c, p, _, rfl, S1, hx, hp, wn.bk, W.nu, by omega, h90, fun w2 H2 S2 F2 => ?_⟩
      rw [hl] at S2
      refine ⟨w2, sa, _, dx, pn, pu, pt, pk, ns, (h.next : Int), msgOf h 1 o c l, b, 4080, r, rfl, S2, at_post C.none_ 1 o c l, wp, hr', hb, ?_, fun w3 H3 q3 S3 F3 _ _ => ?_⟩
      · show (h.flight ++ [_]).length ≤ 900
        rw [List.length_append, fl0]; show 0 + 1 ≤ 900; decide
      · exact k w3 H3 S3 ((F1.trans F2).trans F3)

/-! ### a centre keeps, its receipts come -/
def sp_keep_ack (P : Program) (w : World) (a : Ad) : Sp := fun vs H Q _ => ∃ (wo : Ow) (sa : Addr) (h : House) (dx pn pu pt pk : Addr) (ns : List Addr) (c b r : Nat), vs = [.ref sa, .int (c : Int)] ∧ SesA P w a wo H sa h dx pn pu pt pk ns ∧
  Calm b 4080 r h ∧ c < h.offices + 2 ∧ b ≤ 4080 ∧ r + 24480 ≤ LIM ∧ ∀ w' H', SesA P w a w' H' sa (Vbcsah.deliverAll Vbcsah.MANY (Vbcsah.keeps h c)) dx pn pu pt pk ns → Frm Ses wo w' H H' → Q .non H'
theorem cut_tail (x : Int) (l : List Int) : cutV ((x :: l).map V.int) (some 1) none = l.map V.int := by
  unfold cutV
  rw [show (1 : Int) = ((1 : Nat) : Int) from rfl, HT.sIx_nat]
  simp [HT.sIx]
  exact List.take_of_length_le (by simp)
theorem ok_keep_and_acknowledge (T : Txt K mg a) : FnOk P w K mg base CX0 5 a.f_keep_and_acknowledge a.d_keep_and_acknowledge ["session", "centre"] (sp_keep_ack P w a) := by
  refine T.F_keep_and_acknowledge.ok sc_keep_and_acknowledge (fun vs H Q E h => ?_) (fun cdv A outer s H vs Q E hr h => ⟨_, (pss_one (ps_for PassesOwn.never rfl (pi_list (pe_slice sl_list (pe_call (ok_keep_memory T) hr rfl T.g_keep_memory T.F_keep_memory.kp T.b_keep_memory .nil pass0 (pa_cons (pv 0) (pa_cons (pv 1) pa_nil))) (po_some pe_int) po_none)) (pg_name (i := 2) sc_keep_and_acknowledge.nd rfl (Or.inl rfl))
    (pss_one (ps_expr (pe_call (ok_let_come T) hr rfl T.g_let_come T.F_let_come.kp T.b_let_come .nil pass0 (pa_cons (pv 0) (pa_cons (pv 2) pa_nil))))))), ?_⟩)
  · obtain ⟨wo, sa, h, dx, pn, pu, pt, pk, ns, c, b, r, rfl, _⟩ := h; rfl
  · obtain ⟨wo, sa, h, dx, pn, pu, pt, pk, ns, c, b, r, rfl, S, C, hc, hb, hr', k⟩ := h
    have W := C.wf
    have h90 := W.h90
    have hx := W.nodeAt hc
    have wn := W.node hc
    have fl0 : h.flight.length = 0 := by rw [C.none_]; rfl
    obtain ⟨p, hp, N⟩ := S.nd c _ hx
    have lo := owedOffices_le h (Vbcsah.node h c)
    have o4 := W.of4
    have wk : Wf b 4080 r (Vbcsah.keeps h c) := W.keeps hc hb
    have k2 : ∀ x ∈ (Vbcsah.keeps h c).flight, x.kind = 2 := fun x hx => by
      rw [keeps_eq] at hx
      rcases postAll_flight _ _ _ _ x hx with z | z
      · rw [show (Vbcsah.setNode h c { Vbcsah.kept (Vbcsah.node h c) with owed := [] }).flight = h.flight from rfl, C.none_] at z; cases z
      · exact z.1
    have en : (Vbcsah.keeps h c).flight.map (fun m => m.number) = (List.range (Vbcsah.owedOffices h (Vbcsah.node h c)).length).map fun k => h.next + k := by
      rw [keeps_eq, posts_nums]
      rw [show (Vbcsah.setNode h c { Vbcsah.kept (Vbcsah.node h c) with owed := [] }).flight = h.flight from rfl, C.none_]
      rfl
    generalize hn : (Vbcsah.owedOffices h (Vbcsah.node h c)).length = n at *
    have lk : (Vbcsah.keeps h c).flight.length = n := by have := congrArg List.length en; simpa using this
    have ek : Vbcsah.deliverAll Vbcsah.MANY (Vbcsah.keeps h c) = (Vbcsah.keeps h c).flight.foldl Vbcsah.deliver (Vbcsah.keeps h c) := acks_fold _ wk k2 (by rw [lk]; show n ≤ 200; omega)
    have turn := ack_turn wk k2
    rw [ek] at k
    refine ⟨_, rfl, _, rfl, wo, sa, h, dx, pn, pu, pt, pk, ns, c, p, _, rfl, S, hx, hp, wn.oo, o4, by have := wn.ol; omega, W.nu, W.nx, by omega, h90, fun w1 H1 q1 S1 F1 hq1 wq1 eq1 => ?_⟩
    rw [hn] at eq1
    generalize Vbcsah.keeps h c = g at *
    refine ⟨_, rfl, q1, _, rfl, SqL.of eq1, fun q2 hq2 => ?_⟩
    rw [show keptNums h (Vbcsah.node h c) n = ((Vbcsah.seqOf (Vbcsah.readSlot (Vbcsah.node h c)) : Nat) + 1 : Int) :: (List.range n).map (fun k : Nat => ((h.next + k : Nat) : Int)) from rfl, cut_tail]
    have eq2 : upd H1 q2 (.lst (((List.range n).map (fun k : Nat => ((h.next + k : Nat) : Int))).map V.int)) q2 = some (.lst (((List.range n).map (fun k : Nat => ((h.next + k : Nat) : Int))).map V.int)) := upd_same
    have f2 : Frm NoB w1 (setW w1 q2 (200, 5)) H1 (upd H1 q2 (.lst (((List.range n).map (fun k : Nat => ((h.next + k : Nat) : Int))).map V.int))) := Frm.laid (200, 5) hq2
    have wq2 : setW w1 q2 (200, 5) q2 = (200, 5) := setW_same
    have S2 := S1.up f2 (fun z => z) (fun _ _ z => z) wk.h90
    have F2 : Frm Ses wo (setW w1 q2 (200, 5)) H _ := F1.trans (f2.mono fun _ z => z.elim)
    generalize setW w1 q2 (200, 5) = w2 at *
    generalize upd H1 q2 (.lst (((List.range n).map (fun k : Nat => ((h.next + k : Nat) : Int))).map V.int)) = H2 at *
    refine ⟨q2, rfl, ⟨_, SqL.of eq2⟩, for_list (K := K) (a := q2) (xs := ((List.range n).map (fun k : Nat => ((h.next + k : Nat) : Int))).map V.int) (fun j σ H' => ∃ (wj : Ow) (v : Option V), σ = [some (.ref sa), some (.int (c : Int)), v] ∧
      SesA P w a wj H' sa ((g.flight.take j).foldl Vbcsah.deliver g) dx pn pu pt pk ns ∧ Frm Ses w2 wj H2 H')
      ⟨w2, none, rfl, S2, Frm.refl _ _ _⟩ (fun j σ H' _ ⟨_, _, _, _, f⟩ => SqL.of (f.keep _ _ eq2 (by rw [wq2]; exact fun z => absurd z.2 (by decide)))) ?_ ?_⟩
    · rintro j y σ H' hy ⟨wj, v, rfl, Sj, Fj⟩
      obtain ⟨z, hz, rfl⟩ := ints_get hy
      rw [List.getElem?_map] at hz
      obtain ⟨j', hj', rfl⟩ := Option.map_eq_some_iff.mp hz
      have hjn : j < n := by have := (List.getElem?_eq_some_iff.mp hj').1; rwa [List.length_range] at this
      rw [List.getElem?_range hjn] at hj'
      cases hj'
      have hjl : j < g.flight.length := by omega
      obtain ⟨wt, et⟩ := turn j (Nat.le_of_lt hjl)
      have enj : g.flight[j].number = h.next + j := by
        have h1 := congrArg (fun l : List Nat => l[j]?) en
        simp only [List.getElem?_map, List.getElem?_eq_getElem hjl, List.getElem?_range hjn, Option.map_some, Option.some.injEq] at h1
        exact h1
      have et2 : g.flight.take (j + 1) = g.flight.take j ++ [g.flight[j]] := (List.take_append_getElem hjl).symm
      have hfold : (g.flight.take (j + 1)).foldl Vbcsah.deliver g = Vbcsah.deliver ((g.flight.take j).foldl Vbcsah.deliver g) g.flight[j] := by rw [et2, List.foldl_append]; rfl
      rw [hfold]
      clear hfold
      rw [List.drop_eq_getElem_cons hjl] at et
      generalize (g.flight.take j).foldl Vbcsah.deliver g = gj at *
      have hat : Vbcsah.messageAt gj ((h.next + j : Nat) : Int) = some g.flight[j] := by
        show gj.flight.find? _ = _
        rw [et, List.find?_cons]
        have : ((g.flight[j].number : Int) == ((h.next + j : Nat) : Int)) = true := by rw [enj]; simp
        rw [this]
      have j5 : j * 4080 ≤ 4 * 4080 := Nat.mul_le_mul_right _ (by omega)
      have lg : gj.flight.length ≤ 900 := by
        have := congrArg List.length et
        rw [← List.drop_eq_getElem_cons hjl, List.length_drop] at this
        omega
      refine ⟨_, rfl, _, rfl, wj, sa, gj, dx, pn, pu, pt, pk, ns, _, g.flight[j], b, 4080, r + j * 4080, rfl, Sj, hat, wt, by omega, by show b + 20 ≤ 8000000; omega, lg, fun w3 H3 q3 S3 F3 _ _ => ?_⟩
      exact ⟨w3, _, rfl, S3, Fj.trans F3⟩
    · rintro σ H' ⟨wj, v, rfl, Sj, Fj⟩
      rw [List.length_map, List.length_map, List.length_range, ← lk, List.take_length] at Sj
      exact k wj H' Sj (F2.trans Fj)

/-! ### a centre asks, what is sent back comes -/
def sp_ask_fill (P : Program) (w : World) (a : Ad) : Sp := fun vs H Q _ => ∃ (wo : Ow) (sa : Addr) (h : House) (dx pn pu pt pk : Addr) (ns : List Addr) (c b r : Nat), vs = [.ref sa, .int (c : Int)] ∧ SesA P w a wo H sa h dx pn pu pt pk ns ∧
  Calm b 4080 r h ∧ h.offices ≤ c ∧ c < h.offices + 2 ∧ b + 20 ≤ LIM ∧ r + 4080 ≤ LIM ∧ ∀ w' H', SesA P w a w' H' sa (Vbcsah.deliverAll Vbcsah.MANY (Vbcsah.asks h c)) dx pn pu pt pk ns → Frm Ses wo w' H H' → Q .non H'
theorem ok_ask_and_fill (T : Txt K mg a) : FnOk P w K mg base CX0 5 a.f_ask_and_fill a.d_ask_and_fill ["session", "centre"] (sp_ask_fill P w a) := by
  refine T.F_ask_and_fill.ok sc_ask_and_fill (fun vs H Q E h => ?_) (fun cdv A outer s H vs Q E hr h => ⟨_, (pss_one (ps_for PassesOwn.never rfl (pi_list (pe_slice sl_list (pe_call (ok_let_come T) hr rfl T.g_let_come T.F_let_come.kp T.b_let_come .nil pass0 (pa_cons (pv 0) (pa_cons (pe_call (ok_send_summary T) (hr.mono (by decide)) rfl T.g_send_summary T.F_send_summary.kp T.b_send_summary .nil pass0 (pa_cons (pv 0) (pa_cons (pv 1) pa_nil))) pa_nil))) (po_some pe_int) po_none)) (pg_name (i := 2) sc_ask_and_fill.nd rfl (Or.inl rfl))
    (pss_one (ps_expr (pe_call (ok_let_come T) hr rfl T.g_let_come T.F_let_come.kp T.b_let_come .nil pass0 (pa_cons (pv 0) (pa_cons (pv 2) pa_nil))))))), ?_⟩)
  · obtain ⟨wo, sa, h, dx, pn, pu, pt, pk, ns, c, b, r, rfl, _⟩ := h; rfl
  · obtain ⟨wo, sa, h, dx, pn, pu, pt, pk, ns, c, b, r, rfl, S, C, hc1, hc, hb, hr', k⟩ := h
    have W := C.wf
    have h90 := W.h90
    have hx := W.nodeAt hc
    have wn := W.node hc
    have fl0 : h.flight.length = 0 := by rw [C.none_]; rfl
    obtain ⟨p, hp, N⟩ := S.nd c _ hx
    have a2 := (ask_two C hc).1
    obtain ⟨wg, an⟩ := ask_next C hc
    have wa := W.asks hc
    rw [a2] at k
    refine ⟨_, rfl, _, rfl, _, rfl, wo, sa, h, dx, pn, pu, pt, pk, ns, c, p, _, rfl, by omega, by omega, S, hx, hp, wn.bk, W.nu, by omega, h90, fun w1 H1 S1 F1 => ?_⟩
    refine ⟨w1, sa, Vbcsah.asks h c, dx, pn, pu, pt, pk, ns, (h.next : Int), msgOf h 3 c (Vbcsah.otherCentre h c) (Vbcsah.node h c).memory.book, b, 4080, r, rfl, S1, at_post C.none_ 3 c _ _, wa, hr', hb, ?_, fun w2 H2 q2 S2 F2 hq2 eq2 => ?_⟩
    · show (h.flight ++ [_]).length ≤ 900
      rw [List.length_append, fl0]; show 0 + 1 ≤ 900; decide
    have F12 := F1.trans F2
    have er : deliverRow (Vbcsah.asks h c) (msgOf h 3 c (Vbcsah.otherCentre h c) (Vbcsah.node h c).memory.book) = (Vbcsah.bit (Vbcsah.node (Vbcsah.asks h c) (msgOf h 3 c (Vbcsah.otherCentre h c) (Vbcsah.node h c).memory.book).dst).on : Int) :: (if (Vbcsah.deliver (Vbcsah.asks h c) (msgOf h 3 c (Vbcsah.otherCentre h c) (Vbcsah.node h c).memory.book)).next = h.next + 1 then [] else [((h.next + 1 : Nat) : Int)]) := rfl
    rw [er] at eq2
    generalize (Vbcsah.bit (Vbcsah.node (Vbcsah.asks h c) (msgOf h 3 c (Vbcsah.otherCentre h c) (Vbcsah.node h c).memory.book).dst).on : Int) = on at *
    generalize Vbcsah.deliver (Vbcsah.asks h c) (msgOf h 3 c (Vbcsah.otherCentre h c) (Vbcsah.node h c).memory.book) = g at *
    refine ⟨_, rfl, q2, _, rfl, SqL.of eq2, fun q3 hq3 => ?_⟩
    rw [cut_tail]
    generalize hnums : (if g.next = h.next + 1 then [] else [((h.next + 1 : Nat) : Int)]) = nums at *
    have eq3 : upd H2 q3 (.lst (nums.map V.int)) q3 = some (.lst (nums.map V.int)) := upd_same
    have f3 : Frm NoB w2 (setW w2 q3 (200, 5)) H2 (upd H2 q3 (.lst (nums.map V.int))) := Frm.laid (200, 5) hq3
    have wq3 : setW w2 q3 (200, 5) q3 = (200, 5) := setW_same
    have S3 := S2.up f3 (fun z => z) (fun _ _ z => z) wg.h90
    have F3 : Frm Ses wo (setW w2 q3 (200, 5)) H _ := F12.trans (f3.mono fun _ z => z.elim)
    generalize setW w2 q3 (200, 5) = w3 at *
    generalize upd H2 q3 (.lst (nums.map V.int)) = H3 at *
    have kq : ¬ Ses (w3 q3).1 := by rw [wq3]; exact fun z => absurd z.2 (by decide)
    rcases an with ⟨e0, en⟩ | ⟨l, e1, en⟩
    · rw [e0] at k
      rw [if_pos en] at hnums
      subst hnums
      refine ⟨q3, rfl, ⟨_, SqL.of eq3⟩, for_list (K := K) (a := q3) (xs := ([] : List Int).map V.int) (fun j σ H' => SesA P w a w3 H' sa g dx pn pu pt pk ns ∧ H' = H3) ⟨S3, rfl⟩ (fun j σ H' _ h => by rw [h.2]; exact SqL.of eq3) (fun j y σ H' hy => by simp at hy) ?_⟩
      rintro σ H' ⟨S4, rfl⟩
      exact k w3 H' S4 F3
    · rw [e1] at k
      rw [if_neg (by omega)] at hnums
      subst hnums
      have hmem : ({ number := h.next + 1, kind := 4, src := Vbcsah.otherCentre h c, dst := c, items := l } : MsgS) ∈ g.flight := by rw [e1]; exact List.mem_cons_self ..
      have hat : Vbcsah.messageAt g ((h.next + 1 : Nat) : Int) = some { number := h.next + 1, kind := 4, src := Vbcsah.otherCentre h c, dst := c, items := l } := by
        show g.flight.find? _ = _
        rw [e1, List.find?_cons]
        simp
      have lg : g.flight.length ≤ 900 := by rw [e1]; show 1 ≤ 900; decide
      generalize ({ number := h.next + 1, kind := 4, src := Vbcsah.otherCentre h c, dst := c, items := l } : MsgS) = m at *
      refine ⟨q3, rfl, ⟨_, SqL.of eq3⟩, for_list (K := K) (a := q3) (xs := ([((h.next + 1 : Nat) : Int)] : List Int).map V.int) (fun j σ H' => ∃ (wj : Ow) (v : Option V), σ = [some (.ref sa), some (.int (c : Int)), v] ∧ SesA P w a wj H' sa (if j = 0 then g else Vbcsah.deliver g m) dx pn pu pt pk ns ∧ Frm Ses w3 wj H3 H')
        ⟨w3, none, rfl, S3, Frm.refl _ _ _⟩ (fun j σ H' _ ⟨_, _, _, _, f⟩ => SqL.of (f.keep _ _ eq3 kq)) ?_ ?_⟩
      · rintro j y σ H' hy ⟨wj, v, rfl, Sj, Fj⟩
        have j0 : j = 0 := by
          have := (List.getElem?_eq_some_iff.mp hy).1
          simp at this
          exact this
        subst j0
        cases hy
        rw [if_pos rfl] at Sj
        refine ⟨_, rfl, _, rfl, wj, sa, g, dx, pn, pu, pt, pk, ns, _, m, b, 4080, r, rfl, Sj, hat, wg, hr', hb, lg, fun w4 H4 q4 S4 F4 _ _ => ?_⟩
        exact ⟨w4, _, rfl, by rw [if_neg (by omega)]; exact S4, Fj.trans F4⟩
      · rintro σ H' ⟨wj, v, rfl, Sj, Fj⟩
        rw [if_neg (by simp)] at Sj
        exact k wj H' Sj (F3.trans Fj)
end
end Fo

-- FoSettle2
/-! All is settled. Printed by a program of mine. -/
namespace Fo
open PySem PySem.Spec PyProof.Rows L2

/-! ### the specification -/
theorem comes_next (h : House) (x : MsgS) : h.next ≤ (Vbcsah.comes h x).next := by
  unfold Vbcsah.comes
  dsimp only
  repeat' split
  all_goals first
    | exact Nat.le_refl _
    | exact Nat.le_succ _
theorem all_next : ∀ (n : Nat) (h : House), h.next ≤ (Vbcsah.deliverAll n h).next
  | 0, h => Nat.le_refl _
  | n + 1, h => by
    cases e : h.flight with
    | nil => rw [deliverAll_nil e]; exact Nat.le_refl _
    | cons x l =>
      rw [deliverAll_cons e]
      exact Nat.le_trans (comes_next (Vbcsah.without h x.number) x) (all_next n _)
theorem fold_next {α : Type} (f : House → α → House) (hf : ∀ g x, g.next ≤ (f g x).next) : ∀ (l : List α) (h : House), h.next ≤ (l.foldl f h).next
  | [], h => Nat.le_refl _
  | x :: l, h => Nat.le_trans (hf h x) (fold_next f hf l (f h x))
theorem sends_next (h : House) (o c : Nat) : h.next ≤ (Vbcsah.sends h o c).next := by
  unfold Vbcsah.sends
  dsimp only
  split
  · exact Nat.le_refl _
  · exact Nat.le_succ _
theorem keeps_next (h : House) (i : Nat) : h.next ≤ (Vbcsah.keeps h i).next := by
  rw [keeps_eq, (postAll_nodes _ _ _ _).2.2.2.2.1]
  exact Nat.le_add_right _ _
theorem settled_next {b r : Nat} {h : House} (W : Wf b 4080 r h) : h.next ≤ (Vbcsah.settled h).next := by
  have an : ∀ i ∈ Vbcsah.allNodes h, i < h.offices + 2 := fun i hi => List.mem_range.mp hi
  have e1 : Vbcsah.settled h = (Vbcsah.allNodes h).foldl Vbcsah.keeps ((Vbcsah.centres h).foldl (fun g c => Vbcsah.deliverAll Vbcsah.MANY (Vbcsah.asks g c)) ((Vbcsah.centres h).foldl (fun g c => Vbcsah.deliverAll Vbcsah.MANY (Vbcsah.keeps g c)) (officesSend h (List.range h.offices) { litAll (Vbcsah.allNodes h) h with flight := [] }))) := rfl
  rw [e1]
  refine Nat.le_trans ?_ (fold_next _ keeps_next _ _)
  refine Nat.le_trans ?_ (fold_next _ (fun g c => Nat.le_trans (Nat.le_succ _) (all_next _ (Vbcsah.asks g c))) _ _)
  refine Nat.le_trans ?_ (fold_next _ (fun g c => Nat.le_trans (keeps_next g c) (all_next _ _)) _ _)
  refine Nat.le_trans ?_ (fold_next _ (fun g o => fold_next _ (fun g c => Nat.le_trans (sends_next g o c) (all_next _ _)) _ _) _ _)
  exact Nat.le_of_eq (W.litAll _ an).2.2.1.symm
theorem litAll_succ (j : Nat) (h : House) : litAll (List.range (j + 1)) h = if (Vbcsah.node (litAll (List.range j) h) j).on = true then litAll (List.range j) h else Vbcsah.setNode (litAll (List.range j) h) j (Vbcsah.lit (Vbcsah.node (litAll (List.range j) h) j)) := by
  unfold litAll
  rw [List.range_succ, List.foldl_append]
  rfl
theorem sends_all {m r : Nat} {o : Nat} : ∀ (l : List Nat) {B : Nat} {h : House}, Calm B m r h → o < h.offices → (∀ c ∈ l, c < h.offices + 2) →
    Calm (B + 20 * l.length) m r (l.foldl (fun g c => Vbcsah.deliverAll Vbcsah.MANY (Vbcsah.sends g o c)) h) ∧ (l.foldl (fun g c => Vbcsah.deliverAll Vbcsah.MANY (Vbcsah.sends g o c)) h).offices = h.offices
  | [], B, h, C, _, _ => ⟨C, rfl⟩
  | c :: l, B, h, C, ho, hl => by
    obtain ⟨C1, o1, _⟩ := sends_calm C ho (hl c (List.mem_cons_self ..))
    obtain ⟨C2, o2⟩ := sends_all l C1 (by rw [o1]; exact ho) fun d hd => by rw [o1]; exact hl d (List.mem_cons_of_mem _ hd)
    rw [List.length_cons, show B + 20 * (l.length + 1) = B + 20 + 20 * l.length by omega]
    exact ⟨C2, o2.trans o1⟩
theorem keeps_all {m b : Nat} (hb : b ≤ m) : ∀ (l : List Nat) {r : Nat} {h : House}, Calm b m r h → (∀ c ∈ l, c < h.offices + 2) →
    Calm b m (r + 4 * m * l.length) (l.foldl (fun g c => Vbcsah.deliverAll Vbcsah.MANY (Vbcsah.keeps g c)) h) ∧ (l.foldl (fun g c => Vbcsah.deliverAll Vbcsah.MANY (Vbcsah.keeps g c)) h).offices = h.offices
  | [], r, h, C, _ => ⟨C, rfl⟩
  | c :: l, r, h, C, hl => by
    obtain ⟨C1, o1, _⟩ := keeps_calm C (hl c (List.mem_cons_self ..)) hb
    obtain ⟨C2, o2⟩ := keeps_all hb l C1 fun d hd => by rw [o1]; exact hl d (List.mem_cons_of_mem _ hd)
    rw [List.length_cons, show r + 4 * m * (l.length + 1) = r + 4 * m + 4 * m * l.length by rw [Nat.mul_succ]; omega]
    exact ⟨C2, o2.trans o1⟩
theorem asks_all {m b r : Nat} : ∀ (l : List Nat) {h : House}, Calm b m r h → (∀ c ∈ l, c < h.offices + 2) →
    Calm b m r (l.foldl (fun g c => Vbcsah.deliverAll Vbcsah.MANY (Vbcsah.asks g c)) h) ∧ (l.foldl (fun g c => Vbcsah.deliverAll Vbcsah.MANY (Vbcsah.asks g c)) h).offices = h.offices
  | [], h, C, _ => ⟨C, rfl⟩
  | c :: l, h, C, hl => by
    obtain ⟨C1, o1, _⟩ := asks_calm C (hl c (List.mem_cons_self ..))
    obtain ⟨C2, o2⟩ := asks_all l C1 fun d hd => by rw [o1]; exact hl d (List.mem_cons_of_mem _ hd)
    exact ⟨C2, o2.trans o1⟩
theorem ctrs_at {h : House} {j : Nat} {z : Int} (e : (ctrs h.offices)[j]? = some z) : ∃ c : Nat, z = (c : Int) ∧ (Vbcsah.centres h)[j]? = some c ∧ h.offices ≤ c ∧ c < h.offices + 2 := by
  match j, e with
  | 0, e => cases e; exact ⟨h.offices, rfl, rfl, by omega, by omega⟩
  | 1, e => cases e; exact ⟨h.offices + 1, by omega, rfl, by omega, by omega⟩
  | j + 2, e => simp [ctrs] at e
theorem ctr_mem {h : House} {n : Nat} : ∀ c ∈ (Vbcsah.centres h).take n, c < h.offices + 2 := fun c hc => by
  have := List.mem_of_mem_take hc
  simp only [Vbcsah.centres, List.mem_cons, List.not_mem_nil, or_false] at this
  omega

section
variable {P : Program} {w : World} {K : PySem.W.Frag} {mg : Str → Option Value} {base : Heap} {a : Ad}
/-- all messages under way are lost: a new dict -/
theorem SesA.empty {wo : Ow} {H : Hp} {sa u : Addr} {h : House} {dx pn pu pt pk : Addr} {ns : List Addr} (S : SesA P w a wo H sa h dx pn pu pt pk ns) (h90 : h.nodes.length ≤ 90) (hu : H u = none) :
    SesA P w a (setW wo u (100, 1)) (upd (upd H u (.dK [])) sa (.ins a.c_Session dx (sesF h.offices ((h.next : Int) - 1) pn u pt pk))) sa { h with flight := [] } dx pn u pt pk ns ∧
    Frm (Own 100) wo (setW wo u (100, 1)) H (upd (upd H u (.dK [])) sa (.ins a.c_Session dx (sesF h.offices ((h.next : Int) - 1) pn u pt pk))) := by
  have ns1 : sa ≠ u := ne_of_none S.at_ hu
  have f1 : Frm (Own 100) wo (setW wo u (100, 1)) H (upd H u (.dK [])) := Frm.laid (100, 1) hu
  have f := f1.trans (Frm.write (p := sa) (o' := .ins a.c_Session dx (sesF h.offices ((h.next : Int) - 1) pn u pt pk)) (upd_other ns1 S.at_) (by intro z; exact z) (by rw [setW_ne ns1, S.wS]))
  have h0 : ¬ Own 100 0 := fun z => by cases z
  have n2 : pt ≠ sa := ne_own S.wT S.wS (by simp)
  have n3 : pk ≠ sa := ne_own S.wK S.wS (by simp)
  obtain ⟨xs, eK, _, _⟩ := S.ak
  have m2 : pt ≠ u := ne_of_none S.tk hu
  have m3 : pk ≠ u := ne_of_none eK hu
  refine ⟨⟨upd_same, by rw [setW_ne ns1]; exact S.wS, f.keep _ _ S.nodes (by rw [S.wN]; exact fun z => by cases z), (f.own _ _ S.nodes).trans S.wN, S.nl, fun i x hx => ?_, ⟨[], upd_other (Ne.symm ns1) upd_same, .nil⟩, setW_same, upd_other n2 (upd_other m2 S.tk), by rw [setW_ne m2]; exact S.wT,
    S.ak.up f.tup fun o h => upd_other n3 (upd_other m3 h), by rw [setW_ne m3]; exact S.wK⟩, f⟩
  obtain ⟨p, e, N⟩ := S.nd i x hx
  have : i < h.nodes.length := (List.getElem?_eq_some_iff.mp hx).1
  exact ⟨p, e, N.up f h0 (fun z => by have : i + 1 = 100 := z; omega)⟩

def sp_settle_all (P : Program) (w : World) (a : Ad) : Sp := fun vs H Q _ => ∃ (wo : Ow) (sa : Addr) (h : House) (dx pn pu pt pk : Addr) (ns : List Addr) (b r : Nat), vs = [.ref sa] ∧ SesA P w a wo H sa h dx pn pu pt pk ns ∧ Wf b 4080 r h ∧ b ≤ 4000 ∧ r ≤ 7000000 ∧
  ∀ w' H' pu', SesA P w a w' H' sa (Vbcsah.settled h) dx pn pu' pt pk ns → Frm Ses wo w' H H' → Q (.int (((Vbcsah.settled h).next - h.next : Nat) : Int)) H'
theorem ok_settle_all (T : Txt K mg a) : FnOk P w K mg base CX0 6 a.f_settle_all a.d_settle_all ["session"] (sp_settle_all P w a) := by
  refine T.F_settle_all.ok sc_settle_all (fun vs H Q E h => ?_) (fun cdv A outer s H vs Q E hr h => ⟨_, (pss_cons (ps_set (i := 1) sc_settle_all.nd rfl (Or.inl rfl) (pe_fld (pv 0) rfl))
    (pss_cons (ps_for PassesOwn.never rfl (pi_list (pe_fld (pv 0) rfl)) (pg_name (i := 2) sc_settle_all.nd rfl (Or.inl rfl))
    (pss_one (ps_if (pt_not (pt_val (pe_fld (pv 2) rfl)))
    (pss_one (ps_expr (pe_meth0 (pv 2) T.cl_Node T.m_Node_gain_power (ok_Node_gain_power T) (hr.mono (by decide)) T.b_Node_gain_power .nil pass0)))
    pss_nil)))
    (pss_cons (ps_fld (pv 0) pe_dnewK rfl)
    (pss_cons (ps_for PassesOwn.never rfl (pi_range1 rfl T.n_range (pa_cons (pe_fld (pv 0) rfl) pa_nil)) (pg_name (i := 3) sc_settle_all.nd rfl (Or.inl rfl))
    (pss_one (ps_for PassesOwn.never rfl (pi_list (pe_meth0 (pv 0) T.cl_Session T.m_Session_centres (ok_Session_centres T) (hr.mono (by decide)) T.b_Session_centres .nil pass0)) (pg_name (i := 4) sc_settle_all.nd rfl (Or.inl rfl))
    (pss_one (ps_expr (pe_call (ok_bring_forms T) hr rfl T.g_bring_forms T.F_bring_forms.kp T.b_bring_forms .nil pass0 (pa_cons (pv 0) (pa_cons (pv 3) (pa_cons (pv 4) pa_nil)))))))))
    (pss_cons (ps_for PassesOwn.never rfl (pi_list (pe_meth0 (pv 0) T.cl_Session T.m_Session_centres (ok_Session_centres T) (hr.mono (by decide)) T.b_Session_centres .nil pass0)) (pg_name (i := 4) sc_settle_all.nd rfl (Or.inl rfl))
    (pss_one (ps_expr (pe_call (ok_keep_and_acknowledge T) hr rfl T.g_keep_and_acknowledge T.F_keep_and_acknowledge.kp T.b_keep_and_acknowledge .nil pass0 (pa_cons (pv 0) (pa_cons (pv 4) pa_nil))))))
    (pss_cons (ps_for PassesOwn.never rfl (pi_list (pe_meth0 (pv 0) T.cl_Session T.m_Session_centres (ok_Session_centres T) (hr.mono (by decide)) T.b_Session_centres .nil pass0)) (pg_name (i := 4) sc_settle_all.nd rfl (Or.inl rfl))
    (pss_one (ps_expr (pe_call (ok_ask_and_fill T) hr rfl T.g_ask_and_fill T.F_ask_and_fill.kp T.b_ask_and_fill .nil pass0 (pa_cons (pv 0) (pa_cons (pv 4) pa_nil))))))
    (pss_cons (ps_for PassesOwn.never rfl (pi_range1 rfl T.n_range (pa_cons (pe_callB call_len_seq (by rfl) T.n_len (by decide +kernel) (pa_cons (pe_fld (pv 0) rfl) pa_nil)) pa_nil)) (pg_name (i := 5) sc_settle_all.nd rfl (Or.inl rfl))
    (pss_one (ps_expr (pe_call (ok_keep_memory T) (hr.mono (by decide)) rfl T.g_keep_memory T.F_keep_memory.kp T.b_keep_memory .nil pass0 (pa_cons (pv 0) (pa_cons (pv 5) pa_nil))))))
    (pss_one (ps_ret (pe_op op_sub (pe_fld (pv 0) rfl) (pv 1))))))))))), ?_⟩)
  · obtain ⟨wo, sa, h, dx, pn, pu, pt, pk, ns, b, r, rfl, _⟩ := h; rfl
  · obtain ⟨wo, sa, h, dx, pn, pu, pt, pk, ns, b, r, rfl, S, W, hb, hr7, k⟩ := h
    have o4 := W.of4
    have hnx := settled_next W
    have eS : Vbcsah.settled h = (List.range (h.offices + 2)).foldl Vbcsah.keeps ((Vbcsah.centres h).foldl (fun g c => Vbcsah.deliverAll Vbcsah.MANY (Vbcsah.asks g c)) ((Vbcsah.centres h).foldl (fun g c => Vbcsah.deliverAll Vbcsah.MANY (Vbcsah.keeps g c)) (officesSend h (List.range h.offices) { litAll (List.range (h.offices + 2)) h with flight := [] }))) := rfl
    generalize Vbcsah.settled h = hS at *
    have k200 : ∀ {w3 : Ow} {q : Addr} {i : Nat}, w3 q = (200, i) → ¬ Ses (w3 q).1 := fun e => by rw [e]; exact fun z => absurd (show (200 : Nat) ≤ 100 from z.2) (by decide)
    refine ⟨_, rfl, sa, _, dx, _, _, rfl, S.at_, T.cl_Session, T.na_Session_last_number, rfl, ?_⟩
    -- power everywhere
    refine ⟨_, rfl, sa, _, dx, _, _, rfl, S.at_, T.cl_Session, T.na_Session_nodes, rfl, pn, rfl, ⟨_, SqL.of S.nodes⟩, for_list (K := K) (a := pn) (xs := ns.map V.ref) (fun j σ H' => ∃ (wj : Ow) (v : Option V), σ = [some (.ref sa), some (.int ((h.next : Int) - 1)), v, none, none, none] ∧
      SesA P w a wj H' sa (litAll (List.range j) h) dx pn pu pt pk ns ∧ Frm Ses wo wj H H') ⟨wo, none, rfl, S, Frm.refl _ _ _⟩ (fun j σ H' _ ⟨_, _, _, Sj, _⟩ => SqL.of Sj.nodes) ?_ ?_⟩
    · rintro j y σ H' hy ⟨wj, v, rfl, Sj, Fj⟩
      obtain ⟨p, hp, rfl⟩ := refs_get hy
      have hj : j < h.offices + 2 := by have := (List.getElem?_eq_some_iff.mp hp).1; have := S.nl; have := W.len; omega
      obtain ⟨wl, ol, _⟩ := W.litAll (List.range j) fun i hi => by have := List.mem_range.mp hi; omega
      have es := litAll_succ j h
      rw [es]
      clear es
      generalize litAll (List.range j) h = g at *
      have hjg : j < g.offices + 2 := by omega
      have hx := wl.nodeAt hjg
      have wn := wl.node hjg
      obtain ⟨p', hp', N⟩ := Sj.nd j _ hx
      rw [hp] at hp'; cases hp'
      obtain ⟨xd, pb, pr, po, pss, s0, s1, N'⟩ := id N
      refine ⟨_, rfl, p, _, xd, _, _, rfl, N'.at_, T.cl_Node, T.na_Node_power, rfl, _, rfl, ?_⟩
      cases on : (Vbcsah.node g j).on with
      | true => exact iteF ⟨wj, _, rfl, Sj, Fj⟩
      | false =>
        refine iteT ⟨_, rfl, p, xd, _, rfl, N'.at_, rfl, wj, j + 1, p, _, rfl, N, by omega, (wn.dk on).2, fun w2 H2 N2 f2 => ?_⟩
        have S2 := Sj.node_step f2 wl.h90 (by rw [wl.len]; exact hjg) hp N2
        exact ⟨w2, _, rfl, S2, Fj.trans (f2.mono fun n (z : n = j + 1) => ⟨by omega, by omega⟩)⟩
    · rintro σ H1 ⟨w1, v2, rfl, S1, F1⟩
      rw [List.length_map, S.nl, W.len] at S1
      have an : ∀ i ∈ List.range (h.offices + 2), i < h.offices + 2 := fun i hi => List.mem_range.mp hi
      obtain ⟨wl, ol, _⟩ := W.litAll (List.range (h.offices + 2)) an
      generalize litAll (List.range (h.offices + 2)) h = hL at *
      -- what is under way is lost
      intro u hu
      refine ⟨_, rfl, sa, _, dx, _, rfl, upd_other (ne_of_none S1.at_ hu) S1.at_, T.cl_Session, T.na_Session_under_way, (by show 6 < 1000; decide), ?_⟩
      obtain ⟨S2, f2⟩ := S1.empty wl.h90 hu
      generalize hH2 : upd (upd H1 u (.dK [])) sa _ = H2
      rw [show upd (upd H1 u (.dK [])) sa (.ins a.c_Session dx (sesF hL.offices ((hL.next : Int) - 1) pn u pt pk)) = H2 from hH2] at S2 f2
      clear hH2
      have F2 : Frm Ses wo (setW w1 u (100, 1)) H H2 := F1.trans (f2.mono fun n (z : n = 100) => ⟨by omega, by omega⟩)
      generalize setW w1 u (100, 1) = w2 at *
      have C0 : Calm b 4080 r ({ hL with flight := [] } : House) := ⟨wl.emptied, rfl⟩
      have o0 : ({ hL with flight := [] } : House).offices = h.offices := ol
      generalize ({ hL with flight := [] } : House) = h0 at *
      -- the offices send
      refine ⟨_, rfl, sa, _, dx, _, _, rfl, S2.at_, T.cl_Session, T.na_Session_offices, rfl, (h0.offices : Int), rfl, by omega, by omega, for_range (lo := 0) (n := (h0.offices : Int).toNat) (fun j σ H' => ∃ (wj : Ow) (v2 v3 v4 : Option V), σ = [some (.ref sa), some (.int ((h.next : Int) - 1)), v2, v3, v4, none] ∧
        SesA P w a wj H' sa (officesSend h (List.range j) h0) dx pn u pt pk ns ∧ Frm Ses wo wj H H') ⟨w2, v2, none, none, rfl, S2, F2⟩ ?_ ?_⟩
      · rintro j σ H3 hj ⟨w3, v2, v3, v4, rfl, S3, F3⟩
        have hjo : j < h.offices := by omega
        obtain ⟨C3, o3⟩ := offices_calm (h0 := h) (List.range j) C0 o0 fun o ho => by have := List.mem_range.mp ho; omega
        have es : officesSend h (List.range (j + 1)) h0 = (Vbcsah.centres h).foldl (fun g c => Vbcsah.deliverAll Vbcsah.MANY (Vbcsah.sends g j c)) (officesSend h (List.range j) h0) := by
          unfold officesSend
          rw [List.range_succ, List.foldl_append]
          rfl
        rw [es]
        clear es
        rw [List.length_range] at C3
        rw [o0] at o3
        generalize officesSend h (List.range j) h0 = g at *
        refine ⟨_, rfl, sa, dx, _, rfl, S3.at_, rfl, sa, g.offices, rfl, S3.inS, ?_⟩
        rintro H4a qa ⟨sm, hq, eq⟩
        have f4 : Frm NoB w3 (setW w3 qa (200, 6)) H3 H4a := Frm.sameW (200, 6) sm hq
        have S4 := S3.up f4 (fun z => z) (fun _ _ z => z) C3.wf.h90
        have F4 : Frm Ses wo (setW w3 qa (200, 6)) H H4a := F3.trans (f4.mono fun _ z => z.elim)
        have wq : setW w3 qa (200, 6) qa = (200, 6) := setW_same
        generalize setW w3 qa (200, 6) = w4a at *
        rw [o3] at eq
        refine ⟨qa, rfl, ⟨_, SqL.of eq⟩, for_list (K := K) (a := qa) (xs := (ctrs h.offices).map V.int) (fun i σ H' => ∃ (wi : Ow) (v4 : Option V), σ = [some (.ref sa), some (.int ((h.next : Int) - 1)), v2, some (.int (0 + (j : Int))), v4, none] ∧
          SesA P w a wi H' sa (((Vbcsah.centres h).take i).foldl (fun g c => Vbcsah.deliverAll Vbcsah.MANY (Vbcsah.sends g j c)) g) dx pn u pt pk ns ∧ Frm Ses w4a wi H4a H') ⟨w4a, v4, rfl, S4, Frm.refl _ _ _⟩ (fun i σ H' _ ⟨_, _, _, _, f⟩ => SqL.of (f.keep _ _ eq (k200 wq))) ?_ ?_⟩
        · rintro i y σ H5 hy ⟨w5, v5, rfl, S5, F5⟩
          obtain ⟨z, hz, rfl⟩ := ints_get hy
          obtain ⟨c, rfl, hc, hc1, hc2⟩ := ctrs_at hz
          have hi : i < 2 := (List.getElem?_eq_some_iff.mp hc).1
          obtain ⟨Ci, oi⟩ := sends_all ((Vbcsah.centres h).take i) C3 (by rw [o3]; exact hjo) (fun c hc => by rw [o3]; exact ctr_mem c hc)
          have li : ((Vbcsah.centres h).take i).length ≤ 2 := by rw [List.length_take]; omega
          have ef : ((Vbcsah.centres h).take (i + 1)).foldl (fun g c => Vbcsah.deliverAll Vbcsah.MANY (Vbcsah.sends g j c)) g = (fun g c => Vbcsah.deliverAll Vbcsah.MANY (Vbcsah.sends g j c)) (((Vbcsah.centres h).take i).foldl (fun g c => Vbcsah.deliverAll Vbcsah.MANY (Vbcsah.sends g j c)) g) c := by rw [take_snoc hc, List.foldl_append]; rfl
          rw [ef]
          clear ef
          generalize ((Vbcsah.centres h).take i).foldl (fun g c => Vbcsah.deliverAll Vbcsah.MANY (Vbcsah.sends g j c)) g = gi at *
          have zl : LIM = 8000000 := rfl
          have lc : (Vbcsah.centres h).length = 2 := rfl
          refine ⟨_, rfl, _, rfl, _, rfl, w5, sa, gi, dx, pn, u, pt, pk, ns, j, c, _, _, by rw [Int.zero_add]; rfl, S5, Ci, by omega, by omega, by omega, by omega, fun w6 H6 S6 F6 => ?_⟩
          exact ⟨w6, _, rfl, S6, F5.trans F6⟩
        · rintro σ H5a ⟨w5a, v5a, rfl, S5a, F5a⟩
          rw [show ((ctrs h.offices).map V.int).length = 2 from rfl, show (Vbcsah.centres h).take 2 = Vbcsah.centres h from rfl] at S5a
          replace F5a := F4.trans F5a
          exact ⟨w5a, _, _, _, rfl, S5a, F5a⟩
      · rintro σ H3 ⟨w3, v2, v3, v4, rfl, S3, F3⟩
        rw [show (h0.offices : Int).toNat = h.offices by omega] at S3
        obtain ⟨C3, o3⟩ := offices_calm (h0 := h) (List.range h.offices) C0 o0 fun o ho => by have := List.mem_range.mp ho; omega
        rw [List.length_range] at C3
        rw [o0] at o3
        generalize officesSend h (List.range h.offices) h0 = g at *
        replace C3 : Calm 4080 4080 r g := ⟨C3.wf.mono (by omega) (Nat.le_refl _) (Nat.le_refl _), C3.none_⟩
        -- the centres keep
        refine ⟨_, rfl, sa, dx, _, rfl, S3.at_, rfl, sa, g.offices, rfl, S3.inS, ?_⟩
        rintro H4b qb ⟨sm, hq, eq⟩
        have f4 : Frm NoB w3 (setW w3 qb (200, 6)) H3 H4b := Frm.sameW (200, 6) sm hq
        have S4 := S3.up f4 (fun z => z) (fun _ _ z => z) C3.wf.h90
        have F4 : Frm Ses wo (setW w3 qb (200, 6)) H H4b := F3.trans (f4.mono fun _ z => z.elim)
        have wq : setW w3 qb (200, 6) qb = (200, 6) := setW_same
        generalize setW w3 qb (200, 6) = w4b at *
        rw [o3] at eq
        refine ⟨qb, rfl, ⟨_, SqL.of eq⟩, for_list (K := K) (a := qb) (xs := (ctrs h.offices).map V.int) (fun i σ H' => ∃ (wi : Ow) (v4 : Option V), σ = [some (.ref sa), some (.int ((h.next : Int) - 1)), v2, v3, v4, none] ∧
          SesA P w a wi H' sa (((Vbcsah.centres h).take i).foldl (fun g c => Vbcsah.deliverAll Vbcsah.MANY (Vbcsah.keeps g c)) g) dx pn u pt pk ns ∧ Frm Ses w4b wi H4b H') ⟨w4b, v4, rfl, S4, Frm.refl _ _ _⟩ (fun i σ H' _ ⟨_, _, _, _, f⟩ => SqL.of (f.keep _ _ eq (k200 wq))) ?_ ?_⟩
        · rintro i y σ H5 hy ⟨w5, v5, rfl, S5, F5⟩
          obtain ⟨z, hz, rfl⟩ := ints_get hy
          obtain ⟨c, rfl, hc, hc1, hc2⟩ := ctrs_at hz
          have hi : i < 2 := (List.getElem?_eq_some_iff.mp hc).1
          obtain ⟨Ci, oi⟩ := keeps_all (Nat.le_refl 4080) ((Vbcsah.centres h).take i) C3 (fun c hc => by rw [o3]; exact ctr_mem c hc)
          have li : ((Vbcsah.centres h).take i).length ≤ 2 := by rw [List.length_take]; omega
          have ef : ((Vbcsah.centres h).take (i + 1)).foldl (fun g c => Vbcsah.deliverAll Vbcsah.MANY (Vbcsah.keeps g c)) g = (fun g c => Vbcsah.deliverAll Vbcsah.MANY (Vbcsah.keeps g c)) (((Vbcsah.centres h).take i).foldl (fun g c => Vbcsah.deliverAll Vbcsah.MANY (Vbcsah.keeps g c)) g) c := by rw [take_snoc hc, List.foldl_append]; rfl
          rw [ef]
          clear ef
          generalize ((Vbcsah.centres h).take i).foldl (fun g c => Vbcsah.deliverAll Vbcsah.MANY (Vbcsah.keeps g c)) g = gi at *
          have l2 : 4 * 4080 * ((Vbcsah.centres h).take i).length ≤ 4 * 4080 * 2 := Nat.mul_le_mul_left _ li
          have zl : LIM = 8000000 := rfl
          have lc : (Vbcsah.centres h).length = 2 := rfl
          refine ⟨_, rfl, _, rfl, w5, sa, gi, dx, pn, u, pt, pk, ns, c, 4080, _, rfl, S5, Ci, by omega, by omega, by omega, fun w6 H6 S6 F6 => ?_⟩
          exact ⟨w6, _, rfl, S6, F5.trans F6⟩
        · rintro σ H5b ⟨w5b, v5b, rfl, S5b, F5b⟩
          rw [show ((ctrs h.offices).map V.int).length = 2 from rfl, show (Vbcsah.centres h).take 2 = Vbcsah.centres h from rfl] at S5b
          replace F5b := F4.trans F5b
          obtain ⟨C5b, o5b⟩ := keeps_all (Nat.le_refl 4080) (Vbcsah.centres h) C3 (fun c hc => by rw [o3]; exact ctr_mem (n := 2) c hc)
          rw [o3] at o5b
          generalize (Vbcsah.centres h).foldl (fun g c => Vbcsah.deliverAll Vbcsah.MANY (Vbcsah.keeps g c)) g = g5b at *
          clear f4 S4 F4 wq eq sm hq
          -- the centres ask
          refine ⟨_, rfl, sa, dx, _, rfl, S5b.at_, rfl, sa, g5b.offices, rfl, S5b.inS, ?_⟩
          rintro H4c qc ⟨sm, hq, eq⟩
          have f4 : Frm NoB w5b (setW w5b qc (200, 6)) H5b H4c := Frm.sameW (200, 6) sm hq
          have S4 := S5b.up f4 (fun z => z) (fun _ _ z => z) C5b.wf.h90
          have F4 : Frm Ses wo (setW w5b qc (200, 6)) H H4c := F5b.trans (f4.mono fun _ z => z.elim)
          have wq : setW w5b qc (200, 6) qc = (200, 6) := setW_same
          generalize setW w5b qc (200, 6) = w4c at *
          rw [o5b] at eq
          refine ⟨qc, rfl, ⟨_, SqL.of eq⟩, for_list (K := K) (a := qc) (xs := (ctrs h.offices).map V.int) (fun i σ H' => ∃ (wi : Ow) (v4 : Option V), σ = [some (.ref sa), some (.int ((h.next : Int) - 1)), v2, v3, v4, none] ∧
            SesA P w a wi H' sa (((Vbcsah.centres h).take i).foldl (fun g c => Vbcsah.deliverAll Vbcsah.MANY (Vbcsah.asks g c)) g5b) dx pn u pt pk ns ∧ Frm Ses w4c wi H4c H') ⟨w4c, v5b, rfl, S4, Frm.refl _ _ _⟩ (fun i σ H' _ ⟨_, _, _, _, f⟩ => SqL.of (f.keep _ _ eq (k200 wq))) ?_ ?_⟩
          · rintro i y σ H5 hy ⟨w5, v5, rfl, S5, F5⟩
            obtain ⟨z, hz, rfl⟩ := ints_get hy
            obtain ⟨c, rfl, hc, hc1, hc2⟩ := ctrs_at hz
            have hi : i < 2 := (List.getElem?_eq_some_iff.mp hc).1
            obtain ⟨Ci, oi⟩ := asks_all ((Vbcsah.centres h).take i) C5b (fun c hc => by rw [o5b]; exact ctr_mem c hc)
            have li : ((Vbcsah.centres h).take i).length ≤ 2 := by rw [List.length_take]; omega
            have ef : ((Vbcsah.centres h).take (i + 1)).foldl (fun g c => Vbcsah.deliverAll Vbcsah.MANY (Vbcsah.asks g c)) g5b = (fun g c => Vbcsah.deliverAll Vbcsah.MANY (Vbcsah.asks g c)) (((Vbcsah.centres h).take i).foldl (fun g c => Vbcsah.deliverAll Vbcsah.MANY (Vbcsah.asks g c)) g5b) c := by rw [take_snoc hc, List.foldl_append]; rfl
            rw [ef]
            clear ef
            generalize ((Vbcsah.centres h).take i).foldl (fun g c => Vbcsah.deliverAll Vbcsah.MANY (Vbcsah.asks g c)) g5b = gi at *
            have zl : LIM = 8000000 := rfl
            have lc : (Vbcsah.centres h).length = 2 := rfl
            refine ⟨_, rfl, _, rfl, w5, sa, gi, dx, pn, u, pt, pk, ns, c, 4080, _, rfl, S5, Ci, by omega, by omega, by omega, by omega, fun w6 H6 S6 F6 => ?_⟩
            exact ⟨w6, _, rfl, S6, F5.trans F6⟩
          · rintro σ H5c ⟨w5c, v5c, rfl, S5c, F5c⟩
            rw [show ((ctrs h.offices).map V.int).length = 2 from rfl, show (Vbcsah.centres h).take 2 = Vbcsah.centres h from rfl] at S5c
            replace F5c := F4.trans F5c
            obtain ⟨C5c, o5c⟩ := asks_all (Vbcsah.centres h) C5b (fun c hc => by rw [o5b]; exact ctr_mem (n := 2) c hc)
            rw [o5b] at o5c
            generalize (Vbcsah.centres h).foldl (fun g c => Vbcsah.deliverAll Vbcsah.MANY (Vbcsah.asks g c)) g5b = g5c at *
            clear f4 S4 F4 wq eq sm hq
            -- all keep
            have en : (((ns.map V.ref).length : Nat) : Int).toNat = h.offices + 2 := by rw [List.length_map, S.nl, W.len, Int.toNat_natCast]
            have el : (((ns.map V.ref).length : Nat) : Int) = (h.offices : Int) + 2 := by rw [List.length_map, S.nl, W.len]; rfl
            refine ⟨_, rfl, sa, _, dx, _, _, rfl, S5c.at_, T.cl_Session, T.na_Session_nodes, rfl, pn, _, rfl, .inl (SqL.of S5c.nodes), _, rfl, by omega, by omega, for_range (lo := 0) (n := (((ns.map V.ref).length : Nat) : Int).toNat) (fun j σ H' => ∃ (wj : Ow) (v5 : Option V), σ = [some (.ref sa), some (.int ((h.next : Int) - 1)), v2, v3, v5c, v5] ∧
              SesA P w a wj H' sa ((List.range j).foldl Vbcsah.keeps g5c) dx pn u pt pk ns ∧ Frm Ses wo wj H H') ⟨w5c, none, rfl, S5c, F5c⟩ ?_ ?_⟩
            · rintro j σ H7 hj ⟨w7, v7, rfl, S7, F7⟩
              obtain ⟨wj, oj, fj, _⟩ := keepAll (List.range j) (h := g5c) [] C5c.wf (Nat.le_refl _) (fun i hi => by have := List.mem_range.mp hi; omega) (fun i hi => by cases hi)
              have es : (List.range (j + 1)).foldl Vbcsah.keeps g5c = Vbcsah.keeps ((List.range j).foldl Vbcsah.keeps g5c) j := by rw [List.range_succ, List.foldl_append]; rfl
              rw [es]
              clear es
              rw [C5c.none_, List.length_nil, List.length_range] at fj
              rw [o5c] at oj
              generalize (List.range j).foldl Vbcsah.keeps g5c = gj at *
              have hjo : j < gj.offices + 2 := by omega
              have hx := wj.nodeAt hjo
              have wn := wj.node hjo
              obtain ⟨p, hp, N⟩ := S7.nd j _ hx
              refine ⟨_, rfl, _, rfl, w7, sa, gj, dx, pn, u, pt, pk, ns, j, p, _, by rw [Int.zero_add]; rfl, S7, hx, hp, wn.oo, wj.of4, by have := wn.ol; omega, wj.nu, wj.nx, by omega, wj.h90, fun w8 H8 q8 S8 F8 _ _ _ => ?_⟩
              exact ⟨w8, _, rfl, S8, F7.trans F8⟩
            · rintro σ H7 ⟨w7, v7, rfl, S7, F7⟩
              rw [en, ← eS] at S7
              refine ⟨_, rfl, sa, _, dx, _, _, rfl, S7.at_, T.cl_Session, T.na_Session_last_number, rfl, _, rfl, _, _, rfl, rfl, ?_⟩
              have ev : ((hS.next : Int) - 1 - ((h.next : Int) - 1)) = ((hS.next - h.next : Nat) : Int) := by omega
              show Q (.int ((hS.next : Int) - 1 - ((h.next : Int) - 1))) H7
              rw [ev]
              exact k w7 H7 u S7 F7

/-! ### settle -/
theorem ok_settle (T : Txt K mg a) : FnOk P w K mg base (L2.CX P w) 7 a.f_settle a.d_settle ["session", "numbers"] (sp0 P w a .settle) := by
  refine T.F_settle.okX sc_settle (fun vs H Q E h => ?_) (fun cdv A outer s H vs Q E hr h => ⟨_, (pss_one (ps_ret (pe_lst (pa_cons (pe_call (ok_settle_all T) hr rfl T.g_settle_all T.F_settle_all.kp T.b_settle_all .nil pass0 (pa_cons (pv 0) pa_nil)) pa_nil)))), ?_⟩)
  · exact CallP.len h
  · obtain ⟨wo, sa, h, dx, pn, pu, pt, pk, ns, q, b, r, rfl, S, hq, B, hL, kQ, kE⟩ := h
    have e2 : Vbcsah.does h .settle = Vbcsah.yes (Vbcsah.settled h) [(((Vbcsah.settled h).next - h.next : Nat) : Int)] := rfl
    refine ⟨_, rfl, wo, sa, h, dx, pn, pu, pt, pk, ns, b, r, rfl, S, B.wf, B.b4, B.r7, fun w1 H1 u S1 F1 => ?_⟩
    have h90 : (Vbcsah.settled h).nodes.length ≤ 90 := (B.wf.settled B.b4).1.h90
    refine ⟨(by show 1 ≤ sizeLine; decide), fun t ht => ?_⟩
    exact kQ _ _ w1 _ t e2 (S1.up (Frm.new (k := NoB) ht) (fun z => z) (fun _ _ z => z) h90) (F1.trans (Frm.new ht)) (fresh_of F1 ht) upd_same
end
end Fo

-- FoTold
/-! The calls that only answer: what is owed, what was acknowledged, what was taken in, a message. -/
namespace Fo
open PySem PySem.Spec PyProof.Rows L2

def prsOf (l : List Receipt) : List Int := l.flatMap fun r => (r.1 : Int) :: Vbcsah.itemRow r.2
theorem prsOf_snoc (l : List Receipt) (r : Receipt) : prsOf (l ++ [r]) = prsOf l ++ ((r.1 : Int) :: Vbcsah.itemRow r.2) := by
  simp [prsOf, List.flatMap_append]
theorem prsOf_take (l : List Receipt) (j : Nat) : (prsOf (l.take j)).length ≤ (prsOf l).length := by
  have h : prsOf l = prsOf (l.take j) ++ prsOf (l.drop j) := by unfold prsOf; rw [← List.flatMap_append, List.take_append_drop]
  rw [h, List.length_append]
  exact Nat.le_add_right _ _
theorem itemRow_ints (i : Item) : itRow i = (Vbcsah.itemRow i).map V.int := rfl
theorem one_line {n : Nat} (h : n ≤ 10000000) : n < sizeLine := Nat.lt_of_le_of_lt h (by decide)

section
variable {P : Program} {w : World} {K : PySem.W.Frag} {mg : Str → Option Value} {base : Heap} {a : Ad}

def sp_numbers_of_pairs : Sp := fun vs H Q _ => ∃ (c : Addr) (ps : List Addr) (l : List Receipt), vs = [.ref c] ∧ H c = some (.lst (ps.map V.ref)) ∧ Al (RcAt H) ps l ∧ (prsOf l).length ≤ 10000000 ∧ ∀ H' q, NewInts H H' q (prsOf l) → Q (.ref q) H'
theorem ok_numbers_of_pairs (T : Txt K mg a) : FnOk P w K mg base CX0 1 a.f_numbers_of_pairs a.d_numbers_of_pairs ["pairs"] sp_numbers_of_pairs := by
  refine T.F_numbers_of_pairs.ok sc_numbers_of_pairs (fun vs H Q E h => ?_) (fun cdv A outer s H vs Q E hr h => ⟨_, (pss_cons (ps_set (i := 1) sc_numbers_of_pairs.nd rfl (Or.inl rfl) (pe_lst pa_nil))
    (pss_cons (ps_for PassesOwn.never rfl (pi_list (pv 0)) (pg_tup rfl (pgs_cons (pg_name (i := 2) sc_numbers_of_pairs.nd rfl (Or.inl rfl)) (pgs_cons (pg_name (i := 3) sc_numbers_of_pairs.nd rfl (Or.inl rfl)) pgs_nil)))
    (pss_cons (ps_expr (pe_bm PySem.F.plainAttrs_list PySem.F.slot_list_append PySem.F.type_list_append mt_append (pv 1) (pa_cons (pv 2) pa_nil)))
    (pss_one (ps_expr (pe_bm PySem.F.plainAttrs_list PySem.F.slot_list_extend PySem.F.type_list_extend mt_extT (pv 1) (pa_cons (pv 3) pa_nil))))))
    (pss_one (ps_ret (pv 1))))), ?_⟩)
  · obtain ⟨c, ps, l, rfl, _⟩ := h; rfl
  · obtain ⟨c, ps, l, rfl, hc, al, hlen, k⟩ := h
    refine ⟨(by show 0 ≤ sizeLine; decide), fun D hD => ?_⟩
    have s0 : Same H (upd H D (.lst [])) := fun c o h => by rw [upd_ne (ne_of_none h hD)]; exact h
    refine ⟨_, rfl, c, rfl, ⟨_, SqL.of (s0 _ _ hc)⟩, for_list (K := K) (a := c) (xs := ps.map V.ref) (fun j σ H' => ∃ v2 v3, σ = [some (.ref c), some (.ref D), v2, v3] ∧ Same H H' ∧ H' D = some (.lst ((prsOf (l.take j)).map V.int)))
      ⟨none, none, rfl, s0, upd_same⟩ (fun j σ H' _ ⟨_, _, _, hk, _⟩ => SqL.of (hk _ _ hc)) ?_ ?_⟩
    · rintro j y σ H' hy ⟨v2, v3, rfl, hk, hD'⟩
      obtain ⟨p, hp, rfl⟩ := refs_get hy
      obtain ⟨rc, hrc, rr⟩ := al.get hp
      obtain ⟨pi, ep, hit⟩ := rr.up (Same.tps hk)
      have l1 := prsOf_take l (j + 1)
      have e1 : prsOf (l.take (j + 1)) = prsOf (l.take j) ++ ((rc.1 : Int) :: Vbcsah.itemRow rc.2) := by rw [take_snoc hrc, prsOf_snoc]
      rw [e1] at l1 ⊢
      have l2 : (prsOf (l.take j)).length + 5 ≤ 10000000 := by
        rw [List.length_append] at l1
        exact Nat.le_trans l1 hlen
      refine ⟨p, _, rfl, SqT.of ep, rfl, _, _, rfl, _, _, rfl, rfl, ?_⟩
      refine ⟨_, rfl, .inl ⟨rfl, _, SqL.of hD'⟩, _, rfl, D, _, _, rfl, rfl, hD', ?_, ?_⟩
      · rw [List.length_map]; exact one_line (by omega)
      have t2 : Tps H' (upd H' D (.lst ((prsOf (l.take j)).map V.int ++ [V.int (rc.1 : Int)]))) := Tps.write hD' (by intro z; exact z)
      have eD2 : upd H' D (.lst ((prsOf (l.take j)).map V.int ++ [V.int (rc.1 : Int)])) D = some (.lst ((prsOf (l.take j)).map V.int ++ [V.int (rc.1 : Int)])) := upd_same
      have hk2 : Same H (upd H' D (.lst ((prsOf (l.take j)).map V.int ++ [V.int (rc.1 : Int)]))) := same_put hk hD
      have hit2 := hit.up t2
      generalize upd H' D (.lst ((prsOf (l.take j)).map V.int ++ [V.int (rc.1 : Int)])) = H2 at *
      refine ⟨_, rfl, .inl ⟨rfl, _, SqL.of eD2⟩, _, rfl, D, pi, _, _, rfl, rfl, eD2, hit2.at_, ?_, _, _, rfl, same_put hk2 hD, ?_⟩
      · rw [List.length_append, List.length_map]
        exact Nat.le_of_lt (one_line (n := (prsOf (l.take j)).length + 1 + 4) (by omega))
      · rw [upd_same, List.map_append, List.append_assoc]
        rfl
    · rintro σ H' ⟨v2, v3, rfl, hk, hD'⟩
      rw [List.length_map, al.len, List.take_length] at hD'
      exact ⟨_, rfl, k H' D ⟨hk, hD, hD'⟩⟩

/-! ### owed -/
theorem ok_owed (T : Txt K mg a) : FnOk P w K mg base (L2.CX P w) 3 a.f_owed a.d_owed ["session", "numbers"] (sp1 P w a .owed) := by
  refine T.F_owed.okX sc_owed (fun vs H Q E h => ?_) (fun cdv A outer s H vs Q E hr h => ⟨_, (pss_cons (ps_set (i := 2) sc_owed.nd rfl (Or.inl rfl) (pe_ix ix_list (pv 1) pe_int (fun _ _ => rfl)))
    (pss_cons (ps_expr (pe_meth (pv 0) T.cl_Session T.m_Session_check_centre (ok_Session_check_centre T) hr T.b_Session_check_centre .nil (passes_call (takes_of rfl rfl rfl rfl) (fun _ _ _ _ h => h)) (pa_cons (pv 2) pa_nil)))
    (pss_cons (ps_set (i := 3) sc_owed.nd rfl (Or.inl rfl) (pe_meth (pv 0) T.cl_Session T.m_Session_node_with_power (ok_Session_node_with_power T) (hr.mono (by decide)) T.b_Session_node_with_power .nil (passes_call (takes_of rfl rfl rfl rfl) (fun _ _ _ _ h => h)) (pa_cons (pv 2) pa_nil)))
    (pss_one (ps_ret (pe_call (ok_numbers_of_pairs T) (hr.mono (by decide)) rfl T.g_numbers_of_pairs T.F_numbers_of_pairs.kp T.b_numbers_of_pairs .nil pass0 (pa_cons (pe_fld (pv 3) rfl) pa_nil))))))), ?_⟩)
  · obtain ⟨z, h⟩ := h; exact h.len
  · obtain ⟨z, wo, sa, h, dx, pn, pu, pt, pk, ns, q, b, r, rfl, S, hq, B, hL, kQ, kE⟩ := h
    have h90 := B.h90
    refine ⟨_, rfl, q, _, 0, _, rfl, rfl, SqL.of hq, atI_nat (j := 0) rfl, ?_⟩
    refine ⟨_, rfl, sa, dx, _, rfl, S.at_, rfl, _, rfl, sa, h.offices, z, rfl, S.inS, fun hz => ?_, fun hz => kE 1 rfl wo H (if_pos (not_centre hz)) S (Frm.refl _ _ _)⟩
    replace hz : (h.offices : Int) ≤ z ∧ z ≤ (h.offices : Int) + 1 := hz
    obtain ⟨i, rfl, ei, hi, hi2, hx⟩ := B.node (by omega) hz.2
    obtain ⟨p, hp, N⟩ := S.nd i _ hx
    obtain ⟨xd, pb, pr, po, pss, s0, s1, N'⟩ := id N
    have e2 : Vbcsah.does h (.owed (i : Int)) = if (Vbcsah.node h i).on = false then Vbcsah.no (some h) 3 else Vbcsah.yes h (prsOf (Vbcsah.node h i).owed) := if_neg (by rw [is_centre hz]; decide)
    refine ⟨_, rfl, sa, dx, _, rfl, S.at_, rfl, _, rfl, wo, sa, h, dx, pn, pu, pt, pk, ns, i, p, _, rfl, S, hx, hp, fun on => ?_, fun on => ?_⟩
    · rw [on, if_neg (by decide)] at e2
      rw [e2] at hL
      obtain ⟨ps, eo, ao, _⟩ := N'.owed
      refine ⟨_, rfl, p, _, xd, _, _, rfl, N'.at_, T.cl_Node, T.na_Node_owed, rfl, po, ps, _, rfl, eo, ao, Nat.le_trans (Nat.le_succ _) hL, ?_⟩
      rintro H1 q1 ⟨sm, hq1, eN⟩
      have f1 : Frm NoB wo wo H H1 := Frm.same sm
      exact kQ _ _ wo H1 q1 e2 (S.up f1 (fun z => z) (fun _ _ z => z) h90) (f1.mono fun _ z => z.elim) hq1 eN
    · rw [on, if_pos rfl] at e2
      exact kE 3 rfl wo H e2 S (Frm.refl _ _ _)

/-! ### acknowledged, taken -/
theorem ak_refs {H : Hp} {xs : List NK} {l : List Receipt} (h : Al (AkR H) xs l) : Al (RcAt H) (xs.map fun x => x.2.1) l := by
  induction h with
  | nil => exact .nil
  | cons r _ ih => exact .cons r.2.2 ih
theorem ok_acknowledged (T : Txt K mg a) : FnOk P w K mg base (L2.CX P w) 2 a.f_acknowledged a.d_acknowledged ["session", "numbers"] (sp0 P w a .acknowledged) := by
  refine T.F_acknowledged.okX sc_acknowledged (fun vs H Q E h => ?_) (fun cdv A outer s H vs Q E hr h => ⟨_, (pss_one (ps_ret (pe_call (ok_numbers_of_pairs T) hr rfl T.g_numbers_of_pairs T.F_numbers_of_pairs.kp T.b_numbers_of_pairs .nil pass0 (pa_cons (pe_callTy (call_listN rfl) (by rfl) T.n_list (by decide +kernel) (pa_cons (pe_fld (pv 0) rfl) pa_nil)) pa_nil)))), ?_⟩)
  · exact CallP.len h
  · obtain ⟨wo, sa, h, dx, pn, pu, pt, pk, ns, q, b, r, rfl, S, hq, B, hL, kQ, kE⟩ := h
    have e2 : Vbcsah.does h .acknowledged = Vbcsah.yes h (prsOf h.acked) := rfl
    rw [e2] at hL
    obtain ⟨xs, eK, aK, _⟩ := S.ak
    refine ⟨_, rfl, sa, _, dx, _, _, rfl, S.at_, T.cl_Session, T.na_Session_acknowledged, rfl, pk, xs, rfl, eK, fun t ht => ?_⟩
    have s0 : Same H (upd H t (.lst (xs.map fun x => V.ref x.2.1))) := fun c o h => by rw [upd_ne (ne_of_none h ht)]; exact h
    refine ⟨t, xs.map (fun x => x.2.1), h.acked, rfl, by rw [List.map_map]; exact upd_same, (ak_refs aK).imp fun _ _ r => r.up (Same.tps s0), Nat.le_trans (Nat.le_succ _) hL, ?_⟩
    rintro H1 q1 ⟨sm, hq1, eN⟩
    have f1 : Frm NoB wo wo H H1 := Frm.same (s0.trans sm)
    exact kQ _ _ wo H1 q1 e2 (S.up f1 (fun z => z) (fun _ _ z => z) B.h90) (f1.mono fun _ z => z.elim) (Same.free s0 hq1) eN
theorem tk_refs {H : Hp} : ∀ {l : List Item} {bs : List Addr}, IsKeys H (l.map fun i => (itKey i, V.bl true)) bs → Al (ItR H) bs l
  | [], [], _ => .nil
  | i :: l, b :: bs, h => by
    cases h with
    | cons e t => exact .cons (show H b = some (.tup (itRow i)) from e) (tk_refs t)
  | [], _ :: _, h => by cases h
  | _ :: _, [], h => by cases h
theorem ok_taken (T : Txt K mg a) : FnOk P w K mg base (L2.CX P w) 2 a.f_taken a.d_taken ["session", "numbers"] (sp0 P w a .taken) := by
  refine T.F_taken.okX sc_taken (fun vs H Q E h => ?_) (fun cdv A outer s H vs Q E hr h => ⟨_, (pss_one (ps_ret (pe_call (ok_numbers_of T) hr rfl T.g_numbers_of T.F_numbers_of.kp T.b_numbers_of .nil pass0 (pa_cons (pe_callTy (call_list_dT rfl) (by rfl) T.n_list (by decide +kernel) (pa_cons (pe_fld (pv 0) rfl) pa_nil)) pa_nil)))), ?_⟩)
  · exact CallP.len h
  · obtain ⟨wo, sa, h, dx, pn, pu, pt, pk, ns, q, b, r, rfl, S, hq, B, hL, kQ, kE⟩ := h
    have e2 : Vbcsah.does h .taken = Vbcsah.yes h (rowsOf h.taken) := rfl
    rw [e2] at hL
    have hl2 : (rowsOf h.taken).length + 1 ≤ 10000000 := hL
    rw [rowsOf_len] at hl2
    refine ⟨_, rfl, sa, _, dx, _, _, rfl, S.at_, T.cl_Session, T.na_Session_taken, rfl, pt, _, rfl, Rd.of S.tk, fun t bs ht ik => ?_⟩
    have s0 : Same H (upd H t (.lst (bs.map V.ref))) := fun c o h => by rw [upd_ne (ne_of_none h ht)]; exact h
    refine ⟨t, bs, h.taken, rfl, .inl upd_same, (tk_refs ik).imp fun _ _ r => s0 _ _ r, by omega, ?_⟩
    rintro H1 q1 ⟨sm, hq1, eN⟩
    have f1 : Frm NoB wo wo H H1 := Frm.same (s0.trans sm)
    exact kQ _ _ wo H1 q1 e2 (S.up f1 (fun z => z) (fun _ _ z => z) B.h90) (f1.mono fun _ z => z.elim) (Same.free s0 hq1) eN

/-! ### message -/
theorem ok_message (T : Txt K mg a) : FnOk P w K mg base (L2.CX P w) 2 a.f_message a.d_message ["session", "numbers"] (sp1 P w a .message) := by
  refine T.F_message.okX sc_message (fun vs H Q E h => ?_) (fun cdv A outer s H vs Q E hr h => ⟨_, (pss_cons (ps_set (i := 2) sc_message.nd rfl (Or.inl rfl) (pe_meth (pv 0) T.cl_Session T.m_Session_message_under_way (ok_Session_message_under_way T) hr T.b_Session_message_under_way .nil (passes_call (takes_of rfl rfl rfl rfl) (fun _ _ _ _ h => h)) (pa_cons (pe_ix ix_list (pv 1) pe_int (fun _ _ => rfl)) pa_nil)))
    (pss_one (ps_ret (pe_call (ok_numbers_of T) hr rfl T.g_numbers_of T.F_numbers_of.kp T.b_numbers_of .nil pass0 (pa_cons (pe_fld (pv 2) rfl) pa_nil))))), ?_⟩)
  · obtain ⟨z, h⟩ := h; exact h.len
  · obtain ⟨z, wo, sa, h, dx, pn, pu, pt, pk, ns, q, b, r, rfl, S, hq, B, hL, kQ, kE⟩ := h
    refine ⟨_, rfl, sa, dx, _, rfl, S.at_, rfl, _, rfl, q, _, 0, _, rfl, rfl, SqL.of hq, atI_nat (j := 0) rfl, wo, sa, h, z, rfl, ⟨dx, pn, pu, pt, pk, ns, S⟩, fun m mp hm M => ?_, fun hm => ?_⟩
    · have e2 : Vbcsah.does h (.message z) = Vbcsah.yes h (rowsOf m.items) := by
        show (match Vbcsah.messageAt h z with | none => _ | some x => _) = _
        rw [hm]; rfl
      obtain ⟨mx, qc, ps, eM, eq, al⟩ := msg_at M
      have ln := (B.wf.fl m (at_number hm).2).ln
      refine ⟨_, rfl, mp, _, mx, _, _, rfl, eM, T.cl_Message, T.na_Message_carried, rfl, qc, ps, m.items, rfl, .inr eq, al_itR al, by omega, ?_⟩
      rintro H1 q1 ⟨sm, hq1, eN⟩
      have f1 : Frm NoB wo wo H H1 := Frm.same sm
      exact kQ _ _ wo H1 q1 e2 (S.up f1 (fun z => z) (fun _ _ z => z) B.h90) (f1.mono fun _ z => z.elim) hq1 eN
    · have e2 : Vbcsah.does h (.message z) = Vbcsah.no (some h) 4 := by
        show (match Vbcsah.messageAt h z with | none => _ | some x => _) = _
        rw [hm]
      exact kE 4 rfl wo H e2 S (Frm.refl _ _ _)
end
end Fo

-- FoTold2
/-! The calls that only answer: what is under way, a node's slots, how each node is. -/
namespace Fo
open PySem PySem.Spec PyProof.Rows L2

def flOf (l : List MsgS) : List Int := l.flatMap fun m => Vbcsah.ints [m.number, m.kind, m.src, m.dst, m.items.length]
theorem flOf_snoc (l : List MsgS) (m : MsgS) : flOf (l ++ [m]) = flOf l ++ Vbcsah.ints [m.number, m.kind, m.src, m.dst, m.items.length] := by
  simp [flOf, List.flatMap_append]
theorem flOf_len (l : List MsgS) : (flOf l).length = 5 * l.length := by
  induction l with
  | nil => rfl
  | cons x l ih => simp only [flOf, List.flatMap_cons, List.length_append, List.length_cons] at ih ⊢; rw [ih]; simp [Vbcsah.ints]; omega
section
variable {P : Program} {w : World} {K : PySem.W.Frag} {mg : Str → Option Value} {base : Heap} {a : Ad}

/-! ### flight -/
theorem ok_flight (T : Txt K mg a) : FnOk P w K mg base (L2.CX P w) 1 a.f_flight a.d_flight ["session", "numbers"] (sp0 P w a .flight) := by
  refine T.F_flight.okX sc_flight (fun vs H Q E h => ?_) (fun cdv A outer s H vs Q E hr h => ⟨_, (pss_cons (ps_set (i := 2) sc_flight.nd rfl (Or.inl rfl) (pe_lst pa_nil))
    (pss_cons (ps_lock (ps_for (passes_of rfl) rfl (pi_items (pe_fld (pv 0) rfl)) (pg_tup rfl (pgs_cons (pg_name (i := 3) sc_flight.nd rfl (Or.inl rfl)) (pgs_cons (pg_name (i := 4) sc_flight.nd rfl (Or.inl rfl)) pgs_nil)))
    (pss_one (ps_expr (pe_bm PySem.F.plainAttrs_list PySem.F.slot_list_extend PySem.F.type_list_extend mt_extend (pv 2) (pa_cons (pe_lst (pa_cons (pv 3) (pa_cons (pe_fld (pv 4) rfl) (pa_cons (pe_fld (pv 4) rfl) (pa_cons (pe_fld (pv 4) rfl) (pa_cons (pe_callB call_len_seq (by rfl) T.n_len (by decide +kernel) (pa_cons (pe_fld (pv 4) rfl) pa_nil)) pa_nil)))))) pa_nil))))))
    (pss_one (ps_ret (pv 2))))), ?_⟩)
  · exact CallP.len h
  · obtain ⟨wo, sa, h, dx, pn, pu, pt, pk, ns, q, b, r, rfl, S, hq, B, hL, kQ, kE⟩ := h
    have e2 : Vbcsah.does h .flight = Vbcsah.yes h (flOf h.flight) := rfl
    obtain ⟨kvs, eF, aF⟩ := S.fl
    have h40 := B.fl
    refine ⟨(by show 0 ≤ sizeLine; decide), fun D hD => ?_⟩
    have nD : pu ≠ D := ne_of_none eF hD
    refine ⟨pu, .dK kvs, upd_other nD eF, trivial, fun od => ?_⟩
    have nS : sa ≠ pu := ne_own S.wS S.wU (by simp)
    refine ⟨_, rfl, sa, _, dx, _, _, rfl, upd_other nS (upd_other (ne_of_none S.at_ hD) S.at_), T.cl_Session, T.na_Session_under_way, rfl, pu, od, kvs, rfl, upd_same,
      for_it (walk_items (d := pu) (o := od) (kvs := kvs)) (fun j σ H' => ∃ v3 v4, σ = [some (.ref sa), some (.ref q), some (.ref D), v3, v4] ∧ (∀ b o, H b = some o → b ≠ pu → H' b = some o) ∧ H' pu = some (.frz od (.dK kvs)) ∧ H' D = some (.lst ((flOf (h.flight.take j)).map V.int)))
      ⟨none, none, rfl, fun b o hb n => by rw [upd_ne n, upd_ne (ne_of_none hb hD)]; exact hb, upd_same, by rw [upd_ne (Ne.symm nD)]; exact upd_same⟩ (fun j σ H' _ ⟨_, _, _, _, e, _⟩ => e) ?_ ?_⟩
    · rintro j y σ H1 H2 hj ⟨v3, v4, rfl, hk, eP, eD⟩ ⟨t, kx, vx, rfl, ht, rfl, h1, h2⟩
      have hkv : kvs[j]? = some kvs[j] := List.getElem?_eq_getElem hj
      change (kvs[j]?).map (fun kv => kV kv.1) = some kx at h1
      change (kvs[j]?).map Prod.snd = some vx at h2
      rw [hkv] at h1 h2
      obtain ⟨m, hm, ek, mp, ev, M⟩ := aF.get hkv
      have hml : j < h.flight.length := (List.getElem?_eq_some_iff.mp hm).1
      obtain ⟨mx, qc, ps, eM, eq, al⟩ := msg_at M
      have al := al.len
      have n1 : mp ≠ pu := ne_of eM eF (by intro z; cases z)
      have n2 : qc ≠ pu := ne_of eq eF (by intro z; cases z)
      have eM1 := hk _ _ eM n1
      have eq1 := hk _ _ eq n2
      have ex : kx = .int (m.number : Int) := by have := Option.some.inj h1; rw [← this]; show kV kvs[j].1 = _; rw [ek]; rfl
      have ey : vx = .ref mp := by have := Option.some.inj h2; rw [← this]; exact ev
      subst ex
      subst ey
      have nt : ∀ {b o}, H1 b = some o → b ≠ t := fun hb => ne_of_none hb ht
      have eD2 := upd_other (o := .tup [.int (m.number : Int), .ref mp]) (nt eD) eD
      have eP2 := upd_other (o := .tup [.int (m.number : Int), .ref mp]) (nt eP) eP
      have eM2 := upd_other (o := .tup [.int (m.number : Int), .ref mp]) (nt eM1) eM1
      have eq2 := upd_other (o := .tup [.int (m.number : Int), .ref mp]) (nt eq1) eq1
      have hk2 : ∀ b o, H b = some o → b ≠ pu → upd H1 t (.tup [.int (m.number : Int), .ref mp]) b = some o := fun b o hb n => upd_other (nt (hk b o hb n)) (hk b o hb n)
      refine ⟨t, _, rfl, SqT.of upd_same, rfl, _, _, rfl, _, _, rfl, rfl, ?_⟩
      generalize upd H1 t (.tup [.int (m.number : Int), .ref mp]) = H2 at *
      refine ⟨_, rfl, .inl ⟨rfl, _, SqL.of eD2⟩, _, rfl, _, rfl, mp, _, mx, _, _, rfl, eM2, T.cl_Message, T.na_Message_kind, rfl, _, rfl, mp, _, mx, _, _, rfl, eM2, T.cl_Message, T.na_Message_sender, rfl, _, rfl, mp, _, mx, _, _, rfl, eM2, T.cl_Message, T.na_Message_receiver, rfl,
        _, rfl, mp, _, mx, _, _, rfl, eM2, T.cl_Message, T.na_Message_carried, rfl, qc, _, rfl, .inr (SqT.of eq2), (by show 5 ≤ sizeLine; decide), fun u hu => ?_⟩
      have eD3 := upd_other (o := .lst [.int (m.number : Int), .int (m.kind : Int), .int (m.src : Int), .int (m.dst : Int), .int ((ps.map V.ref).length : Int)]) (ne_of_none eD2 hu) eD2
      refine ⟨D, u, _, _, rfl, rfl, eD3, upd_same, ?_, _, _, rfl, fun b o hb n => ?_, ?_, ?_⟩
      · rw [List.length_map, flOf_len, List.length_take]
        show 5 * min j h.flight.length + 5 ≤ sizeLine
        have : sizeLine = 16777216 := by decide
        omega
      · rw [upd_ne (ne_of_none hb hD)]
        exact upd_other (ne_of_none (hk2 b o hb n) hu) (hk2 b o hb n)
      · rw [upd_ne nD]
        exact upd_other (ne_of_none eP2 hu) eP2
      · rw [upd_same, take_snoc hm, flOf_snoc, List.map_append, List.length_map, al]
        rfl
    · rintro σ H1 ⟨v3, v4, rfl, hk, eP, eD⟩
      refine ⟨eP, _, rfl, ?_⟩
      rw [aF.len, List.take_length] at eD
      have sm : Same H (upd H1 pu (.dK kvs)) := fun b o hb => by
        by_cases n : b = pu
        · subst n; rw [eF] at hb; cases hb; exact upd_same
        · rw [upd_ne n]; exact hk b o hb n
      have f1 : Frm NoB wo wo H (upd H1 pu (.dK kvs)) := Frm.same sm
      exact kQ _ _ wo _ D e2 (S.up f1 (fun z => z) (fun _ _ z => z) B.h90) (f1.mono fun _ z => z.elim) hD (by rw [upd_ne (Ne.symm nD)]; exact eD)

/-! ### disk -/
def slSize (o : Option SlotS) : Nat := (o.map fun s => s.content.book.length).getD 0
theorem slSize_c (o : Option SlotS) : slSize o = (cOf o).book.length := by cases o <;> rfl
def diskOf (x : NodeS) : List Int := Vbcsah.ints [Vbcsah.seqOf x.slot0, slSize x.slot0, Vbcsah.seqOf x.slot1, slSize x.slot1]
theorem ok_disk (T : Txt K mg a) : FnOk P w K mg base (L2.CX P w) 3 a.f_disk a.d_disk ["session", "numbers"] (sp1 P w a .disk) := by
  refine T.F_disk.okX sc_disk (fun vs H Q E h => ?_) (fun cdv A outer s H vs Q E hr h => ⟨_, (pss_cons (ps_set (i := 2) sc_disk.nd rfl (Or.inl rfl) (pe_ix ix_list (pv 1) pe_int (fun _ _ => rfl)))
    (pss_cons (ps_expr (pe_meth (pv 0) T.cl_Session T.m_Session_check_node (ok_Session_check_node T) hr T.b_Session_check_node .nil (passes_call (takes_of rfl rfl rfl rfl) (fun _ _ _ _ h => h)) (pa_cons (pv 2) pa_nil)))
    (pss_cons (ps_set (i := 3) sc_disk.nd rfl (Or.inl rfl) (pe_ix ix_list (pe_fld (pv 0) rfl) (pv 2) (fun _ _ => rfl)))
    (pss_cons (ps_set (i := 4) sc_disk.nd rfl (Or.inl rfl) (pe_lst pa_nil))
    (pss_cons (ps_for (passes_of rfl) rfl (pi_list (pe_fld (pv 3) rfl)) (pg_name (i := 5) sc_disk.nd rfl (Or.inl rfl))
    (pss_one (ps_expr (pe_bm PySem.F.plainAttrs_list PySem.F.slot_list_extend PySem.F.type_list_extend mt_extend (pv 4) (pa_cons (pe_lst (pa_cons (pe_fld (pv 5) rfl) (pa_cons (pe_callB call_lenD (by rfl) T.n_len (by decide +kernel) (pa_cons (pe_fld (pv 5) rfl) pa_nil)) pa_nil))) pa_nil)))))
    (pss_one (ps_ret (pe_op op_cat (pv 4) (pe_call (ok_numbers_of T) (hr.mono (by decide)) rfl T.g_numbers_of T.F_numbers_of.kp T.b_numbers_of .nil pass0 (pa_cons (pe_call (ok_items_of T) (hr.mono (by decide)) rfl T.g_items_of T.F_items_of.kp T.b_items_of .nil pass0 (pa_cons (pe_fld (pe_meth0 (pv 3) T.cl_Node T.m_Node_slot_read (ok_Node_slot_read T) hr T.b_Node_slot_read .nil pass0) rfl) pa_nil)) pa_nil)))))))))), ?_⟩)
  · obtain ⟨z, h⟩ := h; exact h.len
  · obtain ⟨z, wo, sa, h, dx, pn, pu, pt, pk, ns, q, b, r, rfl, S, hq, B, hL, kQ, kE⟩ := h
    have h90 := B.h90
    refine ⟨_, rfl, q, _, 0, _, rfl, rfl, SqL.of hq, atI_nat (j := 0) rfl, ?_⟩
    refine ⟨_, rfl, sa, dx, _, rfl, S.at_, rfl, _, rfl, sa, h.offices, z, rfl, S.inS, fun hz => ?_, fun hz => kE 1 rfl wo H (if_pos (not_node hz)) S (Frm.refl _ _ _)⟩
    obtain ⟨i, rfl, ei, hi, hi2, hx⟩ := B.node hz.1 hz.2
    obtain ⟨p, hp, N⟩ := S.nd i _ hx
    obtain ⟨xd, pb, pr, po, pss, s0, s1, N'⟩ := id N
    have wn := B.wf.node hi2
    have e2 : Vbcsah.does h (.disk (i : Int)) = Vbcsah.yes h (diskOf (Vbcsah.node h i) ++ rowsOf (Vbcsah.contentOf (Vbcsah.node h i)).book) := if_neg (by rw [is_node hz]; decide)
    generalize Vbcsah.node h i = x at *
    have okc := (wn.content).1
    refine ⟨_, rfl, sa, _, dx, _, _, rfl, S.at_, T.cl_Session, T.na_Session_nodes, rfl, _, rfl, pn, _, _, _, rfl, rfl, SqL.of S.nodes, ix_at rfl (by rw [List.getElem?_map, hp]; rfl), ?_⟩
    refine ⟨(by show 0 ≤ sizeLine; decide), fun D hD => ?_⟩
    have smD : Same H (upd H D (.lst [])) := fun c o h => by rw [upd_ne (ne_of_none h hD)]; exact h
    refine ⟨_, rfl, p, _, xd, _, _, rfl, smD _ _ N'.at_, T.cl_Node, T.na_Node_slots, rfl, pss, rfl, ⟨_, SqL.of (smD _ _ N'.slots)⟩, for_list (K := K) (a := pss) (xs := [.ref s0, .ref s1]) (fun j σ H' => ∃ v5, σ = [some (.ref sa), some (.ref q), some (.int (i : Int)), some (.ref p), some (.ref D), v5] ∧ Same H H' ∧ H' D = some (.lst (((diskOf x).take (2 * j)).map V.int)))
      ⟨none, rfl, smD, upd_same⟩ (fun j σ H' _ ⟨_, _, hk, _⟩ => SqL.of (hk _ _ N'.slots)) ?_ ?_⟩
    · have step : ∀ (sl : Addr) (so : Option SlotS) (j : Nat) (v5 : Option V) (H' : Hp), j < 2 → SlAt a wo H sl so → (diskOf x).take (2 * (j + 1)) = (diskOf x).take (2 * j) ++ Vbcsah.ints [Vbcsah.seqOf so, slSize so] → Same H H' → H' D = some (.lst (((diskOf x).take (2 * j)).map V.int)) →
          ∃ (dl : Addr) (pbs : Addr × Addr) (kvs : List (Key × V)), H' sl = some (.ins a.c_Slot dl (slF (Vbcsah.seqOf so) pbs.1 pbs.2)) ∧ H' pbs.1 = some (.dK kvs) ∧ kvs.length = slSize so := fun sl so j v5 H' hj hs ht hk eD => by
        obtain ⟨dl, pbs, prs, e1, _, ⟨kvs, e3, rep⟩, _⟩ := hs
        exact ⟨dl, (pbs, prs), kvs, hk _ _ e1, hk _ _ e3, by rw [rep.len, slSize_c]⟩
      rintro j y σ H' hy ⟨v5, rfl, hk, eD⟩
      have hj : j < 2 := (List.getElem?_eq_some_iff.mp hy).1
      obtain ⟨sl, so, rfl, hs, ht⟩ : ∃ (sl : Addr) (so : Option SlotS), y = .ref sl ∧ SlAt a wo H sl so ∧ (diskOf x).take (2 * (j + 1)) = (diskOf x).take (2 * j) ++ Vbcsah.ints [Vbcsah.seqOf so, slSize so] := by
        match j, hj with
        | 0, _ => cases hy; exact ⟨s0, x.slot0, rfl, N'.sl0, rfl⟩
        | 1, _ => cases hy; exact ⟨s1, x.slot1, rfl, N'.sl1, rfl⟩
      obtain ⟨dl, ⟨pbs, prs⟩, kvs, e1, e3, el⟩ := step sl so j v5 H' hj hs ht hk eD
      refine ⟨_, rfl, .inl ⟨rfl, _, SqL.of eD⟩, _, rfl, sl, _, dl, _, _, rfl, e1, T.cl_Slot, T.na_Slot_sequence, rfl, _, rfl, sl, _, dl, _, _, rfl, e1, T.cl_Slot, T.na_Slot_book, rfl, pbs, kvs, rfl, e3, (by show 2 ≤ sizeLine; decide), fun u hu => ?_⟩
      refine ⟨D, u, _, _, rfl, rfl, upd_other (ne_of_none eD hu) eD, upd_same, ?_, _, rfl, ?_, ?_⟩
      · rw [List.length_map, List.length_take]
        show min (2 * j) 4 + 2 ≤ sizeLine
        have : sizeLine = 16777216 := by decide
        omega
      · refine same_put (fun c o h => ?_) hD
        rw [upd_ne (ne_of_none (hk _ _ h) hu)]; exact hk _ _ h
      · rw [upd_same, ht, List.map_append, el]
        rfl
    · rintro σ H1 ⟨v5, rfl, hk, eD⟩
      have f1 : Frm NoB wo wo H H1 := Frm.same hk
      have N1 := N.up f1 (fun z => z) (fun z => z)
      obtain ⟨xd1, pb1, pr1, po1, pss1, s01, s11, N1'⟩ := id N1
      change H1 D = some (.lst ((diskOf x).map V.int)) at eD
      refine ⟨_, rfl, _, rfl, p, xd1, _, rfl, N1'.at_, rfl, wo, i + 1, p, _, rfl, N1, fun sr hsr => ?_⟩
      obtain ⟨xr, br, rr, er, _, hbk, _⟩ := hsr
      refine ⟨sr, _, xr, _, _, rfl, er, T.cl_Slot, T.na_Slot_book, rfl, br, _, rfl, hbk, ?_⟩
      rintro H2 q2 ⟨sm2, hq2, its, eN, aN⟩
      refine ⟨q2, its, _, rfl, .inl eN, al_itR aN, by have := okB_len okc; change (Vbcsah.contentOf x).book.length ≤ 2500000; omega, ?_⟩
      rintro H3 q3 ⟨sm3, hq3, eN3⟩
      have sm := hk.trans (sm2.trans sm3)
      have eD3 := sm3 _ _ (sm2 _ _ eD)
      refine ⟨D, q3, _, _, rfl, rfl, eD3, eN3, ?_, fun u hu => ?_⟩
      · rw [List.length_map, List.length_map, rowsOf_len]
        have := okB_len okc
        show 4 + 4 * (Vbcsah.contentOf x).book.length ≤ sizeLine
        have : sizeLine = 16777216 := by decide
        omega
      · have f3 : Frm NoB wo wo H (upd H3 u (.lst ((diskOf x).map V.int ++ (rowsOf (cOf (Vbcsah.readSlot x)).book).map V.int))) := (Frm.same sm).trans (Frm.new hu)
        exact kQ _ _ wo _ u e2 (S.up f3 (fun z => z) (fun _ _ z => z) h90) (f3.mono fun _ z => z.elim) (Same.free sm hu) (by rw [upd_same, List.map_append]; rfl)
end
end Fo

-- FoTold3
/-! The calls that only answer: how each node is, an office's receipts. -/
namespace Fo
open PySem PySem.Spec PyProof.Rows L2
section
variable {P : Program} {w : World} {K : PySem.W.Frag} {mg : Str → Option Value} {base : Heap} {a : Ad}

/-! ### state -/
def ndRow (x : NodeS) : List Int := Vbcsah.ints [Vbcsah.bit x.on, Vbcsah.seqOf (Vbcsah.readSlot x), x.memory.book.length, x.owed.length]
def stOf (h : House) (n : Nat) : List Int := (List.range n).flatMap fun i => ndRow (Vbcsah.node h i)
theorem stOf_succ (h : House) (n : Nat) : stOf h (n + 1) = stOf h n ++ ndRow (Vbcsah.node h n) := by
  unfold stOf
  rw [List.range_succ, List.flatMap_append]
  simp
theorem stOf_len (h : House) (n : Nat) : (stOf h n).length = 4 * n := by
  induction n with
  | zero => rfl
  | succ n ih => rw [stOf_succ, List.length_append, ih]; show 4 * n + 4 = _; omega
theorem ok_state (T : Txt K mg a) : FnOk P w K mg base (L2.CX P w) 3 a.f_state a.d_state ["session", "numbers"] (sp0 P w a .state) := by
  refine T.F_state.okX sc_state (fun vs H Q E h => ?_) (fun cdv A outer s H vs Q E hr h => ⟨_, (pss_cons (ps_set (i := 2) sc_state.nd rfl (Or.inl rfl) (pe_lst pa_nil))
    (pss_cons (ps_for (passes_of rfl) rfl (pi_list (pe_fld (pv 0) rfl)) (pg_name (i := 3) sc_state.nd rfl (Or.inl rfl))
    (pss_cons (ps_expr (pe_bm PySem.F.plainAttrs_list PySem.F.slot_list_append PySem.F.type_list_append mt_append (pv 2) (pa_cons (pe_ifExp (pt_val (pe_fld (pv 3) rfl)) pe_int pe_int) pa_nil)))
    (pss_one (ps_expr (pe_bm PySem.F.plainAttrs_list PySem.F.slot_list_extend PySem.F.type_list_extend mt_extend (pv 2) (pa_cons (pe_lst (pa_cons (pe_fld (pe_meth0 (pv 3) T.cl_Node T.m_Node_slot_read (ok_Node_slot_read T) hr T.b_Node_slot_read .nil pass0) rfl) (pa_cons (pe_callB call_lenD (by rfl) T.n_len (by decide +kernel) (pa_cons (pe_fld (pv 3) rfl) pa_nil)) (pa_cons (pe_callB call_len_seq (by rfl) T.n_len (by decide +kernel) (pa_cons (pe_fld (pv 3) rfl) pa_nil)) pa_nil)))) pa_nil))))))
    (pss_one (ps_ret (pv 2))))), ?_⟩)
  · exact CallP.len h
  · obtain ⟨wo, sa, h, dx, pn, pu, pt, pk, ns, q, b, r, rfl, S, hq, B, hL, kQ, kE⟩ := h
    have h90 := B.h90
    have e2 : Vbcsah.does h .state = Vbcsah.yes h (stOf h (h.offices + 2)) := rfl
    refine ⟨(by show 0 ≤ sizeLine; decide), fun D hD => ?_⟩
    have smD : Same H (upd H D (.lst [])) := fun c o h => by rw [upd_ne (ne_of_none h hD)]; exact h
    refine ⟨_, rfl, sa, _, dx, _, _, rfl, smD _ _ S.at_, T.cl_Session, T.na_Session_nodes, rfl, pn, rfl, ⟨_, SqL.of (smD _ _ S.nodes)⟩, for_list (K := K) (a := pn) (xs := ns.map V.ref) (fun j σ H' => ∃ v3, σ = [some (.ref sa), some (.ref q), some (.ref D), v3] ∧ Same H H' ∧ H' D = some (.lst ((stOf h j).map V.int)))
      ⟨none, rfl, smD, upd_same⟩ (fun j σ H' _ ⟨_, _, hk, _⟩ => SqL.of (hk _ _ S.nodes)) ?_ ?_⟩
    · rintro j y σ H' hy ⟨v3, rfl, hk, eD⟩
      obtain ⟨p, hp, rfl⟩ := refs_get hy
      have hj : j < h.offices + 2 := by have := (List.getElem?_eq_some_iff.mp hp).1; have := S.nl; have := B.wf.len; omega
      have hx := B.wf.nodeAt hj
      have wn := B.wf.node hj
      obtain ⟨p', hp', N⟩ := S.nd j _ hx
      rw [hp] at hp'; cases hp'
      have sl : sizeLine = 16777216 := by decide
      have o4 := B.wf.of4
      have lj := stOf_len h j
      have es := stOf_succ h j
      rw [es]
      clear es hx
      generalize Vbcsah.node h j = x at *
      have N1 := N.up (Frm.same (k := NoB) (wo := wo) hk) (fun z => z) (fun z => z)
      obtain ⟨xd, pb, pr, po, pss, s0, s1, N1'⟩ := id N1
      obtain ⟨kvs, eB, rep⟩ := N1'.book
      obtain ⟨qs, eO, aO, _⟩ := N1'.owed
      refine ⟨_, rfl, .inl ⟨rfl, _, SqL.of eD⟩, _, rfl, p, _, xd, _, _, rfl, N1'.at_, T.cl_Node, T.na_Node_power, rfl, _, rfl, ?_⟩
      cases on : x.on with
      | true =>
        refine iteT ⟨D, _, _, rfl, rfl, eD, (by rw [List.length_map, lj]; omega), ?_⟩
        have hk2 : Same H (upd H' D (.lst ((stOf h j).map V.int ++ [V.int 1]))) := same_put hk hD
        have N2 := N.up (Frm.same (k := NoB) (wo := wo) hk2) (fun z => z) (fun z => z)
        obtain ⟨xd2, pb2, pr2, po2, pss2, s02, s12, N2'⟩ := id N2
        obtain ⟨kvs2, eB2, rep2⟩ := N2'.book
        obtain ⟨qs2, eO2, aO2, _⟩ := N2'.owed
        have eD2 : upd H' D (.lst ((stOf h j).map V.int ++ [V.int 1])) D = some (.lst ((stOf h j).map V.int ++ [V.int 1])) := upd_same
        generalize upd H' D (.lst ((stOf h j).map V.int ++ [V.int 1])) = H2 at *
        refine ⟨_, rfl, .inl ⟨rfl, _, SqL.of eD2⟩, _, rfl, p, xd2, _, rfl, N2'.at_, rfl, wo, j + 1, p, _, rfl, N2, fun sr hsr => ?_⟩
        obtain ⟨xr, br, rr, er, _⟩ := hsr
        refine ⟨sr, _, xr, _, _, rfl, er, T.cl_Slot, T.na_Slot_sequence, rfl, _, rfl, p, _, xd2, _, _, rfl, N2'.at_, T.cl_Node, T.na_Node_book, rfl, pb2, kvs2, rfl, eB2, _, rfl, p, _, xd2, _, _, rfl, N2'.at_, T.cl_Node, T.na_Node_owed, rfl, po2, _, rfl, .inl (SqL.of eO2), (by show 3 ≤ sizeLine; decide), fun u hu => ?_⟩
        refine ⟨D, u, _, _, rfl, rfl, upd_other (ne_of_none eD2 hu) eD2, upd_same, ?_, _, rfl, same_put (fun c o h => ?_) hD, ?_⟩
        · rw [List.length_append, List.length_map, lj]
          show 4 * j + 1 + 3 ≤ sizeLine
          omega
        · rw [upd_ne (ne_of_none (hk2 _ _ h) hu)]; exact hk2 _ _ h
        · rw [upd_same, List.map_append, rep2.len, List.length_map, aO2.len, List.append_assoc]
          unfold ndRow
          rw [on]
          rfl
      | false =>
        refine iteF ⟨D, _, _, rfl, rfl, eD, (by rw [List.length_map, lj]; omega), ?_⟩
        have hk2 : Same H (upd H' D (.lst ((stOf h j).map V.int ++ [V.int 0]))) := same_put hk hD
        have N2 := N.up (Frm.same (k := NoB) (wo := wo) hk2) (fun z => z) (fun z => z)
        obtain ⟨xd2, pb2, pr2, po2, pss2, s02, s12, N2'⟩ := id N2
        obtain ⟨kvs2, eB2, rep2⟩ := N2'.book
        obtain ⟨qs2, eO2, aO2, _⟩ := N2'.owed
        have eD2 : upd H' D (.lst ((stOf h j).map V.int ++ [V.int 0])) D = some (.lst ((stOf h j).map V.int ++ [V.int 0])) := upd_same
        generalize upd H' D (.lst ((stOf h j).map V.int ++ [V.int 0])) = H2 at *
        refine ⟨_, rfl, .inl ⟨rfl, _, SqL.of eD2⟩, _, rfl, p, xd2, _, rfl, N2'.at_, rfl, wo, j + 1, p, _, rfl, N2, fun sr hsr => ?_⟩
        obtain ⟨xr, br, rr, er, _⟩ := hsr
        refine ⟨sr, _, xr, _, _, rfl, er, T.cl_Slot, T.na_Slot_sequence, rfl, _, rfl, p, _, xd2, _, _, rfl, N2'.at_, T.cl_Node, T.na_Node_book, rfl, pb2, kvs2, rfl, eB2, _, rfl, p, _, xd2, _, _, rfl, N2'.at_, T.cl_Node, T.na_Node_owed, rfl, po2, _, rfl, .inl (SqL.of eO2), (by show 3 ≤ sizeLine; decide), fun u hu => ?_⟩
        refine ⟨D, u, _, _, rfl, rfl, upd_other (ne_of_none eD2 hu) eD2, upd_same, ?_, _, rfl, same_put (fun c o h => ?_) hD, ?_⟩
        · rw [List.length_append, List.length_map, lj]
          show 4 * j + 1 + 3 ≤ sizeLine
          omega
        · rw [upd_ne (ne_of_none (hk2 _ _ h) hu)]; exact hk2 _ _ h
        · rw [upd_same, List.map_append, rep2.len, List.length_map, aO2.len, List.append_assoc]
          unfold ndRow
          rw [on]
          rfl
    · rintro σ H1 ⟨v3, rfl, hk, eD⟩
      rw [List.length_map, S.nl, B.wf.len] at eD
      have f1 : Frm NoB wo wo H H1 := Frm.same hk
      exact ⟨_, rfl, kQ _ _ wo H1 D e2 (S.up f1 (fun z => z) (fun _ _ z => z) h90) (f1.mono fun _ z => z.elim) hD eD⟩
end
end Fo

-- FoTold4
/-! The calls that only answer: an office's receipts; what one node lacks; whether all is even. -/
namespace Fo
open PySem PySem.Spec PyProof.Rows L2

/-! ### pairs -/
def kOf (H : Hp) : V → Int × Int
  | .ref t => match H t with
    | some (.tup [.int x, .int y]) => (x, y)
    | _ => (0, 0)
  | _ => (0, 0)
theorem kOf_at {H : Hp} {t : Addr} {x y : Int} (e : H t = some (.tup [.int x, .int y])) : kOf H (.ref t) = (x, y) := by
  show (match H t with | some (.tup [.int x, .int y]) => (x, y) | _ => (0, 0)) = _
  rw [e]
def PrR (H : Hp) (t : Addr) (r : Receipt) : Prop := H t = some (.tup [.int (r.2.number : Int), .int (r.1 : Int)])
theorem al_pairs {H : Hp} {ts : List Addr} {l : List Receipt} (h : Al (PrR H) ts l) : (ts.map V.ref).map (kOf H) = prs l := by
  induction h with
  | nil => rfl
  | cons r _ ih => rw [List.map_cons, List.map_cons, ih, kOf_at r]; rfl
theorem al_left {α β : Type} {R : α → β → Prop} {ps : List α} {l : List β} (h : Al R ps l) : ∀ x ∈ ps, ∃ y, R x y := by
  induction h with
  | nil => intro x hx; cases hx
  | cons r _ ih =>
    intro x hx
    rcases List.mem_cons.mp hx with rfl | hx
    · exact ⟨_, r⟩
    · exact ih x hx
def flat2 (l : List (Int × Int)) : List Int := l.flatMap fun p => [p.1, p.2]
theorem flat2_snoc (l : List (Int × Int)) (p : Int × Int) : flat2 (l ++ [p]) = flat2 l ++ [p.1, p.2] := by simp [flat2, List.flatMap_append]
theorem flat2_len (l : List (Int × Int)) : (flat2 l).length = 2 * l.length := by
  induction l with
  | nil => rfl
  | cons x l ih => simp only [flat2, List.flatMap_cons, List.length_append, List.length_cons, List.length_nil] at ih ⊢; omega
theorem flat2_prs (l : List Receipt) : flat2 (prs l) = l.flatMap fun r => Vbcsah.ints [r.2.number, r.1] := by
  induction l with
  | nil => rfl
  | cons x l ih =>
    unfold flat2 prs at ih ⊢
    rw [List.map_cons, List.flatMap_cons, List.flatMap_cons, ih]
    rfl
section
variable {P : Program} {w : World} {K : PySem.W.Frag} {mg : Str → Option Value} {base : Heap} {a : Ad}

/-! ### receipts -/
theorem ok_receipts (T : Txt K mg a) : FnOk P w K mg base (L2.CX P w) 3 a.f_receipts a.d_receipts ["session", "numbers"] (sp1 P w a .receipts) := by
  refine T.F_receipts.okX sc_receipts (fun vs H Q E h => ?_) (fun cdv A outer s H vs Q E hr h => ⟨_, (pss_cons (ps_set (i := 2) sc_receipts.nd rfl (Or.inl rfl) (pe_ix ix_list (pv 1) pe_int (fun _ _ => rfl)))
    (pss_cons (ps_expr (pe_meth (pv 0) T.cl_Session T.m_Session_check_office (ok_Session_check_office T) hr T.b_Session_check_office .nil (passes_call (takes_of rfl rfl rfl rfl) (fun _ _ _ _ h => h)) (pa_cons (pv 2) pa_nil)))
    (pss_cons (ps_set (i := 3) sc_receipts.nd rfl (Or.inl rfl) (pe_meth (pv 0) T.cl_Session T.m_Session_node_with_power (ok_Session_node_with_power T) (hr.mono (by decide)) T.b_Session_node_with_power .nil (passes_call (takes_of rfl rfl rfl rfl) (fun _ _ _ _ h => h)) (pa_cons (pv 2) pa_nil)))
    (pss_cons (ps_set (i := 4) sc_receipts.nd rfl (Or.inl rfl) (pe_lst pa_nil))
    (pss_cons (ps_for (passes_of rfl) rfl (pi_list (pe_callB cr_sortedPO (by rfl) T.n_sorted (by decide +kernel) (pa_cons (pe_lc (own := [("centre", 5), ("item", 7)]) (g := gTup K 2 (gCons (gName 5) (gCons (gName 7) gNil))) (tt := tYes) rfl sc_receipts.nd (pi_list (pe_fld (pv 3) rfl)) (blkOk_by (N := N_receipts) (sc := defScope s_receipts) (by decide +kernel)) (fun _ _ _ _ _ => (pg_tupK (K := K) rfl rfl (pgs_cons (pg_name (i := 5) sc_receipts.nd rfl (Or.inl rfl)) (pgs_cons (pg_name (i := 7) sc_receipts.nd rfl (Or.inl rfl)) pgs_nil)))) (fun _ _ _ _ _ => pts_nil) (fun _ _ _ _ _ => (pe_tup (pa_cons (pe_ix (r := rIxT K) ix_tup (pv 7) pe_int (fun _ _ => rfl)) (pa_cons (pv 5) pa_nil))))) pa_nil))) (pg_tup rfl (pgs_cons (pg_name (i := 6) sc_receipts.nd rfl (Or.inl rfl)) (pgs_cons (pg_name (i := 5) sc_receipts.nd rfl (Or.inl rfl)) pgs_nil)))
    (pss_one (ps_expr (pe_bm PySem.F.plainAttrs_list PySem.F.slot_list_extend PySem.F.type_list_extend mt_extend (pv 4) (pa_cons (pe_lst (pa_cons (pv 6) (pa_cons (pv 5) pa_nil))) pa_nil)))))
    (pss_one (ps_ret (pv 4)))))))), ?_⟩)
  · obtain ⟨z, h⟩ := h; exact h.len
  · obtain ⟨z, wo, sa, h, dx, pn, pu, pt, pk, ns, q, b, r, rfl, S, hq, B, hL, kQ, kE⟩ := h
    have h90 := B.h90
    refine ⟨_, rfl, q, _, 0, _, rfl, rfl, SqL.of hq, atI_nat (j := 0) rfl, ?_⟩
    refine ⟨_, rfl, sa, dx, _, rfl, S.at_, rfl, _, rfl, sa, h.offices, z, rfl, S.inS, fun hz => ?_, fun hz => kE 1 rfl wo H (if_pos (not_office hz)) S (Frm.refl _ _ _)⟩
    replace hz : (0 : Int) ≤ z ∧ z ≤ (h.offices : Int) - 1 := hz
    obtain ⟨i, rfl, ei, hi, hi2, hx⟩ := B.node hz.1 (by omega)
    obtain ⟨p, hp, N⟩ := S.nd i _ hx
    have wn := B.wf.node hi2
    have rk := (B.fit.node i).me
    have e2 : Vbcsah.does h (.receipts (i : Int)) = if (Vbcsah.node h i).on = false then Vbcsah.no (some h) 3 else Vbcsah.yes h ((Vbcsah.sortedReceipts (Vbcsah.node h i)).flatMap fun r => Vbcsah.ints [r.2.number, r.1]) := if_neg (by rw [is_office hz]; decide)
    rw [← flat2_prs] at e2
    refine ⟨_, rfl, sa, dx, _, rfl, S.at_, rfl, _, rfl, wo, sa, h, dx, pn, pu, pt, pk, ns, i, p, _, rfl, S, hx, hp, fun on => ?_, fun on => ?_⟩
    · rw [on, if_neg (by decide)] at e2
      rw [e2] at hL
      have hl2 : (flat2 (prs (Vbcsah.sortedReceipts (Vbcsah.node h i)))).length + 1 ≤ 10000000 := hL
      rw [flat2_len] at hl2
      generalize Vbcsah.node h i = x at *
      refine ⟨(by show 0 ≤ sizeLine; decide), fun D hD => ?_⟩
      have smD : Same H (upd H D (.lst [])) := fun c o h => by rw [upd_ne (ne_of_none h hD)]; exact h
      have eD0 : upd H D (.lst []) D = some (.lst []) := upd_same
      have N0 := N.up (Frm.same (k := NoB) (wo := wo) smD) (fun z => z) (fun z => z)
      generalize upd H D (.lst []) = H0 at *
      obtain ⟨xd, pb, pr, po, pss, s0, s1, N'⟩ := id N0
      obtain ⟨qs, eR, aR, _⟩ := N'.recs
      refine ⟨_, rfl, p, _, xd, _, _, rfl, N'.at_, T.cl_Node, T.na_Node_receipts, rfl, pr, rfl, ⟨_, SqL.of eR⟩, fun C hC => ?_⟩
      refine lc_list (K := K) (a := pr) (xs := qs.map V.ref) (fun j H' => Same H0 H' ∧ ∃ ts, H' C = some (.lst (ts.map V.ref)) ∧ Al (PrR H') ts (x.memory.receipts.take j))
        ⟨fun x o h => by rw [upd_ne (ne_of_none h hC)]; exact h, [], upd_same, .nil⟩ (fun j H' _ h => SqL.of (h.1 _ _ eR)) ?_ ?_
      · rintro j y H' hy ⟨sm, ts, eC, aC⟩
        obtain ⟨t, ht, rfl⟩ := refs_get hy
        obtain ⟨rc, hrc, rr⟩ := aR.get ht
        obtain ⟨pit, ep, hit⟩ := rr.up (Same.tps sm)
        refine ⟨t, _, rfl, SqT.of ep, rfl, _, _, rfl, _, _, rfl, rfl, rfl, tYesI ?_⟩
        refine iteT ⟨_, rfl, pit, _, 0, _, rfl, rfl, SqT.of hit.at_, atI_nat (j := 0) rfl, _, rfl, (by show 2 ≤ sizeLine; decide), fun u hu => ?_⟩
        have nC : C ≠ u := ne_of_none eC hu
        have eC2 := upd_other (o := .tup [.int (rc.2.number : Int), .int (rc.1 : Int)]) nC eC
        refine ⟨_, eC2, ?_, same_put (fun c o h => ?_) hC, ts ++ [u], by rw [List.map_append]; exact upd_same, ?_⟩
        · rw [List.length_map, aC.len, List.length_take]
          have := wn.rl; have := B.r7
          have : sizeLine = 16777216 := by decide
          omega
        · rw [upd_ne (ne_of_none (sm _ _ h) hu)]; exact sm _ _ h
        · rw [take_snoc hrc]
          have t1 : Tps H' (upd H' u (.tup [.int (rc.2.number : Int), .int (rc.1 : Int)])) := Tps.new hu
          have t2 : ∀ ys, Tps (upd H' u (.tup [.int (rc.2.number : Int), .int (rc.1 : Int)])) (upd (upd H' u (.tup [.int (rc.2.number : Int), .int (rc.1 : Int)])) C (.lst ys)) := fun ys => Tps.write eC2 (by intro z; exact z)
          have aC2 : Al (PrR (upd (upd H' u (.tup [.int (rc.2.number : Int), .int (rc.1 : Int)])) C (.lst (ts.map V.ref ++ [V.ref u])))) ts (x.memory.receipts.take j) := aC.imp fun _ _ r => t2 _ _ _ (t1 _ _ r)
          have r2 : PrR (upd (upd H' u (.tup [.int (rc.2.number : Int), .int (rc.1 : Int)])) C (.lst (ts.map V.ref ++ [V.ref u]))) u rc := t2 _ _ _ upd_same
          exact aC2.snoc r2
      · rintro H1 ⟨sm1, ts, eC, aC⟩
        rw [List.length_map, aR.len, List.take_length] at aC
        have allT : ∀ y ∈ ts.map V.ref, ∃ t, y = V.ref t ∧ H1 t = some (.tup [.int (kOf H1 y).1, .int (kOf H1 y).2]) := fun y hy => by
          obtain ⟨t, ht, rfl⟩ := List.mem_map.mp hy
          obtain ⟨rc, hrc⟩ := al_left aC t ht
          exact ⟨t, rfl, by rw [kOf_at hrc]; exact hrc⟩
        refine ⟨C, ts.map V.ref, kOf H1, rfl, SqL.of eC, allT, fun ys G hs hst hG => ?_⟩
        have ek : ys.map (kOf H1) = prs (Vbcsah.sortedReceipts x) := by
          refine sorted_is rk wn.bk.srt ?_ ?_
          · have := hst.perm.map (kOf H1)
            rwa [al_pairs aC] at this
          · rw [List.pairwise_map]
            exact hs.imp fun {p q} hpq => SrtO.lexB_no.mp hpq
        have ly : ys.length = (prs (Vbcsah.sortedReceipts x)).length := by rw [← ek, List.length_map]
        have sm2 : Same H0 (upd H1 G (.lst ys)) := fun c o h => by rw [upd_ne (ne_of_none (sm1 _ _ h) hG)]; exact sm1 _ _ h
        have sm12 : Same H1 (upd H1 G (.lst ys)) := fun c o h => by rw [upd_ne (ne_of_none h hG)]; exact h
        have eG : upd H1 G (.lst ys) G = some (.lst ys) := upd_same
        generalize upd H1 G (.lst ys) = H2 at *
        have nGD : G ≠ D := fun z => by subst z; rw [sm1 _ _ eD0] at hG; cases hG
        refine ⟨G, rfl, ⟨_, SqL.of eG⟩, for_list (K := K) (a := G) (xs := ys) (fun j σ H' => ∃ v5 v6 v7, σ = [some (.ref sa), some (.ref q), some (.int (i : Int)), some (.ref p), some (.ref D), v5, v6, v7] ∧ (∀ b o, H2 b = some o → b ≠ D → H' b = some o) ∧ H' D = some (.lst ((flat2 ((ys.map (kOf H1)).take j)).map V.int)))
          ⟨_, _, _, rfl, fun _ _ h _ => h, sm2 _ _ eD0⟩ (fun j σ H' _ ⟨_, _, _, _, hk, _⟩ => SqL.of (hk _ _ eG nGD)) ?_ ?_⟩
        · rintro j y σ H' hy ⟨v5, v6, v7, rfl, hk, eD⟩
          have hjy : j < ys.length := (List.getElem?_eq_some_iff.mp hy).1
          have hm : y ∈ ts.map V.ref := hst.perm.mem_iff.mp (List.mem_of_getElem? hy)
          obtain ⟨t, rfl, et⟩ := allT y hm
          have hky : (ys.map (kOf H1))[j]? = some (kOf H1 (.ref t)) := by rw [List.getElem?_map, hy]; rfl
          generalize kOf H1 (.ref t) = ky at *
          have et2 := sm12 _ _ et
          have ntD : t ≠ D := fun z => by subst z; rw [sm2 _ _ eD0] at et2; cases et2
          have et3 := hk _ _ et2 ntD
          refine ⟨t, _, rfl, SqT.of et3, rfl, _, _, rfl, _, _, rfl, rfl, ?_⟩
          refine ⟨_, rfl, .inl ⟨rfl, _, SqL.of eD⟩, _, rfl, _, rfl, (by show 2 ≤ sizeLine; decide), fun u hu => ?_⟩
          refine ⟨D, u, _, _, rfl, rfl, upd_other (ne_of_none eD hu) eD, upd_same, ?_, _, _, _, rfl, fun b o hb n => ?_, ?_⟩
          · rw [List.length_map, flat2_len, List.length_take, List.length_map]
            show 2 * min j ys.length + 2 ≤ sizeLine
            have : sizeLine = 16777216 := by decide
            omega
          · rw [upd_ne n, upd_ne (ne_of_none (hk _ _ hb n) hu)]; exact hk _ _ hb n
          · rw [upd_same, take_snoc hky, flat2_snoc, List.map_append]
            rfl
        · rintro σ H3 ⟨v5, v6, v7, rfl, hk, eD⟩
          rw [ek, ly, List.take_length] at eD
          have sm3 : Same H H3 := fun c o h => hk _ _ (sm2 _ _ (smD _ _ h)) (ne_of_none h hD)
          have f3 : Frm NoB wo wo H H3 := Frm.same sm3
          exact ⟨_, rfl, kQ _ _ wo H3 D e2 (S.up f3 (fun z => z) (fun _ _ z => z) h90) (f3.mono fun _ z => z.elim) hD eD⟩
    · rw [on, if_pos rfl] at e2
      exact kE 3 rfl wo H e2 S (Frm.refl _ _ _)

/-! ### lacks -/
theorem ok_lacks (T : Txt K mg a) : FnOk P w K mg base (L2.CX P w) 3 a.f_lacks a.d_lacks ["session", "numbers"] (sp2 P w a .lacks) := by
  refine T.F_lacks.okX sc_lacks (fun vs H Q E h => ?_) (fun cdv A outer s H vs Q E hr h => ⟨_, (pss_cons (ps_asg (pv 1) (pg_unl rfl (pgs_cons (pg_name (i := 2) sc_lacks.nd rfl (Or.inl rfl)) (pgs_cons (pg_name (i := 3) sc_lacks.nd rfl (Or.inl rfl)) pgs_nil))))
    (pss_cons (ps_expr (pe_meth (pv 0) T.cl_Session T.m_Session_check_node (ok_Session_check_node T) hr T.b_Session_check_node .nil (passes_call (takes_of rfl rfl rfl rfl) (fun _ _ _ _ h => h)) (pa_cons (pv 2) pa_nil)))
    (pss_cons (ps_expr (pe_meth (pv 0) T.cl_Session T.m_Session_check_node (ok_Session_check_node T) hr T.b_Session_check_node .nil (passes_call (takes_of rfl rfl rfl rfl) (fun _ _ _ _ h => h)) (pa_cons (pv 3) pa_nil)))
    (pss_cons (ps_set (i := 4) sc_lacks.nd rfl (Or.inl rfl) (pe_meth (pv 0) T.cl_Session T.m_Session_node_with_power (ok_Session_node_with_power T) (hr.mono (by decide)) T.b_Session_node_with_power .nil (passes_call (takes_of rfl rfl rfl rfl) (fun _ _ _ _ h => h)) (pa_cons (pv 2) pa_nil)))
    (pss_cons (ps_set (i := 5) sc_lacks.nd rfl (Or.inl rfl) (pe_meth (pv 0) T.cl_Session T.m_Session_node_with_power (ok_Session_node_with_power T) (hr.mono (by decide)) T.b_Session_node_with_power .nil (passes_call (takes_of rfl rfl rfl rfl) (fun _ _ _ _ h => h)) (pa_cons (pv 3) pa_nil)))
    (pss_one (ps_ret (pe_lc (own := [("item", 6)]) (g := gName 6) (tt := tYes) rfl sc_lacks.nd (pi_list (pe_call (ok_news_for T) hr rfl T.g_news_for T.F_news_for.kp T.b_news_for .nil pass0 (pa_cons (pe_fld (pv 4) rfl) (pa_cons (pe_fld (pv 5) rfl) pa_nil)))) (blkOk_by (N := N_lacks) (sc := defScope s_lacks) (by decide +kernel)) (fun _ _ _ _ _ => (pg_name (i := 6) sc_lacks.nd rfl (Or.inl rfl))) (fun _ _ _ _ _ => pts_nil) (fun _ _ _ _ _ => (pe_ix (r := rIxT K) ix_tup (pv 6) pe_int (fun _ _ => rfl))))))))))), ?_⟩)
  · obtain ⟨y, z, h⟩ := h; exact h.len
  · obtain ⟨y, z, wo, sa, h, dx, pn, pu, pt, pk, ns, q, b, r, rfl, S, hq, B, hL, kQ, kE⟩ := h
    have h90 := B.h90
    have no1 : (Vbcsah.isNode h y = false ∨ Vbcsah.isNode h z = false) → Vbcsah.does h (.lacks y z) = Vbcsah.no (some h) 1 := fun c => if_pos c
    refine ⟨_, rfl, q, _, rfl, SqL.of hq, rfl, _, _, rfl, _, _, rfl, rfl, ?_⟩
    refine ⟨_, rfl, sa, dx, _, rfl, S.at_, rfl, _, rfl, sa, h.offices, y, rfl, S.inS, fun hy => ?_, fun hy => kE 1 rfl wo H (no1 (.inl (not_node hy))) S (Frm.refl _ _ _)⟩
    refine ⟨_, rfl, sa, dx, _, rfl, S.at_, rfl, _, rfl, sa, h.offices, z, rfl, S.inS, fun hz => ?_, fun hz => kE 1 rfl wo H (no1 (.inr (not_node hz))) S (Frm.refl _ _ _)⟩
    obtain ⟨i, rfl, ei, hi, hi2, hx⟩ := B.node hy.1 hy.2
    obtain ⟨c, rfl, ec, hc, hc2, hxc⟩ := B.node (z := z) hz.1 hz.2
    obtain ⟨p, hp, N⟩ := S.nd i _ hx
    obtain ⟨xd, pb, pr, po, pss, s0, s1, N'⟩ := id N
    obtain ⟨p2, hp2, N2⟩ := S.nd c _ hxc
    obtain ⟨xd2, pb2, pr2, po2, pss2, s02, s12, N2'⟩ := id N2
    have wn := B.wf.node hi2
    have e2 : Vbcsah.does h (.lacks (i : Int) (c : Int)) = if (Vbcsah.node h i).on = false ∨ (Vbcsah.node h c).on = false then Vbcsah.no (some h) 3 else Vbcsah.yes h ((Vbcsah.news (Vbcsah.node h i).memory.book (Vbcsah.node h c).memory.book).map fun x => (x.number : Int)) := by
      have e1 : ¬ (Vbcsah.isNode h (i : Int) = false ∨ Vbcsah.isNode h (c : Int) = false) := by rw [is_node hy, is_node hz]; simp
      exact if_neg e1
    refine ⟨_, rfl, sa, dx, _, rfl, S.at_, rfl, _, rfl, wo, sa, h, dx, pn, pu, pt, pk, ns, i, p, _, rfl, S, hx, hp, fun on => ?_, fun on => ?_⟩
    · refine ⟨_, rfl, sa, dx, _, rfl, S.at_, rfl, _, rfl, wo, sa, h, dx, pn, pu, pt, pk, ns, c, p2, _, rfl, S, hxc, hp2, fun on2 => ?_, fun on2 => ?_⟩
      · rw [if_neg (by rw [on, on2]; simp)] at e2
        refine ⟨_, rfl, p, _, xd, _, _, rfl, N'.at_, T.cl_Node, T.na_Node_book, rfl, _, rfl, p2, _, xd2, _, _, rfl, N2'.at_, T.cl_Node, T.na_Node_book, rfl, pb, pb2, _, _, rfl, N'.book, N2'.book, ?_⟩
        rintro H1 q1 ⟨sm, hq1, its, eN, aN⟩
        have okn : OkB (Vbcsah.news (Vbcsah.node h i).memory.book (Vbcsah.node h c).memory.book) := news_okB wn.bk
        generalize Vbcsah.news (Vbcsah.node h i).memory.book (Vbcsah.node h c).memory.book = l at *
        refine ⟨q1, rfl, ⟨_, SqL.of eN⟩, fun C hC => ?_⟩
        refine lc_list (K := K) (a := q1) (xs := its.map V.ref) (fun j H' => Same H1 H' ∧ H' C = some (.lst (((l.take j).map fun x => (x.number : Int)).map V.int)))
          ⟨fun x o h => by rw [upd_ne (ne_of_none h hC)]; exact h, upd_same⟩ (fun j H' _ h => SqL.of (h.1 _ _ eN)) ?_ ?_
        · rintro j u H' hu ⟨sm2, eC⟩
          obtain ⟨pit, hpit, rfl⟩ := refs_get hu
          obtain ⟨it, hit, hi0⟩ := aN.get hpit
          have hi1 := hi0.up (Same.tps sm2)
          refine ⟨rfl, tYesI ?_⟩
          refine iteT ⟨_, rfl, pit, _, 0, _, rfl, rfl, SqT.of hi1.at_, atI_nat (j := 0) rfl, _, eC, ?_, same_put sm2 hC, ?_⟩
          · rw [List.length_map, List.length_map, List.length_take]
            have := okB_len okn
            exact small1000 (by omega)
          · rw [upd_same, take_snoc hit, List.map_append, List.map_append]
            rfl
        · rintro H2 ⟨sm2, eC⟩
          rw [List.length_map, aN.len, List.take_length] at eC
          have f2 : Frm NoB wo wo H H2 := Frm.same (sm.trans sm2)
          exact kQ _ _ wo H2 C e2 (S.up f2 (fun z => z) (fun _ _ z => z) h90) (f2.mono fun _ z => z.elim) (Same.free sm hC) eC
      · rw [if_pos (.inr on2)] at e2
        exact kE 3 rfl wo H e2 S (Frm.refl _ _ _)
    · rw [if_pos (.inl on)] at e2
      exact kE 3 rfl wo H e2 S (Frm.refl _ _ _)

/-! ### even -/
theorem even_eq {b r : Nat} {h : House} (W : Wf b 4080 r h) : Vbcsah.even h = ((Vbcsah.node h h.offices).on && ((Vbcsah.node h (h.offices + 1)).on && ((Vbcsah.node h h.offices).memory.book == (Vbcsah.node h (h.offices + 1)).memory.book &&
    (List.range h.offices).all fun o => (Vbcsah.news (Vbcsah.node h o).memory.book (Vbcsah.node h h.offices).memory.book).isEmpty))) := by
  have e1 : Vbcsah.even h = (((Vbcsah.node h h.offices).on && ((Vbcsah.node h (h.offices + 1)).on && true)) && ((Vbcsah.node h h.offices).memory.book == (Vbcsah.node h (h.offices + 1)).memory.book &&
    (List.range h.offices).all fun o => !(Vbcsah.node h o).on || (Vbcsah.news (Vbcsah.node h o).memory.book (Vbcsah.node h h.offices).memory.book).isEmpty)) := rfl
  have e2 : ((List.range h.offices).all fun o => !(Vbcsah.node h o).on || (Vbcsah.news (Vbcsah.node h o).memory.book (Vbcsah.node h h.offices).memory.book).isEmpty) = (List.range h.offices).all fun o => (Vbcsah.news (Vbcsah.node h o).memory.book (Vbcsah.node h h.offices).memory.book).isEmpty := by
    rw [Bool.eq_iff_iff, List.all_eq_true, List.all_eq_true]
    refine forall_congr' fun o => forall_congr' fun ho => ?_
    have hol := List.mem_range.mp ho
    cases on : (Vbcsah.node h o).on with
    | true => simp
    | false =>
      have := ((W.node (i := o) (by omega)).dk on).1
      rw [this]
      simp [Vbcsah.news]
  rw [e1, e2, Bool.and_true, Bool.and_assoc]
def sp_is_even (P : Program) (w : World) (a : Ad) : Sp := fun vs H Q _ => ∃ (wo : Ow) (sa : Addr) (h : House) (dx pn pu pt pk : Addr) (ns : List Addr) (b r : Nat), vs = [.ref sa] ∧ SesA P w a wo H sa h dx pn pu pt pk ns ∧ Wf b 4080 r h ∧ ∀ H', Same H H' → Q (.bl (Vbcsah.even h)) H'
theorem cut_head (xs : List Addr) (n : Nat) (h : n ≤ xs.length) : cutV (xs.map V.ref) none (some (n : Int)) = (xs.take n).map V.ref := by
  unfold cutV
  rw [HT.sIx_nat, HT.sIx_none, List.length_map, Nat.min_eq_left h]
  simp
theorem ok_is_even (T : Txt K mg a) : FnOk P w K mg base CX0 3 a.f_is_even a.d_is_even ["session"] (sp_is_even P w a) := by
  refine T.F_is_even.ok sc_is_even (fun vs H Q E h => ?_) (fun cdv A outer s H vs Q E hr h => ⟨_, (pss_cons (ps_asg (pe_lc (own := [("centre", 4)]) (g := gName 4) (tt := tYes) rfl sc_is_even.nd (pi_list (pe_meth0 (pv 0) T.cl_Session T.m_Session_centres (ok_Session_centres T) (hr.mono (by decide)) T.b_Session_centres .nil pass0)) (blkOk_by (N := N_is_even) (sc := defScope s_is_even) (by decide +kernel)) (fun _ _ _ _ _ => (pg_name (i := 4) sc_is_even.nd rfl (Or.inl rfl))) (fun _ _ _ _ _ => pts_nil) (fun _ _ _ _ _ => (pe_ix (r := rIxL K) ix_list (pe_fldK (K := K) rfl (pv 0) rfl) (pv 4) (fun _ _ => rfl)))) (pg_unl rfl (pgs_cons (pg_name (i := 1) sc_is_even.nd rfl (Or.inl rfl)) (pgs_cons (pg_name (i := 2) sc_is_even.nd rfl (Or.inl rfl)) pgs_nil))))
    (pss_cons (ps_if (PW.pt (pw_or (pt_not (pt_val (pe_fld (pv 1) rfl))) (pw_or (pt_not (pt_val (pe_fld (pv 2) rfl))) (pw_or1 (pt_cmpR (op_neB (un65 hr)) (pe_fld (pv 1) rfl) (pe_fld (pv 2) rfl) (nomark _))))))
    (pss_one (ps_ret pe_bl))
    pss_nil)
    (pss_cons (ps_for PassesOwn.never rfl (pi_list (pe_slice sl_list (pe_fld (pv 0) rfl) po_none (po_some (pe_fld (pv 0) rfl)))) (pg_name (i := 3) sc_is_even.nd rfl (Or.inl rfl))
    (pss_one (ps_if (pt_truth (pe_call (ok_news_for T) hr rfl T.g_news_for T.F_news_for.kp T.b_news_for .nil pass0 (pa_cons (pe_fld (pv 3) rfl) (pa_cons (pe_fld (pv 1) rfl) pa_nil))) (by intro _; rfl))
    (pss_one (ps_ret pe_bl))
    pss_nil)))
    (pss_one (ps_ret pe_bl))))), ?_⟩)
  · obtain ⟨wo, sa, h, dx, pn, pu, pt, pk, ns, b, r, rfl, _⟩ := h; rfl
  · obtain ⟨wo, sa, h, dx, pn, pu, pt, pk, ns, b, r, rfl, S, W, k⟩ := h
    rw [even_eq W] at k
    have h90 := W.h90
    have nl := S.nl
    have wl := W.len
    have hx1 := W.nodeAt (i := h.offices) (by omega)
    have hx2 := W.nodeAt (i := h.offices + 1) (by omega)
    obtain ⟨p1, hp1, N1⟩ := S.nd _ _ hx1
    obtain ⟨p2, hp2, N2⟩ := S.nd _ _ hx2
    refine ⟨_, rfl, sa, dx, _, rfl, S.at_, rfl, sa, h.offices, rfl, S.inS, ?_⟩
    rintro H1 q1 ⟨sm1, hq1, eq1⟩
    refine ⟨q1, rfl, ⟨_, SqL.of eq1⟩, fun C hC => ?_⟩
    refine lc_list (K := K) (a := q1) (xs := (ctrs h.offices).map V.int) (fun j H' => Same H1 H' ∧ H' C = some (.lst (([p1, p2].take j).map V.ref)))
      ⟨fun x o h => by rw [upd_ne (ne_of_none h hC)]; exact h, upd_same⟩ (fun j H' _ h => SqL.of (h.1 _ _ eq1)) ?_ ?_
    · rintro j u H' hu ⟨sm2, eC⟩
      have sm := sm1.trans sm2
      obtain ⟨c, pc, rfl, hpc, et, hj⟩ : ∃ (c : Nat) (pc : Addr), u = .int (c : Int) ∧ ns[c]? = some pc ∧ [p1, p2].take (j + 1) = [p1, p2].take j ++ [pc] ∧ j < 2 := by
        match j, hu with
        | 0, hu => cases hu; exact ⟨h.offices, p1, rfl, hp1, rfl, by decide⟩
        | 1, hu => cases hu; exact ⟨h.offices + 1, p2, by show V.int _ = V.int _; rfl, hp2, rfl, by decide⟩
        | j + 2, hu => simp [ctrs] at hu
      refine ⟨rfl, tYesI ?_⟩
      refine iteT ⟨_, rfl, sa, _, dx, _, _, rfl, sm _ _ S.at_, T.cl_Session, T.na_Session_nodes, rfl, _, rfl, pn, _, _, _, rfl, rfl, SqL.of (sm _ _ S.nodes), ix_at rfl (by rw [List.getElem?_map, hpc]; rfl), _, eC, ?_, same_put sm2 hC, ?_⟩
      · rw [List.length_map, List.length_take]
        exact small1000 (n := min j 2) (by omega)
      · rw [upd_same, et, List.map_append]; rfl
    · rintro H2 ⟨sm2, eC⟩
      have sm := sm1.trans sm2
      have f2 : Frm NoB wo wo H H2 := Frm.same sm
      have S2 := S.up f2 (fun z => z) (fun _ _ z => z) h90
      have M1 := N1.up f2 (fun z => z) (fun z => z)
      have M2 := N2.up f2 (fun z => z) (fun z => z)
      obtain ⟨xd1, pb1, pr1, po1, pss1, s01, s11, M1'⟩ := id M1
      obtain ⟨xd2, pb2, pr2, po2, pss2, s02, s12, M2'⟩ := id M2
      refine ⟨C, _, rfl, SqL.of eC, rfl, _, _, rfl, _, _, rfl, rfl, ?_⟩
      refine ⟨_, rfl, p1, _, xd1, _, _, rfl, M1'.at_, T.cl_Node, T.na_Node_power, rfl, _, rfl, ?_⟩
      cases on1 : (Vbcsah.node h h.offices).on with
      | false =>
        rw [on1, Bool.false_and] at k
        exact iteT (iteT (k H2 sm))
      | true =>
        rw [on1, Bool.true_and] at k
        refine iteF ⟨_, rfl, p2, _, xd2, _, _, rfl, M2'.at_, T.cl_Node, T.na_Node_power, rfl, _, rfl, ?_⟩
        cases on2 : (Vbcsah.node h (h.offices + 1)).on with
        | false =>
          rw [on2, Bool.false_and] at k
          exact iteT (iteT (k H2 sm))
        | true =>
          rw [on2, Bool.true_and] at k
          refine iteF ⟨_, rfl, p1, _, xd1, _, _, rfl, M1'.at_, T.cl_Node, T.na_Node_book, rfl, _, rfl, p2, _, xd2, _, _, rfl, M2'.at_, T.cl_Node, T.na_Node_book, rfl, pb1, pb2, _, _, rfl, rfl, M1'.book, M2'.book, _, rfl, ?_⟩
          cases eb : ((Vbcsah.node h h.offices).memory.book == (Vbcsah.node h (h.offices + 1)).memory.book) with
          | false =>
            rw [eb, Bool.false_and] at k
            exact iteT (k H2 sm)
          | true =>
            rw [eb, Bool.true_and] at k
            refine iteF ?_
            refine ⟨_, rfl, sa, _, dx, _, _, rfl, S2.at_, T.cl_Session, T.na_Session_nodes, rfl, _, rfl, sa, _, dx, _, _, rfl, S2.at_, T.cl_Session, T.na_Session_offices, rfl, _, rfl, pn, _, rfl, SqL.of S2.nodes, fun q hq => ?_⟩
            rw [cut_head ns h.offices (by omega)]
            have smq : Same H2 (upd H2 q (.lst ((ns.take h.offices).map V.ref))) := fun c o h => by rw [upd_ne (ne_of_none h hq)]; exact h
            have eq : upd H2 q (.lst ((ns.take h.offices).map V.ref)) q = some (.lst ((ns.take h.offices).map V.ref)) := upd_same
            generalize upd H2 q (.lst ((ns.take h.offices).map V.ref)) = H3 at *
            have sm3 := sm.trans smq
            refine ⟨q, rfl, ⟨_, SqL.of eq⟩, for_list (K := K) (a := q) (xs := (ns.take h.offices).map V.ref) (fun j σ H' => ∃ v3 v4, σ = [some (.ref sa), some (.ref p1), some (.ref p2), v3, v4] ∧ Same H3 H' ∧ ((List.range j).all fun o => (Vbcsah.news (Vbcsah.node h o).memory.book (Vbcsah.node h h.offices).memory.book).isEmpty) = true)
              ⟨_, _, rfl, fun _ _ h => h, rfl⟩ (fun j σ H' _ ⟨_, _, _, hk, _⟩ => SqL.of (hk _ _ eq)) ?_ ?_⟩
            · rintro j y σ H4 hy ⟨v3, v4, rfl, hk, al⟩
              obtain ⟨p, hp, rfl⟩ := refs_get hy
              have hj : j < h.offices := by
                have := (List.getElem?_eq_some_iff.mp hp).1
                rw [List.length_take] at this
                omega
              rw [List.getElem?_take_of_lt hj] at hp
              have f4 : Frm NoB wo wo H H4 := Frm.same (sm3.trans hk)
              have hxj := W.nodeAt (i := j) (by omega)
              obtain ⟨p', hp', N⟩ := S.nd j _ hxj
              rw [hp] at hp'; cases hp'
              obtain ⟨xd, pb, pr, po, pss, s0, s1, N'⟩ := N.up f4 (fun z => z) (fun z => z)
              obtain ⟨xe, pc, pr3, po3, pss3, s03, s13, L'⟩ := N1.up f4 (fun z => z) (fun z => z)
              refine ⟨_, rfl, p, _, xd, _, _, rfl, N'.at_, T.cl_Node, T.na_Node_book, rfl, _, rfl, p1, _, xe, _, _, rfl, L'.at_, T.cl_Node, T.na_Node_book, rfl, pb, pc, _, _, rfl, N'.book, L'.book, ?_⟩
              rintro H5 q5 ⟨sm5, hq5, its, eN, aN⟩
              refine ⟨_, .inl ⟨_, SqL.of eN, rfl⟩, ?_⟩
              rw [truth_its aN]
              cases ce : (Vbcsah.news (Vbcsah.node h j).memory.book (Vbcsah.node h h.offices).memory.book).isEmpty with
              | false =>
                have ea : ((List.range h.offices).all fun o => (Vbcsah.news (Vbcsah.node h o).memory.book (Vbcsah.node h h.offices).memory.book).isEmpty) = false := by
                  rw [List.all_eq_false]
                  exact ⟨j, List.mem_range.mpr hj, by rw [ce]; exact Bool.false_ne_true⟩
                rw [ea] at k
                exact iteT (k H5 ((sm3.trans hk).trans sm5))
              | true =>
                refine iteF ⟨_, _, rfl, hk.trans sm5, ?_⟩
                rw [List.range_succ, List.all_append, al]
                simp [ce]
            · rintro σ H4 ⟨v3, v4, rfl, hk, al⟩
              rw [List.length_map, List.length_take, Nat.min_eq_left (by omega)] at al
              rw [al] at k
              exact k H4 (sm3.trans hk)
theorem ok_even (T : Txt K mg a) : FnOk P w K mg base (L2.CX P w) 4 a.f_even a.d_even ["session", "numbers"] (sp0 P w a .even_) := by
  refine T.F_even.okX sc_even (fun vs H Q E h => ?_) (fun cdv A outer s H vs Q E hr h => ⟨_, (pss_one (ps_ret (pe_lst (pa_cons (pe_ifExp (pt_val (pe_call (ok_is_even T) hr rfl T.g_is_even T.F_is_even.kp T.b_is_even .nil pass0 (pa_cons (pv 0) pa_nil))) pe_int pe_int) pa_nil)))), ?_⟩)
  · exact CallP.len h
  · obtain ⟨wo, sa, h, dx, pn, pu, pt, pk, ns, q, b, r, rfl, S, hq, B, hL, kQ, kE⟩ := h
    have e2 : Vbcsah.does h .even_ = Vbcsah.yes h [(Vbcsah.bit (Vbcsah.even h) : Int)] := rfl
    refine ⟨_, rfl, wo, sa, h, dx, pn, pu, pt, pk, ns, b, r, rfl, S, B.wf, fun H1 sm => ?_⟩
    have f1 : Frm NoB wo wo H H1 := Frm.same sm
    have S1 := S.up f1 (fun z => z) (fun _ _ z => z) B.h90
    refine ⟨_, rfl, ?_⟩
    cases ev : Vbcsah.even h with
    | true =>
      rw [ev] at e2
      refine iteT ⟨(by show 1 ≤ sizeLine; decide), fun t ht => ?_⟩
      exact kQ _ _ wo _ t e2 (S1.up (Frm.new (k := NoB) ht) (fun z => z) (fun _ _ z => z) B.h90) ((f1.mono fun _ z => z.elim).trans (Frm.new ht)) (Same.free sm ht) upd_same
    | false =>
      rw [ev] at e2
      refine iteF ⟨(by show 1 ≤ sizeLine; decide), fun t ht => ?_⟩
      exact kQ _ _ wo _ t e2 (S1.up (Frm.new (k := NoB) ht) (fun z => z) (fun _ _ z => z) B.h90) ((f1.mono fun _ z => z.elim).trans (Frm.new ht)) (Same.free sm ht) upd_same
end
end Fo

-- FoPerf
/-! A call by its number. Printed by a program of mine. -/
namespace Fo
open PySem PySem.Spec PyProof.Rows L2
abbrev TOPC : Int := 22
theorem callOf_cases {c : Int} {nums : List Int} {cl : Vbcsah.Call} (h : VbcsahNeutral.callOf [c :: nums] = some cl) (h1 : 1 ≤ c) :
    (∃ u v x y z : Int, c = 1 ∧ nums = [u, v, x, y, z] ∧ cl = .take u v x y z) ∨ (∃ u : Int, c = 2 ∧ nums = [u] ∧ cl = .keep u) ∨ (∃ u v : Int, c = 3 ∧ nums = [u, v] ∧ cl = .torn u v) ∨ (∃ u : Int, c = 4 ∧ nums = [u] ∧ cl = .cut u) ∨ (∃ u : Int, c = 5 ∧ nums = [u] ∧ cl = .up u) ∨ (∃ u v : Int, c = 6 ∧ nums = [u, v] ∧ cl = .send u v) ∨ (∃ u : Int, c = 7 ∧ nums = [u] ∧ cl = .ask u) ∨ (∃ u : Int, c = 8 ∧ nums = [u] ∧ cl = .deliver_ u) ∨ (∃ u : Int, c = 9 ∧ nums = [u] ∧ cl = .lose u) ∨ (∃ u : Int, c = 10 ∧ nums = [u] ∧ cl = .double u) ∨ (∃ u : Int, c = 11 ∧ nums = [u] ∧ cl = .memory u) ∨ (∃ u : Int, c = 12 ∧ nums = [u] ∧ cl = .disk u) ∨ (∃ u : Int, c = 13 ∧ nums = [u] ∧ cl = .receipts u) ∨ (c = 14 ∧ nums = [] ∧ cl = .flight) ∨ (∃ u : Int, c = 15 ∧ nums = [u] ∧ cl = .message u) ∨ (c = 16 ∧ nums = [] ∧ cl = .acknowledged) ∨ (∃ u v : Int, c = 17 ∧ nums = [u, v] ∧ cl = .lacks u v) ∨ (c = 18 ∧ nums = [] ∧ cl = .even_) ∨ (c = 19 ∧ nums = [] ∧ cl = .settle) ∨ (c = 20 ∧ nums = [] ∧ cl = .state) ∨ (∃ u : Int, c = 21 ∧ nums = [u] ∧ cl = .owed u) ∨ (c = 22 ∧ nums = [] ∧ cl = .taken) := by
  unfold VbcsahNeutral.callOf at h
  split at h
  · rename_i heq; simp only [List.cons.injEq] at heq; obtain ⟨⟨rfl, _⟩, _⟩ := heq; omega
  · rename_i heq; simp only [List.cons.injEq, and_true] at heq; obtain ⟨rfl, rfl⟩ := heq; cases h; exact .inl ⟨_, _, _, _, _, rfl, rfl, rfl⟩
  · rename_i heq; simp only [List.cons.injEq, and_true] at heq; obtain ⟨rfl, rfl⟩ := heq; cases h; exact .inr (.inl ⟨_, rfl, rfl, rfl⟩)
  · rename_i heq; simp only [List.cons.injEq, and_true] at heq; obtain ⟨rfl, rfl⟩ := heq; cases h; exact .inr (.inr (.inl ⟨_, _, rfl, rfl, rfl⟩))
  · rename_i heq; simp only [List.cons.injEq, and_true] at heq; obtain ⟨rfl, rfl⟩ := heq; cases h; exact .inr (.inr (.inr (.inl ⟨_, rfl, rfl, rfl⟩)))
  · rename_i heq; simp only [List.cons.injEq, and_true] at heq; obtain ⟨rfl, rfl⟩ := heq; cases h; exact .inr (.inr (.inr (.inr (.inl ⟨_, rfl, rfl, rfl⟩))))
  · rename_i heq; simp only [List.cons.injEq, and_true] at heq; obtain ⟨rfl, rfl⟩ := heq; cases h; exact .inr (.inr (.inr (.inr (.inr (.inl ⟨_, _, rfl, rfl, rfl⟩)))))
  · rename_i heq; simp only [List.cons.injEq, and_true] at heq; obtain ⟨rfl, rfl⟩ := heq; cases h; exact .inr (.inr (.inr (.inr (.inr (.inr (.inl ⟨_, rfl, rfl, rfl⟩))))))
  · rename_i heq; simp only [List.cons.injEq, and_true] at heq; obtain ⟨rfl, rfl⟩ := heq; cases h; exact .inr (.inr (.inr (.inr (.inr (.inr (.inr (.inl ⟨_, rfl, rfl, rfl⟩)))))))
  · rename_i heq; simp only [List.cons.injEq, and_true] at heq; obtain ⟨rfl, rfl⟩ := heq; cases h; exact .inr (.inr (.inr (.inr (.inr (.inr (.inr (.inr (.inl ⟨_, rfl, rfl, rfl⟩))))))))
  · rename_i heq; simp only [List.cons.injEq, and_true] at heq; obtain ⟨rfl, rfl⟩ := heq; cases h; exact .inr (.inr (.inr (.inr (.inr (.inr (.inr (.inr (.inr (.inl ⟨_, rfl, rfl, rfl⟩)))))))))
  · rename_i heq; simp only [List.cons.injEq, and_true] at heq; obtain ⟨rfl, rfl⟩ := heq; cases h; exact .inr (.inr (.inr (.inr (.inr (.inr (.inr (.inr (.inr (.inr (.inl ⟨_, rfl, rfl, rfl⟩))))))))))
  · rename_i heq; simp only [List.cons.injEq, and_true] at heq; obtain ⟨rfl, rfl⟩ := heq; cases h; exact .inr (.inr (.inr (.inr (.inr (.inr (.inr (.inr (.inr (.inr (.inr (.inl ⟨_, rfl, rfl, rfl⟩)))))))))))
  · rename_i heq; simp only [List.cons.injEq, and_true] at heq; obtain ⟨rfl, rfl⟩ := heq; cases h; exact .inr (.inr (.inr (.inr (.inr (.inr (.inr (.inr (.inr (.inr (.inr (.inr (.inl ⟨_, rfl, rfl, rfl⟩))))))))))))
  · rename_i heq; simp only [List.cons.injEq, and_true] at heq; obtain ⟨rfl, rfl⟩ := heq; cases h; exact .inr (.inr (.inr (.inr (.inr (.inr (.inr (.inr (.inr (.inr (.inr (.inr (.inr (.inl ⟨rfl, rfl, rfl⟩)))))))))))))
  · rename_i heq; simp only [List.cons.injEq, and_true] at heq; obtain ⟨rfl, rfl⟩ := heq; cases h; exact .inr (.inr (.inr (.inr (.inr (.inr (.inr (.inr (.inr (.inr (.inr (.inr (.inr (.inr (.inl ⟨_, rfl, rfl, rfl⟩))))))))))))))
  · rename_i heq; simp only [List.cons.injEq, and_true] at heq; obtain ⟨rfl, rfl⟩ := heq; cases h; exact .inr (.inr (.inr (.inr (.inr (.inr (.inr (.inr (.inr (.inr (.inr (.inr (.inr (.inr (.inr (.inl ⟨rfl, rfl, rfl⟩)))))))))))))))
  · rename_i heq; simp only [List.cons.injEq, and_true] at heq; obtain ⟨rfl, rfl⟩ := heq; cases h; exact .inr (.inr (.inr (.inr (.inr (.inr (.inr (.inr (.inr (.inr (.inr (.inr (.inr (.inr (.inr (.inr (.inl ⟨_, _, rfl, rfl, rfl⟩))))))))))))))))
  · rename_i heq; simp only [List.cons.injEq, and_true] at heq; obtain ⟨rfl, rfl⟩ := heq; cases h; exact .inr (.inr (.inr (.inr (.inr (.inr (.inr (.inr (.inr (.inr (.inr (.inr (.inr (.inr (.inr (.inr (.inr (.inl ⟨rfl, rfl, rfl⟩)))))))))))))))))
  · rename_i heq; simp only [List.cons.injEq, and_true] at heq; obtain ⟨rfl, rfl⟩ := heq; cases h; exact .inr (.inr (.inr (.inr (.inr (.inr (.inr (.inr (.inr (.inr (.inr (.inr (.inr (.inr (.inr (.inr (.inr (.inr (.inl ⟨rfl, rfl, rfl⟩))))))))))))))))))
  · rename_i heq; simp only [List.cons.injEq, and_true] at heq; obtain ⟨rfl, rfl⟩ := heq; cases h; exact .inr (.inr (.inr (.inr (.inr (.inr (.inr (.inr (.inr (.inr (.inr (.inr (.inr (.inr (.inr (.inr (.inr (.inr (.inr (.inl ⟨rfl, rfl, rfl⟩)))))))))))))))))))
  · rename_i heq; simp only [List.cons.injEq, and_true] at heq; obtain ⟨rfl, rfl⟩ := heq; cases h; exact .inr (.inr (.inr (.inr (.inr (.inr (.inr (.inr (.inr (.inr (.inr (.inr (.inr (.inr (.inr (.inr (.inr (.inr (.inr (.inr (.inl ⟨_, rfl, rfl, rfl⟩))))))))))))))))))))
  · rename_i heq; simp only [List.cons.injEq, and_true] at heq; obtain ⟨rfl, rfl⟩ := heq; cases h; exact .inr (.inr (.inr (.inr (.inr (.inr (.inr (.inr (.inr (.inr (.inr (.inr (.inr (.inr (.inr (.inr (.inr (.inr (.inr (.inr (.inr (⟨rfl, rfl, rfl⟩)))))))))))))))))))))
  · cases h
section
variable {P : Program} {w : World} {K : PySem.W.Frag} {mg : Str → Option Value} {base : Heap} {a : Ad}
def TellS (P : Program) (w : World) (a : Ad) (f : Addr) (sp : Sp) : Prop := (f = a.f_memory ∧ sp = sp1 P w a .memory) ∨ (f = a.f_disk ∧ sp = sp1 P w a .disk) ∨ (f = a.f_receipts ∧ sp = sp1 P w a .receipts) ∨ (f = a.f_flight ∧ sp = sp0 P w a .flight) ∨ (f = a.f_message ∧ sp = sp1 P w a .message) ∨ (f = a.f_acknowledged ∧ sp = sp0 P w a .acknowledged) ∨ (f = a.f_lacks ∧ sp = sp2 P w a .lacks) ∨ (f = a.f_even ∧ sp = sp0 P w a .even_) ∨ (f = a.f_state ∧ sp = sp0 P w a .state) ∨ (f = a.f_owed ∧ sp = sp1 P w a .owed) ∨ (f = a.f_taken ∧ sp = sp0 P w a .taken)
theorem held_tell (T : Txt K mg a) : ∀ f sp, TellS P w a f sp → Held P w K mg base 7 f sp := by
  rintro f sp (⟨rfl, rfl⟩ | ⟨rfl, rfl⟩ | ⟨rfl, rfl⟩ | ⟨rfl, rfl⟩ | ⟨rfl, rfl⟩ | ⟨rfl, rfl⟩ | ⟨rfl, rfl⟩ | ⟨rfl, rfl⟩ | ⟨rfl, rfl⟩ | ⟨rfl, rfl⟩ | ⟨rfl, rfl⟩)
  · exact ⟨_, _, (ok_memory T).mono (by decide), T.F_memory.kp, T.b_memory⟩
  · exact ⟨_, _, (ok_disk T).mono (by decide), T.F_disk.kp, T.b_disk⟩
  · exact ⟨_, _, (ok_receipts T).mono (by decide), T.F_receipts.kp, T.b_receipts⟩
  · exact ⟨_, _, (ok_flight T).mono (by decide), T.F_flight.kp, T.b_flight⟩
  · exact ⟨_, _, (ok_message T).mono (by decide), T.F_message.kp, T.b_message⟩
  · exact ⟨_, _, (ok_acknowledged T).mono (by decide), T.F_acknowledged.kp, T.b_acknowledged⟩
  · exact ⟨_, _, (ok_lacks T).mono (by decide), T.F_lacks.kp, T.b_lacks⟩
  · exact ⟨_, _, (ok_even T).mono (by decide), T.F_even.kp, T.b_even⟩
  · exact ⟨_, _, (ok_state T).mono (by decide), T.F_state.kp, T.b_state⟩
  · exact ⟨_, _, (ok_owed T).mono (by decide), T.F_owed.kp, T.b_owed⟩
  · exact ⟨_, _, (ok_taken T).mono (by decide), T.F_taken.kp, T.b_taken⟩
def PerfS (P : Program) (w : World) (a : Ad) (f : Addr) (sp : Sp) : Prop := (f = a.f_take ∧ sp = sp5 P w a .take) ∨ (f = a.f_keep ∧ sp = sp1 P w a .keep) ∨ (f = a.f_torn ∧ sp = sp2 P w a .torn) ∨ (f = a.f_cut ∧ sp = sp1 P w a .cut) ∨ (f = a.f_up ∧ sp = sp1 P w a .up) ∨ (f = a.f_send ∧ sp = sp2 P w a .send) ∨ (f = a.f_ask ∧ sp = sp1 P w a .ask) ∨ (f = a.f_deliver ∧ sp = sp1 P w a .deliver_) ∨ (f = a.f_lose ∧ sp = sp1 P w a .lose) ∨ (f = a.f_double ∧ sp = sp1 P w a .double) ∨ (f = a.f_settle ∧ sp = sp0 P w a .settle)
theorem held_perform (T : Txt K mg a) : ∀ f sp, PerfS P w a f sp → Held P w K mg base 7 f sp := by
  rintro f sp (⟨rfl, rfl⟩ | ⟨rfl, rfl⟩ | ⟨rfl, rfl⟩ | ⟨rfl, rfl⟩ | ⟨rfl, rfl⟩ | ⟨rfl, rfl⟩ | ⟨rfl, rfl⟩ | ⟨rfl, rfl⟩ | ⟨rfl, rfl⟩ | ⟨rfl, rfl⟩ | ⟨rfl, rfl⟩)
  · exact ⟨_, _, (ok_take T).mono (by decide), T.F_take.kp, T.b_take⟩
  · exact ⟨_, _, (ok_keep T).mono (by decide), T.F_keep.kp, T.b_keep⟩
  · exact ⟨_, _, (ok_torn T).mono (by decide), T.F_torn.kp, T.b_torn⟩
  · exact ⟨_, _, (ok_cut T).mono (by decide), T.F_cut.kp, T.b_cut⟩
  · exact ⟨_, _, (ok_up T).mono (by decide), T.F_up.kp, T.b_up⟩
  · exact ⟨_, _, (ok_send T).mono (by decide), T.F_send.kp, T.b_send⟩
  · exact ⟨_, _, (ok_ask T).mono (by decide), T.F_ask.kp, T.b_ask⟩
  · exact ⟨_, _, (ok_deliver T).mono (by decide), T.F_deliver.kp, T.b_deliver⟩
  · exact ⟨_, _, (ok_lose T).mono (by decide), T.F_lose.kp, T.b_lose⟩
  · exact ⟨_, _, (ok_double T).mono (by decide), T.F_double.kp, T.b_double⟩
  · exact ⟨_, _, (ok_settle T).mono (by decide), T.F_settle.kp, T.b_settle⟩
def isTell (c : Int) : Bool := c == 11 || c == 12 || c == 13 || c == 14 || c == 15 || c == 16 || c == 17 || c == 18 || c == 20 || c == 21 || c == 22
def sp_tell (P : Program) (w : World) (a : Ad) : Sp := fun vs H Q E => ∃ (c : Int) (nums : List Int) (cl : Vbcsah.Call) (sv qv : V), vs = [sv, .int c, qv] ∧ VbcsahNeutral.callOf [c :: nums] = some cl ∧ 1 ≤ c ∧ c ≤ 22 ∧ isTell c = true ∧ CallP P w a nums cl [sv, qv] H Q E
theorem ok_tell (T : Txt K mg a) : FnOk P w K mg base (L2.CX P w) 8 a.f_tell a.d_tell ["session", "number", "numbers"] (sp_tell P w a) := by
  refine T.F_tell.okX sc_tell (fun vs H Q E h => ?_) (fun cdv A outer s H vs Q E hr h => ⟨_, (pss_cons (ps_set (i := 3) sc_tell.nd rfl (Or.inl rfl) (pe_ix (ix_tab T.t_TELLING) (pe_tab rfl T.t_TELLING) (pv 1) (fun _ _ => rfl)))
    (pss_one (ps_ret (pe_callH (i := 3) (held_tell T) hr rfl (Or.inl rfl) (passes_call (takes_of rfl rfl rfl rfl) (fun _ _ _ _ h => h)) (pa_cons (pv 0) (pa_cons (pv 2) pa_nil)))))), ?_⟩)
  · obtain ⟨c, nums, cl, sv, qv, rfl, _⟩ := h; rfl
  · obtain ⟨c, nums, cl, sv, qv, rfl, hc, h1, h2, ht, hp⟩ := h
    have ep : ∃ sa q, sv = .ref sa ∧ qv = .ref q := by
      obtain ⟨_, sa, _, _, _, _, _, _, _, q, _, _, e, _⟩ := hp
      injection e with e1 e2
      injection e2 with e3 e4
      exact ⟨sa, q, e1, e3⟩
    obtain ⟨sa, q, rfl, rfl⟩ := ep
    rcases callOf_cases hc h1 with ⟨u, v, x, y, z, rfl, rfl, rfl⟩ | ⟨u, rfl, rfl, rfl⟩ | ⟨u, v, rfl, rfl, rfl⟩ | ⟨u, rfl, rfl, rfl⟩ | ⟨u, rfl, rfl, rfl⟩ | ⟨u, v, rfl, rfl, rfl⟩ | ⟨u, rfl, rfl, rfl⟩ | ⟨u, rfl, rfl, rfl⟩ | ⟨u, rfl, rfl, rfl⟩ | ⟨u, rfl, rfl, rfl⟩ | ⟨u, rfl, rfl, rfl⟩ | ⟨u, rfl, rfl, rfl⟩ | ⟨u, rfl, rfl, rfl⟩ | ⟨rfl, rfl, rfl⟩ | ⟨u, rfl, rfl, rfl⟩ | ⟨rfl, rfl, rfl⟩ | ⟨u, v, rfl, rfl, rfl⟩ | ⟨rfl, rfl, rfl⟩ | ⟨rfl, rfl, rfl⟩ | ⟨rfl, rfl, rfl⟩ | ⟨u, rfl, rfl, rfl⟩ | ⟨rfl, rfl, rfl⟩
    · exact absurd ht (by decide)
    · exact absurd ht (by decide)
    · exact absurd ht (by decide)
    · exact absurd ht (by decide)
    · exact absurd ht (by decide)
    · exact absurd ht (by decide)
    · exact absurd ht (by decide)
    · exact absurd ht (by decide)
    · exact absurd ht (by decide)
    · exact absurd ht (by decide)
    · exact ⟨_, rfl, 11, .ref a.f_memory, rfl, rfl, rfl, a.f_memory, _, rfl, .inl ⟨rfl, rfl⟩, _, rfl, _, rfl, u, hp⟩
    · exact ⟨_, rfl, 12, .ref a.f_disk, rfl, rfl, rfl, a.f_disk, _, rfl, .inr (.inl ⟨rfl, rfl⟩), _, rfl, _, rfl, u, hp⟩
    · exact ⟨_, rfl, 13, .ref a.f_receipts, rfl, rfl, rfl, a.f_receipts, _, rfl, .inr (.inr (.inl ⟨rfl, rfl⟩)), _, rfl, _, rfl, u, hp⟩
    · exact ⟨_, rfl, 14, .ref a.f_flight, rfl, rfl, rfl, a.f_flight, _, rfl, .inr (.inr (.inr (.inl ⟨rfl, rfl⟩))), _, rfl, _, rfl, hp⟩
    · exact ⟨_, rfl, 15, .ref a.f_message, rfl, rfl, rfl, a.f_message, _, rfl, .inr (.inr (.inr (.inr (.inl ⟨rfl, rfl⟩)))), _, rfl, _, rfl, u, hp⟩
    · exact ⟨_, rfl, 16, .ref a.f_acknowledged, rfl, rfl, rfl, a.f_acknowledged, _, rfl, .inr (.inr (.inr (.inr (.inr (.inl ⟨rfl, rfl⟩))))), _, rfl, _, rfl, hp⟩
    · exact ⟨_, rfl, 17, .ref a.f_lacks, rfl, rfl, rfl, a.f_lacks, _, rfl, .inr (.inr (.inr (.inr (.inr (.inr (.inl ⟨rfl, rfl⟩)))))), _, rfl, _, rfl, u, v, hp⟩
    · exact ⟨_, rfl, 18, .ref a.f_even, rfl, rfl, rfl, a.f_even, _, rfl, .inr (.inr (.inr (.inr (.inr (.inr (.inr (.inl ⟨rfl, rfl⟩))))))), _, rfl, _, rfl, hp⟩
    · exact absurd ht (by decide)
    · exact ⟨_, rfl, 20, .ref a.f_state, rfl, rfl, rfl, a.f_state, _, rfl, .inr (.inr (.inr (.inr (.inr (.inr (.inr (.inr (.inl ⟨rfl, rfl⟩)))))))), _, rfl, _, rfl, hp⟩
    · exact ⟨_, rfl, 21, .ref a.f_owed, rfl, rfl, rfl, a.f_owed, _, rfl, .inr (.inr (.inr (.inr (.inr (.inr (.inr (.inr (.inr (.inl ⟨rfl, rfl⟩))))))))), _, rfl, _, rfl, u, hp⟩
    · exact ⟨_, rfl, 22, .ref a.f_taken, rfl, rfl, rfl, a.f_taken, _, rfl, .inr (.inr (.inr (.inr (.inr (.inr (.inr (.inr (.inr (.inr (⟨rfl, rfl⟩)))))))))), _, rfl, _, rfl, hp⟩
def sp_perform (P : Program) (w : World) (a : Ad) : Sp := fun vs H Q E => ∃ (c : Int) (nums : List Int) (cl : Vbcsah.Call) (sv qv : V), vs = [sv, .int c, qv] ∧ VbcsahNeutral.callOf [c :: nums] = some cl ∧ 1 ≤ c ∧ c ≤ 22 ∧ CallP P w a nums cl [sv, qv] H Q E
theorem ok_perform (T : Txt K mg a) : FnOk P w K mg base (L2.CX P w) 9 a.f_perform a.d_perform ["session", "number", "numbers"] (sp_perform P w a) := by
  refine T.F_perform.okX sc_perform (fun vs H Q E h => ?_) (fun cdv A outer s H vs Q E hr h => ⟨_, (pss_cons (ps_if (pt_cmpR (op_notIn_tab T.t_CALLS) (pv 1) (pe_tab rfl T.t_CALLS) (by rfl))
    (pss_one (ps_ret (pe_call (ok_tell T) hr rfl T.g_tell T.F_tell.kp T.b_tell .nil (passes_call (takes_of rfl rfl rfl rfl) (fun _ _ _ _ h => h)) (pa_cons (pv 0) (pa_cons (pv 1) (pa_cons (pv 2) pa_nil))))))
    pss_nil)
    (pss_cons (ps_set (i := 3) sc_perform.nd rfl (Or.inl rfl) (pe_ix (ix_tab T.t_CALLS) (pe_tab rfl T.t_CALLS) (pv 1) (fun _ _ => rfl)))
    (pss_one (ps_ret (pe_callH (i := 3) (held_perform T) (hr.mono (by decide)) rfl (Or.inl rfl) (passes_call (takes_of rfl rfl rfl rfl) (fun _ _ _ _ h => h)) (pa_cons (pv 0) (pa_cons (pv 2) pa_nil))))))), ?_⟩)
  · obtain ⟨c, nums, cl, sv, qv, rfl, _⟩ := h; rfl
  · obtain ⟨c, nums, cl, sv, qv, rfl, hc, h1, h2, hp⟩ := h
    have ep : ∃ sa q, sv = .ref sa ∧ qv = .ref q := by
      obtain ⟨_, sa, _, _, _, _, _, _, _, q, _, _, e, _⟩ := hp
      injection e with e1 e2
      injection e2 with e3 e4
      exact ⟨sa, q, e1, e3⟩
    obtain ⟨sa, q, rfl, rfl⟩ := ep
    rcases callOf_cases hc h1 with ⟨u, v, x, y, z, rfl, rfl, rfl⟩ | ⟨u, rfl, rfl, rfl⟩ | ⟨u, v, rfl, rfl, rfl⟩ | ⟨u, rfl, rfl, rfl⟩ | ⟨u, rfl, rfl, rfl⟩ | ⟨u, v, rfl, rfl, rfl⟩ | ⟨u, rfl, rfl, rfl⟩ | ⟨u, rfl, rfl, rfl⟩ | ⟨u, rfl, rfl, rfl⟩ | ⟨u, rfl, rfl, rfl⟩ | ⟨u, rfl, rfl, rfl⟩ | ⟨u, rfl, rfl, rfl⟩ | ⟨u, rfl, rfl, rfl⟩ | ⟨rfl, rfl, rfl⟩ | ⟨u, rfl, rfl, rfl⟩ | ⟨rfl, rfl, rfl⟩ | ⟨u, v, rfl, rfl, rfl⟩ | ⟨rfl, rfl, rfl⟩ | ⟨rfl, rfl, rfl⟩ | ⟨rfl, rfl, rfl⟩ | ⟨u, rfl, rfl, rfl⟩ | ⟨rfl, rfl, rfl⟩
    · exact ⟨_, rfl, _, rfl, rfl, _, rfl, iteF ⟨_, rfl, 1, .ref a.f_take, rfl, rfl, rfl, a.f_take, _, rfl, .inl ⟨rfl, rfl⟩, _, rfl, _, rfl, u, v, x, y, z, hp⟩⟩
    · exact ⟨_, rfl, _, rfl, rfl, _, rfl, iteF ⟨_, rfl, 2, .ref a.f_keep, rfl, rfl, rfl, a.f_keep, _, rfl, .inr (.inl ⟨rfl, rfl⟩), _, rfl, _, rfl, u, hp⟩⟩
    · exact ⟨_, rfl, _, rfl, rfl, _, rfl, iteF ⟨_, rfl, 3, .ref a.f_torn, rfl, rfl, rfl, a.f_torn, _, rfl, .inr (.inr (.inl ⟨rfl, rfl⟩)), _, rfl, _, rfl, u, v, hp⟩⟩
    · exact ⟨_, rfl, _, rfl, rfl, _, rfl, iteF ⟨_, rfl, 4, .ref a.f_cut, rfl, rfl, rfl, a.f_cut, _, rfl, .inr (.inr (.inr (.inl ⟨rfl, rfl⟩))), _, rfl, _, rfl, u, hp⟩⟩
    · exact ⟨_, rfl, _, rfl, rfl, _, rfl, iteF ⟨_, rfl, 5, .ref a.f_up, rfl, rfl, rfl, a.f_up, _, rfl, .inr (.inr (.inr (.inr (.inl ⟨rfl, rfl⟩)))), _, rfl, _, rfl, u, hp⟩⟩
    · exact ⟨_, rfl, _, rfl, rfl, _, rfl, iteF ⟨_, rfl, 6, .ref a.f_send, rfl, rfl, rfl, a.f_send, _, rfl, .inr (.inr (.inr (.inr (.inr (.inl ⟨rfl, rfl⟩))))), _, rfl, _, rfl, u, v, hp⟩⟩
    · exact ⟨_, rfl, _, rfl, rfl, _, rfl, iteF ⟨_, rfl, 7, .ref a.f_ask, rfl, rfl, rfl, a.f_ask, _, rfl, .inr (.inr (.inr (.inr (.inr (.inr (.inl ⟨rfl, rfl⟩)))))), _, rfl, _, rfl, u, hp⟩⟩
    · exact ⟨_, rfl, _, rfl, rfl, _, rfl, iteF ⟨_, rfl, 8, .ref a.f_deliver, rfl, rfl, rfl, a.f_deliver, _, rfl, .inr (.inr (.inr (.inr (.inr (.inr (.inr (.inl ⟨rfl, rfl⟩))))))), _, rfl, _, rfl, u, hp⟩⟩
    · exact ⟨_, rfl, _, rfl, rfl, _, rfl, iteF ⟨_, rfl, 9, .ref a.f_lose, rfl, rfl, rfl, a.f_lose, _, rfl, .inr (.inr (.inr (.inr (.inr (.inr (.inr (.inr (.inl ⟨rfl, rfl⟩)))))))), _, rfl, _, rfl, u, hp⟩⟩
    · exact ⟨_, rfl, _, rfl, rfl, _, rfl, iteF ⟨_, rfl, 10, .ref a.f_double, rfl, rfl, rfl, a.f_double, _, rfl, .inr (.inr (.inr (.inr (.inr (.inr (.inr (.inr (.inr (.inl ⟨rfl, rfl⟩))))))))), _, rfl, _, rfl, u, hp⟩⟩
    · exact ⟨_, rfl, _, rfl, rfl, _, rfl, iteT ⟨_, rfl, _, rfl, _, rfl, 11, _, _, _, _, rfl, hc, h1, h2, rfl, hp⟩⟩
    · exact ⟨_, rfl, _, rfl, rfl, _, rfl, iteT ⟨_, rfl, _, rfl, _, rfl, 12, _, _, _, _, rfl, hc, h1, h2, rfl, hp⟩⟩
    · exact ⟨_, rfl, _, rfl, rfl, _, rfl, iteT ⟨_, rfl, _, rfl, _, rfl, 13, _, _, _, _, rfl, hc, h1, h2, rfl, hp⟩⟩
    · exact ⟨_, rfl, _, rfl, rfl, _, rfl, iteT ⟨_, rfl, _, rfl, _, rfl, 14, _, _, _, _, rfl, hc, h1, h2, rfl, hp⟩⟩
    · exact ⟨_, rfl, _, rfl, rfl, _, rfl, iteT ⟨_, rfl, _, rfl, _, rfl, 15, _, _, _, _, rfl, hc, h1, h2, rfl, hp⟩⟩
    · exact ⟨_, rfl, _, rfl, rfl, _, rfl, iteT ⟨_, rfl, _, rfl, _, rfl, 16, _, _, _, _, rfl, hc, h1, h2, rfl, hp⟩⟩
    · exact ⟨_, rfl, _, rfl, rfl, _, rfl, iteT ⟨_, rfl, _, rfl, _, rfl, 17, _, _, _, _, rfl, hc, h1, h2, rfl, hp⟩⟩
    · exact ⟨_, rfl, _, rfl, rfl, _, rfl, iteT ⟨_, rfl, _, rfl, _, rfl, 18, _, _, _, _, rfl, hc, h1, h2, rfl, hp⟩⟩
    · exact ⟨_, rfl, _, rfl, rfl, _, rfl, iteF ⟨_, rfl, 19, .ref a.f_settle, rfl, rfl, rfl, a.f_settle, _, rfl, .inr (.inr (.inr (.inr (.inr (.inr (.inr (.inr (.inr (.inr (⟨rfl, rfl⟩)))))))))), _, rfl, _, rfl, hp⟩⟩
    · exact ⟨_, rfl, _, rfl, rfl, _, rfl, iteT ⟨_, rfl, _, rfl, _, rfl, 20, _, _, _, _, rfl, hc, h1, h2, rfl, hp⟩⟩
    · exact ⟨_, rfl, _, rfl, rfl, _, rfl, iteT ⟨_, rfl, _, rfl, _, rfl, 21, _, _, _, _, rfl, hc, h1, h2, rfl, hp⟩⟩
    · exact ⟨_, rfl, _, rfl, rfl, _, rfl, iteT ⟨_, rfl, _, rfl, _, rfl, 22, _, _, _, _, rfl, hc, h1, h2, rfl, hp⟩⟩
end
end Fo

-- FoLine
/-! The line: a call is followed, and answered. -/
namespace Fo
open PySem PySem.Spec PyProof.Rows L2

/-- all that is the line's -/
abbrev Lin : Nat → Prop := fun n => n ≠ 0 ∧ n ≤ 101
def LnV (P : Program) (w : World) (a : Ad) (wo : Ow) (H : Hp) (v : V) : Vbcsah.State → Prop
  | none => v = .non
  | some h => ∃ sa dx pn pu pt pk ns, v = .ref sa ∧ SesA P w a wo H sa h dx pn pu pt pk ns ∧ h.nodes.length ≤ 90
structure LnA (P : Program) (w : World) (a : Ad) (wo : Ow) (H : Hp) (la dl : Addr) (s : Vbcsah.State) : Prop where
  at_ : ∃ v, H la = some (.ins a.c_Line dl [("session", v)]) ∧ LnV P w a wo H v s
  own : wo la = (101, 0)
def Bs (b r : Nat) (s : Vbcsah.State) : Prop := ∀ h, s = some h → Wf b 4080 r h ∧ h.flight.length ≤ 40 ∧ Fit h
def okRef7 (k : Nat) : Bool := k == 1 || k == 3 || k == 4 || k == 5 || k == 7

section
variable {P : Program} {w : World} {K : PySem.W.Frag} {mg : Str → Option Value} {base : Heap} {a : Ad}
theorem LnA.up {k : Nat → Prop} {wo w' : Ow} {H H' : Hp} {la dl : Addr} {s : Vbcsah.State} (f : Frm k wo w' H H') (h0 : ¬ k 0) (hk : ∀ n, n ≤ 101 → ¬ k n) (L : LnA P w a wo H la dl s) : LnA P w a w' H' la dl s := by
  obtain ⟨⟨v, e, q⟩, wl⟩ := L
  refine ⟨⟨v, f.keep _ _ e (by rw [wl]; exact hk _ (Nat.le_refl _)), ?_⟩, (f.own _ _ e).trans wl⟩
  cases s with
  | none => exact q
  | some h =>
    obtain ⟨sa, dx, pn, pu, pt, pk, ns, e1, S, hl⟩ := q
    exact ⟨sa, dx, pn, pu, pt, pk, ns, e1, S.up f h0 (fun n hn => hk n (by omega)) hl, hl⟩
theorem ok_Line_init (T : Txt K mg a) : FnOk P w K mg base CX0 1 a.f_Line_init a.d_Line_init ["self"] (fun vs H Q _ => ∃ la dl, vs = [.ref la] ∧ H la = some (.ins a.c_Line dl []) ∧ Q .non (upd H la (.ins a.c_Line dl [("session", .non)]))) := by
  refine T.F_Line_init.ok sc_Line_init (fun vs H Q E h => ?_) (fun cdv A outer s H vs Q E hr h => ⟨_, (pss_one (ps_fld (pv 0) pe_non rfl)), ?_⟩)
  · obtain ⟨la, dl, rfl, _⟩ := h; rfl
  · obtain ⟨la, dl, rfl, hl, k⟩ := h
    exact ⟨_, rfl, la, _, dl, _, rfl, hl, T.cl_Line, T.na_Line_session, (by show 0 < 1000; decide), k⟩
theorem make_ses {wo : Ow} {H : Hp} {Q : VK} {E : XK} {off : Nat} {x dx : Addr} {vs : List V} (hv : vs = [.int (off : Int)]) (h1 : 1 ≤ off) (h4 : off ≤ 4) (hx : H x = none) (hdx : H dx = none) (hne : dx ≠ x)
    (kk : ∀ w' H', SesAt P w a w' H' x (newHouse off) → Frm Ses wo w' H H' → Q .non H') : sp_Session_init P w a (.ref x :: (vs ++ [])) (upd (upd H dx (.own x)) x (.ins a.c_Session dx [])) Q E := by
  subst hv
  have f1 : Frm Ses wo wo H (upd H dx (.own x)) := Frm.new hdx
  have hx1 : upd H dx (.own x) x = none := by rw [upd_ne (Ne.symm hne)]; exact hx
  have f2 : Frm Ses wo (setW wo x (100, 0)) H (upd (upd H dx (.own x)) x (.ins a.c_Session dx [])) := f1.trans (Frm.laid (100, 0) hx1)
  exact ⟨setW wo x (100, 0), x, dx, off, rfl, upd_same, setW_same, h1, h4, fun w' H' S f => kk w' H' S (f2.trans f)⟩
theorem step_some {c : Int} {nums : List Int} {cl : Vbcsah.Call} (hc : VbcsahNeutral.callOf [c :: nums] = some cl) (h0 : c ≠ 0) (s : Vbcsah.State) : Vbcsah.step s cl = match s with
    | none => Vbcsah.no none 7
    | some h => Vbcsah.does h cl := by
  have nb : ∀ z, cl ≠ .begin_ z := by
    intro z e
    subst e
    unfold VbcsahNeutral.callOf at hc
    split at hc <;> first
      | (cases hc; done)
      | (rename_i heq; cases hc; simp only [List.cons.injEq] at heq; exact h0 heq.1.1)
  cases s <;> cases cl <;> first
    | rfl
    | exact absurd rfl (nb _)
theorem callOf_begin {nums : List Int} {cl : Vbcsah.Call} (hc : VbcsahNeutral.callOf [0 :: nums] = some cl) : ∃ z, nums = [z] ∧ cl = .begin_ z := by
  unfold VbcsahNeutral.callOf at hc
  split at hc <;> first
    | (cases hc; done)
    | (rename_i heq; simp only [List.cons.injEq] at heq; exact absurd heq.1.1 (by decide))
    | (rename_i heq; simp only [List.cons.injEq, true_and, and_true] at heq; cases hc; exact ⟨_, heq, rfl⟩)

/-- what following a call asks and leaves -/
def sp_follow (P : Program) (w : World) (a : Ad) : Sp := fun vs H Q E => ∃ (wo : Ow) (la dl : Addr) (s : Vbcsah.State) (c : Int) (nums : List Int) (q : Addr) (cl : Vbcsah.Call) (b r : Nat),
  vs = [.ref la, .int c, .ref q] ∧ LnA P w a wo H la dl s ∧ H q = some (.lst (nums.map V.int)) ∧ VbcsahNeutral.callOf [c :: nums] = some cl ∧ 0 ≤ c ∧ c ≤ TOPC ∧ Bs b r s ∧ b ≤ 4000 ∧ r ≤ 7000000 ∧ (Vbcsah.step s cl).2.length ≤ 10000000 ∧
  (∀ s' l w' H' p, Vbcsah.step s cl = (s', 0 :: l) → LnA P w a w' H' la dl s' → Frm Lin wo w' H H' → H p = none → H' p = some (.lst (l.map V.int)) → Q (.ref p) H') ∧
  (∀ (k : Nat), okRef7 k = true → ∀ w' H', Vbcsah.step s cl = (s, [-(k : Int)]) → LnA P w a w' H' la dl s → Frm Lin wo w' H H' → E (.ref (excOf a k)) none H')
theorem ok_Line_follow (T : Txt K mg a) : FnOk P w K mg base (L2.CX P w) 10 a.f_Line_follow a.d_Line_follow ["self", "number", "numbers"] (sp_follow P w a) := by
  refine T.F_Line_follow.okX sc_Line_follow (fun vs H Q E h => ?_) (fun cdv A outer s H vs Q E hr h => ⟨_, (pss_cons (ps_if (pt_cmpR op_eq (pv 1) (pe_const rfl T.c_BEGIN) (nomark _))
    (pss_cons (ps_expr (pe_call (ok_check_range T) (hr.mono (by decide)) rfl T.g_check_range T.F_check_range.kp T.b_check_range .nil (passes_call (takes_of rfl rfl rfl rfl) (fun _ _ _ _ h => h)) (pa_cons (pe_ix ix_list (pv 2) pe_int (fun _ _ => rfl)) (pa_cons pe_int (pa_cons pe_int pa_nil)))))
    (pss_cons (ps_fld (pv 0) (pe_make T.M_Session (ok_Session_init T) (hr.mono (by decide)) rfl T.g_Session T.b_Session_init .nil pass0 (pa_cons (pe_ix ix_list (pv 2) pe_int (fun _ _ => rfl)) pa_nil)) rfl)
    (pss_one (ps_ret (pe_lst pa_nil)))))
    pss_nil)
    (pss_cons (ps_if (pt_cmp (pc_isN (pe_fld (pv 0) rfl)))
    (pss_one (ps_raise rfl (takes_of rfl rfl rfl rfl) (pmk_own0 PySem.F.excBase_Exception T.x_NotBegun T.g_NotBegun T.k_NotBegun (raises_own T.b_NotBegun T.t_NotBegun) (by exact rfl))))
    pss_nil)
    (pss_one (ps_ret (pe_call (ok_perform T) hr rfl T.g_perform T.F_perform.kp T.b_perform .nil (passes_call (takes_of rfl rfl rfl rfl) (fun _ _ _ _ h => h)) (pa_cons (pe_fld (pv 0) rfl) (pa_cons (pv 1) (pa_cons (pv 2) pa_nil)))))))), ?_⟩)
  · obtain ⟨wo, la, dl, s, c, nums, q, cl, b, r, rfl, _⟩ := h; rfl
  · obtain ⟨wo, la, dl, s, c, nums, q, cl, b, r, rfl, L, hq, hc, h0, h1, B, b4, r7, hL, kQ, kE⟩ := h
    refine ⟨_, rfl, rfl, _, rfl, ?_⟩
    by_cases c0 : c = 0
    · subst c0
      obtain ⟨z, rfl, rfl⟩ := callOf_begin hc
      rw [show decide (V.int 0 = V.int 0) = true from rfl]
      refine iteT ?_
      refine ⟨_, rfl, q, _, 0, _, rfl, rfl, SqL.of hq, atI_nat (j := 0) rfl, z, 1, 4, rfl, fun hz => ?_, fun hz => ?_⟩
      · obtain ⟨⟨v, eL, qL⟩, wL⟩ := L
        have ez : z = ((z.toNat : Nat) : Int) := by omega
        refine ⟨_, rfl, q, _, 0, _, rfl, rfl, SqL.of hq, atI_nat (j := 0) rfl, ?_⟩
        intro x xd nx nxd nxx
        refine make_ses (wo := wo) (off := z.toNat) (by rw [← ez]) (by omega) (by omega) nx nxd nxx ?_
        intro w1 H1 S1 f1
        have kL : ¬ Ses (wo la).1 := by rw [wL]; exact fun z => by have := z.2; omega
        have eL1 := f1.keep _ _ eL kL
        have wL1 : w1 la = (101, 0) := (f1.own _ _ eL).trans wL
        refine ⟨rfl, _, rfl, la, _, dl, _, rfl, eL1, T.cl_Line, T.na_Line_session, (by show 1 < 1000; decide), ?_⟩
        have f2 : Frm (Own 101) w1 w1 H1 (upd H1 la (.ins a.c_Line dl [("session", .ref x)])) := Frm.write eL1 (by intro z; exact z) (by rw [wL1])
        obtain ⟨dx, pn, pu, pt, pk, ns, S⟩ := S1
        have hl : (newHouse z.toNat).nodes.length ≤ 90 := by show (List.replicate (z.toNat + 2) _).length ≤ 90; rw [List.length_replicate]; omega
        have S2 := S.up f2 (fun z => by cases z) (fun n hn z => by have : n = 101 := z; omega) hl
        refine ⟨(by show 0 ≤ sizeLine; decide), fun t ht => ?_⟩
        have f3 : Frm NoB w1 w1 (upd H1 la (.ins a.c_Line dl [("session", .ref x)])) (upd (upd H1 la (.ins a.c_Line dl [("session", .ref x)])) t (.lst [])) := Frm.new ht
        have F2 : Frm Lin wo w1 H (upd H1 la (.ins a.c_Line dl [("session", .ref x)])) := (f1.mono fun n z => ⟨z.1, by omega⟩).trans (f2.mono fun n (z : n = 101) => ⟨by omega, by omega⟩)
        refine kQ (some (newHouse z.toNat)) [] w1 _ t ?_ ?_ (F2.trans (Frm.new ht)) (fresh_of F2 ht) upd_same
        · show (if Vbcsah.inR z 1 4 = false then _ else _) = _
          rw [inR_true hz]; rfl
        · exact LnA.up f3 (fun z => z) (fun _ _ z => z) ⟨⟨.ref x, upd_same, x, dx, pn, pu, pt, pk, ns, rfl, S2, hl⟩, wL1⟩
      · refine kE 1 rfl wo H ?_ L (Frm.refl _ _ _)
        show (if Vbcsah.inR z 1 4 = false then _ else _) = _
        rw [inR_false hz]; rfl
    · rw [show decide (V.int c = V.int 0) = false from decide_eq_false (fun z => c0 (V.int.inj z))]
      refine iteF ?_
      have es := step_some hc c0
      obtain ⟨⟨v, eL, qL⟩, wL⟩ := id L
      cases s with
      | none =>
        have ev : v = .non := qL
        subst ev
        refine ⟨_, rfl, la, _, dl, _, _, rfl, eL, T.cl_Line, T.na_Line_session, rfl, ?_⟩
        refine ⟨_, rfl, iteT ?_⟩
        exact kE 7 rfl wo H (es none) L (Frm.refl _ _ _)
      | some h =>
        obtain ⟨sa, dx, pn, pu, pt, pk, ns, rfl, S, hl⟩ := qL
        obtain ⟨W, F40, fit⟩ := B h rfl
        rw [es (some h)] at hL
        refine ⟨_, rfl, la, _, dl, _, _, rfl, eL, T.cl_Line, T.na_Line_session, rfl, ?_⟩
        refine ⟨_, rfl, iteF ?_⟩
        refine ⟨_, rfl, la, _, dl, _, _, rfl, eL, T.cl_Line, T.na_Line_session, rfl, _, rfl, _, rfl, c, nums, cl, _, _, rfl, hc, by omega, h1, wo, sa, h, dx, pn, pu, pt, pk, ns, q, b, r, rfl, S, hq, ⟨W, b4, r7, F40, fit⟩, hL, ?_, ?_⟩
        · intro h' l w' H' p pu' ed S' f hp hp'
          have wf' := (does_wf W b4 F40 ed).1
          refine kQ (some h') l w' H' p ((es (some h)).trans ed) ⟨⟨.ref sa, f.keep _ _ eL (by rw [wL]; exact fun z => by have := z.2; omega), sa, dx, pn, pu', pt, pk, ns, rfl, S', by have := wf'.len; have := wf'.of4; omega⟩, (f.own _ _ eL).trans wL⟩ (f.mono fun n z => ⟨z.1, by omega⟩) hp hp'
        · intro k hk w' H' ed S' f
          refine kE k (by unfold okRef at hk; unfold okRef7; rw [hk]; rfl) w' H' ((es (some h)).trans ed) ⟨⟨.ref sa, f.keep _ _ eL (by rw [wL]; exact fun z => by have := z.2; omega), sa, dx, pn, pu, pt, pk, ns, rfl, S', hl⟩, (f.own _ _ eL).trans wL⟩ (f.mono fun n z => ⟨z.1, by omega⟩)
end
end Fo

-- FoFlat
/-! The flat list read call by call. Plain Lean about the specification. -/
namespace Fo
open PyVbcsah

def shapeOk (m : Nat) : Bool := match shape (m : Int) with
  | some (n, k) => k == 0 && decide (n ≤ 5)
  | none => false
theorem shape_in : ∀ m : Nat, m < 23 → shapeOk m = true := by decide
theorem shape_some {q : Int} {n k : Nat} (h : shape q = some (n, k)) : k = 0 ∧ n ≤ 5 ∧ 0 ≤ q ∧ q ≤ 22 := by
  by_cases hq : 0 ≤ q ∧ q ≤ 22
  · have hm := shape_in q.toNat (by omega)
    unfold shapeOk at hm
    rw [Int.toNat_of_nonneg hq.1, h] at hm
    simp only [Bool.and_eq_true, beq_iff_eq, decide_eq_true_eq] at hm
    exact ⟨hm.1, hm.2, hq⟩
  · exfalso
    unfold shape at h
    iterate 23 (rw [if_neg (by omega)] at h)
    cases h
theorem whole_id (c : List (List Int)) : whole c = c := by
  unfold whole
  split <;> rfl
theorem whole_map (cs : List (List (List Int))) : cs.map whole = cs := by
  rw [show whole = id from funext whole_id, List.map_id]
/-- one call is read off the front -/
theorem flat_turn {f : Nat} {q : Int} {r : List Int} {cs : List (List (List Int))} (h : PyFlat.calls shape f (q :: r) = some cs) :
    ∃ (n f' : Nat) (cs' : List (List (List Int))), f = f' + 1 ∧ shape q = some (n, 0) ∧ n ≤ r.length ∧ cs = [q :: r.take n] :: cs' ∧ PyFlat.calls shape f' (r.drop n) = some cs' := by
  cases f with
  | zero => simp [PyFlat.calls] at h
  | succ f =>
    unfold PyFlat.calls PyFlat.call at h
    dsimp only at h
    cases e : shape q with
    | none => rw [e] at h; simp at h
    | some nk =>
      obtain ⟨n, k⟩ := nk
      obtain ⟨rfl, _, _, _⟩ := shape_some e
      rw [e] at h
      simp only [PyFlat.rows] at h
      by_cases lt : r.length < n
      · rw [if_pos lt] at h; simp at h
      · rw [if_neg lt] at h
        simp only at h
        cases e2 : PyFlat.calls shape f (r.drop n) with
        | none => rw [e2] at h; simp at h
        | some cs' =>
          rw [e2] at h
          simp only [Option.some.injEq] at h
          exact ⟨n, f, cs', rfl, rfl, by omega, h.symm, e2⟩
theorem flat_nil {f : Nat} {cs : List (List (List Int))} (h : PyFlat.calls shape f [] = some cs) : cs = [] := by
  cases f <;> (simp only [PyFlat.calls, Option.some.injEq] at h; exact h.symm)
theorem told_cons (a : List Int) (l : List (List Int)) : PyFlat.told (a :: l) = (a.length : Int) :: a ++ PyFlat.told l := by
  simp [PyFlat.told, List.flatMap_cons]
theorem played_cons {S : Type} (step : S → List (List Int) → S × List Int) (s : S) (c : List (List Int)) (r : List (List (List Int))) :
    PyFlat.played step s (c :: r) = (step s c).2 :: PyFlat.played step (step s c).1 r := rfl
/-- what asked says -/
structure Asked (l : List Int) (raw : List (List (List Int))) : Prop where
  flat : PyFlat.calls shape l.length l = some raw
  some1 : raw ≠ []
  most : raw.length ≤ 200
  settles : (raw.filter VbcsahNeutral.isSettle).length ≤ 12
  ones : ∀ c ∈ raw, VbcsahNeutral.asked1 c = true
  short : (answers l).length ≤ 10000000
theorem asked_of {l : List Int} (h : answers_asked l = true) : ∃ raw, Asked l raw := by
  unfold answers_asked at h
  cases e : PyFlat.calls shape l.length l with
  | none => rw [e] at h; cases h
  | some raw =>
    rw [e] at h
    simp only [whole_map, Bool.and_eq_true] at h
    obtain ⟨⟨⟨⟨h1, h2⟩, h3⟩, h4⟩, h5⟩ := h
    unfold VbcsahNeutral.asked at h4
    simp only [Bool.and_eq_true, decide_eq_true_eq, List.all_eq_true] at h4
    obtain ⟨h6, h7, h8, h9⟩ := h4
    refine ⟨raw, e, ?_, h8, h9, h6, of_decide_eq_true h5⟩
    intro z
    rw [z] at h7
    simp at h7
theorem answers_of {l : List Int} {raw : List (List (List Int))} (h : Asked l raw) : answers l = PyFlat.told (PyFlat.played VbcsahNeutral.step VbcsahNeutral.start raw) := by
  unfold answers calls
  rw [h.flat]
  simp only [whole_map]
/-- each call's number is one of the document's -/
theorem flat_top : ∀ {f : Nat} {l : List Int} {cs : List (List (List Int))}, PyFlat.calls shape f l = some cs → ∀ c ∈ cs, ∀ z r, c = [z :: r] → z ≤ 22
  | f, [], cs, h, c, hc, z, r, e => by rw [flat_nil h] at hc; cases hc
  | f, q :: r, cs, h, c, hc, z, r', e => by
    obtain ⟨n, f', cs', rfl, sh, hn, rfl, h'⟩ := flat_turn h
    rcases List.mem_cons.mp hc with e1 | hc
    · rw [e1] at e
      simp only [List.cons.injEq, and_true] at e
      rw [← e.1]
      exact (shape_some sh).2.2.2
    · exact flat_top h' c hc z r' e
theorem Asked.top {l : List Int} {raw : List (List (List Int))} (h : Asked l raw) : ∀ c ∈ raw, ∀ z r, c = [z :: r] → z ≤ 22 := flat_top h.flat
end Fo

-- FoAns
/-! The line answers each call; the list of calls is read. -/
namespace Fo
open PySem PySem.Spec PyProof.Rows L2

section
variable {P : Program} {w : World} {K : PySem.W.Frag} {mg : Str → Option Value} {base : Heap} {a : Ad}
def sp_answer_call (P : Program) (w : World) (a : Ad) : Sp := fun vs H Q _ => ∃ (wo : Ow) (la dl : Addr) (s : Vbcsah.State) (c : Int) (nums : List Int) (q : Addr) (cl : Vbcsah.Call) (b r : Nat),
  vs = [.ref la, .int c, .ref q] ∧ LnA P w a wo H la dl s ∧ H q = some (.lst (nums.map V.int)) ∧ VbcsahNeutral.callOf [c :: nums] = some cl ∧ 0 ≤ c ∧ c ≤ TOPC ∧ Bs b r s ∧ b ≤ 4000 ∧ r ≤ 7000000 ∧ (Vbcsah.step s cl).2.length ≤ 10000000 ∧
  (∀ w' H' p, LnA P w a w' H' la dl (Vbcsah.step s cl).1 → Frm Lin wo w' H H' → H p = none → H' p = some (.lst ((Vbcsah.step s cl).2.map V.int)) → Q (.ref p) H')
theorem okRef7_cases {k : Nat} (h : okRef7 k = true) : k = 1 ∨ k = 3 ∨ k = 4 ∨ k = 5 ∨ k = 7 := by
  unfold okRef7 at h
  simp only [Bool.or_eq_true, beq_iff_eq] at h
  omega
theorem ok_Line_answer_call (T : Txt K mg a) : FnOk P w K mg base CX0 11 a.f_Line_answer_call a.d_Line_answer_call ["self", "number", "numbers"] (sp_answer_call P w a) := by
  refine T.F_Line_answer_call.ok sc_Line_answer_call (fun vs H Q E h => ?_) (fun cdv A outer s H vs Q E hr h => ⟨_, (pss_one (ps_try_many rfl rfl takes0 (fun W pn xe tk _ => (pss_one (ps_ret (pe_op op_cat (pe_lst (pa_cons pe_int pa_nil)) (pe_methAt (pv 0) T.cl_Line T.m_Line_follow (ok_Line_follow (P := P) (w := w) (base := base) T) hr T.b_Line_follow (fun σ => passAt tk σ) (pa_cons (pv 1) (pa_cons (pv 2) pa_nil))))))) (.cons ⟨rfl, by decide, Or.inl T.g_NotInRange⟩ (fun _ _ _ _ _ _ _ => (pss_one (ps_ret (pe_lst (pa_cons (pe_un un_neg pe_int) pa_nil))))) (.cons ⟨rfl, by decide, Or.inl T.g_NoPower⟩ (fun _ _ _ _ _ _ _ => (pss_one (ps_ret (pe_lst (pa_cons (pe_un un_neg pe_int) pa_nil))))) (.cons ⟨rfl, by decide, Or.inl T.g_NothingThere⟩ (fun _ _ _ _ _ _ _ => (pss_one (ps_ret (pe_lst (pa_cons (pe_un un_neg pe_int) pa_nil))))) (.cons ⟨rfl, by decide, Or.inl T.g_TooManyUnderWay⟩ (fun _ _ _ _ _ _ _ => (pss_one (ps_ret (pe_lst (pa_cons (pe_un un_neg pe_int) pa_nil))))) (.cons ⟨rfl, by decide, Or.inl T.g_NotBegun⟩ (fun _ _ _ _ _ _ _ => (pss_one (ps_ret (pe_lst (pa_cons (pe_un un_neg pe_int) pa_nil))))) .nil))))))), ?_⟩)
  · obtain ⟨wo, la, dl, s, c, nums, q, cl, b, r, rfl, _⟩ := h; rfl
  · obtain ⟨wo, la, dl, s, c, nums, q, cl, b, r, rfl, L, hq, hc, h0, h1, B, b4, r7, hl, k⟩ := h
    refine ⟨(by show 1 ≤ sizeLine; decide), fun t ht => ?_⟩
    have f1 : Frm Lin wo (setW wo t (200, 0)) H (upd H t (.lst [.int 0])) := Frm.laid (200, 0) ht
    have f1' : Frm NoB wo (setW wo t (200, 0)) H (upd H t (.lst [.int 0])) := Frm.laid (200, 0) ht
    have L1 := L.up f1' (fun z => z) (fun _ _ z => z)
    obtain ⟨v, eL, _⟩ := L1.at_
    have et : upd H t (.lst [.int 0]) t = some (.lst [.int 0]) := upd_same
    have wt : setW wo t (200, 0) t = (200, 0) := setW_same
    have hq1 := upd_other (o := .lst [.int 0]) (ne_of_none hq ht) hq
    generalize upd H t (.lst [.int 0]) = H1 at *
    generalize setW wo t (200, 0) = w1 at *
    refine ⟨_, rfl, la, dl, _, rfl, eL, rfl, _, rfl, _, rfl, w1, la, dl, s, c, nums, q, cl, b, r, rfl, L1, hq1, hc, h0, h1, B, b4, r7, hl, ?_, ?_⟩
    · intro s' l w' H' p e L' f hp hp'
      have e1 : (Vbcsah.step s cl).1 = s' := by rw [e]
      have e2 : (Vbcsah.step s cl).2 = 0 :: l := by rw [e]
      rw [e2] at hl
      have et' := f.keep _ _ et (by rw [wt]; exact fun z => by have := z.2; omega)
      refine ⟨t, p, _, _, rfl, rfl, et', hp', ?_, fun u hu => ?_⟩
      · have : sizeLine = 16777216 := by decide
        rw [List.length_map]
        simp only [List.length_cons, List.length_nil] at hl ⊢
        omega
      · have F := f1.trans f
        refine k w' _ u ?_ (F.trans (Frm.new hu)) (fresh_of F hu) ?_
        · rw [e1]; exact L'.up (Frm.new (k := NoB) hu) (fun z => z) (fun _ _ z => z)
        · rw [e2]; exact upd_same
    · intro kk hk w' H' e L' f
      have F := f1.trans f
      have e1 : (Vbcsah.step s cl).1 = s := by rw [e]
      have e2 : (Vbcsah.step s cl).2 = [-(kk : Int)] := by rw [e]
      have fin : ∀ (z : Int), z = -(kk : Int) → ∀ A, H' A = none → [V.int z].length ≤ sizeLine ∧ ∀ u, H' u = none → Q (.ref u) (upd H' u (.lst [V.int z])) := fun z ez A hA => ⟨(by show 1 ≤ sizeLine; decide), fun u hu => by
        refine k w' _ u ?_ (F.trans (Frm.new hu)) (fresh_of F hu) ?_
        · rw [e1]; exact L'.up (Frm.new (k := NoB) hu) (fun z => z) (fun _ _ z => z)
        · rw [e2, upd_same, ez]; rfl⟩
      rcases okRef7_cases hk with rfl | rfl | rfl | rfl | rfl
      · exact ⟨true, T.e_NotInRange_NotInRange, fun _ A hA => ⟨_, rfl, fin _ rfl A hA⟩, fun z => by cases z⟩
      · exact ⟨false, T.e_NoPower_NotInRange, (fun z => by cases z), fun _ => ⟨true, T.e_NoPower_NoPower, fun _ A hA => ⟨_, rfl, fin _ rfl A hA⟩, fun z => by cases z⟩⟩
      · exact ⟨false, T.e_NothingThere_NotInRange, (fun z => by cases z), fun _ => ⟨false, T.e_NothingThere_NoPower, (fun z => by cases z), fun _ => ⟨true, T.e_NothingThere_NothingThere, fun _ A hA => ⟨_, rfl, fin _ rfl A hA⟩, fun z => by cases z⟩⟩⟩
      · exact ⟨false, T.e_TooManyUnderWay_NotInRange, (fun z => by cases z), fun _ => ⟨false, T.e_TooManyUnderWay_NoPower, (fun z => by cases z), fun _ => ⟨false, T.e_TooManyUnderWay_NothingThere, (fun z => by cases z), fun _ => ⟨true, T.e_TooManyUnderWay_TooManyUnderWay, fun _ A hA => ⟨_, rfl, fin _ rfl A hA⟩, fun z => by cases z⟩⟩⟩⟩
      · exact ⟨false, T.e_NotBegun_NotInRange, (fun z => by cases z), fun _ => ⟨false, T.e_NotBegun_NoPower, (fun z => by cases z), fun _ => ⟨false, T.e_NotBegun_NothingThere, (fun z => by cases z), fun _ => ⟨false, T.e_NotBegun_TooManyUnderWay, (fun z => by cases z), fun _ => ⟨true, T.e_NotBegun_NotBegun, fun _ A hA => ⟨_, rfl, fin _ rfl A hA⟩, fun z => by cases z⟩⟩⟩⟩⟩

/-! ### the list of calls -/
/-- the list that was handed in: nobody's -/
def CaA (K : PySem.W.Frag) (wo : Ow) (H : Hp) (p : Addr) (xs : List V) : Prop := (Rd H p (.lst xs) ∧ wo p = (0, 0)) ∨
    ∃ (o : Obj) (its : Array Value) (n : Nat), K.lookup p = some o ∧ o.cls = .type "list" ∧ o.dict = none ∧ o.data = .seq its n ∧ its.size ≤ sizeLine ∧ Vals xs its.toList
theorem CaA.sq {wo : Ow} {H : Hp} {p : Addr} {xs : List V} (h : CaA K wo H p xs) : SqL K H p xs := h.elim (fun h => .inl h.1) .inr
theorem CaA.up {k : Nat → Prop} {wo w' : Ow} {H H' : Hp} {p : Addr} {xs : List V} (f : Frm k wo w' H H') (h0 : ¬ k 0) (h : CaA K wo H p xs) : CaA K w' H' p xs := by
  rcases h with ⟨h | ⟨o, h⟩, e⟩ | h
  · exact .inl ⟨.inl (f.keep _ _ h (by rw [e]; exact h0)), (f.own _ _ h).trans e⟩
  · exact .inl ⟨.inr ⟨o, f.keep _ _ h (by rw [e]; exact h0)⟩, (f.own _ _ h).trans e⟩
  · exact .inr h
theorem cut_ints (ns : List Int) (p n : Nat) (h : p + 1 + n ≤ ns.length) : cutV (ns.map V.int) (some ((p : Int) + 1)) (some ((p : Int) + 1 + (n : Int))) = ((ns.drop (p + 1)).take n).map V.int := by
  unfold cutV
  rw [show ((p : Int) + 1) = ((p + 1 : Nat) : Int) by omega, show (((p + 1 : Nat) : Int) + (n : Int)) = ((p + 1 + n : Nat) : Int) by omega, HT.sIx_nat, HT.sIx_nat, List.length_map, Nat.min_eq_left (show p + 1 ≤ ns.length by omega), Nat.min_eq_left h,
    show p + 1 + n - (p + 1) = n by omega, ← List.map_drop, ← List.map_take]
def HMn : List (Int × Int) := [(0, 1), (1, 5), (2, 1), (3, 2), (4, 1), (5, 1), (6, 2), (7, 1), (8, 1), (9, 1), (10, 1), (11, 1), (12, 1), (13, 1), (14, 0), (15, 1), (16, 0), (17, 2), (18, 0), (19, 0), (20, 0), (21, 1), (22, 0)]
def hmOk (m : Nat) : Bool := match PyVbcsah.shape (m : Int) with
  | some (n, _) => HMn.lookup (m : Int) == some (n : Int)
  | none => false
theorem hm_all : ∀ m : Nat, m < TOPC.toNat + 1 → hmOk m = true := by decide
theorem lookup_map (z : Int) : ∀ l : List (Int × Int), (l.map fun p => (p.1, V.int p.2)).lookup z = (l.lookup z).map V.int
  | [] => rfl
  | (k, v) :: l => by
    rw [List.map_cons, List.lookup_cons, List.lookup_cons]
    cases (z == k) with
    | true => rfl
    | false => exact lookup_map z l
theorem how_many {q : Int} {n : Nat} (h : PyVbcsah.shape q = some (n, 0)) (ht : q ≤ TOPC) : (HMn.map fun p => (p.1, V.int p.2)).lookup q = some (.int (n : Int)) := by
  obtain ⟨_, _, h0, _⟩ := shape_some h
  have hm := hm_all q.toNat (by have : (0 : Int) ≤ TOPC := by decide
                                omega)
  unfold hmOk at hm
  rw [Int.toNat_of_nonneg h0, h] at hm
  rw [lookup_map, beq_iff_eq.mp hm]
  rfl
theorem wf_new {off : Nat} (h1 : 1 ≤ off) (h4 : off ≤ 4) (b r : Nat) : Wf b 4080 r (newHouse off) :=
  ⟨h1, h4, List.length_replicate, fun x hx => by rw [List.eq_of_mem_replicate hx]; exact wfN_new _ _ _, (fun x hx => by cases hx), ⟨.nil, fun x hx => by cases hx⟩, Nat.zero_le _, Nat.zero_le _, by decide, Nat.le_refl _⟩
/-- what a call leaves of the line keeps to the sizes -/
theorem step_wf {b r : Nat} {s s' : Vbcsah.State} {cl : Vbcsah.Call} {l : List Int} (B : Bs b r s) (hb : b ≤ 4000) (e : Vbcsah.step s cl = (s', l)) : Bs (b + 20) (r + 32640) s' := by
  have same : Bs (b + 20) (r + 32640) s := fun h hs => ⟨(B h hs).1.mono (by omega) (Nat.le_refl _) (by omega), (B h hs).2⟩
  have dz : ∀ {h : House}, s = some h → Vbcsah.does h cl = (s', l) → Bs (b + 20) (r + 32640) s' := fun {h} hs ed h' hs' => by
    subst hs'
    have q := does_wf (B h hs).1 hb (B h hs).2.1 ed
    exact ⟨q.1, q.2, does_fit (B h hs).2.2 (B h hs).1 hb ed⟩
  cases s with
  | none =>
    cases cl with
    | begin_ n =>
      have e' : (if Vbcsah.inR n 1 4 = false then Vbcsah.no none 1 else Vbcsah.yes (newHouse n.toNat) []) = (s', l) := e
      split at e'
      · cases e'; exact same
      · rename_i hn
        have hz := of_decide_eq_true (show Vbcsah.inR n 1 4 = true by simpa using hn)
        cases e'
        intro h hs
        cases hs
        exact ⟨wf_new (by omega) (by omega) _ _, Nat.zero_le _, fit_new _⟩
    | _ => cases e; exact same
  | some g =>
    cases cl with
    | begin_ n =>
      have e' : (if Vbcsah.inR n 1 4 = false then Vbcsah.no (some g) 1 else Vbcsah.yes (newHouse n.toNat) []) = (s', l) := e
      split at e'
      · cases e'; exact same
      · rename_i hn
        have hz := of_decide_eq_true (show Vbcsah.inR n 1 4 = true by simpa using hn)
        cases e'
        intro h hs
        cases hs
        exact ⟨wf_new (by omega) (by omega) _ _, Nat.zero_le _, fit_new _⟩
    | _ => exact dz rfl e
/-- between the turns -/
structure TurnA (P : Program) (w : World) (K : PySem.W.Frag) (a : Ad) (ns : List Int) (ca la dl td : Addr) (m : Nat) (σ : L2.St) (H : Hp) : Prop where
  ex : ∃ (wo : Ow) (place k : Nat) (rest : List (List (List Int))) (s : Vbcsah.State) (acc : List Int) (x4 x5 x6 : Option V) (f : Nat),
    σ = [some (.ref ca), some (.ref la), some (.ref td), some (.int (place : Int)), x4, x5, x6] ∧ LnA P w a wo H la dl s ∧ CaA K wo H ca (ns.map V.int) ∧ H td = some (.lst (acc.map V.int)) ∧ wo td = (102, 0) ∧
    PyFlat.calls PyVbcsah.shape f (ns.drop place) = some rest ∧ m = rest.length ∧ rest.length + k ≤ 200 ∧ Bs (20 * k) (32640 * k) s ∧
    PyVbcsah.answers ns = acc ++ PyFlat.told (PyFlat.played VbcsahNeutral.step s rest) ∧ (∀ c ∈ rest, VbcsahNeutral.asked1 c = true) ∧ (∀ c ∈ rest, ∀ z r, c = [z :: r] → z ≤ TOPC) ∧ place ≤ ns.length
def sp_answers (P : Program) (w : World) (K : PySem.W.Frag) (a : Ad) : Sp := fun vs H Q _ => ∃ (ca : Addr) (ns : List Int) (raw : List (List (List Int))), vs = [.ref ca] ∧ SqL K H ca (ns.map V.int) ∧ Asked ns raw ∧ (∀ c ∈ raw, ∀ z r, c = [z :: r] → z ≤ TOPC) ∧
  ∀ (H' : Hp) (p : Addr), H' p = some (.lst ((PyVbcsah.answers ns).map V.int)) → Q (.ref p) H'
theorem ok_answers (T : Txt K mg a) : FnOk P w K mg base CX0 12 a.f_answers a.d_answers ["calls"] (sp_answers P w K a) := by
  refine T.F_answers.ok sc_answers (fun vs H Q E h => ?_) (fun cdv A outer s H vs Q E hr h => ⟨_, (pss_cons (ps_set (i := 1) sc_answers.nd rfl (Or.inl rfl) (pe_make0 T.M_Line (ok_Line_init T) (hr.mono (by decide)) rfl T.g_Line T.b_Line_init .nil pass0))
    (pss_cons (ps_set (i := 2) sc_answers.nd rfl (Or.inl rfl) (pe_lst pa_nil))
    (pss_cons (ps_set (i := 3) sc_answers.nd rfl (Or.inl rfl) pe_int)
    (pss_cons (ps_while PassesOwn.never (pt_cmpR op_lt (pv 3) (pe_callB call_len_seq (by rfl) T.n_len (by decide +kernel) (pa_cons (pv 0) pa_nil)) (nomark _))
    (pss_cons (ps_set (i := 4) sc_answers.nd rfl (Or.inl rfl) (pe_ix ix_list (pv 0) (pv 3) (fun _ _ => rfl)))
    (pss_cons (ps_set (i := 5) sc_answers.nd rfl (Or.inl rfl) (pe_op op_add (pe_op op_add (pv 3) pe_int) (pe_ix (ix_tab T.t_HOW_MANY_NUMBERS) (pe_tab rfl T.t_HOW_MANY_NUMBERS) (pv 4) (fun _ _ => rfl))))
    (pss_cons (ps_set (i := 6) sc_answers.nd rfl (Or.inl rfl) (pe_meth (pv 1) T.cl_Line T.m_Line_answer_call (ok_Line_answer_call T) hr T.b_Line_answer_call .nil pass0 (pa_cons (pv 4) (pa_cons (pe_slice sl_list (pv 0) (po_some (pe_op op_add (pv 3) pe_int)) (po_some (pv 5))) pa_nil))))
    (pss_cons (ps_expr (pe_bm PySem.F.plainAttrs_list PySem.F.slot_list_append PySem.F.type_list_append mt_append (pv 2) (pa_cons (pe_callB call_len_seq (by rfl) T.n_len (by decide +kernel) (pa_cons (pv 6) pa_nil)) pa_nil)))
    (pss_cons (ps_expr (pe_bm PySem.F.plainAttrs_list PySem.F.slot_list_extend PySem.F.type_list_extend mt_extend (pv 2) (pa_cons (pv 6) pa_nil)))
    (pss_one (ps_set (i := 3) sc_answers.nd rfl (Or.inl rfl) (pv 5)))))))))
    (pss_one (ps_ret (pv 2))))))), ?_⟩)
  · obtain ⟨ca, ns, raw, rfl, _⟩ := h; rfl
  · obtain ⟨ca, ns, raw, rfl, hs, A1, hT, kQ⟩ := h
    intro la dl hla hdl hne
    refine ⟨la, dl, rfl, upd_same, rfl, (by show 0 ≤ sizeLine; decide), fun td htd => ?_⟩
    generalize hH0 : upd (upd (upd H dl (.own la)) la (.ins a.c_Line dl [])) la (.ins a.c_Line dl [("session", .non)]) = H0 at htd
    have eL0 : H0 la = some (.ins a.c_Line dl [("session", .non)]) := by rw [← hH0]; exact upd_same
    have keep0 : ∀ b o, H b = some o → H0 b = some o := fun b o hb => by
      rw [← hH0, upd_ne (ne_of_none hb hla), upd_ne (ne_of_none hb hla), upd_ne (ne_of_none hb hdl)]; exact hb
    generalize hw0 : setW (setW (fun _ => (0, 0)) la (101, 0)) td (102, 0) = w0
    have ntl : td ≠ la := fun z => by rw [z, eL0] at htd; cases htd
    have wL0 : w0 la = (101, 0) := by rw [← hw0, setW_ne (Ne.symm ntl), setW_same]
    have wT0 : w0 td = (102, 0) := by rw [← hw0, setW_same]
    have LA : LnA P w a w0 (upd H0 td (.lst [])) la dl none := ⟨⟨.non, upd_other (Ne.symm ntl) eL0, rfl⟩, wL0⟩
    refine ⟨TurnA P w K a ns ca la dl td, ⟨raw.length, ⟨w0, 0, 0, raw, none, [], none, none, none, ns.length, rfl, LA, ?_, upd_same, wT0, A1.flat, rfl, A1.most, (fun h z => by cases z), answers_of A1, A1.ones, hT, Nat.zero_le _⟩⟩, ?_⟩
    · have go : ∀ o, H ca = some o → (upd H0 td (.lst [])) ca = some o ∧ w0 ca = (0, 0) := fun o ho =>
        ⟨upd_other (ne_of_none (keep0 _ _ ho) htd) (keep0 _ _ ho), by rw [← hw0, setW_ne (ne_of_none (keep0 _ _ ho) htd), setW_ne (ne_of_none ho hla)]⟩
      rcases hs with (h1 | ⟨o, h1⟩) | h1
      · exact .inl ⟨.inl (go _ h1).1, (go _ h1).2⟩
      · exact .inl ⟨.inr ⟨o, (go _ h1).1⟩, (go _ h1).2⟩
      · exact .inr h1
    · rintro m σ1 H1 ⟨wo, place, k, rest, s, acc, x4, x5, x6, f, rfl, L, hc, eT, wT, fl, rfl, hk, B, ea, ones, hT1, hp⟩
      refine ⟨_, rfl, _, rfl, ca, _, rfl, .inl hc.sq, _, _, rfl, rfl, _, rfl, ?_⟩
      by_cases lt : place < ns.length
      · have e1 : decide ((place : Int) < ((ns.map V.int).length : Int)) = true := by rw [List.length_map]; exact decide_eq_true (by omega)
        rw [e1]
        refine iteT ⟨fun σ' H' => ∃ m', m' < rest.length ∧ TurnA P w K a ns ca la dl td m' σ' H', fun _ _ h => h, ?_⟩
        -- one call is read off
        have ed : ns.drop place = ns[place] :: ns.drop (place + 1) := List.drop_eq_getElem_cons lt
        rw [ed] at fl
        obtain ⟨n, f', rest', rfl, sh, hn, rfl, fl'⟩ := flat_turn fl
        generalize hc0 : ns[place] = c at *
        have hl1 : (ns.drop (place + 1)).length = ns.length - (place + 1) := List.length_drop
        have hpn : place + 1 + n ≤ ns.length := by omega
        have hget : (ns.map V.int)[place]? = some (.int c) := by rw [List.getElem?_map, List.getElem?_eq_getElem lt, hc0]; rfl
        have hcT : c ≤ TOPC := hT1 _ (List.mem_cons_self ..) c _ rfl
        obtain ⟨_, _, hc0', _⟩ := shape_some sh
        have cut := cut_ints ns place n hpn
        have fl2 : PyFlat.calls PyVbcsah.shape f' (ns.drop (place + 1 + n)) = some rest' := by rw [← List.drop_drop]; exact fl'
        generalize hnums : (ns.drop (place + 1)).take n = nums at *
        have one := ones _ (List.mem_cons_self ..)
        have ocl : ∃ cl, VbcsahNeutral.callOf [c :: nums] = some cl := by
          unfold VbcsahNeutral.asked1 at one
          rw [Bool.and_eq_true] at one
          exact Option.isSome_iff_exists.mp one.1
        obtain ⟨cl, hcl⟩ := ocl
        have est : VbcsahNeutral.step s [c :: nums] = Vbcsah.step s cl := by unfold VbcsahNeutral.step; rw [hcl]
        rw [played_cons, told_cons, est] at ea
        have hlen := A1.short
        rw [ea] at hlen
        simp only [List.length_append, List.length_cons] at hlen
        rw [List.length_cons] at hk
        refine ⟨_, rfl, _, rfl, ca, _, (place : Int), _, rfl, rfl, hc.sq, atI_nat (j := place) hget, ?_⟩
        refine ⟨_, rfl, _, _, rfl, rfl, _, rfl, c, _, rfl, rfl, how_many sh hcT, _, _, rfl, rfl, ?_⟩
        obtain ⟨v, eL, _⟩ := L.at_
        refine ⟨_, rfl, la, dl, _, rfl, eL, rfl, _, rfl, _, rfl, _, rfl, _, _, rfl, rfl, _, rfl, _, rfl, _, rfl, ca, _, rfl, hc.sq, fun q hq => ?_⟩
        rw [cut]
        have fq : Frm NoB wo wo H1 (upd H1 q (.lst (nums.map V.int))) := Frm.new hq
        have Lq := L.up fq (fun z => z) (fun _ _ z => z)
        have hcq := hc.up fq (fun z => z)
        have eTq := fq.keep _ _ eT (fun z => z)
        have eq : upd H1 q (.lst (nums.map V.int)) q = some (.lst (nums.map V.int)) := upd_same
        generalize upd H1 q (.lst (nums.map V.int)) = H2 at *
        have hk' : k ≤ 199 := by omega
        refine ⟨wo, la, dl, s, c, nums, q, cl, 20 * k, 32640 * k, rfl, Lq, eq, hcl, hc0', hcT, B, by omega, by omega, by omega, fun w3 H3 p L3 f3 hp3 ep => ?_⟩
        generalize hst : Vbcsah.step s cl = st at *
        obtain ⟨s', l⟩ := st
        have kT : ¬ Lin (wo td).1 := by rw [wT]; exact fun z => by have := z.2; omega
        have eT3 := f3.keep _ _ eTq kT
        have wT3 : w3 td = (102, 0) := (f3.own _ _ eTq).trans wT
        have hc3 := hcq.up f3 (fun z => z.1 rfl)
        have zl : sizeLine = 16777216 := by decide
        have kp : p ≠ td := fun z => by rw [z, eTq] at hp3; cases hp3
        have la1 : acc.length + (l.length + 1) ≤ 10000000 := by simp only at hlen; omega
        refine ⟨_, rfl, .inl ⟨rfl, _, SqL.of eT3⟩, _, rfl, p, _, rfl, .inl (SqL.of ep), td, _, _, rfl, rfl, eT3, (by rw [List.length_map]; omega), ?_⟩
        have f4 : Frm (Own 102) w3 w3 H3 (upd H3 td (.lst (acc.map V.int ++ [V.int ((l.map V.int).length : Int)]))) := Frm.write eT3 (by intro z; exact z) (by rw [wT3])
        have ep4 := upd_other (o := .lst (acc.map V.int ++ [V.int ((l.map V.int).length : Int)])) kp ep
        refine ⟨_, rfl, .inl ⟨rfl, _, SqL.of upd_same⟩, _, rfl, td, p, _, _, rfl, rfl, upd_same, ep4, (by simp only [List.length_append, List.length_map, List.length_cons, List.length_nil]; omega), ?_⟩
        have f5 : Frm (Own 102) w3 w3 H3 (upd (upd H3 td (.lst (acc.map V.int ++ [V.int ((l.map V.int).length : Int)]))) td (.lst (acc.map V.int ++ [V.int ((l.map V.int).length : Int)] ++ l.map V.int))) :=
          f4.trans (Frm.write upd_same (by intro z; exact z) (by rw [wT3]))
        have L5 := L3.up f5 (fun z => by cases z) (fun n hn z => by have : n = 102 := z; omega)
        refine ⟨_, rfl, rest'.length, by rw [List.length_cons]; omega, w3, place + 1 + n, k + 1, rest', s', acc ++ ((l.length : Int) :: l), some (.int c), some (.int ((place : Int) + 1 + (n : Int))), some (.ref p), f', ?_, L5, hc3.up f5 (fun z => by cases z), ?_, wT3, fl2, rfl, by omega, ?_, ?_, fun c hc => ones c (List.mem_cons_of_mem _ hc), fun c hc => hT1 c (List.mem_cons_of_mem _ hc), hpn⟩
        · have ep3 : ((place : Int) + 1 + (n : Int)) = ((place + 1 + n : Nat) : Int) := by omega
          rw [← ep3]; rfl
        · rw [upd_same, List.map_append, List.map_cons, List.length_map, List.append_assoc]; rfl
        · have := step_wf B (by omega) hst
          rw [show 20 * (k + 1) = 20 * k + 20 by omega, show 32640 * (k + 1) = 32640 * k + 32640 by omega]
          exact this
        · rw [ea, List.append_assoc]
      · have e1 : decide ((place : Int) < ((ns.map V.int).length : Int)) = false := by rw [List.length_map]; exact decide_eq_false (by omega)
        rw [e1]
        have e2 : rest = [] := by
          rw [List.drop_eq_nil_of_le (by omega)] at fl
          exact flat_nil fl
        subst e2
        have e3 : PyVbcsah.answers ns = acc := by rw [ea]; simp [PyFlat.played, PyFlat.told]
        exact iteF ⟨_, rfl, kQ _ _ (by rw [e3]; exact eT)⟩
end
end Fo

-- FoAll
/-! What the top has written, put together. Printed by a program of mine. -/
namespace Fo
open PySem PySem.Spec PyProof.Rows L2
theorem exm_same {K : PySem.W.Frag} {S : Addr} (h1 : PySem.W.subIn K (.ref S) (.type "BaseException") = some true) (h2 : PySem.W.isClsIn K S = true) (h3 : PySem.W.typeIn K (.ref S) = some (.type "type")) {b : Bool} {R : Addr} (h4 : PySem.W.subIn K (.ref R) (.ref S) = some b)
    (h5 : PySem.W.subIn K (.ref R) (.type "BaseException") = some true) : PySem.W.exmOne K (.ref R) (.ref S) = some b := by
  unfold PySem.W.exmOne PySem.W.kitCls
  have h2' : (PySem.W.clsIn K S).isSome = true := h2
  simp only [h1, h5, h2', h3, h4, beq_self_eq_true, Bool.and_self, if_true]
/-- what answers promises, the addresses forgotten -/
def sp_end (K : PySem.W.Frag) : Sp := fun vs H Q _ => ∃ (ca : Addr) (ns : List Int) (raw : List (List (List Int))), vs = [.ref ca] ∧ SqL K H ca (ns.map V.int) ∧ Asked ns raw ∧ (∀ c ∈ raw, ∀ z r, c = [z :: r] → z ≤ TOPC) ∧
  ∀ (H' : Hp) (p : Addr), H' p = some (.lst ((PyVbcsah.answers ns).map V.int)) → Q (.ref p) H'
section
variable {K : PySem.W.Frag} {h : Heap} {mg : Str → Option Value}
/-- a def of the text, found -/
structure FnA (K : PySem.W.Frag) (n q : Str) (st : Stmt) (ps : List Str) (f : Addr) : Prop where
  ex : ∃ fd, Fun K n q st f fd ∧ Binds K fd ps []
theorem fa_check_range {f : Addr} {od an : Option Addr} {sl : Array (Option Value)} {oc kV dc pm cd ct : Value} (l : K.lookup f = some ⟨oc, od, .func (PySem.W.fnOf "check_range" "check_range" (defArgs s_check_range) (defBody s_check_range) (defScope s_check_range) .none kV dc pm an cd ct), sl⟩) (c : PySem.W.codeIn K cd "check_range" = true) (k : PySem.W.keepIn K (.ref f) = true) : FnA K "check_range" "check_range" s_check_range ["number", "first", "last"] f := by
  have F := fun_mk (st := s_check_range) l c k
  exact ⟨_, F, F.binds (ps := ["number", "first", "last"]) fun _ _ _ _ _ _ us hl => match us, hl with | [_, _, _], _ => rfl⟩
theorem fa_make_item {f : Addr} {od an : Option Addr} {sl : Array (Option Value)} {oc kV dc pm cd ct : Value} (l : K.lookup f = some ⟨oc, od, .func (PySem.W.fnOf "make_item" "make_item" (defArgs s_make_item) (defBody s_make_item) (defScope s_make_item) .none kV dc pm an cd ct), sl⟩) (c : PySem.W.codeIn K cd "make_item" = true) (k : PySem.W.keepIn K (.ref f) = true) : FnA K "make_item" "make_item" s_make_item ["form", "version", "withdrawn", "tells"] f := by
  have F := fun_mk (st := s_make_item) l c k
  exact ⟨_, F, F.binds (ps := ["form", "version", "withdrawn", "tells"]) fun _ _ _ _ _ _ us hl => match us, hl with | [_, _, _, _], _ => rfl⟩
theorem fa_is_greater {f : Addr} {od an : Option Addr} {sl : Array (Option Value)} {oc kV dc pm cd ct : Value} (l : K.lookup f = some ⟨oc, od, .func (PySem.W.fnOf "is_greater" "is_greater" (defArgs s_is_greater) (defBody s_is_greater) (defScope s_is_greater) .none kV dc pm an cd ct), sl⟩) (c : PySem.W.codeIn K cd "is_greater" = true) (k : PySem.W.keepIn K (.ref f) = true) : FnA K "is_greater" "is_greater" s_is_greater ["item", "other"] f := by
  have F := fun_mk (st := s_is_greater) l c k
  exact ⟨_, F, F.binds (ps := ["item", "other"]) fun _ _ _ _ _ _ us hl => match us, hl with | [_, _], _ => rfl⟩
theorem fa_bring_into {f : Addr} {od an : Option Addr} {sl : Array (Option Value)} {oc kV dc pm cd ct : Value} (l : K.lookup f = some ⟨oc, od, .func (PySem.W.fnOf "bring_into" "bring_into" (defArgs s_bring_into) (defBody s_bring_into) (defScope s_bring_into) .none kV dc pm an cd ct), sl⟩) (c : PySem.W.codeIn K cd "bring_into" = true) (k : PySem.W.keepIn K (.ref f) = true) : FnA K "bring_into" "bring_into" s_bring_into ["book", "coming"] f := by
  have F := fun_mk (st := s_bring_into) l c k
  exact ⟨_, F, F.binds (ps := ["book", "coming"]) fun _ _ _ _ _ _ us hl => match us, hl with | [_, _], _ => rfl⟩
theorem fa_items_of {f : Addr} {od an : Option Addr} {sl : Array (Option Value)} {oc kV dc pm cd ct : Value} (l : K.lookup f = some ⟨oc, od, .func (PySem.W.fnOf "items_of" "items_of" (defArgs s_items_of) (defBody s_items_of) (defScope s_items_of) .none kV dc pm an cd ct), sl⟩) (c : PySem.W.codeIn K cd "items_of" = true) (k : PySem.W.keepIn K (.ref f) = true) : FnA K "items_of" "items_of" s_items_of ["book"] f := by
  have F := fun_mk (st := s_items_of) l c k
  exact ⟨_, F, F.binds (ps := ["book"]) fun _ _ _ _ _ _ us hl => match us, hl with | [_], _ => rfl⟩
theorem fa_news_for {f : Addr} {od an : Option Addr} {sl : Array (Option Value)} {oc kV dc pm cd ct : Value} (l : K.lookup f = some ⟨oc, od, .func (PySem.W.fnOf "news_for" "news_for" (defArgs s_news_for) (defBody s_news_for) (defScope s_news_for) .none kV dc pm an cd ct), sl⟩) (c : PySem.W.codeIn K cd "news_for" = true) (k : PySem.W.keepIn K (.ref f) = true) : FnA K "news_for" "news_for" s_news_for ["book", "other"] f := by
  have F := fun_mk (st := s_news_for) l c k
  exact ⟨_, F, F.binds (ps := ["book", "other"]) fun _ _ _ _ _ _ us hl => match us, hl with | [_, _], _ => rfl⟩
theorem fa_numbers_of {f : Addr} {od an : Option Addr} {sl : Array (Option Value)} {oc kV dc pm cd ct : Value} (l : K.lookup f = some ⟨oc, od, .func (PySem.W.fnOf "numbers_of" "numbers_of" (defArgs s_numbers_of) (defBody s_numbers_of) (defScope s_numbers_of) .none kV dc pm an cd ct), sl⟩) (c : PySem.W.codeIn K cd "numbers_of" = true) (k : PySem.W.keepIn K (.ref f) = true) : FnA K "numbers_of" "numbers_of" s_numbers_of ["told"] f := by
  have F := fun_mk (st := s_numbers_of) l c k
  exact ⟨_, F, F.binds (ps := ["told"]) fun _ _ _ _ _ _ us hl => match us, hl with | [_], _ => rfl⟩
theorem fa_Message_init {f : Addr} {od an : Option Addr} {sl : Array (Option Value)} {oc kV dc pm cd ct : Value} (l : K.lookup f = some ⟨oc, od, .func (PySem.W.fnOf "__init__" "Message.__init__" (defArgs s_Message_init) (defBody s_Message_init) (defScope s_Message_init) .none kV dc pm an cd ct), sl⟩) (c : PySem.W.codeIn K cd "Message.__init__" = true) (k : PySem.W.keepIn K (.ref f) = true) : FnA K "__init__" "Message.__init__" s_Message_init ["self", "kind", "sender", "receiver", "carried"] f := by
  have F := fun_mk (st := s_Message_init) l c k
  exact ⟨_, F, F.binds (ps := ["self", "kind", "sender", "receiver", "carried"]) fun _ _ _ _ _ _ us hl => match us, hl with | [_, _, _, _, _], _ => rfl⟩
theorem fa_keep_memory {f : Addr} {od an : Option Addr} {sl : Array (Option Value)} {oc kV dc pm cd ct : Value} (l : K.lookup f = some ⟨oc, od, .func (PySem.W.fnOf "keep_memory" "keep_memory" (defArgs s_keep_memory) (defBody s_keep_memory) (defScope s_keep_memory) .none kV dc pm an cd ct), sl⟩) (c : PySem.W.codeIn K cd "keep_memory" = true) (k : PySem.W.keepIn K (.ref f) = true) : FnA K "keep_memory" "keep_memory" s_keep_memory ["session", "place"] f := by
  have F := fun_mk (st := s_keep_memory) l c k
  exact ⟨_, F, F.binds (ps := ["session", "place"]) fun _ _ _ _ _ _ us hl => match us, hl with | [_, _], _ => rfl⟩
theorem fa_send_forms {f : Addr} {od an : Option Addr} {sl : Array (Option Value)} {oc kV dc pm cd ct : Value} (l : K.lookup f = some ⟨oc, od, .func (PySem.W.fnOf "send_forms" "send_forms" (defArgs s_send_forms) (defBody s_send_forms) (defScope s_send_forms) .none kV dc pm an cd ct), sl⟩) (c : PySem.W.codeIn K cd "send_forms" = true) (k : PySem.W.keepIn K (.ref f) = true) : FnA K "send_forms" "send_forms" s_send_forms ["session", "office", "centre"] f := by
  have F := fun_mk (st := s_send_forms) l c k
  exact ⟨_, F, F.binds (ps := ["session", "office", "centre"]) fun _ _ _ _ _ _ us hl => match us, hl with | [_, _, _], _ => rfl⟩
theorem fa_send_summary {f : Addr} {od an : Option Addr} {sl : Array (Option Value)} {oc kV dc pm cd ct : Value} (l : K.lookup f = some ⟨oc, od, .func (PySem.W.fnOf "send_summary" "send_summary" (defArgs s_send_summary) (defBody s_send_summary) (defScope s_send_summary) .none kV dc pm an cd ct), sl⟩) (c : PySem.W.codeIn K cd "send_summary" = true) (k : PySem.W.keepIn K (.ref f) = true) : FnA K "send_summary" "send_summary" s_send_summary ["session", "centre"] f := by
  have F := fun_mk (st := s_send_summary) l c k
  exact ⟨_, F, F.binds (ps := ["session", "centre"]) fun _ _ _ _ _ _ us hl => match us, hl with | [_, _], _ => rfl⟩
theorem fa_let_come {f : Addr} {od an : Option Addr} {sl : Array (Option Value)} {oc kV dc pm cd ct : Value} (l : K.lookup f = some ⟨oc, od, .func (PySem.W.fnOf "let_come" "let_come" (defArgs s_let_come) (defBody s_let_come) (defScope s_let_come) .none kV dc pm an cd ct), sl⟩) (c : PySem.W.codeIn K cd "let_come" = true) (k : PySem.W.keepIn K (.ref f) = true) : FnA K "let_come" "let_come" s_let_come ["session", "number"] f := by
  have F := fun_mk (st := s_let_come) l c k
  exact ⟨_, F, F.binds (ps := ["session", "number"]) fun _ _ _ _ _ _ us hl => match us, hl with | [_, _], _ => rfl⟩
theorem fa_note_receipts {f : Addr} {od an : Option Addr} {sl : Array (Option Value)} {oc kV dc pm cd ct : Value} (l : K.lookup f = some ⟨oc, od, .func (PySem.W.fnOf "note_receipts" "note_receipts" (defArgs s_note_receipts) (defBody s_note_receipts) (defScope s_note_receipts) .none kV dc pm an cd ct), sl⟩) (c : PySem.W.codeIn K cd "note_receipts" = true) (k : PySem.W.keepIn K (.ref f) = true) : FnA K "note_receipts" "note_receipts" s_note_receipts ["session", "message"] f := by
  have F := fun_mk (st := s_note_receipts) l c k
  exact ⟨_, F, F.binds (ps := ["session", "message"]) fun _ _ _ _ _ _ us hl => match us, hl with | [_, _], _ => rfl⟩
theorem fa_send_back {f : Addr} {od an : Option Addr} {sl : Array (Option Value)} {oc kV dc pm cd ct : Value} (l : K.lookup f = some ⟨oc, od, .func (PySem.W.fnOf "send_back" "send_back" (defArgs s_send_back) (defBody s_send_back) (defScope s_send_back) .none kV dc pm an cd ct), sl⟩) (c : PySem.W.codeIn K cd "send_back" = true) (k : PySem.W.keepIn K (.ref f) = true) : FnA K "send_back" "send_back" s_send_back ["session", "message"] f := by
  have F := fun_mk (st := s_send_back) l c k
  exact ⟨_, F, F.binds (ps := ["session", "message"]) fun _ _ _ _ _ _ us hl => match us, hl with | [_, _], _ => rfl⟩
theorem fa_settle_all {f : Addr} {od an : Option Addr} {sl : Array (Option Value)} {oc kV dc pm cd ct : Value} (l : K.lookup f = some ⟨oc, od, .func (PySem.W.fnOf "settle_all" "settle_all" (defArgs s_settle_all) (defBody s_settle_all) (defScope s_settle_all) .none kV dc pm an cd ct), sl⟩) (c : PySem.W.codeIn K cd "settle_all" = true) (k : PySem.W.keepIn K (.ref f) = true) : FnA K "settle_all" "settle_all" s_settle_all ["session"] f := by
  have F := fun_mk (st := s_settle_all) l c k
  exact ⟨_, F, F.binds (ps := ["session"]) fun _ _ _ _ _ _ us hl => match us, hl with | [_], _ => rfl⟩
theorem fa_bring_forms {f : Addr} {od an : Option Addr} {sl : Array (Option Value)} {oc kV dc pm cd ct : Value} (l : K.lookup f = some ⟨oc, od, .func (PySem.W.fnOf "bring_forms" "bring_forms" (defArgs s_bring_forms) (defBody s_bring_forms) (defScope s_bring_forms) .none kV dc pm an cd ct), sl⟩) (c : PySem.W.codeIn K cd "bring_forms" = true) (k : PySem.W.keepIn K (.ref f) = true) : FnA K "bring_forms" "bring_forms" s_bring_forms ["session", "office", "centre"] f := by
  have F := fun_mk (st := s_bring_forms) l c k
  exact ⟨_, F, F.binds (ps := ["session", "office", "centre"]) fun _ _ _ _ _ _ us hl => match us, hl with | [_, _, _], _ => rfl⟩
theorem fa_keep_and_acknowledge {f : Addr} {od an : Option Addr} {sl : Array (Option Value)} {oc kV dc pm cd ct : Value} (l : K.lookup f = some ⟨oc, od, .func (PySem.W.fnOf "keep_and_acknowledge" "keep_and_acknowledge" (defArgs s_keep_and_acknowledge) (defBody s_keep_and_acknowledge) (defScope s_keep_and_acknowledge) .none kV dc pm an cd ct), sl⟩) (c : PySem.W.codeIn K cd "keep_and_acknowledge" = true) (k : PySem.W.keepIn K (.ref f) = true) : FnA K "keep_and_acknowledge" "keep_and_acknowledge" s_keep_and_acknowledge ["session", "centre"] f := by
  have F := fun_mk (st := s_keep_and_acknowledge) l c k
  exact ⟨_, F, F.binds (ps := ["session", "centre"]) fun _ _ _ _ _ _ us hl => match us, hl with | [_, _], _ => rfl⟩
theorem fa_ask_and_fill {f : Addr} {od an : Option Addr} {sl : Array (Option Value)} {oc kV dc pm cd ct : Value} (l : K.lookup f = some ⟨oc, od, .func (PySem.W.fnOf "ask_and_fill" "ask_and_fill" (defArgs s_ask_and_fill) (defBody s_ask_and_fill) (defScope s_ask_and_fill) .none kV dc pm an cd ct), sl⟩) (c : PySem.W.codeIn K cd "ask_and_fill" = true) (k : PySem.W.keepIn K (.ref f) = true) : FnA K "ask_and_fill" "ask_and_fill" s_ask_and_fill ["session", "centre"] f := by
  have F := fun_mk (st := s_ask_and_fill) l c k
  exact ⟨_, F, F.binds (ps := ["session", "centre"]) fun _ _ _ _ _ _ us hl => match us, hl with | [_, _], _ => rfl⟩
theorem fa_memory {f : Addr} {od an : Option Addr} {sl : Array (Option Value)} {oc kV dc pm cd ct : Value} (l : K.lookup f = some ⟨oc, od, .func (PySem.W.fnOf "memory" "memory" (defArgs s_memory) (defBody s_memory) (defScope s_memory) .none kV dc pm an cd ct), sl⟩) (c : PySem.W.codeIn K cd "memory" = true) (k : PySem.W.keepIn K (.ref f) = true) : FnA K "memory" "memory" s_memory ["session", "numbers"] f := by
  have F := fun_mk (st := s_memory) l c k
  exact ⟨_, F, F.binds (ps := ["session", "numbers"]) fun _ _ _ _ _ _ us hl => match us, hl with | [_, _], _ => rfl⟩
theorem fa_disk {f : Addr} {od an : Option Addr} {sl : Array (Option Value)} {oc kV dc pm cd ct : Value} (l : K.lookup f = some ⟨oc, od, .func (PySem.W.fnOf "disk" "disk" (defArgs s_disk) (defBody s_disk) (defScope s_disk) .none kV dc pm an cd ct), sl⟩) (c : PySem.W.codeIn K cd "disk" = true) (k : PySem.W.keepIn K (.ref f) = true) : FnA K "disk" "disk" s_disk ["session", "numbers"] f := by
  have F := fun_mk (st := s_disk) l c k
  exact ⟨_, F, F.binds (ps := ["session", "numbers"]) fun _ _ _ _ _ _ us hl => match us, hl with | [_, _], _ => rfl⟩
theorem fa_receipts {f : Addr} {od an : Option Addr} {sl : Array (Option Value)} {oc kV dc pm cd ct : Value} (l : K.lookup f = some ⟨oc, od, .func (PySem.W.fnOf "receipts" "receipts" (defArgs s_receipts) (defBody s_receipts) (defScope s_receipts) .none kV dc pm an cd ct), sl⟩) (c : PySem.W.codeIn K cd "receipts" = true) (k : PySem.W.keepIn K (.ref f) = true) : FnA K "receipts" "receipts" s_receipts ["session", "numbers"] f := by
  have F := fun_mk (st := s_receipts) l c k
  exact ⟨_, F, F.binds (ps := ["session", "numbers"]) fun _ _ _ _ _ _ us hl => match us, hl with | [_, _], _ => rfl⟩
theorem fa_flight {f : Addr} {od an : Option Addr} {sl : Array (Option Value)} {oc kV dc pm cd ct : Value} (l : K.lookup f = some ⟨oc, od, .func (PySem.W.fnOf "flight" "flight" (defArgs s_flight) (defBody s_flight) (defScope s_flight) .none kV dc pm an cd ct), sl⟩) (c : PySem.W.codeIn K cd "flight" = true) (k : PySem.W.keepIn K (.ref f) = true) : FnA K "flight" "flight" s_flight ["session", "numbers"] f := by
  have F := fun_mk (st := s_flight) l c k
  exact ⟨_, F, F.binds (ps := ["session", "numbers"]) fun _ _ _ _ _ _ us hl => match us, hl with | [_, _], _ => rfl⟩
theorem fa_message {f : Addr} {od an : Option Addr} {sl : Array (Option Value)} {oc kV dc pm cd ct : Value} (l : K.lookup f = some ⟨oc, od, .func (PySem.W.fnOf "message" "message" (defArgs s_message) (defBody s_message) (defScope s_message) .none kV dc pm an cd ct), sl⟩) (c : PySem.W.codeIn K cd "message" = true) (k : PySem.W.keepIn K (.ref f) = true) : FnA K "message" "message" s_message ["session", "numbers"] f := by
  have F := fun_mk (st := s_message) l c k
  exact ⟨_, F, F.binds (ps := ["session", "numbers"]) fun _ _ _ _ _ _ us hl => match us, hl with | [_, _], _ => rfl⟩
theorem fa_acknowledged {f : Addr} {od an : Option Addr} {sl : Array (Option Value)} {oc kV dc pm cd ct : Value} (l : K.lookup f = some ⟨oc, od, .func (PySem.W.fnOf "acknowledged" "acknowledged" (defArgs s_acknowledged) (defBody s_acknowledged) (defScope s_acknowledged) .none kV dc pm an cd ct), sl⟩) (c : PySem.W.codeIn K cd "acknowledged" = true) (k : PySem.W.keepIn K (.ref f) = true) : FnA K "acknowledged" "acknowledged" s_acknowledged ["session", "numbers"] f := by
  have F := fun_mk (st := s_acknowledged) l c k
  exact ⟨_, F, F.binds (ps := ["session", "numbers"]) fun _ _ _ _ _ _ us hl => match us, hl with | [_, _], _ => rfl⟩
theorem fa_lacks {f : Addr} {od an : Option Addr} {sl : Array (Option Value)} {oc kV dc pm cd ct : Value} (l : K.lookup f = some ⟨oc, od, .func (PySem.W.fnOf "lacks" "lacks" (defArgs s_lacks) (defBody s_lacks) (defScope s_lacks) .none kV dc pm an cd ct), sl⟩) (c : PySem.W.codeIn K cd "lacks" = true) (k : PySem.W.keepIn K (.ref f) = true) : FnA K "lacks" "lacks" s_lacks ["session", "numbers"] f := by
  have F := fun_mk (st := s_lacks) l c k
  exact ⟨_, F, F.binds (ps := ["session", "numbers"]) fun _ _ _ _ _ _ us hl => match us, hl with | [_, _], _ => rfl⟩
theorem fa_even {f : Addr} {od an : Option Addr} {sl : Array (Option Value)} {oc kV dc pm cd ct : Value} (l : K.lookup f = some ⟨oc, od, .func (PySem.W.fnOf "even" "even" (defArgs s_even) (defBody s_even) (defScope s_even) .none kV dc pm an cd ct), sl⟩) (c : PySem.W.codeIn K cd "even" = true) (k : PySem.W.keepIn K (.ref f) = true) : FnA K "even" "even" s_even ["session", "numbers"] f := by
  have F := fun_mk (st := s_even) l c k
  exact ⟨_, F, F.binds (ps := ["session", "numbers"]) fun _ _ _ _ _ _ us hl => match us, hl with | [_, _], _ => rfl⟩
theorem fa_state {f : Addr} {od an : Option Addr} {sl : Array (Option Value)} {oc kV dc pm cd ct : Value} (l : K.lookup f = some ⟨oc, od, .func (PySem.W.fnOf "state" "state" (defArgs s_state) (defBody s_state) (defScope s_state) .none kV dc pm an cd ct), sl⟩) (c : PySem.W.codeIn K cd "state" = true) (k : PySem.W.keepIn K (.ref f) = true) : FnA K "state" "state" s_state ["session", "numbers"] f := by
  have F := fun_mk (st := s_state) l c k
  exact ⟨_, F, F.binds (ps := ["session", "numbers"]) fun _ _ _ _ _ _ us hl => match us, hl with | [_, _], _ => rfl⟩
theorem fa_owed {f : Addr} {od an : Option Addr} {sl : Array (Option Value)} {oc kV dc pm cd ct : Value} (l : K.lookup f = some ⟨oc, od, .func (PySem.W.fnOf "owed" "owed" (defArgs s_owed) (defBody s_owed) (defScope s_owed) .none kV dc pm an cd ct), sl⟩) (c : PySem.W.codeIn K cd "owed" = true) (k : PySem.W.keepIn K (.ref f) = true) : FnA K "owed" "owed" s_owed ["session", "numbers"] f := by
  have F := fun_mk (st := s_owed) l c k
  exact ⟨_, F, F.binds (ps := ["session", "numbers"]) fun _ _ _ _ _ _ us hl => match us, hl with | [_, _], _ => rfl⟩
theorem fa_taken {f : Addr} {od an : Option Addr} {sl : Array (Option Value)} {oc kV dc pm cd ct : Value} (l : K.lookup f = some ⟨oc, od, .func (PySem.W.fnOf "taken" "taken" (defArgs s_taken) (defBody s_taken) (defScope s_taken) .none kV dc pm an cd ct), sl⟩) (c : PySem.W.codeIn K cd "taken" = true) (k : PySem.W.keepIn K (.ref f) = true) : FnA K "taken" "taken" s_taken ["session", "numbers"] f := by
  have F := fun_mk (st := s_taken) l c k
  exact ⟨_, F, F.binds (ps := ["session", "numbers"]) fun _ _ _ _ _ _ us hl => match us, hl with | [_, _], _ => rfl⟩
theorem fa_numbers_of_pairs {f : Addr} {od an : Option Addr} {sl : Array (Option Value)} {oc kV dc pm cd ct : Value} (l : K.lookup f = some ⟨oc, od, .func (PySem.W.fnOf "numbers_of_pairs" "numbers_of_pairs" (defArgs s_numbers_of_pairs) (defBody s_numbers_of_pairs) (defScope s_numbers_of_pairs) .none kV dc pm an cd ct), sl⟩) (c : PySem.W.codeIn K cd "numbers_of_pairs" = true) (k : PySem.W.keepIn K (.ref f) = true) : FnA K "numbers_of_pairs" "numbers_of_pairs" s_numbers_of_pairs ["pairs"] f := by
  have F := fun_mk (st := s_numbers_of_pairs) l c k
  exact ⟨_, F, F.binds (ps := ["pairs"]) fun _ _ _ _ _ _ us hl => match us, hl with | [_], _ => rfl⟩
theorem fa_is_even {f : Addr} {od an : Option Addr} {sl : Array (Option Value)} {oc kV dc pm cd ct : Value} (l : K.lookup f = some ⟨oc, od, .func (PySem.W.fnOf "is_even" "is_even" (defArgs s_is_even) (defBody s_is_even) (defScope s_is_even) .none kV dc pm an cd ct), sl⟩) (c : PySem.W.codeIn K cd "is_even" = true) (k : PySem.W.keepIn K (.ref f) = true) : FnA K "is_even" "is_even" s_is_even ["session"] f := by
  have F := fun_mk (st := s_is_even) l c k
  exact ⟨_, F, F.binds (ps := ["session"]) fun _ _ _ _ _ _ us hl => match us, hl with | [_], _ => rfl⟩
theorem fa_tell {f : Addr} {od an : Option Addr} {sl : Array (Option Value)} {oc kV dc pm cd ct : Value} (l : K.lookup f = some ⟨oc, od, .func (PySem.W.fnOf "tell" "tell" (defArgs s_tell) (defBody s_tell) (defScope s_tell) .none kV dc pm an cd ct), sl⟩) (c : PySem.W.codeIn K cd "tell" = true) (k : PySem.W.keepIn K (.ref f) = true) : FnA K "tell" "tell" s_tell ["session", "number", "numbers"] f := by
  have F := fun_mk (st := s_tell) l c k
  exact ⟨_, F, F.binds (ps := ["session", "number", "numbers"]) fun _ _ _ _ _ _ us hl => match us, hl with | [_, _, _], _ => rfl⟩
theorem fa_take {f : Addr} {od an : Option Addr} {sl : Array (Option Value)} {oc kV dc pm cd ct : Value} (l : K.lookup f = some ⟨oc, od, .func (PySem.W.fnOf "take" "take" (defArgs s_take) (defBody s_take) (defScope s_take) .none kV dc pm an cd ct), sl⟩) (c : PySem.W.codeIn K cd "take" = true) (k : PySem.W.keepIn K (.ref f) = true) : FnA K "take" "take" s_take ["session", "numbers"] f := by
  have F := fun_mk (st := s_take) l c k
  exact ⟨_, F, F.binds (ps := ["session", "numbers"]) fun _ _ _ _ _ _ us hl => match us, hl with | [_, _], _ => rfl⟩
theorem fa_keep {f : Addr} {od an : Option Addr} {sl : Array (Option Value)} {oc kV dc pm cd ct : Value} (l : K.lookup f = some ⟨oc, od, .func (PySem.W.fnOf "keep" "keep" (defArgs s_keep) (defBody s_keep) (defScope s_keep) .none kV dc pm an cd ct), sl⟩) (c : PySem.W.codeIn K cd "keep" = true) (k : PySem.W.keepIn K (.ref f) = true) : FnA K "keep" "keep" s_keep ["session", "numbers"] f := by
  have F := fun_mk (st := s_keep) l c k
  exact ⟨_, F, F.binds (ps := ["session", "numbers"]) fun _ _ _ _ _ _ us hl => match us, hl with | [_, _], _ => rfl⟩
theorem fa_torn {f : Addr} {od an : Option Addr} {sl : Array (Option Value)} {oc kV dc pm cd ct : Value} (l : K.lookup f = some ⟨oc, od, .func (PySem.W.fnOf "torn" "torn" (defArgs s_torn) (defBody s_torn) (defScope s_torn) .none kV dc pm an cd ct), sl⟩) (c : PySem.W.codeIn K cd "torn" = true) (k : PySem.W.keepIn K (.ref f) = true) : FnA K "torn" "torn" s_torn ["session", "numbers"] f := by
  have F := fun_mk (st := s_torn) l c k
  exact ⟨_, F, F.binds (ps := ["session", "numbers"]) fun _ _ _ _ _ _ us hl => match us, hl with | [_, _], _ => rfl⟩
theorem fa_cut {f : Addr} {od an : Option Addr} {sl : Array (Option Value)} {oc kV dc pm cd ct : Value} (l : K.lookup f = some ⟨oc, od, .func (PySem.W.fnOf "cut" "cut" (defArgs s_cut) (defBody s_cut) (defScope s_cut) .none kV dc pm an cd ct), sl⟩) (c : PySem.W.codeIn K cd "cut" = true) (k : PySem.W.keepIn K (.ref f) = true) : FnA K "cut" "cut" s_cut ["session", "numbers"] f := by
  have F := fun_mk (st := s_cut) l c k
  exact ⟨_, F, F.binds (ps := ["session", "numbers"]) fun _ _ _ _ _ _ us hl => match us, hl with | [_, _], _ => rfl⟩
theorem fa_up {f : Addr} {od an : Option Addr} {sl : Array (Option Value)} {oc kV dc pm cd ct : Value} (l : K.lookup f = some ⟨oc, od, .func (PySem.W.fnOf "up" "up" (defArgs s_up) (defBody s_up) (defScope s_up) .none kV dc pm an cd ct), sl⟩) (c : PySem.W.codeIn K cd "up" = true) (k : PySem.W.keepIn K (.ref f) = true) : FnA K "up" "up" s_up ["session", "numbers"] f := by
  have F := fun_mk (st := s_up) l c k
  exact ⟨_, F, F.binds (ps := ["session", "numbers"]) fun _ _ _ _ _ _ us hl => match us, hl with | [_, _], _ => rfl⟩
theorem fa_send {f : Addr} {od an : Option Addr} {sl : Array (Option Value)} {oc kV dc pm cd ct : Value} (l : K.lookup f = some ⟨oc, od, .func (PySem.W.fnOf "send" "send" (defArgs s_send) (defBody s_send) (defScope s_send) .none kV dc pm an cd ct), sl⟩) (c : PySem.W.codeIn K cd "send" = true) (k : PySem.W.keepIn K (.ref f) = true) : FnA K "send" "send" s_send ["session", "numbers"] f := by
  have F := fun_mk (st := s_send) l c k
  exact ⟨_, F, F.binds (ps := ["session", "numbers"]) fun _ _ _ _ _ _ us hl => match us, hl with | [_, _], _ => rfl⟩
theorem fa_ask {f : Addr} {od an : Option Addr} {sl : Array (Option Value)} {oc kV dc pm cd ct : Value} (l : K.lookup f = some ⟨oc, od, .func (PySem.W.fnOf "ask" "ask" (defArgs s_ask) (defBody s_ask) (defScope s_ask) .none kV dc pm an cd ct), sl⟩) (c : PySem.W.codeIn K cd "ask" = true) (k : PySem.W.keepIn K (.ref f) = true) : FnA K "ask" "ask" s_ask ["session", "numbers"] f := by
  have F := fun_mk (st := s_ask) l c k
  exact ⟨_, F, F.binds (ps := ["session", "numbers"]) fun _ _ _ _ _ _ us hl => match us, hl with | [_, _], _ => rfl⟩
theorem fa_deliver {f : Addr} {od an : Option Addr} {sl : Array (Option Value)} {oc kV dc pm cd ct : Value} (l : K.lookup f = some ⟨oc, od, .func (PySem.W.fnOf "deliver" "deliver" (defArgs s_deliver) (defBody s_deliver) (defScope s_deliver) .none kV dc pm an cd ct), sl⟩) (c : PySem.W.codeIn K cd "deliver" = true) (k : PySem.W.keepIn K (.ref f) = true) : FnA K "deliver" "deliver" s_deliver ["session", "numbers"] f := by
  have F := fun_mk (st := s_deliver) l c k
  exact ⟨_, F, F.binds (ps := ["session", "numbers"]) fun _ _ _ _ _ _ us hl => match us, hl with | [_, _], _ => rfl⟩
theorem fa_lose {f : Addr} {od an : Option Addr} {sl : Array (Option Value)} {oc kV dc pm cd ct : Value} (l : K.lookup f = some ⟨oc, od, .func (PySem.W.fnOf "lose" "lose" (defArgs s_lose) (defBody s_lose) (defScope s_lose) .none kV dc pm an cd ct), sl⟩) (c : PySem.W.codeIn K cd "lose" = true) (k : PySem.W.keepIn K (.ref f) = true) : FnA K "lose" "lose" s_lose ["session", "numbers"] f := by
  have F := fun_mk (st := s_lose) l c k
  exact ⟨_, F, F.binds (ps := ["session", "numbers"]) fun _ _ _ _ _ _ us hl => match us, hl with | [_, _], _ => rfl⟩
theorem fa_double {f : Addr} {od an : Option Addr} {sl : Array (Option Value)} {oc kV dc pm cd ct : Value} (l : K.lookup f = some ⟨oc, od, .func (PySem.W.fnOf "double" "double" (defArgs s_double) (defBody s_double) (defScope s_double) .none kV dc pm an cd ct), sl⟩) (c : PySem.W.codeIn K cd "double" = true) (k : PySem.W.keepIn K (.ref f) = true) : FnA K "double" "double" s_double ["session", "numbers"] f := by
  have F := fun_mk (st := s_double) l c k
  exact ⟨_, F, F.binds (ps := ["session", "numbers"]) fun _ _ _ _ _ _ us hl => match us, hl with | [_, _], _ => rfl⟩
theorem fa_settle {f : Addr} {od an : Option Addr} {sl : Array (Option Value)} {oc kV dc pm cd ct : Value} (l : K.lookup f = some ⟨oc, od, .func (PySem.W.fnOf "settle" "settle" (defArgs s_settle) (defBody s_settle) (defScope s_settle) .none kV dc pm an cd ct), sl⟩) (c : PySem.W.codeIn K cd "settle" = true) (k : PySem.W.keepIn K (.ref f) = true) : FnA K "settle" "settle" s_settle ["session", "numbers"] f := by
  have F := fun_mk (st := s_settle) l c k
  exact ⟨_, F, F.binds (ps := ["session", "numbers"]) fun _ _ _ _ _ _ us hl => match us, hl with | [_, _], _ => rfl⟩
theorem fa_perform {f : Addr} {od an : Option Addr} {sl : Array (Option Value)} {oc kV dc pm cd ct : Value} (l : K.lookup f = some ⟨oc, od, .func (PySem.W.fnOf "perform" "perform" (defArgs s_perform) (defBody s_perform) (defScope s_perform) .none kV dc pm an cd ct), sl⟩) (c : PySem.W.codeIn K cd "perform" = true) (k : PySem.W.keepIn K (.ref f) = true) : FnA K "perform" "perform" s_perform ["session", "number", "numbers"] f := by
  have F := fun_mk (st := s_perform) l c k
  exact ⟨_, F, F.binds (ps := ["session", "number", "numbers"]) fun _ _ _ _ _ _ us hl => match us, hl with | [_, _, _], _ => rfl⟩
theorem fa_Slot_init {f : Addr} {od an : Option Addr} {sl : Array (Option Value)} {oc kV dc pm cd ct : Value} (l : K.lookup f = some ⟨oc, od, .func (PySem.W.fnOf "__init__" "Slot.__init__" (defArgs s_Slot_init) (defBody s_Slot_init) (defScope s_Slot_init) .none kV dc pm an cd ct), sl⟩) (c : PySem.W.codeIn K cd "Slot.__init__" = true) (k : PySem.W.keepIn K (.ref f) = true) : FnA K "__init__" "Slot.__init__" s_Slot_init ["self", "sequence", "book", "receipts"] f := by
  have F := fun_mk (st := s_Slot_init) l c k
  exact ⟨_, F, F.binds (ps := ["self", "sequence", "book", "receipts"]) fun _ _ _ _ _ _ us hl => match us, hl with | [_, _, _, _], _ => rfl⟩
theorem fa_Node_init {f : Addr} {od an : Option Addr} {sl : Array (Option Value)} {oc kV dc pm cd ct : Value} (l : K.lookup f = some ⟨oc, od, .func (PySem.W.fnOf "__init__" "Node.__init__" (defArgs s_Node_init) (defBody s_Node_init) (defScope s_Node_init) .none kV dc pm an cd ct), sl⟩) (c : PySem.W.codeIn K cd "Node.__init__" = true) (k : PySem.W.keepIn K (.ref f) = true) : FnA K "__init__" "Node.__init__" s_Node_init ["self"] f := by
  have F := fun_mk (st := s_Node_init) l c k
  exact ⟨_, F, F.binds (ps := ["self"]) fun _ _ _ _ _ _ us hl => match us, hl with | [_], _ => rfl⟩
theorem fa_Node_other_place {f : Addr} {od an : Option Addr} {sl : Array (Option Value)} {oc kV dc pm cd ct : Value} (l : K.lookup f = some ⟨oc, od, .func (PySem.W.fnOf "other_place" "Node.other_place" (defArgs s_Node_other_place) (defBody s_Node_other_place) (defScope s_Node_other_place) .none kV dc pm an cd ct), sl⟩) (c : PySem.W.codeIn K cd "Node.other_place" = true) (k : PySem.W.keepIn K (.ref f) = true) : FnA K "other_place" "Node.other_place" s_Node_other_place ["self"] f := by
  have F := fun_mk (st := s_Node_other_place) l c k
  exact ⟨_, F, F.binds (ps := ["self"]) fun _ _ _ _ _ _ us hl => match us, hl with | [_], _ => rfl⟩
theorem fa_Node_slot_read {f : Addr} {od an : Option Addr} {sl : Array (Option Value)} {oc kV dc pm cd ct : Value} (l : K.lookup f = some ⟨oc, od, .func (PySem.W.fnOf "slot_read" "Node.slot_read" (defArgs s_Node_slot_read) (defBody s_Node_slot_read) (defScope s_Node_slot_read) .none kV dc pm an cd ct), sl⟩) (c : PySem.W.codeIn K cd "Node.slot_read" = true) (k : PySem.W.keepIn K (.ref f) = true) : FnA K "slot_read" "Node.slot_read" s_Node_slot_read ["self"] f := by
  have F := fun_mk (st := s_Node_slot_read) l c k
  exact ⟨_, F, F.binds (ps := ["self"]) fun _ _ _ _ _ _ us hl => match us, hl with | [_], _ => rfl⟩
theorem fa_Node_write_memory {f : Addr} {od an : Option Addr} {sl : Array (Option Value)} {oc kV dc pm cd ct : Value} (l : K.lookup f = some ⟨oc, od, .func (PySem.W.fnOf "write_memory" "Node.write_memory" (defArgs s_Node_write_memory) (defBody s_Node_write_memory) (defScope s_Node_write_memory) .none kV dc pm an cd ct), sl⟩) (c : PySem.W.codeIn K cd "Node.write_memory" = true) (k : PySem.W.keepIn K (.ref f) = true) : FnA K "write_memory" "Node.write_memory" s_Node_write_memory ["self"] f := by
  have F := fun_mk (st := s_Node_write_memory) l c k
  exact ⟨_, F, F.binds (ps := ["self"]) fun _ _ _ _ _ _ us hl => match us, hl with | [_], _ => rfl⟩
theorem fa_Node_spoil_other {f : Addr} {od an : Option Addr} {sl : Array (Option Value)} {oc kV dc pm cd ct : Value} (l : K.lookup f = some ⟨oc, od, .func (PySem.W.fnOf "spoil_other" "Node.spoil_other" (defArgs s_Node_spoil_other) (defBody s_Node_spoil_other) (defScope s_Node_spoil_other) .none kV dc pm an cd ct), sl⟩) (c : PySem.W.codeIn K cd "Node.spoil_other" = true) (k : PySem.W.keepIn K (.ref f) = true) : FnA K "spoil_other" "Node.spoil_other" s_Node_spoil_other ["self"] f := by
  have F := fun_mk (st := s_Node_spoil_other) l c k
  exact ⟨_, F, F.binds (ps := ["self"]) fun _ _ _ _ _ _ us hl => match us, hl with | [_], _ => rfl⟩
theorem fa_Node_lose_power {f : Addr} {od an : Option Addr} {sl : Array (Option Value)} {oc kV dc pm cd ct : Value} (l : K.lookup f = some ⟨oc, od, .func (PySem.W.fnOf "lose_power" "Node.lose_power" (defArgs s_Node_lose_power) (defBody s_Node_lose_power) (defScope s_Node_lose_power) .none kV dc pm an cd ct), sl⟩) (c : PySem.W.codeIn K cd "Node.lose_power" = true) (k : PySem.W.keepIn K (.ref f) = true) : FnA K "lose_power" "Node.lose_power" s_Node_lose_power ["self"] f := by
  have F := fun_mk (st := s_Node_lose_power) l c k
  exact ⟨_, F, F.binds (ps := ["self"]) fun _ _ _ _ _ _ us hl => match us, hl with | [_], _ => rfl⟩
theorem fa_Node_gain_power {f : Addr} {od an : Option Addr} {sl : Array (Option Value)} {oc kV dc pm cd ct : Value} (l : K.lookup f = some ⟨oc, od, .func (PySem.W.fnOf "gain_power" "Node.gain_power" (defArgs s_Node_gain_power) (defBody s_Node_gain_power) (defScope s_Node_gain_power) .none kV dc pm an cd ct), sl⟩) (c : PySem.W.codeIn K cd "Node.gain_power" = true) (k : PySem.W.keepIn K (.ref f) = true) : FnA K "gain_power" "Node.gain_power" s_Node_gain_power ["self"] f := by
  have F := fun_mk (st := s_Node_gain_power) l c k
  exact ⟨_, F, F.binds (ps := ["self"]) fun _ _ _ _ _ _ us hl => match us, hl with | [_], _ => rfl⟩
theorem fa_Node_holds {f : Addr} {od an : Option Addr} {sl : Array (Option Value)} {oc kV dc pm cd ct : Value} (l : K.lookup f = some ⟨oc, od, .func (PySem.W.fnOf "holds" "Node.holds" (defArgs s_Node_holds) (defBody s_Node_holds) (defScope s_Node_holds) .none kV dc pm an cd ct), sl⟩) (c : PySem.W.codeIn K cd "Node.holds" = true) (k : PySem.W.keepIn K (.ref f) = true) : FnA K "holds" "Node.holds" s_Node_holds ["self", "item"] f := by
  have F := fun_mk (st := s_Node_holds) l c k
  exact ⟨_, F, F.binds (ps := ["self", "item"]) fun _ _ _ _ _ _ us hl => match us, hl with | [_, _], _ => rfl⟩
theorem fa_Node_take_in {f : Addr} {od an : Option Addr} {sl : Array (Option Value)} {oc kV dc pm cd ct : Value} (l : K.lookup f = some ⟨oc, od, .func (PySem.W.fnOf "take_in" "Node.take_in" (defArgs s_Node_take_in) (defBody s_Node_take_in) (defScope s_Node_take_in) .none kV dc pm an cd ct), sl⟩) (c : PySem.W.codeIn K cd "Node.take_in" = true) (k : PySem.W.keepIn K (.ref f) = true) : FnA K "take_in" "Node.take_in" s_Node_take_in ["self", "coming"] f := by
  have F := fun_mk (st := s_Node_take_in) l c k
  exact ⟨_, F, F.binds (ps := ["self", "coming"]) fun _ _ _ _ _ _ us hl => match us, hl with | [_, _], _ => rfl⟩
theorem fa_Node_add_receipt {f : Addr} {od an : Option Addr} {sl : Array (Option Value)} {oc kV dc pm cd ct : Value} (l : K.lookup f = some ⟨oc, od, .func (PySem.W.fnOf "add_receipt" "Node.add_receipt" (defArgs s_Node_add_receipt) (defBody s_Node_add_receipt) (defScope s_Node_add_receipt) .none kV dc pm an cd ct), sl⟩) (c : PySem.W.codeIn K cd "Node.add_receipt" = true) (k : PySem.W.keepIn K (.ref f) = true) : FnA K "add_receipt" "Node.add_receipt" s_Node_add_receipt ["self", "centre", "item"] f := by
  have F := fun_mk (st := s_Node_add_receipt) l c k
  exact ⟨_, F, F.binds (ps := ["self", "centre", "item"]) fun _ _ _ _ _ _ us hl => match us, hl with | [_, _, _], _ => rfl⟩
theorem fa_Node_items_without_receipt {f : Addr} {od an : Option Addr} {sl : Array (Option Value)} {oc kV dc pm cd ct : Value} (l : K.lookup f = some ⟨oc, od, .func (PySem.W.fnOf "items_without_receipt" "Node.items_without_receipt" (defArgs s_Node_items_without_receipt) (defBody s_Node_items_without_receipt) (defScope s_Node_items_without_receipt) .none kV dc pm an cd ct), sl⟩) (c : PySem.W.codeIn K cd "Node.items_without_receipt" = true) (k : PySem.W.keepIn K (.ref f) = true) : FnA K "items_without_receipt" "Node.items_without_receipt" s_Node_items_without_receipt ["self", "centre"] f := by
  have F := fun_mk (st := s_Node_items_without_receipt) l c k
  exact ⟨_, F, F.binds (ps := ["self", "centre"]) fun _ _ _ _ _ _ us hl => match us, hl with | [_, _], _ => rfl⟩
theorem fa_Node_owe {f : Addr} {od an : Option Addr} {sl : Array (Option Value)} {oc kV dc pm cd ct : Value} (l : K.lookup f = some ⟨oc, od, .func (PySem.W.fnOf "owe" "Node.owe" (defArgs s_Node_owe) (defBody s_Node_owe) (defScope s_Node_owe) .none kV dc pm an cd ct), sl⟩) (c : PySem.W.codeIn K cd "Node.owe" = true) (k : PySem.W.keepIn K (.ref f) = true) : FnA K "owe" "Node.owe" s_Node_owe ["self", "office", "item"] f := by
  have F := fun_mk (st := s_Node_owe) l c k
  exact ⟨_, F, F.binds (ps := ["self", "office", "item"]) fun _ _ _ _ _ _ us hl => match us, hl with | [_, _, _], _ => rfl⟩
theorem fa_Node_offices_owed {f : Addr} {od an : Option Addr} {sl : Array (Option Value)} {oc kV dc pm cd ct : Value} (l : K.lookup f = some ⟨oc, od, .func (PySem.W.fnOf "offices_owed" "Node.offices_owed" (defArgs s_Node_offices_owed) (defBody s_Node_offices_owed) (defScope s_Node_offices_owed) .none kV dc pm an cd ct), sl⟩) (c : PySem.W.codeIn K cd "Node.offices_owed" = true) (k : PySem.W.keepIn K (.ref f) = true) : FnA K "offices_owed" "Node.offices_owed" s_Node_offices_owed ["self"] f := by
  have F := fun_mk (st := s_Node_offices_owed) l c k
  exact ⟨_, F, F.binds (ps := ["self"]) fun _ _ _ _ _ _ us hl => match us, hl with | [_], _ => rfl⟩
theorem fa_Node_items_owed {f : Addr} {od an : Option Addr} {sl : Array (Option Value)} {oc kV dc pm cd ct : Value} (l : K.lookup f = some ⟨oc, od, .func (PySem.W.fnOf "items_owed" "Node.items_owed" (defArgs s_Node_items_owed) (defBody s_Node_items_owed) (defScope s_Node_items_owed) .none kV dc pm an cd ct), sl⟩) (c : PySem.W.codeIn K cd "Node.items_owed" = true) (k : PySem.W.keepIn K (.ref f) = true) : FnA K "items_owed" "Node.items_owed" s_Node_items_owed ["self", "office"] f := by
  have F := fun_mk (st := s_Node_items_owed) l c k
  exact ⟨_, F, F.binds (ps := ["self", "office"]) fun _ _ _ _ _ _ us hl => match us, hl with | [_, _], _ => rfl⟩
theorem fa_Session_init {f : Addr} {od an : Option Addr} {sl : Array (Option Value)} {oc kV dc pm cd ct : Value} (l : K.lookup f = some ⟨oc, od, .func (PySem.W.fnOf "__init__" "Session.__init__" (defArgs s_Session_init) (defBody s_Session_init) (defScope s_Session_init) .none kV dc pm an cd ct), sl⟩) (c : PySem.W.codeIn K cd "Session.__init__" = true) (k : PySem.W.keepIn K (.ref f) = true) : FnA K "__init__" "Session.__init__" s_Session_init ["self", "offices"] f := by
  have F := fun_mk (st := s_Session_init) l c k
  exact ⟨_, F, F.binds (ps := ["self", "offices"]) fun _ _ _ _ _ _ us hl => match us, hl with | [_, _], _ => rfl⟩
theorem fa_Session_check_node {f : Addr} {od an : Option Addr} {sl : Array (Option Value)} {oc kV dc pm cd ct : Value} (l : K.lookup f = some ⟨oc, od, .func (PySem.W.fnOf "check_node" "Session.check_node" (defArgs s_Session_check_node) (defBody s_Session_check_node) (defScope s_Session_check_node) .none kV dc pm an cd ct), sl⟩) (c : PySem.W.codeIn K cd "Session.check_node" = true) (k : PySem.W.keepIn K (.ref f) = true) : FnA K "check_node" "Session.check_node" s_Session_check_node ["self", "number"] f := by
  have F := fun_mk (st := s_Session_check_node) l c k
  exact ⟨_, F, F.binds (ps := ["self", "number"]) fun _ _ _ _ _ _ us hl => match us, hl with | [_, _], _ => rfl⟩
theorem fa_Session_check_office {f : Addr} {od an : Option Addr} {sl : Array (Option Value)} {oc kV dc pm cd ct : Value} (l : K.lookup f = some ⟨oc, od, .func (PySem.W.fnOf "check_office" "Session.check_office" (defArgs s_Session_check_office) (defBody s_Session_check_office) (defScope s_Session_check_office) .none kV dc pm an cd ct), sl⟩) (c : PySem.W.codeIn K cd "Session.check_office" = true) (k : PySem.W.keepIn K (.ref f) = true) : FnA K "check_office" "Session.check_office" s_Session_check_office ["self", "number"] f := by
  have F := fun_mk (st := s_Session_check_office) l c k
  exact ⟨_, F, F.binds (ps := ["self", "number"]) fun _ _ _ _ _ _ us hl => match us, hl with | [_, _], _ => rfl⟩
theorem fa_Session_check_centre {f : Addr} {od an : Option Addr} {sl : Array (Option Value)} {oc kV dc pm cd ct : Value} (l : K.lookup f = some ⟨oc, od, .func (PySem.W.fnOf "check_centre" "Session.check_centre" (defArgs s_Session_check_centre) (defBody s_Session_check_centre) (defScope s_Session_check_centre) .none kV dc pm an cd ct), sl⟩) (c : PySem.W.codeIn K cd "Session.check_centre" = true) (k : PySem.W.keepIn K (.ref f) = true) : FnA K "check_centre" "Session.check_centre" s_Session_check_centre ["self", "number"] f := by
  have F := fun_mk (st := s_Session_check_centre) l c k
  exact ⟨_, F, F.binds (ps := ["self", "number"]) fun _ _ _ _ _ _ us hl => match us, hl with | [_, _], _ => rfl⟩
theorem fa_Session_centres {f : Addr} {od an : Option Addr} {sl : Array (Option Value)} {oc kV dc pm cd ct : Value} (l : K.lookup f = some ⟨oc, od, .func (PySem.W.fnOf "centres" "Session.centres" (defArgs s_Session_centres) (defBody s_Session_centres) (defScope s_Session_centres) .none kV dc pm an cd ct), sl⟩) (c : PySem.W.codeIn K cd "Session.centres" = true) (k : PySem.W.keepIn K (.ref f) = true) : FnA K "centres" "Session.centres" s_Session_centres ["self"] f := by
  have F := fun_mk (st := s_Session_centres) l c k
  exact ⟨_, F, F.binds (ps := ["self"]) fun _ _ _ _ _ _ us hl => match us, hl with | [_], _ => rfl⟩
theorem fa_Session_node_with_power {f : Addr} {od an : Option Addr} {sl : Array (Option Value)} {oc kV dc pm cd ct : Value} (l : K.lookup f = some ⟨oc, od, .func (PySem.W.fnOf "node_with_power" "Session.node_with_power" (defArgs s_Session_node_with_power) (defBody s_Session_node_with_power) (defScope s_Session_node_with_power) .none kV dc pm an cd ct), sl⟩) (c : PySem.W.codeIn K cd "Session.node_with_power" = true) (k : PySem.W.keepIn K (.ref f) = true) : FnA K "node_with_power" "Session.node_with_power" s_Session_node_with_power ["self", "number"] f := by
  have F := fun_mk (st := s_Session_node_with_power) l c k
  exact ⟨_, F, F.binds (ps := ["self", "number"]) fun _ _ _ _ _ _ us hl => match us, hl with | [_, _], _ => rfl⟩
theorem fa_Session_other_centre {f : Addr} {od an : Option Addr} {sl : Array (Option Value)} {oc kV dc pm cd ct : Value} (l : K.lookup f = some ⟨oc, od, .func (PySem.W.fnOf "other_centre" "Session.other_centre" (defArgs s_Session_other_centre) (defBody s_Session_other_centre) (defScope s_Session_other_centre) .none kV dc pm an cd ct), sl⟩) (c : PySem.W.codeIn K cd "Session.other_centre" = true) (k : PySem.W.keepIn K (.ref f) = true) : FnA K "other_centre" "Session.other_centre" s_Session_other_centre ["self", "centre"] f := by
  have F := fun_mk (st := s_Session_other_centre) l c k
  exact ⟨_, F, F.binds (ps := ["self", "centre"]) fun _ _ _ _ _ _ us hl => match us, hl with | [_, _], _ => rfl⟩
theorem fa_Session_message_under_way {f : Addr} {od an : Option Addr} {sl : Array (Option Value)} {oc kV dc pm cd ct : Value} (l : K.lookup f = some ⟨oc, od, .func (PySem.W.fnOf "message_under_way" "Session.message_under_way" (defArgs s_Session_message_under_way) (defBody s_Session_message_under_way) (defScope s_Session_message_under_way) .none kV dc pm an cd ct), sl⟩) (c : PySem.W.codeIn K cd "Session.message_under_way" = true) (k : PySem.W.keepIn K (.ref f) = true) : FnA K "message_under_way" "Session.message_under_way" s_Session_message_under_way ["self", "number"] f := by
  have F := fun_mk (st := s_Session_message_under_way) l c k
  exact ⟨_, F, F.binds (ps := ["self", "number"]) fun _ _ _ _ _ _ us hl => match us, hl with | [_, _], _ => rfl⟩
theorem fa_Session_check_room {f : Addr} {od an : Option Addr} {sl : Array (Option Value)} {oc kV dc pm cd ct : Value} (l : K.lookup f = some ⟨oc, od, .func (PySem.W.fnOf "check_room" "Session.check_room" (defArgs s_Session_check_room) (defBody s_Session_check_room) (defScope s_Session_check_room) .none kV dc pm an cd ct), sl⟩) (c : PySem.W.codeIn K cd "Session.check_room" = true) (k : PySem.W.keepIn K (.ref f) = true) : FnA K "check_room" "Session.check_room" s_Session_check_room ["self", "more"] f := by
  have F := fun_mk (st := s_Session_check_room) l c k
  exact ⟨_, F, F.binds (ps := ["self", "more"]) fun _ _ _ _ _ _ us hl => match us, hl with | [_, _], _ => rfl⟩
theorem fa_Session_send_off {f : Addr} {od an : Option Addr} {sl : Array (Option Value)} {oc kV dc pm cd ct : Value} (l : K.lookup f = some ⟨oc, od, .func (PySem.W.fnOf "send_off" "Session.send_off" (defArgs s_Session_send_off) (defBody s_Session_send_off) (defScope s_Session_send_off) .none kV dc pm an cd ct), sl⟩) (c : PySem.W.codeIn K cd "Session.send_off" = true) (k : PySem.W.keepIn K (.ref f) = true) : FnA K "send_off" "Session.send_off" s_Session_send_off ["self", "message"] f := by
  have F := fun_mk (st := s_Session_send_off) l c k
  exact ⟨_, F, F.binds (ps := ["self", "message"]) fun _ _ _ _ _ _ us hl => match us, hl with | [_, _], _ => rfl⟩
theorem fa_Line_init {f : Addr} {od an : Option Addr} {sl : Array (Option Value)} {oc kV dc pm cd ct : Value} (l : K.lookup f = some ⟨oc, od, .func (PySem.W.fnOf "__init__" "Line.__init__" (defArgs s_Line_init) (defBody s_Line_init) (defScope s_Line_init) .none kV dc pm an cd ct), sl⟩) (c : PySem.W.codeIn K cd "Line.__init__" = true) (k : PySem.W.keepIn K (.ref f) = true) : FnA K "__init__" "Line.__init__" s_Line_init ["self"] f := by
  have F := fun_mk (st := s_Line_init) l c k
  exact ⟨_, F, F.binds (ps := ["self"]) fun _ _ _ _ _ _ us hl => match us, hl with | [_], _ => rfl⟩
theorem fa_Line_answer_call {f : Addr} {od an : Option Addr} {sl : Array (Option Value)} {oc kV dc pm cd ct : Value} (l : K.lookup f = some ⟨oc, od, .func (PySem.W.fnOf "answer_call" "Line.answer_call" (defArgs s_Line_answer_call) (defBody s_Line_answer_call) (defScope s_Line_answer_call) .none kV dc pm an cd ct), sl⟩) (c : PySem.W.codeIn K cd "Line.answer_call" = true) (k : PySem.W.keepIn K (.ref f) = true) : FnA K "answer_call" "Line.answer_call" s_Line_answer_call ["self", "number", "numbers"] f := by
  have F := fun_mk (st := s_Line_answer_call) l c k
  exact ⟨_, F, F.binds (ps := ["self", "number", "numbers"]) fun _ _ _ _ _ _ us hl => match us, hl with | [_, _, _], _ => rfl⟩
theorem fa_Line_follow {f : Addr} {od an : Option Addr} {sl : Array (Option Value)} {oc kV dc pm cd ct : Value} (l : K.lookup f = some ⟨oc, od, .func (PySem.W.fnOf "follow" "Line.follow" (defArgs s_Line_follow) (defBody s_Line_follow) (defScope s_Line_follow) .none kV dc pm an cd ct), sl⟩) (c : PySem.W.codeIn K cd "Line.follow" = true) (k : PySem.W.keepIn K (.ref f) = true) : FnA K "follow" "Line.follow" s_Line_follow ["self", "number", "numbers"] f := by
  have F := fun_mk (st := s_Line_follow) l c k
  exact ⟨_, F, F.binds (ps := ["self", "number", "numbers"]) fun _ _ _ _ _ _ us hl => match us, hl with | [_, _, _], _ => rfl⟩
theorem fa_answers {f : Addr} {od an : Option Addr} {sl : Array (Option Value)} {oc kV dc pm cd ct : Value} (l : K.lookup f = some ⟨oc, od, .func (PySem.W.fnOf "answers" "answers" (defArgs s_answers) (defBody s_answers) (defScope s_answers) .none kV dc pm an cd ct), sl⟩) (c : PySem.W.codeIn K cd "answers" = true) (k : PySem.W.keepIn K (.ref f) = true) : FnA K "answers" "answers" s_answers ["calls"] f := by
  have F := fun_mk (st := s_answers) l c k
  exact ⟨_, F, F.binds (ps := ["calls"]) fun _ _ _ _ _ _ us hl => match us, hl with | [_], _ => rfl⟩
/-- answers itself, found -/
structure FnT (K : PySem.W.Frag) (f : Addr) : Prop where
  ex : ∃ fd, Fun K "answers" "answers" s_answers f fd ∧ Binds K fd ["calls"] [] ∧ ∀ (s : Shared) (us : List Value), us.length = (["calls"] : List Str).length → BindsTo s fd ⟨us, []⟩ ((["calls"] : List Str).zip us)
theorem ft_answers {f : Addr} {od an : Option Addr} {sl : Array (Option Value)} {oc kV dc pm cd ct : Value} (l : K.lookup f = some ⟨oc, od, .func (PySem.W.fnOf "answers" "answers" (defArgs s_answers) (defBody s_answers) (defScope s_answers) .none kV dc pm an cd ct), sl⟩) (c : PySem.W.codeIn K cd "answers" = true) (k : PySem.W.keepIn K (.ref f) = true) : FnT K f := by
  have F := fun_mk (st := s_answers) l c k
  exact ⟨_, F, F.binds (ps := ["calls"]) fun _ _ _ _ _ _ us hl => match us, hl with | [_], _ => rfl, fun s us hu => match us, hu with | [_], _ => .of_eq rfl⟩
/-- a class of the text, found -/
structure ClA (K : PySem.W.Frag) (C : Addr) (at_ : List Str) : Prop where
  pg : PySem.W.plainGet K C Str.empty = true
  hd : PySem.W.hasDictIn K C = true
  po : PySem.W.plainOver K C = true
  sa : PySem.W.findIn K (.ref C) "__setattr__" = some (some (.builtin "object.__setattr__"))
  mi : PySem.W.makesIn K C = true
  kc : PySem.W.keepIn K (.ref C) = true
structure ExA (K : PySem.W.Frag) (C : Addr) : Prop where
  x : PySem.W.excIn K C [.type "Exception", .type "BaseException", .type "object"] "Exception.__new__" = true
  k : PySem.W.keepIn K (.ref C) = true
  b : PySem.W.subIn K (.ref C) (.type "BaseException") = some true
  t : PySem.W.typeIn K (.ref C) = some (.type "type")
  i : PySem.W.isClsIn K C = true
theorem txt_mk {c_Message c_Slot c_Node c_Session c_Line c_NotInRange c_NoPower c_NothingThere c_TooManyUnderWay c_NotBegun f_check_range f_make_item f_is_greater f_bring_into f_items_of f_news_for f_numbers_of f_Message_init f_keep_memory f_send_forms f_send_summary f_let_come f_note_receipts f_send_back f_settle_all f_bring_forms f_keep_and_acknowledge f_ask_and_fill f_memory f_disk f_receipts f_flight f_message f_acknowledged f_lacks f_even f_state f_owed f_taken f_numbers_of_pairs f_is_even f_tell f_take f_keep f_torn f_cut f_up f_send f_ask f_deliver f_lose f_double f_settle f_perform f_Slot_init f_Node_init f_Node_other_place f_Node_slot_read f_Node_write_memory f_Node_spoil_other f_Node_lose_power f_Node_gain_power f_Node_holds f_Node_take_in f_Node_add_receipt f_Node_items_without_receipt f_Node_owe f_Node_offices_owed f_Node_items_owed f_Session_init f_Session_check_node f_Session_check_office f_Session_check_centre f_Session_centres f_Session_node_with_power f_Session_other_centre f_Session_message_under_way f_Session_check_room f_Session_send_off f_Line_init f_Line_answer_call f_Line_follow f_answers tb_TELLING tb_CALLS tb_HOW_MANY_NUMBERS : Addr} {t_FORMS t_RECEIPT t_SUMMARY t_FILLING t_MOST_UNDER_WAY t_BEGIN : Tok} {es_TELLING : Array DictEntry} {z_TELLING : Nat} {es_CALLS : Array DictEntry} {z_CALLS : Nat} {es_HOW_MANY_NUMBERS : Array DictEntry} {z_HOW_MANY_NUMBERS : Nat}
    (X : K.In h) (G : h.Ns mainGlobals mg)
    (n_Line : PySem.W.nsIn K mainGlobals "Line" = some (some (.ref c_Line)))
    (n_Session : PySem.W.nsIn K mainGlobals "Session" = some (some (.ref c_Session)))
    (n_Node : PySem.W.nsIn K mainGlobals "Node" = some (some (.ref c_Node)))
    (n_Slot : PySem.W.nsIn K mainGlobals "Slot" = some (some (.ref c_Slot)))
    (n_Message : PySem.W.nsIn K mainGlobals "Message" = some (some (.ref c_Message)))
    (a_check_range : PySem.W.nsIn K mainGlobals "check_range" = some (some (.ref f_check_range)))
    (q_check_range : FnA K "check_range" "check_range" s_check_range ["number", "first", "last"] f_check_range)
    (a_make_item : PySem.W.nsIn K mainGlobals "make_item" = some (some (.ref f_make_item)))
    (q_make_item : FnA K "make_item" "make_item" s_make_item ["form", "version", "withdrawn", "tells"] f_make_item)
    (a_is_greater : PySem.W.nsIn K mainGlobals "is_greater" = some (some (.ref f_is_greater)))
    (q_is_greater : FnA K "is_greater" "is_greater" s_is_greater ["item", "other"] f_is_greater)
    (a_bring_into : PySem.W.nsIn K mainGlobals "bring_into" = some (some (.ref f_bring_into)))
    (q_bring_into : FnA K "bring_into" "bring_into" s_bring_into ["book", "coming"] f_bring_into)
    (a_items_of : PySem.W.nsIn K mainGlobals "items_of" = some (some (.ref f_items_of)))
    (q_items_of : FnA K "items_of" "items_of" s_items_of ["book"] f_items_of)
    (a_news_for : PySem.W.nsIn K mainGlobals "news_for" = some (some (.ref f_news_for)))
    (q_news_for : FnA K "news_for" "news_for" s_news_for ["book", "other"] f_news_for)
    (a_numbers_of : PySem.W.nsIn K mainGlobals "numbers_of" = some (some (.ref f_numbers_of)))
    (q_numbers_of : FnA K "numbers_of" "numbers_of" s_numbers_of ["told"] f_numbers_of)
    (a_Message_init : PySem.W.findIn K (.ref c_Message) "__init__" = some (some (.ref f_Message_init)))
    (i_Message_init : PySem.W.isFn K (.ref f_Message_init) = true)
    (q_Message_init : FnA K "__init__" "Message.__init__" s_Message_init ["self", "kind", "sender", "receiver", "carried"] f_Message_init)
    (a_keep_memory : PySem.W.nsIn K mainGlobals "keep_memory" = some (some (.ref f_keep_memory)))
    (q_keep_memory : FnA K "keep_memory" "keep_memory" s_keep_memory ["session", "place"] f_keep_memory)
    (a_send_forms : PySem.W.nsIn K mainGlobals "send_forms" = some (some (.ref f_send_forms)))
    (q_send_forms : FnA K "send_forms" "send_forms" s_send_forms ["session", "office", "centre"] f_send_forms)
    (a_send_summary : PySem.W.nsIn K mainGlobals "send_summary" = some (some (.ref f_send_summary)))
    (q_send_summary : FnA K "send_summary" "send_summary" s_send_summary ["session", "centre"] f_send_summary)
    (a_let_come : PySem.W.nsIn K mainGlobals "let_come" = some (some (.ref f_let_come)))
    (q_let_come : FnA K "let_come" "let_come" s_let_come ["session", "number"] f_let_come)
    (a_note_receipts : PySem.W.nsIn K mainGlobals "note_receipts" = some (some (.ref f_note_receipts)))
    (q_note_receipts : FnA K "note_receipts" "note_receipts" s_note_receipts ["session", "message"] f_note_receipts)
    (a_send_back : PySem.W.nsIn K mainGlobals "send_back" = some (some (.ref f_send_back)))
    (q_send_back : FnA K "send_back" "send_back" s_send_back ["session", "message"] f_send_back)
    (a_settle_all : PySem.W.nsIn K mainGlobals "settle_all" = some (some (.ref f_settle_all)))
    (q_settle_all : FnA K "settle_all" "settle_all" s_settle_all ["session"] f_settle_all)
    (a_bring_forms : PySem.W.nsIn K mainGlobals "bring_forms" = some (some (.ref f_bring_forms)))
    (q_bring_forms : FnA K "bring_forms" "bring_forms" s_bring_forms ["session", "office", "centre"] f_bring_forms)
    (a_keep_and_acknowledge : PySem.W.nsIn K mainGlobals "keep_and_acknowledge" = some (some (.ref f_keep_and_acknowledge)))
    (q_keep_and_acknowledge : FnA K "keep_and_acknowledge" "keep_and_acknowledge" s_keep_and_acknowledge ["session", "centre"] f_keep_and_acknowledge)
    (a_ask_and_fill : PySem.W.nsIn K mainGlobals "ask_and_fill" = some (some (.ref f_ask_and_fill)))
    (q_ask_and_fill : FnA K "ask_and_fill" "ask_and_fill" s_ask_and_fill ["session", "centre"] f_ask_and_fill)
    (a_memory : PySem.W.nsIn K mainGlobals "memory" = some (some (.ref f_memory)))
    (q_memory : FnA K "memory" "memory" s_memory ["session", "numbers"] f_memory)
    (a_disk : PySem.W.nsIn K mainGlobals "disk" = some (some (.ref f_disk)))
    (q_disk : FnA K "disk" "disk" s_disk ["session", "numbers"] f_disk)
    (a_receipts : PySem.W.nsIn K mainGlobals "receipts" = some (some (.ref f_receipts)))
    (q_receipts : FnA K "receipts" "receipts" s_receipts ["session", "numbers"] f_receipts)
    (a_flight : PySem.W.nsIn K mainGlobals "flight" = some (some (.ref f_flight)))
    (q_flight : FnA K "flight" "flight" s_flight ["session", "numbers"] f_flight)
    (a_message : PySem.W.nsIn K mainGlobals "message" = some (some (.ref f_message)))
    (q_message : FnA K "message" "message" s_message ["session", "numbers"] f_message)
    (a_acknowledged : PySem.W.nsIn K mainGlobals "acknowledged" = some (some (.ref f_acknowledged)))
    (q_acknowledged : FnA K "acknowledged" "acknowledged" s_acknowledged ["session", "numbers"] f_acknowledged)
    (a_lacks : PySem.W.nsIn K mainGlobals "lacks" = some (some (.ref f_lacks)))
    (q_lacks : FnA K "lacks" "lacks" s_lacks ["session", "numbers"] f_lacks)
    (a_even : PySem.W.nsIn K mainGlobals "even" = some (some (.ref f_even)))
    (q_even : FnA K "even" "even" s_even ["session", "numbers"] f_even)
    (a_state : PySem.W.nsIn K mainGlobals "state" = some (some (.ref f_state)))
    (q_state : FnA K "state" "state" s_state ["session", "numbers"] f_state)
    (a_owed : PySem.W.nsIn K mainGlobals "owed" = some (some (.ref f_owed)))
    (q_owed : FnA K "owed" "owed" s_owed ["session", "numbers"] f_owed)
    (a_taken : PySem.W.nsIn K mainGlobals "taken" = some (some (.ref f_taken)))
    (q_taken : FnA K "taken" "taken" s_taken ["session", "numbers"] f_taken)
    (a_numbers_of_pairs : PySem.W.nsIn K mainGlobals "numbers_of_pairs" = some (some (.ref f_numbers_of_pairs)))
    (q_numbers_of_pairs : FnA K "numbers_of_pairs" "numbers_of_pairs" s_numbers_of_pairs ["pairs"] f_numbers_of_pairs)
    (a_is_even : PySem.W.nsIn K mainGlobals "is_even" = some (some (.ref f_is_even)))
    (q_is_even : FnA K "is_even" "is_even" s_is_even ["session"] f_is_even)
    (a_tell : PySem.W.nsIn K mainGlobals "tell" = some (some (.ref f_tell)))
    (q_tell : FnA K "tell" "tell" s_tell ["session", "number", "numbers"] f_tell)
    (a_take : PySem.W.nsIn K mainGlobals "take" = some (some (.ref f_take)))
    (q_take : FnA K "take" "take" s_take ["session", "numbers"] f_take)
    (a_keep : PySem.W.nsIn K mainGlobals "keep" = some (some (.ref f_keep)))
    (q_keep : FnA K "keep" "keep" s_keep ["session", "numbers"] f_keep)
    (a_torn : PySem.W.nsIn K mainGlobals "torn" = some (some (.ref f_torn)))
    (q_torn : FnA K "torn" "torn" s_torn ["session", "numbers"] f_torn)
    (a_cut : PySem.W.nsIn K mainGlobals "cut" = some (some (.ref f_cut)))
    (q_cut : FnA K "cut" "cut" s_cut ["session", "numbers"] f_cut)
    (a_up : PySem.W.nsIn K mainGlobals "up" = some (some (.ref f_up)))
    (q_up : FnA K "up" "up" s_up ["session", "numbers"] f_up)
    (a_send : PySem.W.nsIn K mainGlobals "send" = some (some (.ref f_send)))
    (q_send : FnA K "send" "send" s_send ["session", "numbers"] f_send)
    (a_ask : PySem.W.nsIn K mainGlobals "ask" = some (some (.ref f_ask)))
    (q_ask : FnA K "ask" "ask" s_ask ["session", "numbers"] f_ask)
    (a_deliver : PySem.W.nsIn K mainGlobals "deliver" = some (some (.ref f_deliver)))
    (q_deliver : FnA K "deliver" "deliver" s_deliver ["session", "numbers"] f_deliver)
    (a_lose : PySem.W.nsIn K mainGlobals "lose" = some (some (.ref f_lose)))
    (q_lose : FnA K "lose" "lose" s_lose ["session", "numbers"] f_lose)
    (a_double : PySem.W.nsIn K mainGlobals "double" = some (some (.ref f_double)))
    (q_double : FnA K "double" "double" s_double ["session", "numbers"] f_double)
    (a_settle : PySem.W.nsIn K mainGlobals "settle" = some (some (.ref f_settle)))
    (q_settle : FnA K "settle" "settle" s_settle ["session", "numbers"] f_settle)
    (a_perform : PySem.W.nsIn K mainGlobals "perform" = some (some (.ref f_perform)))
    (q_perform : FnA K "perform" "perform" s_perform ["session", "number", "numbers"] f_perform)
    (a_Slot_init : PySem.W.findIn K (.ref c_Slot) "__init__" = some (some (.ref f_Slot_init)))
    (i_Slot_init : PySem.W.isFn K (.ref f_Slot_init) = true)
    (q_Slot_init : FnA K "__init__" "Slot.__init__" s_Slot_init ["self", "sequence", "book", "receipts"] f_Slot_init)
    (a_Node_init : PySem.W.findIn K (.ref c_Node) "__init__" = some (some (.ref f_Node_init)))
    (i_Node_init : PySem.W.isFn K (.ref f_Node_init) = true)
    (q_Node_init : FnA K "__init__" "Node.__init__" s_Node_init ["self"] f_Node_init)
    (a_Node_other_place : PySem.W.findIn K (.ref c_Node) "other_place" = some (some (.ref f_Node_other_place)))
    (i_Node_other_place : PySem.W.isFn K (.ref f_Node_other_place) = true)
    (q_Node_other_place : FnA K "other_place" "Node.other_place" s_Node_other_place ["self"] f_Node_other_place)
    (a_Node_slot_read : PySem.W.findIn K (.ref c_Node) "slot_read" = some (some (.ref f_Node_slot_read)))
    (i_Node_slot_read : PySem.W.isFn K (.ref f_Node_slot_read) = true)
    (q_Node_slot_read : FnA K "slot_read" "Node.slot_read" s_Node_slot_read ["self"] f_Node_slot_read)
    (a_Node_write_memory : PySem.W.findIn K (.ref c_Node) "write_memory" = some (some (.ref f_Node_write_memory)))
    (i_Node_write_memory : PySem.W.isFn K (.ref f_Node_write_memory) = true)
    (q_Node_write_memory : FnA K "write_memory" "Node.write_memory" s_Node_write_memory ["self"] f_Node_write_memory)
    (a_Node_spoil_other : PySem.W.findIn K (.ref c_Node) "spoil_other" = some (some (.ref f_Node_spoil_other)))
    (i_Node_spoil_other : PySem.W.isFn K (.ref f_Node_spoil_other) = true)
    (q_Node_spoil_other : FnA K "spoil_other" "Node.spoil_other" s_Node_spoil_other ["self"] f_Node_spoil_other)
    (a_Node_lose_power : PySem.W.findIn K (.ref c_Node) "lose_power" = some (some (.ref f_Node_lose_power)))
    (i_Node_lose_power : PySem.W.isFn K (.ref f_Node_lose_power) = true)
    (q_Node_lose_power : FnA K "lose_power" "Node.lose_power" s_Node_lose_power ["self"] f_Node_lose_power)
    (a_Node_gain_power : PySem.W.findIn K (.ref c_Node) "gain_power" = some (some (.ref f_Node_gain_power)))
    (i_Node_gain_power : PySem.W.isFn K (.ref f_Node_gain_power) = true)
    (q_Node_gain_power : FnA K "gain_power" "Node.gain_power" s_Node_gain_power ["self"] f_Node_gain_power)
    (a_Node_holds : PySem.W.findIn K (.ref c_Node) "holds" = some (some (.ref f_Node_holds)))
    (i_Node_holds : PySem.W.isFn K (.ref f_Node_holds) = true)
    (q_Node_holds : FnA K "holds" "Node.holds" s_Node_holds ["self", "item"] f_Node_holds)
    (a_Node_take_in : PySem.W.findIn K (.ref c_Node) "take_in" = some (some (.ref f_Node_take_in)))
    (i_Node_take_in : PySem.W.isFn K (.ref f_Node_take_in) = true)
    (q_Node_take_in : FnA K "take_in" "Node.take_in" s_Node_take_in ["self", "coming"] f_Node_take_in)
    (a_Node_add_receipt : PySem.W.findIn K (.ref c_Node) "add_receipt" = some (some (.ref f_Node_add_receipt)))
    (i_Node_add_receipt : PySem.W.isFn K (.ref f_Node_add_receipt) = true)
    (q_Node_add_receipt : FnA K "add_receipt" "Node.add_receipt" s_Node_add_receipt ["self", "centre", "item"] f_Node_add_receipt)
    (a_Node_items_without_receipt : PySem.W.findIn K (.ref c_Node) "items_without_receipt" = some (some (.ref f_Node_items_without_receipt)))
    (i_Node_items_without_receipt : PySem.W.isFn K (.ref f_Node_items_without_receipt) = true)
    (q_Node_items_without_receipt : FnA K "items_without_receipt" "Node.items_without_receipt" s_Node_items_without_receipt ["self", "centre"] f_Node_items_without_receipt)
    (a_Node_owe : PySem.W.findIn K (.ref c_Node) "owe" = some (some (.ref f_Node_owe)))
    (i_Node_owe : PySem.W.isFn K (.ref f_Node_owe) = true)
    (q_Node_owe : FnA K "owe" "Node.owe" s_Node_owe ["self", "office", "item"] f_Node_owe)
    (a_Node_offices_owed : PySem.W.findIn K (.ref c_Node) "offices_owed" = some (some (.ref f_Node_offices_owed)))
    (i_Node_offices_owed : PySem.W.isFn K (.ref f_Node_offices_owed) = true)
    (q_Node_offices_owed : FnA K "offices_owed" "Node.offices_owed" s_Node_offices_owed ["self"] f_Node_offices_owed)
    (a_Node_items_owed : PySem.W.findIn K (.ref c_Node) "items_owed" = some (some (.ref f_Node_items_owed)))
    (i_Node_items_owed : PySem.W.isFn K (.ref f_Node_items_owed) = true)
    (q_Node_items_owed : FnA K "items_owed" "Node.items_owed" s_Node_items_owed ["self", "office"] f_Node_items_owed)
    (a_Session_init : PySem.W.findIn K (.ref c_Session) "__init__" = some (some (.ref f_Session_init)))
    (i_Session_init : PySem.W.isFn K (.ref f_Session_init) = true)
    (q_Session_init : FnA K "__init__" "Session.__init__" s_Session_init ["self", "offices"] f_Session_init)
    (a_Session_check_node : PySem.W.findIn K (.ref c_Session) "check_node" = some (some (.ref f_Session_check_node)))
    (i_Session_check_node : PySem.W.isFn K (.ref f_Session_check_node) = true)
    (q_Session_check_node : FnA K "check_node" "Session.check_node" s_Session_check_node ["self", "number"] f_Session_check_node)
    (a_Session_check_office : PySem.W.findIn K (.ref c_Session) "check_office" = some (some (.ref f_Session_check_office)))
    (i_Session_check_office : PySem.W.isFn K (.ref f_Session_check_office) = true)
    (q_Session_check_office : FnA K "check_office" "Session.check_office" s_Session_check_office ["self", "number"] f_Session_check_office)
    (a_Session_check_centre : PySem.W.findIn K (.ref c_Session) "check_centre" = some (some (.ref f_Session_check_centre)))
    (i_Session_check_centre : PySem.W.isFn K (.ref f_Session_check_centre) = true)
    (q_Session_check_centre : FnA K "check_centre" "Session.check_centre" s_Session_check_centre ["self", "number"] f_Session_check_centre)
    (a_Session_centres : PySem.W.findIn K (.ref c_Session) "centres" = some (some (.ref f_Session_centres)))
    (i_Session_centres : PySem.W.isFn K (.ref f_Session_centres) = true)
    (q_Session_centres : FnA K "centres" "Session.centres" s_Session_centres ["self"] f_Session_centres)
    (a_Session_node_with_power : PySem.W.findIn K (.ref c_Session) "node_with_power" = some (some (.ref f_Session_node_with_power)))
    (i_Session_node_with_power : PySem.W.isFn K (.ref f_Session_node_with_power) = true)
    (q_Session_node_with_power : FnA K "node_with_power" "Session.node_with_power" s_Session_node_with_power ["self", "number"] f_Session_node_with_power)
    (a_Session_other_centre : PySem.W.findIn K (.ref c_Session) "other_centre" = some (some (.ref f_Session_other_centre)))
    (i_Session_other_centre : PySem.W.isFn K (.ref f_Session_other_centre) = true)
    (q_Session_other_centre : FnA K "other_centre" "Session.other_centre" s_Session_other_centre ["self", "centre"] f_Session_other_centre)
    (a_Session_message_under_way : PySem.W.findIn K (.ref c_Session) "message_under_way" = some (some (.ref f_Session_message_under_way)))
    (i_Session_message_under_way : PySem.W.isFn K (.ref f_Session_message_under_way) = true)
    (q_Session_message_under_way : FnA K "message_under_way" "Session.message_under_way" s_Session_message_under_way ["self", "number"] f_Session_message_under_way)
    (a_Session_check_room : PySem.W.findIn K (.ref c_Session) "check_room" = some (some (.ref f_Session_check_room)))
    (i_Session_check_room : PySem.W.isFn K (.ref f_Session_check_room) = true)
    (q_Session_check_room : FnA K "check_room" "Session.check_room" s_Session_check_room ["self", "more"] f_Session_check_room)
    (a_Session_send_off : PySem.W.findIn K (.ref c_Session) "send_off" = some (some (.ref f_Session_send_off)))
    (i_Session_send_off : PySem.W.isFn K (.ref f_Session_send_off) = true)
    (q_Session_send_off : FnA K "send_off" "Session.send_off" s_Session_send_off ["self", "message"] f_Session_send_off)
    (a_Line_init : PySem.W.findIn K (.ref c_Line) "__init__" = some (some (.ref f_Line_init)))
    (i_Line_init : PySem.W.isFn K (.ref f_Line_init) = true)
    (q_Line_init : FnA K "__init__" "Line.__init__" s_Line_init ["self"] f_Line_init)
    (a_Line_answer_call : PySem.W.findIn K (.ref c_Line) "answer_call" = some (some (.ref f_Line_answer_call)))
    (i_Line_answer_call : PySem.W.isFn K (.ref f_Line_answer_call) = true)
    (q_Line_answer_call : FnA K "answer_call" "Line.answer_call" s_Line_answer_call ["self", "number", "numbers"] f_Line_answer_call)
    (a_Line_follow : PySem.W.findIn K (.ref c_Line) "follow" = some (some (.ref f_Line_follow)))
    (i_Line_follow : PySem.W.isFn K (.ref f_Line_follow) = true)
    (q_Line_follow : FnA K "follow" "Line.follow" s_Line_follow ["self", "number", "numbers"] f_Line_follow)
    (a_answers : PySem.W.nsIn K mainGlobals "answers" = some (some (.ref f_answers)))
    (q_answers : FnT K f_answers)
    (cl_Message : ClA K c_Message ["kind", "sender", "receiver", "carried"])
    (na_Message_kind : PySem.W.findIn K (.ref c_Message) "kind" = some none)
    (na_Message_sender : PySem.W.findIn K (.ref c_Message) "sender" = some none)
    (na_Message_receiver : PySem.W.findIn K (.ref c_Message) "receiver" = some none)
    (na_Message_carried : PySem.W.findIn K (.ref c_Message) "carried" = some none)
    (cl_Slot : ClA K c_Slot ["sequence", "book", "receipts"])
    (na_Slot_sequence : PySem.W.findIn K (.ref c_Slot) "sequence" = some none)
    (na_Slot_book : PySem.W.findIn K (.ref c_Slot) "book" = some none)
    (na_Slot_receipts : PySem.W.findIn K (.ref c_Slot) "receipts" = some none)
    (cl_Node : ClA K c_Node ["power", "book", "receipts", "owed", "slots"])
    (na_Node_power : PySem.W.findIn K (.ref c_Node) "power" = some none)
    (na_Node_book : PySem.W.findIn K (.ref c_Node) "book" = some none)
    (na_Node_receipts : PySem.W.findIn K (.ref c_Node) "receipts" = some none)
    (na_Node_owed : PySem.W.findIn K (.ref c_Node) "owed" = some none)
    (na_Node_slots : PySem.W.findIn K (.ref c_Node) "slots" = some none)
    (cl_Session : ClA K c_Session ["offices", "nodes", "under_way", "last_number", "taken", "acknowledged"])
    (na_Session_offices : PySem.W.findIn K (.ref c_Session) "offices" = some none)
    (na_Session_nodes : PySem.W.findIn K (.ref c_Session) "nodes" = some none)
    (na_Session_under_way : PySem.W.findIn K (.ref c_Session) "under_way" = some none)
    (na_Session_last_number : PySem.W.findIn K (.ref c_Session) "last_number" = some none)
    (na_Session_taken : PySem.W.findIn K (.ref c_Session) "taken" = some none)
    (na_Session_acknowledged : PySem.W.findIn K (.ref c_Session) "acknowledged" = some none)
    (cl_Line : ClA K c_Line ["session"])
    (na_Line_session : PySem.W.findIn K (.ref c_Line) "session" = some none)
    (n_NotInRange : PySem.W.nsIn K mainGlobals "NotInRange" = some (some (.ref c_NotInRange)))
    (e_NotInRange : ExA K c_NotInRange)
    (n_NoPower : PySem.W.nsIn K mainGlobals "NoPower" = some (some (.ref c_NoPower)))
    (e_NoPower : ExA K c_NoPower)
    (n_NothingThere : PySem.W.nsIn K mainGlobals "NothingThere" = some (some (.ref c_NothingThere)))
    (e_NothingThere : ExA K c_NothingThere)
    (n_TooManyUnderWay : PySem.W.nsIn K mainGlobals "TooManyUnderWay" = some (some (.ref c_TooManyUnderWay)))
    (e_TooManyUnderWay : ExA K c_TooManyUnderWay)
    (n_NotBegun : PySem.W.nsIn K mainGlobals "NotBegun" = some (some (.ref c_NotBegun)))
    (e_NotBegun : ExA K c_NotBegun)
    (s_NotInRange_NotInRange : PySem.W.subIn K (.ref c_NotInRange) (.ref c_NotInRange) = some true)
    (s_NotInRange_NoPower : PySem.W.subIn K (.ref c_NotInRange) (.ref c_NoPower) = some false)
    (s_NotInRange_NothingThere : PySem.W.subIn K (.ref c_NotInRange) (.ref c_NothingThere) = some false)
    (s_NotInRange_TooManyUnderWay : PySem.W.subIn K (.ref c_NotInRange) (.ref c_TooManyUnderWay) = some false)
    (s_NotInRange_NotBegun : PySem.W.subIn K (.ref c_NotInRange) (.ref c_NotBegun) = some false)
    (s_NoPower_NotInRange : PySem.W.subIn K (.ref c_NoPower) (.ref c_NotInRange) = some false)
    (s_NoPower_NoPower : PySem.W.subIn K (.ref c_NoPower) (.ref c_NoPower) = some true)
    (s_NoPower_NothingThere : PySem.W.subIn K (.ref c_NoPower) (.ref c_NothingThere) = some false)
    (s_NoPower_TooManyUnderWay : PySem.W.subIn K (.ref c_NoPower) (.ref c_TooManyUnderWay) = some false)
    (s_NoPower_NotBegun : PySem.W.subIn K (.ref c_NoPower) (.ref c_NotBegun) = some false)
    (s_NothingThere_NotInRange : PySem.W.subIn K (.ref c_NothingThere) (.ref c_NotInRange) = some false)
    (s_NothingThere_NoPower : PySem.W.subIn K (.ref c_NothingThere) (.ref c_NoPower) = some false)
    (s_NothingThere_NothingThere : PySem.W.subIn K (.ref c_NothingThere) (.ref c_NothingThere) = some true)
    (s_NothingThere_TooManyUnderWay : PySem.W.subIn K (.ref c_NothingThere) (.ref c_TooManyUnderWay) = some false)
    (s_NothingThere_NotBegun : PySem.W.subIn K (.ref c_NothingThere) (.ref c_NotBegun) = some false)
    (s_TooManyUnderWay_NotInRange : PySem.W.subIn K (.ref c_TooManyUnderWay) (.ref c_NotInRange) = some false)
    (s_TooManyUnderWay_NoPower : PySem.W.subIn K (.ref c_TooManyUnderWay) (.ref c_NoPower) = some false)
    (s_TooManyUnderWay_NothingThere : PySem.W.subIn K (.ref c_TooManyUnderWay) (.ref c_NothingThere) = some false)
    (s_TooManyUnderWay_TooManyUnderWay : PySem.W.subIn K (.ref c_TooManyUnderWay) (.ref c_TooManyUnderWay) = some true)
    (s_TooManyUnderWay_NotBegun : PySem.W.subIn K (.ref c_TooManyUnderWay) (.ref c_NotBegun) = some false)
    (s_NotBegun_NotInRange : PySem.W.subIn K (.ref c_NotBegun) (.ref c_NotInRange) = some false)
    (s_NotBegun_NoPower : PySem.W.subIn K (.ref c_NotBegun) (.ref c_NoPower) = some false)
    (s_NotBegun_NothingThere : PySem.W.subIn K (.ref c_NotBegun) (.ref c_NothingThere) = some false)
    (s_NotBegun_TooManyUnderWay : PySem.W.subIn K (.ref c_NotBegun) (.ref c_TooManyUnderWay) = some false)
    (s_NotBegun_NotBegun : PySem.W.subIn K (.ref c_NotBegun) (.ref c_NotBegun) = some true)
    (k_FORMS : PySem.W.nsIn K mainGlobals "FORMS" = some (some (.int (1) t_FORMS)))
    (k_RECEIPT : PySem.W.nsIn K mainGlobals "RECEIPT" = some (some (.int (2) t_RECEIPT)))
    (k_SUMMARY : PySem.W.nsIn K mainGlobals "SUMMARY" = some (some (.int (3) t_SUMMARY)))
    (k_FILLING : PySem.W.nsIn K mainGlobals "FILLING" = some (some (.int (4) t_FILLING)))
    (k_MOST_UNDER_WAY : PySem.W.nsIn K mainGlobals "MOST_UNDER_WAY" = some (some (.int (40) t_MOST_UNDER_WAY)))
    (k_BEGIN : PySem.W.nsIn K mainGlobals "BEGIN" = some (some (.int (0) t_BEGIN)))
    (g_TELLING : PySem.W.nsIn K mainGlobals "TELLING" = some (some (.ref tb_TELLING)))
    (o_TELLING : (tb_TELLING == sysModules) = false)
    (l_TELLING : K.lookup tb_TELLING = some ⟨.type "dict", none, .dict es_TELLING z_TELLING, #[]⟩)
    (r_TELLING : rowsV es_TELLING.toList [(11, .ref f_memory), (12, .ref f_disk), (13, .ref f_receipts), (14, .ref f_flight), (15, .ref f_message), (16, .ref f_acknowledged), (17, .ref f_lacks), (18, .ref f_even), (20, .ref f_state), (21, .ref f_owed), (22, .ref f_taken)] = true)
    (g_CALLS : PySem.W.nsIn K mainGlobals "CALLS" = some (some (.ref tb_CALLS)))
    (o_CALLS : (tb_CALLS == sysModules) = false)
    (l_CALLS : K.lookup tb_CALLS = some ⟨.type "dict", none, .dict es_CALLS z_CALLS, #[]⟩)
    (r_CALLS : rowsV es_CALLS.toList [(1, .ref f_take), (2, .ref f_keep), (3, .ref f_torn), (4, .ref f_cut), (5, .ref f_up), (6, .ref f_send), (7, .ref f_ask), (8, .ref f_deliver), (9, .ref f_lose), (10, .ref f_double), (19, .ref f_settle)] = true)
    (g_HOW_MANY_NUMBERS : PySem.W.nsIn K mainGlobals "HOW_MANY_NUMBERS" = some (some (.ref tb_HOW_MANY_NUMBERS)))
    (o_HOW_MANY_NUMBERS : (tb_HOW_MANY_NUMBERS == sysModules) = false)
    (l_HOW_MANY_NUMBERS : K.lookup tb_HOW_MANY_NUMBERS = some ⟨.type "dict", none, .dict es_HOW_MANY_NUMBERS z_HOW_MANY_NUMBERS, #[]⟩)
    (r_HOW_MANY_NUMBERS : rowsV es_HOW_MANY_NUMBERS.toList [(0, .int 1), (1, .int 5), (2, .int 1), (3, .int 2), (4, .int 1), (5, .int 1), (6, .int 2), (7, .int 1), (8, .int 1), (9, .int 1), (10, .int 1), (11, .int 1), (12, .int 1), (13, .int 1), (14, .int 0), (15, .int 1), (16, .int 0), (17, .int 2), (18, .int 0), (19, .int 0), (20, .int 0), (21, .int 1), (22, .int 0)] = true)
    (b_dict : PySem.W.nsIn K mainGlobals "dict" = some (none))
    (b_len : PySem.W.nsIn K mainGlobals "len" = some (none))
    (b_list : PySem.W.nsIn K mainGlobals "list" = some (none))
    (b_range : PySem.W.nsIn K mainGlobals "range" = some (none))
    (b_set : PySem.W.nsIn K mainGlobals "set" = some (none))
    (b_sorted : PySem.W.nsIn K mainGlobals "sorted" = some (none))
    (b_tuple : PySem.W.nsIn K mainGlobals "tuple" = some (none)) :
    ∃ a : Ad, (∀ (s : Shared) (us : List Value), us.length = (["calls"] : List Str).length → BindsTo s a.d_answers ⟨us, []⟩ ((["calls"] : List Str).zip us)) ∧ Txt K mg a := by
  obtain ⟨d_check_range, F_check_range, B_check_range⟩ := q_check_range.ex
  obtain ⟨d_make_item, F_make_item, B_make_item⟩ := q_make_item.ex
  obtain ⟨d_is_greater, F_is_greater, B_is_greater⟩ := q_is_greater.ex
  obtain ⟨d_bring_into, F_bring_into, B_bring_into⟩ := q_bring_into.ex
  obtain ⟨d_items_of, F_items_of, B_items_of⟩ := q_items_of.ex
  obtain ⟨d_news_for, F_news_for, B_news_for⟩ := q_news_for.ex
  obtain ⟨d_numbers_of, F_numbers_of, B_numbers_of⟩ := q_numbers_of.ex
  obtain ⟨d_Message_init, F_Message_init, B_Message_init⟩ := q_Message_init.ex
  obtain ⟨d_keep_memory, F_keep_memory, B_keep_memory⟩ := q_keep_memory.ex
  obtain ⟨d_send_forms, F_send_forms, B_send_forms⟩ := q_send_forms.ex
  obtain ⟨d_send_summary, F_send_summary, B_send_summary⟩ := q_send_summary.ex
  obtain ⟨d_let_come, F_let_come, B_let_come⟩ := q_let_come.ex
  obtain ⟨d_note_receipts, F_note_receipts, B_note_receipts⟩ := q_note_receipts.ex
  obtain ⟨d_send_back, F_send_back, B_send_back⟩ := q_send_back.ex
  obtain ⟨d_settle_all, F_settle_all, B_settle_all⟩ := q_settle_all.ex
  obtain ⟨d_bring_forms, F_bring_forms, B_bring_forms⟩ := q_bring_forms.ex
  obtain ⟨d_keep_and_acknowledge, F_keep_and_acknowledge, B_keep_and_acknowledge⟩ := q_keep_and_acknowledge.ex
  obtain ⟨d_ask_and_fill, F_ask_and_fill, B_ask_and_fill⟩ := q_ask_and_fill.ex
  obtain ⟨d_memory, F_memory, B_memory⟩ := q_memory.ex
  obtain ⟨d_disk, F_disk, B_disk⟩ := q_disk.ex
  obtain ⟨d_receipts, F_receipts, B_receipts⟩ := q_receipts.ex
  obtain ⟨d_flight, F_flight, B_flight⟩ := q_flight.ex
  obtain ⟨d_message, F_message, B_message⟩ := q_message.ex
  obtain ⟨d_acknowledged, F_acknowledged, B_acknowledged⟩ := q_acknowledged.ex
  obtain ⟨d_lacks, F_lacks, B_lacks⟩ := q_lacks.ex
  obtain ⟨d_even, F_even, B_even⟩ := q_even.ex
  obtain ⟨d_state, F_state, B_state⟩ := q_state.ex
  obtain ⟨d_owed, F_owed, B_owed⟩ := q_owed.ex
  obtain ⟨d_taken, F_taken, B_taken⟩ := q_taken.ex
  obtain ⟨d_numbers_of_pairs, F_numbers_of_pairs, B_numbers_of_pairs⟩ := q_numbers_of_pairs.ex
  obtain ⟨d_is_even, F_is_even, B_is_even⟩ := q_is_even.ex
  obtain ⟨d_tell, F_tell, B_tell⟩ := q_tell.ex
  obtain ⟨d_take, F_take, B_take⟩ := q_take.ex
  obtain ⟨d_keep, F_keep, B_keep⟩ := q_keep.ex
  obtain ⟨d_torn, F_torn, B_torn⟩ := q_torn.ex
  obtain ⟨d_cut, F_cut, B_cut⟩ := q_cut.ex
  obtain ⟨d_up, F_up, B_up⟩ := q_up.ex
  obtain ⟨d_send, F_send, B_send⟩ := q_send.ex
  obtain ⟨d_ask, F_ask, B_ask⟩ := q_ask.ex
  obtain ⟨d_deliver, F_deliver, B_deliver⟩ := q_deliver.ex
  obtain ⟨d_lose, F_lose, B_lose⟩ := q_lose.ex
  obtain ⟨d_double, F_double, B_double⟩ := q_double.ex
  obtain ⟨d_settle, F_settle, B_settle⟩ := q_settle.ex
  obtain ⟨d_perform, F_perform, B_perform⟩ := q_perform.ex
  obtain ⟨d_Slot_init, F_Slot_init, B_Slot_init⟩ := q_Slot_init.ex
  obtain ⟨d_Node_init, F_Node_init, B_Node_init⟩ := q_Node_init.ex
  obtain ⟨d_Node_other_place, F_Node_other_place, B_Node_other_place⟩ := q_Node_other_place.ex
  obtain ⟨d_Node_slot_read, F_Node_slot_read, B_Node_slot_read⟩ := q_Node_slot_read.ex
  obtain ⟨d_Node_write_memory, F_Node_write_memory, B_Node_write_memory⟩ := q_Node_write_memory.ex
  obtain ⟨d_Node_spoil_other, F_Node_spoil_other, B_Node_spoil_other⟩ := q_Node_spoil_other.ex
  obtain ⟨d_Node_lose_power, F_Node_lose_power, B_Node_lose_power⟩ := q_Node_lose_power.ex
  obtain ⟨d_Node_gain_power, F_Node_gain_power, B_Node_gain_power⟩ := q_Node_gain_power.ex
  obtain ⟨d_Node_holds, F_Node_holds, B_Node_holds⟩ := q_Node_holds.ex
  obtain ⟨d_Node_take_in, F_Node_take_in, B_Node_take_in⟩ := q_Node_take_in.ex
  obtain ⟨d_Node_add_receipt, F_Node_add_receipt, B_Node_add_receipt⟩ := q_Node_add_receipt.ex
  obtain ⟨d_Node_items_without_receipt, F_Node_items_without_receipt, B_Node_items_without_receipt⟩ := q_Node_items_without_receipt.ex
  obtain ⟨d_Node_owe, F_Node_owe, B_Node_owe⟩ := q_Node_owe.ex
  obtain ⟨d_Node_offices_owed, F_Node_offices_owed, B_Node_offices_owed⟩ := q_Node_offices_owed.ex
  obtain ⟨d_Node_items_owed, F_Node_items_owed, B_Node_items_owed⟩ := q_Node_items_owed.ex
  obtain ⟨d_Session_init, F_Session_init, B_Session_init⟩ := q_Session_init.ex
  obtain ⟨d_Session_check_node, F_Session_check_node, B_Session_check_node⟩ := q_Session_check_node.ex
  obtain ⟨d_Session_check_office, F_Session_check_office, B_Session_check_office⟩ := q_Session_check_office.ex
  obtain ⟨d_Session_check_centre, F_Session_check_centre, B_Session_check_centre⟩ := q_Session_check_centre.ex
  obtain ⟨d_Session_centres, F_Session_centres, B_Session_centres⟩ := q_Session_centres.ex
  obtain ⟨d_Session_node_with_power, F_Session_node_with_power, B_Session_node_with_power⟩ := q_Session_node_with_power.ex
  obtain ⟨d_Session_other_centre, F_Session_other_centre, B_Session_other_centre⟩ := q_Session_other_centre.ex
  obtain ⟨d_Session_message_under_way, F_Session_message_under_way, B_Session_message_under_way⟩ := q_Session_message_under_way.ex
  obtain ⟨d_Session_check_room, F_Session_check_room, B_Session_check_room⟩ := q_Session_check_room.ex
  obtain ⟨d_Session_send_off, F_Session_send_off, B_Session_send_off⟩ := q_Session_send_off.ex
  obtain ⟨d_Line_init, F_Line_init, B_Line_init⟩ := q_Line_init.ex
  obtain ⟨d_Line_answer_call, F_Line_answer_call, B_Line_answer_call⟩ := q_Line_answer_call.ex
  obtain ⟨d_Line_follow, F_Line_follow, B_Line_follow⟩ := q_Line_follow.ex
  obtain ⟨d_answers, F_answers, B_answers, BT⟩ := q_answers.ex
  refine ⟨{ c_Message := c_Message, c_Slot := c_Slot, c_Node := c_Node, c_Session := c_Session, c_Line := c_Line, c_NotInRange := c_NotInRange, c_NoPower := c_NoPower, c_NothingThere := c_NothingThere, c_TooManyUnderWay := c_TooManyUnderWay, c_NotBegun := c_NotBegun, f_check_range := f_check_range, d_check_range := d_check_range, f_make_item := f_make_item, d_make_item := d_make_item, f_is_greater := f_is_greater, d_is_greater := d_is_greater, f_bring_into := f_bring_into, d_bring_into := d_bring_into, f_items_of := f_items_of, d_items_of := d_items_of, f_news_for := f_news_for, d_news_for := d_news_for, f_numbers_of := f_numbers_of, d_numbers_of := d_numbers_of, f_Message_init := f_Message_init, d_Message_init := d_Message_init, f_keep_memory := f_keep_memory, d_keep_memory := d_keep_memory, f_send_forms := f_send_forms, d_send_forms := d_send_forms, f_send_summary := f_send_summary, d_send_summary := d_send_summary, f_let_come := f_let_come, d_let_come := d_let_come, f_note_receipts := f_note_receipts, d_note_receipts := d_note_receipts, f_send_back := f_send_back, d_send_back := d_send_back, f_settle_all := f_settle_all, d_settle_all := d_settle_all, f_bring_forms := f_bring_forms, d_bring_forms := d_bring_forms, f_keep_and_acknowledge := f_keep_and_acknowledge, d_keep_and_acknowledge := d_keep_and_acknowledge, f_ask_and_fill := f_ask_and_fill, d_ask_and_fill := d_ask_and_fill, f_memory := f_memory, d_memory := d_memory, f_disk := f_disk, d_disk := d_disk, f_receipts := f_receipts, d_receipts := d_receipts, f_flight := f_flight, d_flight := d_flight, f_message := f_message, d_message := d_message, f_acknowledged := f_acknowledged, d_acknowledged := d_acknowledged, f_lacks := f_lacks, d_lacks := d_lacks, f_even := f_even, d_even := d_even, f_state := f_state, d_state := d_state, f_owed := f_owed, d_owed := d_owed, f_taken := f_taken, d_taken := d_taken, f_numbers_of_pairs := f_numbers_of_pairs, d_numbers_of_pairs := d_numbers_of_pairs, f_is_even := f_is_even, d_is_even := d_is_even, f_tell := f_tell, d_tell := d_tell, f_take := f_take, d_take := d_take, f_keep := f_keep, d_keep := d_keep, f_torn := f_torn, d_torn := d_torn, f_cut := f_cut, d_cut := d_cut, f_up := f_up, d_up := d_up, f_send := f_send, d_send := d_send, f_ask := f_ask, d_ask := d_ask, f_deliver := f_deliver, d_deliver := d_deliver, f_lose := f_lose, d_lose := d_lose, f_double := f_double, d_double := d_double, f_settle := f_settle, d_settle := d_settle, f_perform := f_perform, d_perform := d_perform, f_Slot_init := f_Slot_init, d_Slot_init := d_Slot_init, f_Node_init := f_Node_init, d_Node_init := d_Node_init, f_Node_other_place := f_Node_other_place, d_Node_other_place := d_Node_other_place, f_Node_slot_read := f_Node_slot_read, d_Node_slot_read := d_Node_slot_read, f_Node_write_memory := f_Node_write_memory, d_Node_write_memory := d_Node_write_memory, f_Node_spoil_other := f_Node_spoil_other, d_Node_spoil_other := d_Node_spoil_other, f_Node_lose_power := f_Node_lose_power, d_Node_lose_power := d_Node_lose_power, f_Node_gain_power := f_Node_gain_power, d_Node_gain_power := d_Node_gain_power, f_Node_holds := f_Node_holds, d_Node_holds := d_Node_holds, f_Node_take_in := f_Node_take_in, d_Node_take_in := d_Node_take_in, f_Node_add_receipt := f_Node_add_receipt, d_Node_add_receipt := d_Node_add_receipt, f_Node_items_without_receipt := f_Node_items_without_receipt, d_Node_items_without_receipt := d_Node_items_without_receipt, f_Node_owe := f_Node_owe, d_Node_owe := d_Node_owe, f_Node_offices_owed := f_Node_offices_owed, d_Node_offices_owed := d_Node_offices_owed, f_Node_items_owed := f_Node_items_owed, d_Node_items_owed := d_Node_items_owed, f_Session_init := f_Session_init, d_Session_init := d_Session_init, f_Session_check_node := f_Session_check_node, d_Session_check_node := d_Session_check_node, f_Session_check_office := f_Session_check_office, d_Session_check_office := d_Session_check_office, f_Session_check_centre := f_Session_check_centre, d_Session_check_centre := d_Session_check_centre, f_Session_centres := f_Session_centres, d_Session_centres := d_Session_centres, f_Session_node_with_power := f_Session_node_with_power, d_Session_node_with_power := d_Session_node_with_power, f_Session_other_centre := f_Session_other_centre, d_Session_other_centre := d_Session_other_centre, f_Session_message_under_way := f_Session_message_under_way, d_Session_message_under_way := d_Session_message_under_way, f_Session_check_room := f_Session_check_room, d_Session_check_room := d_Session_check_room, f_Session_send_off := f_Session_send_off, d_Session_send_off := d_Session_send_off, f_Line_init := f_Line_init, d_Line_init := d_Line_init, f_Line_answer_call := f_Line_answer_call, d_Line_answer_call := d_Line_answer_call, f_Line_follow := f_Line_follow, d_Line_follow := d_Line_follow, f_answers := f_answers, d_answers := d_answers, tb_TELLING := tb_TELLING, tb_CALLS := tb_CALLS, tb_HOW_MANY_NUMBERS := tb_HOW_MANY_NUMBERS }, BT, ?_⟩
  exact {
    F_check_range := F_check_range,
    b_check_range := B_check_range,
    g_check_range := PySem.W.mg_of X G a_check_range,
    F_make_item := F_make_item,
    b_make_item := B_make_item,
    g_make_item := PySem.W.mg_of X G a_make_item,
    F_is_greater := F_is_greater,
    b_is_greater := B_is_greater,
    g_is_greater := PySem.W.mg_of X G a_is_greater,
    F_bring_into := F_bring_into,
    b_bring_into := B_bring_into,
    g_bring_into := PySem.W.mg_of X G a_bring_into,
    F_items_of := F_items_of,
    b_items_of := B_items_of,
    g_items_of := PySem.W.mg_of X G a_items_of,
    F_news_for := F_news_for,
    b_news_for := B_news_for,
    g_news_for := PySem.W.mg_of X G a_news_for,
    F_numbers_of := F_numbers_of,
    b_numbers_of := B_numbers_of,
    g_numbers_of := PySem.W.mg_of X G a_numbers_of,
    F_Message_init := F_Message_init,
    b_Message_init := B_Message_init,
    F_keep_memory := F_keep_memory,
    b_keep_memory := B_keep_memory,
    g_keep_memory := PySem.W.mg_of X G a_keep_memory,
    F_send_forms := F_send_forms,
    b_send_forms := B_send_forms,
    g_send_forms := PySem.W.mg_of X G a_send_forms,
    F_send_summary := F_send_summary,
    b_send_summary := B_send_summary,
    g_send_summary := PySem.W.mg_of X G a_send_summary,
    F_let_come := F_let_come,
    b_let_come := B_let_come,
    g_let_come := PySem.W.mg_of X G a_let_come,
    F_note_receipts := F_note_receipts,
    b_note_receipts := B_note_receipts,
    g_note_receipts := PySem.W.mg_of X G a_note_receipts,
    F_send_back := F_send_back,
    b_send_back := B_send_back,
    g_send_back := PySem.W.mg_of X G a_send_back,
    F_settle_all := F_settle_all,
    b_settle_all := B_settle_all,
    g_settle_all := PySem.W.mg_of X G a_settle_all,
    F_bring_forms := F_bring_forms,
    b_bring_forms := B_bring_forms,
    g_bring_forms := PySem.W.mg_of X G a_bring_forms,
    F_keep_and_acknowledge := F_keep_and_acknowledge,
    b_keep_and_acknowledge := B_keep_and_acknowledge,
    g_keep_and_acknowledge := PySem.W.mg_of X G a_keep_and_acknowledge,
    F_ask_and_fill := F_ask_and_fill,
    b_ask_and_fill := B_ask_and_fill,
    g_ask_and_fill := PySem.W.mg_of X G a_ask_and_fill,
    F_memory := F_memory,
    b_memory := B_memory,
    g_memory := PySem.W.mg_of X G a_memory,
    F_disk := F_disk,
    b_disk := B_disk,
    g_disk := PySem.W.mg_of X G a_disk,
    F_receipts := F_receipts,
    b_receipts := B_receipts,
    g_receipts := PySem.W.mg_of X G a_receipts,
    F_flight := F_flight,
    b_flight := B_flight,
    g_flight := PySem.W.mg_of X G a_flight,
    F_message := F_message,
    b_message := B_message,
    g_message := PySem.W.mg_of X G a_message,
    F_acknowledged := F_acknowledged,
    b_acknowledged := B_acknowledged,
    g_acknowledged := PySem.W.mg_of X G a_acknowledged,
    F_lacks := F_lacks,
    b_lacks := B_lacks,
    g_lacks := PySem.W.mg_of X G a_lacks,
    F_even := F_even,
    b_even := B_even,
    g_even := PySem.W.mg_of X G a_even,
    F_state := F_state,
    b_state := B_state,
    g_state := PySem.W.mg_of X G a_state,
    F_owed := F_owed,
    b_owed := B_owed,
    g_owed := PySem.W.mg_of X G a_owed,
    F_taken := F_taken,
    b_taken := B_taken,
    g_taken := PySem.W.mg_of X G a_taken,
    F_numbers_of_pairs := F_numbers_of_pairs,
    b_numbers_of_pairs := B_numbers_of_pairs,
    g_numbers_of_pairs := PySem.W.mg_of X G a_numbers_of_pairs,
    F_is_even := F_is_even,
    b_is_even := B_is_even,
    g_is_even := PySem.W.mg_of X G a_is_even,
    F_tell := F_tell,
    b_tell := B_tell,
    g_tell := PySem.W.mg_of X G a_tell,
    F_take := F_take,
    b_take := B_take,
    g_take := PySem.W.mg_of X G a_take,
    F_keep := F_keep,
    b_keep := B_keep,
    g_keep := PySem.W.mg_of X G a_keep,
    F_torn := F_torn,
    b_torn := B_torn,
    g_torn := PySem.W.mg_of X G a_torn,
    F_cut := F_cut,
    b_cut := B_cut,
    g_cut := PySem.W.mg_of X G a_cut,
    F_up := F_up,
    b_up := B_up,
    g_up := PySem.W.mg_of X G a_up,
    F_send := F_send,
    b_send := B_send,
    g_send := PySem.W.mg_of X G a_send,
    F_ask := F_ask,
    b_ask := B_ask,
    g_ask := PySem.W.mg_of X G a_ask,
    F_deliver := F_deliver,
    b_deliver := B_deliver,
    g_deliver := PySem.W.mg_of X G a_deliver,
    F_lose := F_lose,
    b_lose := B_lose,
    g_lose := PySem.W.mg_of X G a_lose,
    F_double := F_double,
    b_double := B_double,
    g_double := PySem.W.mg_of X G a_double,
    F_settle := F_settle,
    b_settle := B_settle,
    g_settle := PySem.W.mg_of X G a_settle,
    F_perform := F_perform,
    b_perform := B_perform,
    g_perform := PySem.W.mg_of X G a_perform,
    F_Slot_init := F_Slot_init,
    b_Slot_init := B_Slot_init,
    F_Node_init := F_Node_init,
    b_Node_init := B_Node_init,
    F_Node_other_place := F_Node_other_place,
    b_Node_other_place := B_Node_other_place,
    m_Node_other_place := ⟨a_Node_other_place, i_Node_other_place, F_Node_other_place.kp⟩,
    F_Node_slot_read := F_Node_slot_read,
    b_Node_slot_read := B_Node_slot_read,
    m_Node_slot_read := ⟨a_Node_slot_read, i_Node_slot_read, F_Node_slot_read.kp⟩,
    F_Node_write_memory := F_Node_write_memory,
    b_Node_write_memory := B_Node_write_memory,
    m_Node_write_memory := ⟨a_Node_write_memory, i_Node_write_memory, F_Node_write_memory.kp⟩,
    F_Node_spoil_other := F_Node_spoil_other,
    b_Node_spoil_other := B_Node_spoil_other,
    m_Node_spoil_other := ⟨a_Node_spoil_other, i_Node_spoil_other, F_Node_spoil_other.kp⟩,
    F_Node_lose_power := F_Node_lose_power,
    b_Node_lose_power := B_Node_lose_power,
    m_Node_lose_power := ⟨a_Node_lose_power, i_Node_lose_power, F_Node_lose_power.kp⟩,
    F_Node_gain_power := F_Node_gain_power,
    b_Node_gain_power := B_Node_gain_power,
    m_Node_gain_power := ⟨a_Node_gain_power, i_Node_gain_power, F_Node_gain_power.kp⟩,
    F_Node_holds := F_Node_holds,
    b_Node_holds := B_Node_holds,
    m_Node_holds := ⟨a_Node_holds, i_Node_holds, F_Node_holds.kp⟩,
    F_Node_take_in := F_Node_take_in,
    b_Node_take_in := B_Node_take_in,
    m_Node_take_in := ⟨a_Node_take_in, i_Node_take_in, F_Node_take_in.kp⟩,
    F_Node_add_receipt := F_Node_add_receipt,
    b_Node_add_receipt := B_Node_add_receipt,
    m_Node_add_receipt := ⟨a_Node_add_receipt, i_Node_add_receipt, F_Node_add_receipt.kp⟩,
    F_Node_items_without_receipt := F_Node_items_without_receipt,
    b_Node_items_without_receipt := B_Node_items_without_receipt,
    m_Node_items_without_receipt := ⟨a_Node_items_without_receipt, i_Node_items_without_receipt, F_Node_items_without_receipt.kp⟩,
    F_Node_owe := F_Node_owe,
    b_Node_owe := B_Node_owe,
    m_Node_owe := ⟨a_Node_owe, i_Node_owe, F_Node_owe.kp⟩,
    F_Node_offices_owed := F_Node_offices_owed,
    b_Node_offices_owed := B_Node_offices_owed,
    m_Node_offices_owed := ⟨a_Node_offices_owed, i_Node_offices_owed, F_Node_offices_owed.kp⟩,
    F_Node_items_owed := F_Node_items_owed,
    b_Node_items_owed := B_Node_items_owed,
    m_Node_items_owed := ⟨a_Node_items_owed, i_Node_items_owed, F_Node_items_owed.kp⟩,
    F_Session_init := F_Session_init,
    b_Session_init := B_Session_init,
    F_Session_check_node := F_Session_check_node,
    b_Session_check_node := B_Session_check_node,
    m_Session_check_node := ⟨a_Session_check_node, i_Session_check_node, F_Session_check_node.kp⟩,
    F_Session_check_office := F_Session_check_office,
    b_Session_check_office := B_Session_check_office,
    m_Session_check_office := ⟨a_Session_check_office, i_Session_check_office, F_Session_check_office.kp⟩,
    F_Session_check_centre := F_Session_check_centre,
    b_Session_check_centre := B_Session_check_centre,
    m_Session_check_centre := ⟨a_Session_check_centre, i_Session_check_centre, F_Session_check_centre.kp⟩,
    F_Session_centres := F_Session_centres,
    b_Session_centres := B_Session_centres,
    m_Session_centres := ⟨a_Session_centres, i_Session_centres, F_Session_centres.kp⟩,
    F_Session_node_with_power := F_Session_node_with_power,
    b_Session_node_with_power := B_Session_node_with_power,
    m_Session_node_with_power := ⟨a_Session_node_with_power, i_Session_node_with_power, F_Session_node_with_power.kp⟩,
    F_Session_other_centre := F_Session_other_centre,
    b_Session_other_centre := B_Session_other_centre,
    m_Session_other_centre := ⟨a_Session_other_centre, i_Session_other_centre, F_Session_other_centre.kp⟩,
    F_Session_message_under_way := F_Session_message_under_way,
    b_Session_message_under_way := B_Session_message_under_way,
    m_Session_message_under_way := ⟨a_Session_message_under_way, i_Session_message_under_way, F_Session_message_under_way.kp⟩,
    F_Session_check_room := F_Session_check_room,
    b_Session_check_room := B_Session_check_room,
    m_Session_check_room := ⟨a_Session_check_room, i_Session_check_room, F_Session_check_room.kp⟩,
    F_Session_send_off := F_Session_send_off,
    b_Session_send_off := B_Session_send_off,
    m_Session_send_off := ⟨a_Session_send_off, i_Session_send_off, F_Session_send_off.kp⟩,
    F_Line_init := F_Line_init,
    b_Line_init := B_Line_init,
    F_Line_answer_call := F_Line_answer_call,
    b_Line_answer_call := B_Line_answer_call,
    m_Line_answer_call := ⟨a_Line_answer_call, i_Line_answer_call, F_Line_answer_call.kp⟩,
    F_Line_follow := F_Line_follow,
    b_Line_follow := B_Line_follow,
    m_Line_follow := ⟨a_Line_follow, i_Line_follow, F_Line_follow.kp⟩,
    F_answers := F_answers,
    b_answers := B_answers,
    g_answers := PySem.W.mg_of X G a_answers,
    g_Message := PySem.W.mg_of X G n_Message,
    cl_Message := ⟨cl_Message.pg, cl_Message.hd, cl_Message.po, cl_Message.sa⟩,
    M_Message := ⟨cl_Message.mi, a_Message_init, i_Message_init, cl_Message.kc⟩,
    na_Message_kind := na_Message_kind,
    na_Message_sender := na_Message_sender,
    na_Message_receiver := na_Message_receiver,
    na_Message_carried := na_Message_carried,
    g_Slot := PySem.W.mg_of X G n_Slot,
    cl_Slot := ⟨cl_Slot.pg, cl_Slot.hd, cl_Slot.po, cl_Slot.sa⟩,
    M_Slot := ⟨cl_Slot.mi, a_Slot_init, i_Slot_init, cl_Slot.kc⟩,
    na_Slot_sequence := na_Slot_sequence,
    na_Slot_book := na_Slot_book,
    na_Slot_receipts := na_Slot_receipts,
    g_Node := PySem.W.mg_of X G n_Node,
    cl_Node := ⟨cl_Node.pg, cl_Node.hd, cl_Node.po, cl_Node.sa⟩,
    M_Node := ⟨cl_Node.mi, a_Node_init, i_Node_init, cl_Node.kc⟩,
    na_Node_power := na_Node_power,
    na_Node_book := na_Node_book,
    na_Node_receipts := na_Node_receipts,
    na_Node_owed := na_Node_owed,
    na_Node_slots := na_Node_slots,
    g_Session := PySem.W.mg_of X G n_Session,
    cl_Session := ⟨cl_Session.pg, cl_Session.hd, cl_Session.po, cl_Session.sa⟩,
    M_Session := ⟨cl_Session.mi, a_Session_init, i_Session_init, cl_Session.kc⟩,
    na_Session_offices := na_Session_offices,
    na_Session_nodes := na_Session_nodes,
    na_Session_under_way := na_Session_under_way,
    na_Session_last_number := na_Session_last_number,
    na_Session_taken := na_Session_taken,
    na_Session_acknowledged := na_Session_acknowledged,
    g_Line := PySem.W.mg_of X G n_Line,
    cl_Line := ⟨cl_Line.pg, cl_Line.hd, cl_Line.po, cl_Line.sa⟩,
    M_Line := ⟨cl_Line.mi, a_Line_init, i_Line_init, cl_Line.kc⟩,
    na_Line_session := na_Line_session,
    g_NotInRange := PySem.W.mg_of X G n_NotInRange,
    x_NotInRange := e_NotInRange.x,
    k_NotInRange := e_NotInRange.k,
    b_NotInRange := e_NotInRange.b,
    t_NotInRange := e_NotInRange.t,
    e_NotInRange_NotInRange := exm_same e_NotInRange.b e_NotInRange.i e_NotInRange.t s_NotInRange_NotInRange e_NotInRange.b,
    e_NotInRange_NoPower := exm_same e_NoPower.b e_NoPower.i e_NoPower.t s_NotInRange_NoPower e_NotInRange.b,
    e_NotInRange_NothingThere := exm_same e_NothingThere.b e_NothingThere.i e_NothingThere.t s_NotInRange_NothingThere e_NotInRange.b,
    e_NotInRange_TooManyUnderWay := exm_same e_TooManyUnderWay.b e_TooManyUnderWay.i e_TooManyUnderWay.t s_NotInRange_TooManyUnderWay e_NotInRange.b,
    e_NotInRange_NotBegun := exm_same e_NotBegun.b e_NotBegun.i e_NotBegun.t s_NotInRange_NotBegun e_NotInRange.b,
    g_NoPower := PySem.W.mg_of X G n_NoPower,
    x_NoPower := e_NoPower.x,
    k_NoPower := e_NoPower.k,
    b_NoPower := e_NoPower.b,
    t_NoPower := e_NoPower.t,
    e_NoPower_NotInRange := exm_same e_NotInRange.b e_NotInRange.i e_NotInRange.t s_NoPower_NotInRange e_NoPower.b,
    e_NoPower_NoPower := exm_same e_NoPower.b e_NoPower.i e_NoPower.t s_NoPower_NoPower e_NoPower.b,
    e_NoPower_NothingThere := exm_same e_NothingThere.b e_NothingThere.i e_NothingThere.t s_NoPower_NothingThere e_NoPower.b,
    e_NoPower_TooManyUnderWay := exm_same e_TooManyUnderWay.b e_TooManyUnderWay.i e_TooManyUnderWay.t s_NoPower_TooManyUnderWay e_NoPower.b,
    e_NoPower_NotBegun := exm_same e_NotBegun.b e_NotBegun.i e_NotBegun.t s_NoPower_NotBegun e_NoPower.b,
    g_NothingThere := PySem.W.mg_of X G n_NothingThere,
    x_NothingThere := e_NothingThere.x,
    k_NothingThere := e_NothingThere.k,
    b_NothingThere := e_NothingThere.b,
    t_NothingThere := e_NothingThere.t,
    e_NothingThere_NotInRange := exm_same e_NotInRange.b e_NotInRange.i e_NotInRange.t s_NothingThere_NotInRange e_NothingThere.b,
    e_NothingThere_NoPower := exm_same e_NoPower.b e_NoPower.i e_NoPower.t s_NothingThere_NoPower e_NothingThere.b,
    e_NothingThere_NothingThere := exm_same e_NothingThere.b e_NothingThere.i e_NothingThere.t s_NothingThere_NothingThere e_NothingThere.b,
    e_NothingThere_TooManyUnderWay := exm_same e_TooManyUnderWay.b e_TooManyUnderWay.i e_TooManyUnderWay.t s_NothingThere_TooManyUnderWay e_NothingThere.b,
    e_NothingThere_NotBegun := exm_same e_NotBegun.b e_NotBegun.i e_NotBegun.t s_NothingThere_NotBegun e_NothingThere.b,
    g_TooManyUnderWay := PySem.W.mg_of X G n_TooManyUnderWay,
    x_TooManyUnderWay := e_TooManyUnderWay.x,
    k_TooManyUnderWay := e_TooManyUnderWay.k,
    b_TooManyUnderWay := e_TooManyUnderWay.b,
    t_TooManyUnderWay := e_TooManyUnderWay.t,
    e_TooManyUnderWay_NotInRange := exm_same e_NotInRange.b e_NotInRange.i e_NotInRange.t s_TooManyUnderWay_NotInRange e_TooManyUnderWay.b,
    e_TooManyUnderWay_NoPower := exm_same e_NoPower.b e_NoPower.i e_NoPower.t s_TooManyUnderWay_NoPower e_TooManyUnderWay.b,
    e_TooManyUnderWay_NothingThere := exm_same e_NothingThere.b e_NothingThere.i e_NothingThere.t s_TooManyUnderWay_NothingThere e_TooManyUnderWay.b,
    e_TooManyUnderWay_TooManyUnderWay := exm_same e_TooManyUnderWay.b e_TooManyUnderWay.i e_TooManyUnderWay.t s_TooManyUnderWay_TooManyUnderWay e_TooManyUnderWay.b,
    e_TooManyUnderWay_NotBegun := exm_same e_NotBegun.b e_NotBegun.i e_NotBegun.t s_TooManyUnderWay_NotBegun e_TooManyUnderWay.b,
    g_NotBegun := PySem.W.mg_of X G n_NotBegun,
    x_NotBegun := e_NotBegun.x,
    k_NotBegun := e_NotBegun.k,
    b_NotBegun := e_NotBegun.b,
    t_NotBegun := e_NotBegun.t,
    e_NotBegun_NotInRange := exm_same e_NotInRange.b e_NotInRange.i e_NotInRange.t s_NotBegun_NotInRange e_NotBegun.b,
    e_NotBegun_NoPower := exm_same e_NoPower.b e_NoPower.i e_NoPower.t s_NotBegun_NoPower e_NotBegun.b,
    e_NotBegun_NothingThere := exm_same e_NothingThere.b e_NothingThere.i e_NothingThere.t s_NotBegun_NothingThere e_NotBegun.b,
    e_NotBegun_TooManyUnderWay := exm_same e_TooManyUnderWay.b e_TooManyUnderWay.i e_TooManyUnderWay.t s_NotBegun_TooManyUnderWay e_NotBegun.b,
    e_NotBegun_NotBegun := exm_same e_NotBegun.b e_NotBegun.i e_NotBegun.t s_NotBegun_NotBegun e_NotBegun.b,
    c_FORMS := ⟨_, PySem.W.mg_of X G k_FORMS⟩,
    c_RECEIPT := ⟨_, PySem.W.mg_of X G k_RECEIPT⟩,
    c_SUMMARY := ⟨_, PySem.W.mg_of X G k_SUMMARY⟩,
    c_FILLING := ⟨_, PySem.W.mg_of X G k_FILLING⟩,
    c_MOST_UNDER_WAY := ⟨_, PySem.W.mg_of X G k_MOST_UNDER_WAY⟩,
    c_BEGIN := ⟨_, PySem.W.mg_of X G k_BEGIN⟩,
    t_TELLING := ⟨PySem.W.mg_of X G g_TELLING, o_TELLING, _, _, l_TELLING, r_TELLING⟩,
    t_CALLS := ⟨PySem.W.mg_of X G g_CALLS, o_CALLS, _, _, l_CALLS, r_CALLS⟩,
    t_HOW_MANY_NUMBERS := ⟨PySem.W.mg_of X G g_HOW_MANY_NUMBERS, o_HOW_MANY_NUMBERS, _, _, l_HOW_MANY_NUMBERS, r_HOW_MANY_NUMBERS⟩,
    n_dict := PySem.W.mg_none_of X G b_dict,
    n_len := PySem.W.mg_none_of X G b_len,
    n_list := PySem.W.mg_none_of X G b_list,
    n_range := PySem.W.mg_none_of X G b_range,
    n_set := PySem.W.mg_none_of X G b_set,
    n_sorted := PySem.W.mg_none_of X G b_sorted,
    n_tuple := PySem.W.mg_none_of X G b_tuple }
theorem end_mk {P : Program} {w : World} {fa : Addr} (hfa : mg "answers" = some (.ref fa)) (q : ∃ a : Ad, (∀ (s : Shared) (us : List Value), us.length = (["calls"] : List Str).length → BindsTo s a.d_answers ⟨us, []⟩ ((["calls"] : List Str).zip us)) ∧ Txt K mg a) :
    ∃ fd : FuncData, (∀ (s : Shared) (us : List Value), us.length = (["calls"] : List Str).length → BindsTo s fd ⟨us, []⟩ ((["calls"] : List Str).zip us)) ∧ ∀ base : Heap, K.In base → base.Ns mainGlobals mg → FnOk P w K mg base CX0 12 fa fd ["calls"] (sp_end K) := by
  obtain ⟨a, BT, T⟩ := q
  have e := hfa.symm.trans T.g_answers
  cases e
  exact ⟨a.d_answers, BT, fun base _ _ => (ok_answers T).imp fun vs H Q E hh => hh⟩
end
end Fo

-- FoEnd
open PySem PySem.W PyProof.Rows
set_option maxRecDepth 100000 in
set_option maxHeartbeats 0 in
theorem PySem.Challenge.cw_formoffices_s01_answers_holds : PySem.Challenge.rw_formoffices_s01_answers.Holds := by
  w_on; k_headS; (case hw => exact ⟨[.list [.int 20]], by decide +kernel, by decide +kernel⟩)
  k_fillS
  refine L2.walk_specK (r := PySem.Challenge.rw_formoffices_s01_answers) (k := 12) (CX := L2.CX0) (ps := ["calls"]) (sp := Fo.sp_end) (by decide +kernel) rfl rfl ⟨rfl, by decide, by decide⟩ (fun w h Y => PySem.W.kIn_of Y) ?F ?S (fun _ _ _ _ z => z)
  case F =>
    intro w mg fa h Y KX G hmg
    refine' Fo.end_mk hmg (Fo.txt_mk KX G ?n_Line ?n_Session ?n_Node ?n_Slot ?n_Message ?a_check_range ?q_check_range ?a_make_item ?q_make_item ?a_is_greater ?q_is_greater ?a_bring_into ?q_bring_into ?a_items_of ?q_items_of ?a_news_for ?q_news_for ?a_numbers_of ?q_numbers_of ?a_Message_init ?i_Message_init ?q_Message_init ?a_keep_memory ?q_keep_memory ?a_send_forms ?q_send_forms ?a_send_summary ?q_send_summary ?a_let_come ?q_let_come ?a_note_receipts ?q_note_receipts ?a_send_back ?q_send_back ?a_settle_all ?q_settle_all ?a_bring_forms ?q_bring_forms ?a_keep_and_acknowledge ?q_keep_and_acknowledge ?a_ask_and_fill ?q_ask_and_fill ?a_memory ?q_memory ?a_disk ?q_disk ?a_receipts ?q_receipts ?a_flight ?q_flight ?a_message ?q_message ?a_acknowledged ?q_acknowledged ?a_lacks ?q_lacks ?a_even ?q_even ?a_state ?q_state ?a_owed ?q_owed ?a_taken ?q_taken ?a_numbers_of_pairs ?q_numbers_of_pairs ?a_is_even ?q_is_even ?a_tell ?q_tell ?a_take ?q_take ?a_keep ?q_keep ?a_torn ?q_torn ?a_cut ?q_cut ?a_up ?q_up ?a_send ?q_send ?a_ask ?q_ask ?a_deliver ?q_deliver ?a_lose ?q_lose ?a_double ?q_double ?a_settle ?q_settle ?a_perform ?q_perform ?a_Slot_init ?i_Slot_init ?q_Slot_init ?a_Node_init ?i_Node_init ?q_Node_init ?a_Node_other_place ?i_Node_other_place ?q_Node_other_place ?a_Node_slot_read ?i_Node_slot_read ?q_Node_slot_read ?a_Node_write_memory ?i_Node_write_memory ?q_Node_write_memory ?a_Node_spoil_other ?i_Node_spoil_other ?q_Node_spoil_other ?a_Node_lose_power ?i_Node_lose_power ?q_Node_lose_power ?a_Node_gain_power ?i_Node_gain_power ?q_Node_gain_power ?a_Node_holds ?i_Node_holds ?q_Node_holds ?a_Node_take_in ?i_Node_take_in ?q_Node_take_in ?a_Node_add_receipt ?i_Node_add_receipt ?q_Node_add_receipt ?a_Node_items_without_receipt ?i_Node_items_without_receipt ?q_Node_items_without_receipt ?a_Node_owe ?i_Node_owe ?q_Node_owe ?a_Node_offices_owed ?i_Node_offices_owed ?q_Node_offices_owed ?a_Node_items_owed ?i_Node_items_owed ?q_Node_items_owed ?a_Session_init ?i_Session_init ?q_Session_init ?a_Session_check_node ?i_Session_check_node ?q_Session_check_node ?a_Session_check_office ?i_Session_check_office ?q_Session_check_office ?a_Session_check_centre ?i_Session_check_centre ?q_Session_check_centre ?a_Session_centres ?i_Session_centres ?q_Session_centres ?a_Session_node_with_power ?i_Session_node_with_power ?q_Session_node_with_power ?a_Session_other_centre ?i_Session_other_centre ?q_Session_other_centre ?a_Session_message_under_way ?i_Session_message_under_way ?q_Session_message_under_way ?a_Session_check_room ?i_Session_check_room ?q_Session_check_room ?a_Session_send_off ?i_Session_send_off ?q_Session_send_off ?a_Line_init ?i_Line_init ?q_Line_init ?a_Line_answer_call ?i_Line_answer_call ?q_Line_answer_call ?a_Line_follow ?i_Line_follow ?q_Line_follow ?a_answers ?q_answers ?cl_Message ?na_Message_kind ?na_Message_sender ?na_Message_receiver ?na_Message_carried ?cl_Slot ?na_Slot_sequence ?na_Slot_book ?na_Slot_receipts ?cl_Node ?na_Node_power ?na_Node_book ?na_Node_receipts ?na_Node_owed ?na_Node_slots ?cl_Session ?na_Session_offices ?na_Session_nodes ?na_Session_under_way ?na_Session_last_number ?na_Session_taken ?na_Session_acknowledged ?cl_Line ?na_Line_session ?n_NotInRange ?e_NotInRange ?n_NoPower ?e_NoPower ?n_NothingThere ?e_NothingThere ?n_TooManyUnderWay ?e_TooManyUnderWay ?n_NotBegun ?e_NotBegun ?s_NotInRange_NotInRange ?s_NotInRange_NoPower ?s_NotInRange_NothingThere ?s_NotInRange_TooManyUnderWay ?s_NotInRange_NotBegun ?s_NoPower_NotInRange ?s_NoPower_NoPower ?s_NoPower_NothingThere ?s_NoPower_TooManyUnderWay ?s_NoPower_NotBegun ?s_NothingThere_NotInRange ?s_NothingThere_NoPower ?s_NothingThere_NothingThere ?s_NothingThere_TooManyUnderWay ?s_NothingThere_NotBegun ?s_TooManyUnderWay_NotInRange ?s_TooManyUnderWay_NoPower ?s_TooManyUnderWay_NothingThere ?s_TooManyUnderWay_TooManyUnderWay ?s_TooManyUnderWay_NotBegun ?s_NotBegun_NotInRange ?s_NotBegun_NoPower ?s_NotBegun_NothingThere ?s_NotBegun_TooManyUnderWay ?s_NotBegun_NotBegun ?k_FORMS ?k_RECEIPT ?k_SUMMARY ?k_FILLING ?k_MOST_UNDER_WAY ?k_BEGIN ?g_TELLING ?o_TELLING ?l_TELLING ?r_TELLING ?g_CALLS ?o_CALLS ?l_CALLS ?r_CALLS ?g_HOW_MANY_NUMBERS ?o_HOW_MANY_NUMBERS ?l_HOW_MANY_NUMBERS ?r_HOW_MANY_NUMBERS ?b_dict ?b_len ?b_list ?b_range ?b_set ?b_sorted ?b_tuple)
    (case n_Line => k_is)
    (case n_Session => k_is)
    (case n_Node => k_is)
    (case n_Slot => k_is)
    (case n_Message => k_is)
    (case a_check_range => k_is)
    (case q_check_range => refine' Fo.fa_check_range ?l ?c ?k; (case l => k_is); (case c => k_is); (case k => k_is))
    (case a_make_item => k_is)
    (case q_make_item => refine' Fo.fa_make_item ?l ?c ?k; (case l => k_is); (case c => k_is); (case k => k_is))
    (case a_is_greater => k_is)
    (case q_is_greater => refine' Fo.fa_is_greater ?l ?c ?k; (case l => k_is); (case c => k_is); (case k => k_is))
    (case a_bring_into => k_is)
    (case q_bring_into => refine' Fo.fa_bring_into ?l ?c ?k; (case l => k_is); (case c => k_is); (case k => k_is))
    (case a_items_of => k_is)
    (case q_items_of => refine' Fo.fa_items_of ?l ?c ?k; (case l => k_is); (case c => k_is); (case k => k_is))
    (case a_news_for => k_is)
    (case q_news_for => refine' Fo.fa_news_for ?l ?c ?k; (case l => k_is); (case c => k_is); (case k => k_is))
    (case a_numbers_of => k_is)
    (case q_numbers_of => refine' Fo.fa_numbers_of ?l ?c ?k; (case l => k_is); (case c => k_is); (case k => k_is))
    (case a_Message_init => k_is)
    (case i_Message_init => k_is)
    (case q_Message_init => refine' Fo.fa_Message_init ?l ?c ?k; (case l => k_is); (case c => k_is); (case k => k_is))
    (case a_keep_memory => k_is)
    (case q_keep_memory => refine' Fo.fa_keep_memory ?l ?c ?k; (case l => k_is); (case c => k_is); (case k => k_is))
    (case a_send_forms => k_is)
    (case q_send_forms => refine' Fo.fa_send_forms ?l ?c ?k; (case l => k_is); (case c => k_is); (case k => k_is))
    (case a_send_summary => k_is)
    (case q_send_summary => refine' Fo.fa_send_summary ?l ?c ?k; (case l => k_is); (case c => k_is); (case k => k_is))
    (case a_let_come => k_is)
    (case q_let_come => refine' Fo.fa_let_come ?l ?c ?k; (case l => k_is); (case c => k_is); (case k => k_is))
    (case a_note_receipts => k_is)
    (case q_note_receipts => refine' Fo.fa_note_receipts ?l ?c ?k; (case l => k_is); (case c => k_is); (case k => k_is))
    (case a_send_back => k_is)
    (case q_send_back => refine' Fo.fa_send_back ?l ?c ?k; (case l => k_is); (case c => k_is); (case k => k_is))
    (case a_settle_all => k_is)
    (case q_settle_all => refine' Fo.fa_settle_all ?l ?c ?k; (case l => k_is); (case c => k_is); (case k => k_is))
    (case a_bring_forms => k_is)
    (case q_bring_forms => refine' Fo.fa_bring_forms ?l ?c ?k; (case l => k_is); (case c => k_is); (case k => k_is))
    (case a_keep_and_acknowledge => k_is)
    (case q_keep_and_acknowledge => refine' Fo.fa_keep_and_acknowledge ?l ?c ?k; (case l => k_is); (case c => k_is); (case k => k_is))
    (case a_ask_and_fill => k_is)
    (case q_ask_and_fill => refine' Fo.fa_ask_and_fill ?l ?c ?k; (case l => k_is); (case c => k_is); (case k => k_is))
    (case a_memory => k_is)
    (case q_memory => refine' Fo.fa_memory ?l ?c ?k; (case l => k_is); (case c => k_is); (case k => k_is))
    (case a_disk => k_is)
    (case q_disk => refine' Fo.fa_disk ?l ?c ?k; (case l => k_is); (case c => k_is); (case k => k_is))
    (case a_receipts => k_is)
    (case q_receipts => refine' Fo.fa_receipts ?l ?c ?k; (case l => k_is); (case c => k_is); (case k => k_is))
    (case a_flight => k_is)
    (case q_flight => refine' Fo.fa_flight ?l ?c ?k; (case l => k_is); (case c => k_is); (case k => k_is))
    (case a_message => k_is)
    (case q_message => refine' Fo.fa_message ?l ?c ?k; (case l => k_is); (case c => k_is); (case k => k_is))
    (case a_acknowledged => k_is)
    (case q_acknowledged => refine' Fo.fa_acknowledged ?l ?c ?k; (case l => k_is); (case c => k_is); (case k => k_is))
    (case a_lacks => k_is)
    (case q_lacks => refine' Fo.fa_lacks ?l ?c ?k; (case l => k_is); (case c => k_is); (case k => k_is))
    (case a_even => k_is)
    (case q_even => refine' Fo.fa_even ?l ?c ?k; (case l => k_is); (case c => k_is); (case k => k_is))
    (case a_state => k_is)
    (case q_state => refine' Fo.fa_state ?l ?c ?k; (case l => k_is); (case c => k_is); (case k => k_is))
    (case a_owed => k_is)
    (case q_owed => refine' Fo.fa_owed ?l ?c ?k; (case l => k_is); (case c => k_is); (case k => k_is))
    (case a_taken => k_is)
    (case q_taken => refine' Fo.fa_taken ?l ?c ?k; (case l => k_is); (case c => k_is); (case k => k_is))
    (case a_numbers_of_pairs => k_is)
    (case q_numbers_of_pairs => refine' Fo.fa_numbers_of_pairs ?l ?c ?k; (case l => k_is); (case c => k_is); (case k => k_is))
    (case a_is_even => k_is)
    (case q_is_even => refine' Fo.fa_is_even ?l ?c ?k; (case l => k_is); (case c => k_is); (case k => k_is))
    (case a_tell => k_is)
    (case q_tell => refine' Fo.fa_tell ?l ?c ?k; (case l => k_is); (case c => k_is); (case k => k_is))
    (case a_take => k_is)
    (case q_take => refine' Fo.fa_take ?l ?c ?k; (case l => k_is); (case c => k_is); (case k => k_is))
    (case a_keep => k_is)
    (case q_keep => refine' Fo.fa_keep ?l ?c ?k; (case l => k_is); (case c => k_is); (case k => k_is))
    (case a_torn => k_is)
    (case q_torn => refine' Fo.fa_torn ?l ?c ?k; (case l => k_is); (case c => k_is); (case k => k_is))
    (case a_cut => k_is)
    (case q_cut => refine' Fo.fa_cut ?l ?c ?k; (case l => k_is); (case c => k_is); (case k => k_is))
    (case a_up => k_is)
    (case q_up => refine' Fo.fa_up ?l ?c ?k; (case l => k_is); (case c => k_is); (case k => k_is))
    (case a_send => k_is)
    (case q_send => refine' Fo.fa_send ?l ?c ?k; (case l => k_is); (case c => k_is); (case k => k_is))
    (case a_ask => k_is)
    (case q_ask => refine' Fo.fa_ask ?l ?c ?k; (case l => k_is); (case c => k_is); (case k => k_is))
    (case a_deliver => k_is)
    (case q_deliver => refine' Fo.fa_deliver ?l ?c ?k; (case l => k_is); (case c => k_is); (case k => k_is))
    (case a_lose => k_is)
    (case q_lose => refine' Fo.fa_lose ?l ?c ?k; (case l => k_is); (case c => k_is); (case k => k_is))
    (case a_double => k_is)
    (case q_double => refine' Fo.fa_double ?l ?c ?k; (case l => k_is); (case c => k_is); (case k => k_is))
    (case a_settle => k_is)
    (case q_settle => refine' Fo.fa_settle ?l ?c ?k; (case l => k_is); (case c => k_is); (case k => k_is))
    (case a_perform => k_is)
    (case q_perform => refine' Fo.fa_perform ?l ?c ?k; (case l => k_is); (case c => k_is); (case k => k_is))
    (case a_Slot_init => k_is)
    (case i_Slot_init => k_is)
    (case q_Slot_init => refine' Fo.fa_Slot_init ?l ?c ?k; (case l => k_is); (case c => k_is); (case k => k_is))
    (case a_Node_init => k_is)
    (case i_Node_init => k_is)
    (case q_Node_init => refine' Fo.fa_Node_init ?l ?c ?k; (case l => k_is); (case c => k_is); (case k => k_is))
    (case a_Node_other_place => k_is)
    (case i_Node_other_place => k_is)
    (case q_Node_other_place => refine' Fo.fa_Node_other_place ?l ?c ?k; (case l => k_is); (case c => k_is); (case k => k_is))
    (case a_Node_slot_read => k_is)
    (case i_Node_slot_read => k_is)
    (case q_Node_slot_read => refine' Fo.fa_Node_slot_read ?l ?c ?k; (case l => k_is); (case c => k_is); (case k => k_is))
    (case a_Node_write_memory => k_is)
    (case i_Node_write_memory => k_is)
    (case q_Node_write_memory => refine' Fo.fa_Node_write_memory ?l ?c ?k; (case l => k_is); (case c => k_is); (case k => k_is))
    (case a_Node_spoil_other => k_is)
    (case i_Node_spoil_other => k_is)
    (case q_Node_spoil_other => refine' Fo.fa_Node_spoil_other ?l ?c ?k; (case l => k_is); (case c => k_is); (case k => k_is))
    (case a_Node_lose_power => k_is)
    (case i_Node_lose_power => k_is)
    (case q_Node_lose_power => refine' Fo.fa_Node_lose_power ?l ?c ?k; (case l => k_is); (case c => k_is); (case k => k_is))
    (case a_Node_gain_power => k_is)
    (case i_Node_gain_power => k_is)
    (case q_Node_gain_power => refine' Fo.fa_Node_gain_power ?l ?c ?k; (case l => k_is); (case c => k_is); (case k => k_is))
    (case a_Node_holds => k_is)
    (case i_Node_holds => k_is)
    (case q_Node_holds => refine' Fo.fa_Node_holds ?l ?c ?k; (case l => k_is); (case c => k_is); (case k => k_is))
    (case a_Node_take_in => k_is)
    (case i_Node_take_in => k_is)
    (case q_Node_take_in => refine' Fo.fa_Node_take_in ?l ?c ?k; (case l => k_is); (case c => k_is); (case k => k_is))
    (case a_Node_add_receipt => k_is)
    (case i_Node_add_receipt => k_is)
    (case q_Node_add_receipt => refine' Fo.fa_Node_add_receipt ?l ?c ?k; (case l => k_is); (case c => k_is); (case k => k_is))
    (case a_Node_items_without_receipt => k_is)
    (case i_Node_items_without_receipt => k_is)
    (case q_Node_items_without_receipt => refine' Fo.fa_Node_items_without_receipt ?l ?c ?k; (case l => k_is); (case c => k_is); (case k => k_is))
    (case a_Node_owe => k_is)
    (case i_Node_owe => k_is)
    (case q_Node_owe => refine' Fo.fa_Node_owe ?l ?c ?k; (case l => k_is); (case c => k_is); (case k => k_is))
    (case a_Node_offices_owed => k_is)
    (case i_Node_offices_owed => k_is)
    (case q_Node_offices_owed => refine' Fo.fa_Node_offices_owed ?l ?c ?k; (case l => k_is); (case c => k_is); (case k => k_is))
    (case a_Node_items_owed => k_is)
    (case i_Node_items_owed => k_is)
    (case q_Node_items_owed => refine' Fo.fa_Node_items_owed ?l ?c ?k; (case l => k_is); (case c => k_is); (case k => k_is))
    (case a_Session_init => k_is)
    (case i_Session_init => k_is)
    (case q_Session_init => refine' Fo.fa_Session_init ?l ?c ?k; (case l => k_is); (case c => k_is); (case k => k_is))
    (case a_Session_check_node => k_is)
    (case i_Session_check_node => k_is)
    (case q_Session_check_node => refine' Fo.fa_Session_check_node ?l ?c ?k; (case l => k_is); (case c => k_is); (case k => k_is))
    (case a_Session_check_office => k_is)
    (case i_Session_check_office => k_is)
    (case q_Session_check_office => refine' Fo.fa_Session_check_office ?l ?c ?k; (case l => k_is); (case c => k_is); (case k => k_is))
    (case a_Session_check_centre => k_is)
    (case i_Session_check_centre => k_is)
    (case q_Session_check_centre => refine' Fo.fa_Session_check_centre ?l ?c ?k; (case l => k_is); (case c => k_is); (case k => k_is))
    (case a_Session_centres => k_is)
    (case i_Session_centres => k_is)
    (case q_Session_centres => refine' Fo.fa_Session_centres ?l ?c ?k; (case l => k_is); (case c => k_is); (case k => k_is))
    (case a_Session_node_with_power => k_is)
    (case i_Session_node_with_power => k_is)
    (case q_Session_node_with_power => refine' Fo.fa_Session_node_with_power ?l ?c ?k; (case l => k_is); (case c => k_is); (case k => k_is))
    (case a_Session_other_centre => k_is)
    (case i_Session_other_centre => k_is)
    (case q_Session_other_centre => refine' Fo.fa_Session_other_centre ?l ?c ?k; (case l => k_is); (case c => k_is); (case k => k_is))
    (case a_Session_message_under_way => k_is)
    (case i_Session_message_under_way => k_is)
    (case q_Session_message_under_way => refine' Fo.fa_Session_message_under_way ?l ?c ?k; (case l => k_is); (case c => k_is); (case k => k_is))
    (case a_Session_check_room => k_is)
    (case i_Session_check_room => k_is)
    (case q_Session_check_room => refine' Fo.fa_Session_check_room ?l ?c ?k; (case l => k_is); (case c => k_is); (case k => k_is))
    (case a_Session_send_off => k_is)
    (case i_Session_send_off => k_is)
    (case q_Session_send_off => refine' Fo.fa_Session_send_off ?l ?c ?k; (case l => k_is); (case c => k_is); (case k => k_is))
    (case a_Line_init => k_is)
    (case i_Line_init => k_is)
    (case q_Line_init => refine' Fo.fa_Line_init ?l ?c ?k; (case l => k_is); (case c => k_is); (case k => k_is))
    (case a_Line_answer_call => k_is)
    (case i_Line_answer_call => k_is)
    (case q_Line_answer_call => refine' Fo.fa_Line_answer_call ?l ?c ?k; (case l => k_is); (case c => k_is); (case k => k_is))
    (case a_Line_follow => k_is)
    (case i_Line_follow => k_is)
    (case q_Line_follow => refine' Fo.fa_Line_follow ?l ?c ?k; (case l => k_is); (case c => k_is); (case k => k_is))
    (case a_answers => k_is)
    (case q_answers => refine' Fo.ft_answers ?l ?c ?k; (case l => k_is); (case c => k_is); (case k => k_is))
    (case cl_Message => refine' ⟨?p1, ?p2, ?p3, ?p4, ?p5, ?p6⟩; (case p1 => k_is); (case p2 => k_is); (case p3 => k_is); (case p4 => k_is); (case p5 => k_is); (case p6 => k_is))
    (case na_Message_kind => k_is)
    (case na_Message_sender => k_is)
    (case na_Message_receiver => k_is)
    (case na_Message_carried => k_is)
    (case cl_Slot => refine' ⟨?p1, ?p2, ?p3, ?p4, ?p5, ?p6⟩; (case p1 => k_is); (case p2 => k_is); (case p3 => k_is); (case p4 => k_is); (case p5 => k_is); (case p6 => k_is))
    (case na_Slot_sequence => k_is)
    (case na_Slot_book => k_is)
    (case na_Slot_receipts => k_is)
    (case cl_Node => refine' ⟨?p1, ?p2, ?p3, ?p4, ?p5, ?p6⟩; (case p1 => k_is); (case p2 => k_is); (case p3 => k_is); (case p4 => k_is); (case p5 => k_is); (case p6 => k_is))
    (case na_Node_power => k_is)
    (case na_Node_book => k_is)
    (case na_Node_receipts => k_is)
    (case na_Node_owed => k_is)
    (case na_Node_slots => k_is)
    (case cl_Session => refine' ⟨?p1, ?p2, ?p3, ?p4, ?p5, ?p6⟩; (case p1 => k_is); (case p2 => k_is); (case p3 => k_is); (case p4 => k_is); (case p5 => k_is); (case p6 => k_is))
    (case na_Session_offices => k_is)
    (case na_Session_nodes => k_is)
    (case na_Session_under_way => k_is)
    (case na_Session_last_number => k_is)
    (case na_Session_taken => k_is)
    (case na_Session_acknowledged => k_is)
    (case cl_Line => refine' ⟨?p1, ?p2, ?p3, ?p4, ?p5, ?p6⟩; (case p1 => k_is); (case p2 => k_is); (case p3 => k_is); (case p4 => k_is); (case p5 => k_is); (case p6 => k_is))
    (case na_Line_session => k_is)
    (case n_NotInRange => k_is)
    (case e_NotInRange => refine' ⟨?p1, ?p2, ?p3, ?p4, ?p5⟩; (case p1 => k_exc); (case p2 => k_is); (case p3 => k_is); (case p4 => k_is); (case p5 => k_is))
    (case n_NoPower => k_is)
    (case e_NoPower => refine' ⟨?p1, ?p2, ?p3, ?p4, ?p5⟩; (case p1 => k_exc); (case p2 => k_is); (case p3 => k_is); (case p4 => k_is); (case p5 => k_is))
    (case n_NothingThere => k_is)
    (case e_NothingThere => refine' ⟨?p1, ?p2, ?p3, ?p4, ?p5⟩; (case p1 => k_exc); (case p2 => k_is); (case p3 => k_is); (case p4 => k_is); (case p5 => k_is))
    (case n_TooManyUnderWay => k_is)
    (case e_TooManyUnderWay => refine' ⟨?p1, ?p2, ?p3, ?p4, ?p5⟩; (case p1 => k_exc); (case p2 => k_is); (case p3 => k_is); (case p4 => k_is); (case p5 => k_is))
    (case n_NotBegun => k_is)
    (case e_NotBegun => refine' ⟨?p1, ?p2, ?p3, ?p4, ?p5⟩; (case p1 => k_exc); (case p2 => k_is); (case p3 => k_is); (case p4 => k_is); (case p5 => k_is))
    (case s_NotInRange_NotInRange => first | rfl | k_is)
    (case s_NotInRange_NoPower => first | rfl | k_is)
    (case s_NotInRange_NothingThere => first | rfl | k_is)
    (case s_NotInRange_TooManyUnderWay => first | rfl | k_is)
    (case s_NotInRange_NotBegun => first | rfl | k_is)
    (case s_NoPower_NotInRange => first | rfl | k_is)
    (case s_NoPower_NoPower => first | rfl | k_is)
    (case s_NoPower_NothingThere => first | rfl | k_is)
    (case s_NoPower_TooManyUnderWay => first | rfl | k_is)
    (case s_NoPower_NotBegun => first | rfl | k_is)
    (case s_NothingThere_NotInRange => first | rfl | k_is)
    (case s_NothingThere_NoPower => first | rfl | k_is)
    (case s_NothingThere_NothingThere => first | rfl | k_is)
    (case s_NothingThere_TooManyUnderWay => first | rfl | k_is)
    (case s_NothingThere_NotBegun => first | rfl | k_is)
    (case s_TooManyUnderWay_NotInRange => first | rfl | k_is)
    (case s_TooManyUnderWay_NoPower => first | rfl | k_is)
    (case s_TooManyUnderWay_NothingThere => first | rfl | k_is)
    (case s_TooManyUnderWay_TooManyUnderWay => first | rfl | k_is)
    (case s_TooManyUnderWay_NotBegun => first | rfl | k_is)
    (case s_NotBegun_NotInRange => first | rfl | k_is)
    (case s_NotBegun_NoPower => first | rfl | k_is)
    (case s_NotBegun_NothingThere => first | rfl | k_is)
    (case s_NotBegun_TooManyUnderWay => first | rfl | k_is)
    (case s_NotBegun_NotBegun => first | rfl | k_is)
    (case k_FORMS => k_is)
    (case k_RECEIPT => k_is)
    (case k_SUMMARY => k_is)
    (case k_FILLING => k_is)
    (case k_MOST_UNDER_WAY => k_is)
    (case k_BEGIN => k_is)
    (case g_TELLING => k_is)
    (case o_TELLING => first | rfl | decide | k_is)
    (case l_TELLING => k_is)
    (case r_TELLING => rfl)
    (case g_CALLS => k_is)
    (case o_CALLS => first | rfl | decide | k_is)
    (case l_CALLS => k_is)
    (case r_CALLS => rfl)
    (case g_HOW_MANY_NUMBERS => k_is)
    (case o_HOW_MANY_NUMBERS => first | rfl | decide | k_is)
    (case l_HOW_MANY_NUMBERS => k_is)
    (case r_HOW_MANY_NUMBERS => rfl)
    (case b_dict => k_is)
    (case b_len => k_is)
    (case b_list => k_is)
    (case b_range => k_is)
    (case b_set => k_is)
    (case b_sorted => k_is)
    (case b_tuple => k_is)
  case S =>
    intro K H xs a hO hwi hask hx
    cases hx with
    | cons h1 h2 =>
      cases h2
      cases h1 with
      | lst hs ha =>
        have e := L2.ints_dw a.1 _ ha
        subst e
        obtain ⟨raw, A⟩ := Fo.asked_of (l := a.1) hask
        exact ⟨_, a.1, raw, rfl, hs, A, A.top, fun H' p hp => .lst (L2.SqL.of hp) (L2.dw_ints _)⟩
