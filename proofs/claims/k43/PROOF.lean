import PyProof.Rows.All
import Wide.All
import OpenK.AllK
import Wide.FinOn
import HandS.ForMost
import HandS.TupSets
import KE.SortData
import HandS.Walk
import HandS.Zip
import HandS.Flow
import HandS.Evl
import HandS.IsInst
import HandS.Strs
import HandS.Lambda
import HandS.SortInts
import HandS.TupAny
import HandS.Conv
import HandS.More
import PyProof.TypeEq
import KE.GoesMore
import PyProof.Draws
import PyProof.EnumMake
import HandS.SetFor
import HandS.DictComp
import HandS.Style
import HandS.WordsExc
import HandS.ExcOwn
import HandS.SetBool
import HandS.SortKw
import KE.DatumOrd
import HandS.Nested
import HandS.EndTab
import HandS.HeadWalk
import KE.GoesEnumKw
import HandS.Deep
import HandS.TryOnly
import HandS.ExcIs
import HandS.ExcField
import HandS.ExcInit
import PyProof.DictMoreH
import HandS.DictTup
import HandS.Star
import HandS.WideBits
import KE.DataMinKey
import HandS.HotCalls
import HandS.TupMul
import PyProof.ListMulRight
import HandS.Text
import HandS.FStr
import HandS.StrMore
import HandS.Replace
import HandS.ReplaceList
import HandS.ReplaceLit
import HandS.Rev
import HandS.Sort
import HandS.RevRange
import KE.GoesZip
import PyProof.DictRoads
import HandS.List
import PySem.Challenge.RW_rebut_k43_reduced_polynomials
set_option Elab.async false
set_option linter.all false
set_option maxRecDepth 100000
set_option maxHeartbeats 4000000

/-! sorting of tuples that may be empty -/
namespace PySem.SeqAt
open PySem PySem.W PySem.Calls PyProof.Rows
variable {A : Around} {s : Shared}
theorem call_tuple_lt {prog : Program} {w : World} {E : Value → Shared → Prop} {Q : Value → Shared → Prop} {l b : Addr} {items items2 : Array Value} {e r : Nat → Bool} (hl : s.heap.IsTuple l items) (hb : s.heap.IsTuple b items2)
    (he : ∀ j (h1 : j < items.size) (h2 : j < items2.size), EqAt A.in1 s items[j] items2[j] (e j)) (hr : ∀ j (h1 : j < items.size) (h2 : j < items2.size), e j = false → RcLt A.in1 s items[j] items2[j] (r j))
    (h : Q (.bool (firstLt e r (decide (items.size < items2.size)) (List.range (min items.size items2.size)))) s) : wpAny (model prog w) A (call (.builtin "tuple.__lt__") [.ref l, .ref b]) Q E s := by
  obtain ⟨⟨cls, dd, data, sl⟩, ho, hc, n, hd⟩ := id hl
  obtain ⟨⟨cls2, dd2, data2, sl2⟩, ho2, hc2, n2, hd2⟩ := id hb
  simp only at hc hd hc2 hd2
  subst hc hd hc2 hd2
  exact call_meets F.slot_tuple_lt ⟨_, ho, rfl⟩ F.entry_tuple_lt (F.args_tuple_lt_2 _ _) (tuple_ltAt l b items items2 n n2 dd dd2 sl sl2 e r) ⟨ho, ho2, he, hr, h⟩
end PySem.SeqAt

namespace Vx
open PySem PySem.W PySem.Calls PyProof.Rows PySem.SeqAt

section
variable {prog : Program} {w : World} {A : Around} {E : Value → Shared → Prop} {s : Shared}

theorem oneLt_tup {f : Bool} {xs ys : List PyData} {a b : Value} {as bs : List Addr} {Q : Bool → Shared → Prop} (ra : Reads s.heap a (.tuple xs) as) (rb : Reads s.heap b (.tuple ys) bs) (h : alike (.tuple xs) (.tuple ys) = true)
    (hu : A.units + min (PyData.tuple xs).depth (PyData.tuple ys).depth < cLine) (hq : Q (dataLt (.tuple xs) (.tuple ys)) s) : wpAny (model prog w) A (oneLt' f a b) Q E s := by
  cases f with
  | false => exact oneLt_alike (fun e => absurd e Bool.false_ne_true) ra rb h (fun q => nomatch q) hu hq
  | true =>
    have hal : alikeAll xs ys = true := by simpa [alike] using h
    cases ra with
    | @tuple l o vs n _ as₁ h1 h2 h3 h4 =>
      cases rb with
      | @tuple l' o' vs' n' _ bs₁ k1 k2 k3 k4 =>
        have n1 : vs.size = xs.length := by simpa using ReadsAll.length _ _ _ h4
        have n2 : vs'.size = ys.length := by simpa using ReadsAll.length _ _ _ k4
        rw [dataLt_tuple, ← firstLt_toks xs ys hal, ← n1, ← n2] at hq
        rw [oneLt'_eq]
        simp only [if_true]
        refine wpAny_bind (wpAny_cRoomFor (room_here hu) ?_)
        refine wpAny_bind (wpAny_callSpecialIfBound?_slot (T := "tuple") ⟨_, h1, h2⟩ F.slot_tuple_lt (call_tuple_lt (e := pairEq xs ys) (r := fun j => dataLt (xs.getD j .none) (ys.getD j .none)) ⟨_, h1, h2, _, h3⟩ ⟨_, k1, k2, _, k3⟩ (fun j j1 j2 => ?_) (fun j j1 j2 hj => ?_) ?_))
        · have := eqAt_alikeAll xs ys A.in1 s vs.toList vs'.toList _ _ h4 k4 hal (room_in hu) j (by simpa using j1) (by simpa using j2)
          simpa using this
        · have := rcLt_alikeAll xs ys A.in1 s vs.toList vs'.toList _ _ h4 k4 hal (room_in hu) j (by simpa using j1) (by simpa using j2) hj
          simpa using this
        · exact wpAny_truthy_bool hq

/-- what the first items are: none of an empty tuple -/
inductive Firsts (h : Heap) : List Value → List (Option Value) → Prop
  | nil : Firsts h [] []
  | cons {a : Addr} {o : Obj} {xs : Array Value} {n : Nat} {f : Option Value} {vs : List Value} {fs : List (Option Value)} : h.get? a = some o → o.cls = .type "tuple" → o.data = .seq xs n → xs[0]? = f → Firsts h vs fs → Firsts h (.ref a :: vs) (f :: fs)

theorem firsts_run {M : Model} : ∀ {vs : List Value} {fs : List (Option Value)} {Q : List (Option Value) → Shared → Prop}, Firsts s.heap vs fs → Q fs s → wpAny M A (vs.mapM firstOfTuple') Q E s
  | _, _, _, .nil, h => by rw [List.mapM_nil]; exact wpAny_pure h
  | _, _, Q, .cons (a := a) (o := o) (xs := xs) (f := f) (vs := vs) (fs := fs) ho hc hd hf t, h => by
    rw [List.mapM_cons]
    refine wpAny_bind ?_
    rw [kas_first_eq]
    refine wpAny_bind (Looks.here (show Looks M s.heap (typeOf (.ref a)) o.cls from (Looks.ld ho).andThen .now) ?_)
    rw [hc, if_neg (by first | decide | simp)]
    refine wpAny_bind (listItems_at ho hd (wpAny_pure ?_))
    rw [hf]
    exact wpAny_bind (firsts_run (Q := fun bs s' => wpAny M A (pure (f :: bs)) Q E s') t (wpAny_pure h))

/-- tuples of which one is empty: the general kind, or that of one type -/
theorem kind_mixed {M : Model} {vs : List Value} {fs : List (Option Value)} {Q : SortKind → Shared → Prop} (t : Firsts s.heap vs fs) (hn : none ∈ fs) (hT : ∀ v ∈ vs, Looks M s.heap (typeOf v) (Value.type "tuple"))
    (h1 : ∀ f, fs.head? = some (some f) → Q general' s) (h2 : fs.head? = some none → Q oneType' s) : wpAny M A (keyKind' vs.toArray) Q E s := by
  rw [kat_kind_eq, List.mapM_toArray, map_eq_pure_bind]
  refine wpAny_bind (wpAny_bind (firsts_run t (wpAny_pure ?_)))
  have hall : ¬ (fs.toArray.all fun x => x.isSome) = true := by
    simp only [List.all_toArray, List.all_eq_true]
    intro q
    exact absurd (q none hn) (by simp)
  rw [if_neg hall]
  cases fs with
  | nil => cases hn
  | cons x r =>
    cases x with
    | some f =>
      rw [if_pos (by simp)]
      exact wpAny_pure (h1 f rfl)
    | none =>
      rw [if_neg (by simp)]
      rw [oneTypeOnly'_eq, List.mapM_toArray, map_eq_pure_bind]
      refine wpAny_bind (wpAny_bind (wpAny_bind (kas_mapM (r := Value.type "tuple") _ (fun v hv Q' hq => (hT v hv).here hq) (wpAny_pure ?_))))
      cases t with
      | cons ho hc hd hf t' =>
        rename_i a o xs n vs'
        have hall2 : ((List.map (fun _ => Value.type "tuple") (Value.ref a :: vs')).toArray.all fun x => x == Value.type "tuple") = true := by
          simp only [List.all_toArray, List.all_map, List.all_eq_true]
          intro _ _
          rfl
        have h0 : (List.map (fun _ => Value.type "tuple") (Value.ref a :: vs')).toArray[0]? = some (Value.type "tuple") := by simp
        rw [h0]
        simp only [hall2, if_true]
        exact wpAny_pure (wpAny_pure (h2 rfl))

theorem each_firsts {h : Heap} : ∀ {vs : List Value} {ds : List PyData}, EachIs (fun v d => ∃ as, Reads h v d as) vs ds → (∀ d, d ∈ ds → ∃ xs, d = .tuple xs) → ∃ fs, Firsts h vs fs ∧ (.tuple [] ∈ ds → none ∈ fs)
  | _, _, .nil, _ => ⟨[], .nil, fun q => absurd q (by simp)⟩
  | _, _, .cons (b := d) ⟨as, r⟩ t, ht => by
    obtain ⟨fs, h1, h2⟩ := each_firsts t fun d hd => ht d (List.mem_cons_of_mem _ hd)
    obtain ⟨zs, rfl⟩ := ht d (List.mem_cons_self ..)
    cases r with
    | @tuple a o xs n _ _ ho hc hd hr =>
      refine ⟨xs[0]? :: fs, .cons ho hc hd rfl h1, fun q => ?_⟩
      rcases List.mem_cons.mp q with e | q
      · have e' : zs = [] := by injection e with e; exact e.symm
        subst e'
        have hl := ReadsAll.length _ _ _ hr
        have : xs[0]? = none := by
          rw [Array.getElem?_eq_none_iff]
          have : xs.toList.length = 0 := hl
          simpa using this
        rw [this]
        exact List.mem_cons_self ..
      · exact List.mem_cons_of_mem _ (h2 q)

/-- all are tuples, or none is a tuple or None -/
def SortableT (ds : List PyData) : Prop := (∀ d, d ∈ ds → ∃ xs, d = .tuple xs) ∨ ∀ d, d ∈ ds → d ≠ .none ∧ ∀ xs, d ≠ .tuple xs

theorem sortsAtT {vs : List Value} {ds : List PyData} (e : EachIs (fun v d => ∃ as, Reads s.heap v d as) vs ds) (hal : AllAlike ds) (hk : SortableT ds) (hu : ∀ d, d ∈ ds → A.units + d.depth < cLine) : SortsAt prog w A s (dataKind s.heap ds) vs := by
  rcases hk with ht | hn
  · by_cases he : .tuple [] ∈ ds
    · have room : ∀ {d d' : PyData}, d ∈ ds → A.units + min d.depth d'.depth < cLine := fun {d d'} hd => Nat.lt_of_le_of_lt (Nat.add_le_add_left (Nat.min_le_left _ _) _) (hu d hd)
      refine ⟨fun v hv => ?_, ?_⟩
      · obtain ⟨d, hd, as, r⟩ := e.left v hv
        exact ⟨_, dataKind_some hal hd r⟩
      obtain ⟨fs, f1, f2⟩ := each_firsts e ht
      have hT : ∀ v ∈ vs, Looks (model prog w) s.heap (typeOf v) (Value.type "tuple") := fun v hv => by
        obtain ⟨d, hd, as, r⟩ := e.left v hv
        obtain ⟨xs, rfl⟩ := ht d hd
        exact looks_reads r
      have hlt : ∀ f : Bool, ∀ (E : Value → Shared → Prop) (x y : Value) (a b : (dataKind s.heap ds).α) {Q : Bool → Shared → Prop},
          (dataKind s.heap ds).keyOf x = some a → (dataKind s.heap ds).keyOf y = some b → Q ((dataKind s.heap ds).blt a b) s → wpAny (model prog w) A (oneLt' f x y) Q E s := by
        intro f E x y a b Q ha hb hq
        obtain ⟨d, as, hd, ra, rfl⟩ := dataKind_inv ha
        obtain ⟨d', as', hd', rb, rfl⟩ := dataKind_inv hb
        obtain ⟨x1, rfl⟩ := ht d hd
        obtain ⟨x2, rfl⟩ := ht d' hd'
        exact oneLt_tup ra rb (hal _ hd _ hd') (room hd) hq
      cases fs with
      | nil => exact absurd (f2 he) (by simp)
      | cons x r =>
        cases x with
        | some f =>
          refine ⟨general', fun E x y a b Q ha hb hq => ?_, fun _ E Q hq => kind_mixed f1 (f2 he) hT (fun _ _ => hq) fun q => nomatch q⟩
          exact hlt false E x y a b ha hb hq
        | none =>
          refine ⟨oneType', fun E x y a b Q ha hb hq => ?_, fun _ E Q hq => kind_mixed f1 (f2 he) hT (fun _ q => nomatch q) fun _ => hq⟩
          rw [keyLt'_oneType]
          exact hlt true E x y a b ha hb hq
    · refine SortsAt.data e hal (.inl fun d hd => ?_) hu
      obtain ⟨xs, rfl⟩ := ht d hd
      cases xs with
      | nil => exact absurd hd he
      | cons x r => exact ⟨x, r, rfl⟩
  · exact SortsAt.data e hal (.inr hn) hu

theorem sorted_dataT {β : Type} {R : Value → β → Prop} {enc : β → PyData} {vs : List Value} {bs : List β} {l : Addr} {Q : Value → Shared → Prop} (hl : s.heap.IsList l vs.toArray) (e : EachIs R vs bs) (er : EachIs (fun v b => ∃ as, Reads s.heap v (enc b) as) vs bs) (hal : AllAlike (bs.map enc)) (hk : SortableT (bs.map enc)) (hL : bs.length ≤ sizeLine)
    (hu : ∀ b, b ∈ bs → A.units + 2 + (enc b).depth < cLine) (h : ∀ out, out.length = bs.length → EachIs R out (bs.mergeSort (dataLe false enc)) → Q (.ref (s.heap.objs.size + 1)) { s with heap := sortedAll s.heap vs (List.toArray out) }) :
    wpAny (model prog w) A (call (.builtin "sorted") [.ref l]) Q E s := by
  have er' : EachIs (fun v b => ∃ as, Reads (sortingHeap (copyHeap s.heap vs) (s.heap.objs.size + 1) vs) v (enc b) as) vs bs := er.mono fun _ _ ⟨as, r⟩ => ⟨as, PyProof.Rows.Reads.keeps (fun _ _ => sorting_copy_old) r⟩
  have hub : ∀ d, d ∈ bs.map enc → A.in1.in1.units + d.depth < cLine := fun d hd => by
    obtain ⟨b, hb, rfl⟩ := List.mem_map.mp hd
    exact hu b hb
  exact sorted_vals hl (sortsAtT (s := { s with heap := sortingHeap (copyHeap s.heap vs) (s.heap.objs.size + 1) vs }) (each_map (R := fun v d => ∃ as, Reads (sortingHeap (copyHeap s.heap vs) (s.heap.objs.size + 1) vs) v d as) enc er') hal hk hub) (by rw [e.length]; exact hL)
    (h _ (by rw [sortVals_length false rfl]; exact e.length) (sortVals_data false e er' hal))
end
end Vx

/-! what stays: all but the tables of code objects, which grow -/
namespace Vx
open PySem L2 PySem.Spec PyProof.Rows LamX
/-- the tables of code objects that are told of, each with the name of the code in it -/
class Tbs where
  l : List (Addr × Str)
  one : ∀ P q q', (P, q) ∈ l → (P, q') ∈ l → q = q'
instance (priority := 1) ttNone : Tbs := ⟨[], fun _ _ _ h => nomatch h⟩
variable [Tbs]
theorem heapAt : ∀ n : Nat, ∃ h : Heap, h.objs.size = n
  | 0 => ⟨{ objs := #[] }, rfl⟩
  | n + 1 => by
    obtain ⟨h, e⟩ := heapAt n
    exact ⟨h.push { cls := .none, data := .plain }, by rw [Heap.size_push, e]⟩
theorem codeO_holds (c : Addr) (q : Str) : ∃ (h : Heap) (oc : Obj) (vs : Array Value), h.get? c = some oc ∧ oc.data = .fields vs ∧ (∃ p, CodeO c q = .ext p ∧ p h) := by
  obtain ⟨h, rfl⟩ := heapAt c
  exact ⟨h.push { cls := .none, data := .fields #[.none, .str q 0] }, _, _, Heap.get?_push_size _ rfl, rfl, _, rfl, _, _, 0, Heap.get?_push_size _ rfl, rfl, rfl⟩
theorem codeO_set {c : Addr} {q : Str} {w : World} {S : Int → Bool} {n : Nat} : CodeO c q ≠ SetO w c S n := fun z => by
  obtain ⟨h, oc, vs, h1, h2, p, h3, h4⟩ := codeO_holds c q
  rw [h3] at z
  unfold SetO at z
  injection z with z
  rw [z] at h4
  obtain ⟨o, es, ep, t, ho, _, hd, _⟩ := h4
  rw [h1] at ho
  cases ho
  rw [h2] at hd
  cases hd
theorem nc_of {H : Hp} {p : Addr} {o : HO} (h : H p = some o) (n : ∀ e, o ≠ .ext e) : ∀ q, H p ≠ some (CodeO p q) := fun q z => by
  rw [h] at z
  injection z with z
  exact n _ z
theorem nc_none {H : Hp} {p : Addr} (h : H p = none) : ∀ q, H p ≠ some (CodeO p q) := fun q z => by rw [h] at z; cases z
theorem nc_set {H : Hp} {p : Addr} {w : World} {S : Int → Bool} {n : Nat} (h : H p = some (SetO w p S n)) : ∀ q, H p ≠ some (CodeO p q) := fun q z => by
  rw [h] at z
  exact codeO_set (Option.some.inj z).symm
structure Ex (H H' : Hp) : Prop where
  app : ∀ a o, H a = some o → (∀ ps, o ≠ .tbl ps) → H' a = some o
  tbl : ∀ a ps, H a = some (.tbl ps) → ∃ qs, H' a = some (.tbl qs)
  tab : ∀ P q, (P, q) ∈ Tbs.l → TabS H P q → TabS H' P q
variable {H H' H1 H2 : Hp} {p : Addr} {o : HO}
theorem Ex.ap (e : Ex H H') : (a : Addr) → (o : HO) → (h : H a = some o) → (n : ∀ ps, o ≠ .tbl ps := by intro _ z; cases z) → H' a = some o := e.app
instance : CoeFun (Ex H H') fun _ => (a : Addr) → (o : HO) → (h : H a = some o) → (n : ∀ ps, o ≠ .tbl ps := by intro _ z; cases z) → H' a = some o := ⟨@Ex.ap _ H H'⟩
theorem Ex.of (e : Evl.Ex H H') : Ex H H' := ⟨fun a o h _ => e a o h, fun a ps h => ⟨ps, e a _ h⟩, fun P q _ t => t.ext e⟩
theorem Ex.refl (H : Hp) : Ex H H := .of (Evl.Ex.refl H)
theorem Ex.trans (a : Ex H H1) (b : Ex H1 H2) : Ex H H2 := ⟨fun x o h n => b.app x o (a.app x o h n) n, fun x ps h => by
  obtain ⟨qs, h1⟩ := a.tbl x ps h
  exact b.tbl x qs h1, fun P q m t => b.tab P q m (a.tab P q m t)⟩
theorem Ex.new (h : H p = none) : Ex H (upd H p o) := .of (Evl.Ex.new h)
theorem tabS_put {P : Addr} {q : Str} (t : TabS H P q) (np : P ≠ p) (nc : ∀ q, H p ≠ some (CodeO p q)) : TabS (upd H p o) P q := by
  obtain ⟨ps, h1, h2, h3⟩ := t
  refine ⟨ps, by rw [upd_ne np]; exact h1, h2, fun pos cv hc => ?_⟩
  obtain ⟨c, e1, e2⟩ := h3 pos cv hc
  refine ⟨c, e1, ?_⟩
  rw [upd_ne]
  · exact e2
  · intro z
    subst z
    exact nc q e2
/-- an object that H does not know may change -/
theorem Ex.mut (e : Ex H H') (h : H p = none) (nc : ∀ q, H' p ≠ some (CodeO p q)) : Ex H (upd H' p o) := ⟨fun a u ha n => by
  rw [upd_ne (ne_of_none ha h)]
  exact e.app a u ha n, fun a ps ha => by
    rw [upd_ne (ne_of_none ha h)]
    exact e.tbl a ps ha, fun P q m t => by
    have hP : P ≠ p := by
      obtain ⟨ps, h1, _⟩ := t
      exact ne_of_none h1 h
    exact tabS_put (e.tab P q m t) hP nc⟩
theorem ex_rd {a : Addr} {u : HO} (e : Ex H H') (h : Rd H a u) (n : ∀ ps, u ≠ .tbl ps := by intro _ z; cases z) : Rd H' a u := by
  rcases h with h | ⟨o, h⟩
  · exact Or.inl (e.app a _ h n)
  · exact Or.inr ⟨o, e a _ h⟩
theorem ex_l {K : PySem.W.Frag} {a : Addr} {xs : List V} (e : Ex H H') (h : SqL K H a xs) : SqL K H' a xs := h.elim (fun z => .inl (ex_rd e z)) .inr
theorem ex_t {K : PySem.W.Frag} {a : Addr} {xs : List V} (e : Ex H H') (h : SqT K H a xs) : SqT K H' a xs := h.elim (fun z => .inl (ex_rd e z)) .inr
theorem fresh_back (e : Ex H H') (h : H' p = none) : H p = none := by
  cases h1 : H p with
  | none => rfl
  | some o =>
    by_cases n : ∀ ps, o ≠ .tbl ps
    · have z := e.app p o h1 n
      rw [h] at z
      cases z
    · obtain ⟨ps, hn⟩ := Classical.not_forall.mp n
      have := Classical.not_not.mp hn
      subst this
      obtain ⟨qs, z⟩ := e.tbl p ps h1
      rw [h] at z
      cases z
/-- all but what stands at l stays -/
structure Xb (l : Addr) (H H' : Hp) : Prop where
  app : ∀ a, a ≠ l → ∀ u, H a = some u → (∀ ps, u ≠ .tbl ps) → H' a = some u
  tbl : ∀ a, a ≠ l → ∀ ps, H a = some (.tbl ps) → ∃ qs, H' a = some (.tbl qs)
  tab : (∀ q, H l ≠ some (CodeO l q)) → ∀ P q, (P, q) ∈ Tbs.l → P ≠ l → TabS H P q → TabS H' P q
theorem Xb.of {l : Addr} (e : Ex H H') : Xb l H H' := ⟨fun a _ u h n => e.app a u h n, fun a _ ps h => e.tbl a ps h, fun _ P q m _ t => e.tab P q m t⟩
theorem Xb.put {l : Addr} (nc : ∀ q, H l ≠ some (CodeO l q)) : Xb l H (upd H l o) := ⟨fun a n u h _ => by rw [upd_ne n]; exact h, fun a n ps h => ⟨ps, by rw [upd_ne n]; exact h⟩, fun _ P q _ n t => tabS_put t n nc⟩
theorem Xb.trans {l : Addr} (nc : ∀ q, H1 l ≠ some (CodeO l q)) (a : Xb l H H1) (b : Xb l H1 H2) : Xb l H H2 := ⟨fun x n u h k => b.app x n u (a.app x n u h k) k, fun x n ps h => by
  obtain ⟨qs, z⟩ := a.tbl x n ps h
  exact b.tbl x n qs z, fun m P q k n t => b.tab nc P q k n (a.tab m P q k n t)⟩
/-- x's extension, then a store to l -/
theorem Xb.mut {l : Addr} (e : Ex H H1) (nc : ∀ q, H1 l ≠ some (CodeO l q)) : Xb l H (upd H1 l o) := (Xb.of e).trans nc (Xb.put nc)
theorem Xb.ex {l : Addr} (b : Xb l H1 H2) (nc : ∀ q, H1 l ≠ some (CodeO l q)) (e : Ex H H1) (hl : H l = none) : Ex H H2 := ⟨fun a u h n => b.app a (ne_of_none h hl) u (e.app a u h n) n, fun a ps h => by
  obtain ⟨qs, z⟩ := e.tbl a ps h
  exact b.tbl a (ne_of_none h hl) qs z, fun P q m t => by
  have hP : P ≠ l := by
    obtain ⟨ps, h1, _⟩ := id t
    exact ne_of_none h1 hl
  exact b.tab nc P q m hP (e.tab P q m t)⟩
theorem Xb.at {l a : Addr} {u : HO} (b : Xb l H H') (n : a ≠ l) (h : H a = some u) (k : ∀ ps, u ≠ .tbl ps := by intro _ z; cases z) : H' a = some u := b.app a n u h k
theorem tabs_ex (e : Ex H H') (t : Tabs Tbs.l H) : Tabs Tbs.l H' := fun p hp => e.tab _ _ hp (t p hp)
def EvT (tt : TT) (σ : L2.St) (H : Hp) (b : Bool) : Prop := ∀ H1, Ex H H1 → ∀ Q : Bool → Hp → Prop, (∀ H2, Ex H1 H2 → Q b H2) → tt σ H1 Q
def EvO (to : TO) (σ : L2.St) (H : Hp) (o : Option Int) : Prop := ∀ H1, Ex H H1 → ∀ Q : Option Int → Hp → Prop, (∀ H2, Ex H1 H2 → Q o H2) → to σ H1 Q
variable {σ : L2.St} {t u : TT} {tu tw : TS} {D : Ends}
theorem EvT.mono {b : Bool} (e : Ex H H') (h : EvT t σ H b) : EvT t σ H' b := fun H1 a Q q => h H1 (e.trans a) Q q
theorem et_and {a b : Bool} (h1 : EvT t σ H a) (h2 : a = true → EvT u σ H b) : EvT (tAnd t u) σ H (a && b) := fun H1 e Q q => h1 H1 e _ fun H2 e2 => match a, h2, q with
  | true, h2, q => h2 rfl H2 (e.trans e2) Q fun H3 e3 => q H3 (e2.trans e3)
  | false, _, q => q H2 e2
theorem et_or {a b : Bool} (h1 : EvT t σ H a) (h2 : a = false → EvT u σ H b) : EvT (tOr t u) σ H (a || b) := fun H1 e Q q => h1 H1 e _ fun H2 e2 => match a, h2, q with
  | true, _, q => q H2 e2
  | false, h2, q => h2 rfl H2 (e.trans e2) Q fun H3 e3 => q H3 (e2.trans e3)
theorem et_not {a : Bool} (h1 : EvT t σ H a) : EvT (tNot t) σ H (!a) := fun H1 e _ q => h1 H1 e _ fun H2 e2 => q H2 e2
theorem et_is {a b : Bool} (h : EvT t σ H a) (e : a = b) : EvT t σ H b := e ▸ h
theorem eo_none : EvO tNoPart σ H none := fun H1 _ _ q => q H1 (Ex.refl H1)
theorem if_is {b : Bool} (h : EvT t σ H b) (h1 : b = true → ∀ H1, Ex H H1 → tu D σ H1) (h2 : b = false → ∀ H1, Ex H H1 → tw D σ H1) : tIfS t tu tw D σ H := h H (Ex.refl H) _ fun H1 e => match b, h1, h2 with
  | true, h1, _ => h1 rfl H1 e
  | false, _, h2 => h2 rfl H1 e
end Vx

/-! what cannot change, data over it, expressions told by the data they give -/
namespace Vx
open PySem L2 PySem.Spec PyProof.Rows Evl
variable [Tbs]

/-- the tuples and the frozen things -/
def im (H : Hp) : Hp := fun a => match H a with
  | some (.tup xs) => some (.tup xs)
  | some (.frz o u) => some (.frz o u)
  | _ => none
theorem im_tup {H : Hp} {a : Addr} {xs : List V} (h : H a = some (.tup xs)) : im H a = some (.tup xs) := by unfold im; rw [h]
theorem im_frz {H : Hp} {a : Addr} {o : Obj} {u : HO} (h : H a = some (.frz o u)) : im H a = some (.frz o u) := by unfold im; rw [h]
theorem of_im {H : Hp} {a : Addr} {o : HO} (h : im H a = some o) : H a = some o ∧ ((∃ xs, o = .tup xs) ∨ ∃ ob u, o = .frz ob u) := by
  unfold im at h
  cases e : H a with
  | none => rw [e] at h; cases h
  | some p =>
    rw [e] at h
    cases p with
    | tup xs => cases h; exact ⟨rfl, .inl ⟨xs, rfl⟩⟩
    | frz ob u => cases h; exact ⟨rfl, .inr ⟨ob, u, rfl⟩⟩
    | _ => cases h
theorem im_some {H : Hp} {a : Addr} {o : HO} (h : H a = some o) (k : (∃ xs, o = .tup xs) ∨ ∃ ob u, o = .frz ob u) : im H a = some o := by
  rcases k with ⟨xs, rfl⟩ | ⟨ob, u, rfl⟩
  · exact im_tup h
  · exact im_frz h
theorem im_none {H : Hp} {a : Addr} {o : HO} (h : H a = some o) (k1 : ∀ xs, o ≠ .tup xs) (k2 : ∀ ob u, o ≠ .frz ob u) : im H a = none := by
  cases e : im H a with
  | none => rfl
  | some p =>
    obtain ⟨h', k⟩ := of_im e
    rw [h] at h'
    cases h'
    rcases k with ⟨xs, e2⟩ | ⟨ob, u, e2⟩
    · exact absurd e2 (k1 xs)
    · exact absurd e2 (k2 ob u)
theorem im_of_none {H : Hp} {a : Addr} (h : H a = none) : im H a = none := by unfold im; rw [h]
/-- what cannot change stays -/
def Kp (H H' : Hp) : Prop := ∀ a o, im H a = some o → im H' a = some o
theorem Kp.refl (H : Hp) : Kp H H := fun _ _ h => h
theorem Kp.trans {H H1 H2 : Hp} (a : Kp H H1) (b : Kp H1 H2) : Kp H H2 := fun x o h => b x o (a x o h)
theorem Kp.of {H H' : Hp} (e : Ex H H') : Kp H H' := fun a o h => by
  obtain ⟨h', k⟩ := of_im h
  exact im_some (e.app a o h' (by rcases k with ⟨_, rfl⟩ | ⟨_, _, rfl⟩ <;> exact fun _ z => nomatch z)) k
/-- a store to what may change -/
theorem Kp.put {H : Hp} {l : Addr} {o : HO} (h : im H l = none) : Kp H (upd H l o) := fun a u e => by
  have ne : a ≠ l := fun q => by
    subst q
    rw [h] at e
    cases e
  obtain ⟨h', k⟩ := of_im e
  exact im_some (by rw [upd_ne ne]; exact h') k
theorem Kp.ex {H H' : Hp} (k : Kp H H') : Evl.Ex (im H) (im H') := k

mutual
/-- v is a thing of the module's own, and stands for the datum -/
inductive DqC (K : PySem.W.Frag) : V → PyData → Prop
  | non : DqC K .non .none
  | bl (b : Bool) : DqC K (.bl b) (.bool b)
  | int (i : Int) : DqC K (.int i) (.int i)
  | str (x : Str) : DqC K (.str x) (.str x)
  | tup {a : Addr} {o : Obj} {its : Array Value} {n : Nat} {vs : List V} {ds : List PyData} : K.lookup a = some o → o.cls = .type "tuple" → o.data = .seq its n → its.size ≤ sizeLine → Vals vs its.toList → DqCA K vs ds → DqC K (.ref a) (.tuple ds)
inductive DqCA (K : PySem.W.Frag) : List V → List PyData → Prop
  | nil : DqCA K [] []
  | cons {v : V} {vs : List V} {d : PyData} {ds : List PyData} : DqC K v d → DqCA K vs ds → DqCA K (v :: vs) (d :: ds)
end
/-- the mark of a tuple of the module's own -/
def mk (d : PyData) : PyData := .dict [(.none, d)]
mutual
/-- v stands for the datum: tuples that are tracked, lists that are frozen, an empty dict that is frozen; a tuple of the module's own, marked -/
inductive Dq (K : PySem.W.Frag) (H : Hp) : V → PyData → Prop
  | non : Dq K H .non .none
  | bl (b : Bool) : Dq K H (.bl b) (.bool b)
  | int (i : Int) : Dq K H (.int i) (.int i)
  | str (x : Str) : Dq K H (.str x) (.str x)
  | lst {a : Addr} {o : Obj} {xs : List V} {ds : List PyData} : H a = some (.frz o (.lst xs)) → DqAll K H xs ds → Dq K H (.ref a) (.list ds)
  | tup {a : Addr} {xs : List V} {ds : List PyData} : H a = some (.tup xs) → DqAll K H xs ds → Dq K H (.ref a) (.tuple ds)
  | dic {a : Addr} {o : Obj} : H a = some (.frz o (.dK [])) → Dq K H (.ref a) (.dict [])
  | cst {v : V} {ds : List PyData} : DqC K v (.tuple ds) → Dq K H v (.dict [(.none, .tuple ds)])
  | fdt {a : Addr} {o : Obj} {kvs : List (List Key × V)} {xs : List (PyData × PyData)} {ks : List (List Int)} {ds : List PyData} : H a = some (.frz o (.dT kvs)) → xs = (.bool true, .none) :: (ks.zip ds).map (fun p => (PyData.tuple (p.1.map PyData.int), p.2)) → kvs.map (·.1) = ks.map (List.map Sum.inl) → ks.length = ds.length → DqAll K H (kvs.map (·.2)) ds → Dq K H (.ref a) (.dict xs)
inductive DqAll (K : PySem.W.Frag) (H : Hp) : List V → List PyData → Prop
  | nil : DqAll K H [] []
  | cons {v : V} {vs : List V} {d : PyData} {ds : List PyData} : Dq K H v d → DqAll K H vs ds → DqAll K H (v :: vs) (d :: ds)
end
mutual
theorem dq_mono {K : PySem.W.Frag} {H H' : Hp} (e : Evl.Ex H H') : ∀ (d : PyData) (v : V), Dq K H v d → Dq K H' v d
  | _, _, .non => .non
  | _, _, .bl b => .bl b
  | _, _, .int i => .int i
  | _, _, .str x => .str x
  | _, _, .lst hs ha => .lst (e _ _ hs) (dqAll_mono e _ _ ha)
  | _, _, .tup hs ha => .tup (e _ _ hs) (dqAll_mono e _ _ ha)
  | _, _, .dic hs => .dic (e _ _ hs)
  | _, _, .cst c => .cst c
  | _, _, .fdt h1 h2 h3 h4 ha => .fdt (e _ _ h1) h2 h3 h4 (dqAll_mono e _ _ ha)
theorem dqAll_mono {K : PySem.W.Frag} {H H' : Hp} (e : Evl.Ex H H') : ∀ (ds : List PyData) (vs : List V), DqAll K H vs ds → DqAll K H' vs ds
  | _, _, .nil => .nil
  | _, _, .cons h1 h2 => .cons (dq_mono e _ _ h1) (dqAll_mono e _ _ h2)
end
mutual
/-- no dict and no mark is in the datum -/
def noD : PyData → Bool
  | .none | .bool _ | .int _ | .str _ => true
  | .list xs | .tuple xs => noDs xs
  | .dict _ => false
def noDs : List PyData → Bool
  | [] => true
  | x :: xs => noD x && noDs xs
end
theorem noDs_all : ∀ {ds : List PyData}, noDs ds = true ↔ ∀ d ∈ ds, noD d = true
  | [] => ⟨fun _ d h => (nomatch h), fun _ => rfl⟩
  | x :: xs => by
    rw [noDs, Bool.and_eq_true, noDs_all (ds := xs)]
    exact ⟨fun h d hd => (List.mem_cons.mp hd).elim (fun e => e ▸ h.1) (h.2 d), fun h => ⟨h x List.mem_cons_self, fun d hd => h d (List.mem_cons_of_mem _ hd)⟩⟩
mutual
theorem noD_lay : ∀ {d : PyData}, d.canLay0 = true → noD d = true
  | .none, _ => rfl
  | .bool _, _ => rfl
  | .int _, _ => rfl
  | .str _, _ => rfl
  | .list xs, h => noDs_lay (ds := xs) h
  | .tuple xs, h => noDs_lay (ds := xs) h
  | .dict _, h => nomatch h
theorem noDs_lay : ∀ {ds : List PyData}, PyData.canLayAll0 ds = true → noDs ds = true
  | [], _ => rfl
  | x :: xs, h => by
    have h' := Bool.and_eq_true_iff.mp (show (x.canLay0 && PyData.canLayAll0 xs) = true from h)
    rw [noDs, noD_lay h'.1, noDs_lay h'.2]
    rfl
end
theorem noD_sh {d : PyData} (h : SeqAt.shaped d = true) : noD d = true := noD_lay (SeqAt.canLay_of_shaped h)
theorem noDs_int : ∀ ns : List Int, noDs (ns.map .int) = true
  | [] => rfl
  | _ :: r => by rw [List.map_cons, noDs, noDs_int r]; rfl
mutual
theorem dq_dp {K : PySem.W.Frag} {H : Hp} : ∀ (d : PyData) (v : V), Dq K H v d → noD d = true → Dp K H v d
  | .none, _, h, _ => by cases h; exact .non
  | .bool b, _, h, _ => by cases h; exact .bl b
  | .int i, _, h, _ => by cases h; exact .int i
  | .str x, _, h, _ => by cases h; exact .str x
  | .list ds, _, h, n => by
    cases h with
    | lst hs ha => exact .lst (.inl (.inr ⟨_, hs⟩)) (dqAll_dp ds _ ha n)
  | .tuple ds, _, h, n => by
    cases h with
    | tup hs ha => exact .tup (.inl (.inl hs)) (dqAll_dp ds _ ha n)
  | .dict _, _, h, n => by cases n
theorem dqAll_dp {K : PySem.W.Frag} {H : Hp} : ∀ (ds : List PyData) (vs : List V), DqAll K H vs ds → noDs ds = true → DpAll K H vs ds
  | [], _, h, _ => by cases h; exact .nil
  | d :: ds, _, h, n => by
    have n' := Bool.and_eq_true_iff.mp (show (noD d && noDs ds) = true from n)
    cases h with
    | cons h1 h2 => exact .cons (dq_dp d _ h1 n'.1) (dqAll_dp ds _ h2 n'.2)
end
mutual
theorem dqC_dp {K : PySem.W.Frag} {H : Hp} : ∀ (d : PyData) (v : V), DqC K v d → Dp K H v d
  | .none, _, h => by cases h; exact .non
  | .bool b, _, h => by cases h; exact .bl b
  | .int i, _, h => by cases h; exact .int i
  | .str x, _, h => by cases h; exact .str x
  | .list ds, _, h => by cases h
  | .tuple ds, _, h => by
    cases h with
    | tup h1 h2 h3 h4 h5 ha => exact .tup (.inr ⟨_, _, _, h1, h2, h3, h4, h5⟩) (dqCA_dp ds _ ha)
  | .dict _, _, h => by cases h
theorem dqCA_dp {K : PySem.W.Frag} {H : Hp} : ∀ (ds : List PyData) (vs : List V), DqCA K vs ds → DpAll K H vs ds
  | [], _, h => by cases h; exact .nil
  | d :: ds, _, h => by
    cases h with
    | cons h1 h2 => exact .cons (dqC_dp d _ h1) (dqCA_dp ds _ h2)
end
theorem ex_im (H : Hp) : Evl.Ex (im H) H := fun _ _ h => (of_im h).1

/-- the value v stands for the datum d, for ever -/
def Dr (K : PySem.W.Frag) (H : Hp) (v : V) (d : PyData) : Prop := Dq K (im H) v d
def DrA (K : PySem.W.Frag) (H : Hp) (vs : List V) (ds : List PyData) : Prop := DqAll K (im H) vs ds
theorem Dr.kp {K : PySem.W.Frag} {H H' : Hp} {v : V} {d : PyData} (h : Dr K H v d) (k : Kp H H') : Dr K H' v d := dq_mono k.ex d v h
theorem DrA.kp {K : PySem.W.Frag} {H H' : Hp} {vs : List V} {ds : List PyData} (h : DrA K H vs ds) (k : Kp H H') : DrA K H' vs ds := dqAll_mono k.ex ds vs h
theorem Dr.ex {K : PySem.W.Frag} {H H' : Hp} {v : V} {d : PyData} (h : Dr K H v d) (e : Ex H H') : Dr K H' v d := h.kp (Kp.of e)
theorem DrA.ex {K : PySem.W.Frag} {H H' : Hp} {vs : List V} {ds : List PyData} (h : DrA K H vs ds) (e : Ex H H') : DrA K H' vs ds := h.kp (Kp.of e)
theorem Dr.dp {K : PySem.W.Frag} {H : Hp} {v : V} {d : PyData} (h : Dr K H v d) (n : noD d = true) : Dp K H v d := dq_dp d v (dq_mono (ex_im H) d v h) n
theorem DrA.dp {K : PySem.W.Frag} {H : Hp} {vs : List V} {ds : List PyData} (h : DrA K H vs ds) (n : noDs ds = true) : DpAll K H vs ds := dqAll_dp ds vs (dqAll_mono (ex_im H) ds vs h) n
theorem Dr.int {K : PySem.W.Frag} {H : Hp} {i : Int} : Dr K H (.int i) (.int i) := Dq.int i
theorem Dr.bl {K : PySem.W.Frag} {H : Hp} {b : Bool} : Dr K H (.bl b) (.bool b) := Dq.bl b
theorem Dr.non {K : PySem.W.Frag} {H : Hp} : Dr K H .non .none := Dq.non
theorem Dr.str {K : PySem.W.Frag} {H : Hp} {x : Str} : Dr K H (.str x) (.str x) := Dq.str x
theorem Dr.of_int {K : PySem.W.Frag} {H : Hp} {v : V} {i : Int} (h : Dr K H v (.int i)) : v = .int i := by cases h; rfl
theorem Dr.of_bool {K : PySem.W.Frag} {H : Hp} {v : V} {b : Bool} (h : Dr K H v (.bool b)) : v = .bl b := by cases h; rfl
theorem Dr.of_none {K : PySem.W.Frag} {H : Hp} {v : V} (h : Dr K H v .none) : v = .non := by cases h; rfl
theorem Dr.of_str {K : PySem.W.Frag} {H : Hp} {v : V} {x : Str} (h : Dr K H v (.str x)) : v = .str x := by cases h; rfl
theorem Dr.of_tup {K : PySem.W.Frag} {H : Hp} {v : V} {ds : List PyData} (h : Dr K H v (.tuple ds)) : ∃ a vs, v = .ref a ∧ SqT K H a vs ∧ DrA K H vs ds := by
  cases h with
  | tup hs ha => exact ⟨_, _, rfl, .inl (.inl (ex_im H _ _ hs)), ha⟩
theorem Dr.of_tupE {K : PySem.W.Frag} {H : Hp} {v : V} {ds : List PyData} (h : Dr K H v (.tuple ds)) : ∃ a vs, v = .ref a ∧ H a = some (.tup vs) ∧ DrA K H vs ds := by
  cases h with
  | tup hs ha => exact ⟨_, _, rfl, ex_im H _ _ hs, ha⟩
theorem Dr.of_lst {K : PySem.W.Frag} {H : Hp} {v : V} {ds : List PyData} (h : Dr K H v (.list ds)) : ∃ a vs, v = .ref a ∧ SqL K H a vs ∧ SqL K (im H) a vs ∧ DrA K H vs ds := by
  cases h with
  | lst hs ha => exact ⟨_, _, rfl, .inl (.inr ⟨_, ex_im H _ _ hs⟩), .inl (.inr ⟨_, hs⟩), ha⟩
theorem Dr.tup {K : PySem.W.Frag} {H : Hp} {a : Addr} {vs : List V} {ds : List PyData} (h : H a = some (.tup vs)) (ha : DrA K H vs ds) : Dr K H (.ref a) (.tuple ds) := Dq.tup (im_tup h) ha
theorem Dr.frz {K : PySem.W.Frag} {H : Hp} {a : Addr} {o : Obj} {vs : List V} {ds : List PyData} (h : H a = some (.frz o (.lst vs))) (ha : DrA K H vs ds) : Dr K H (.ref a) (.list ds) := Dq.lst (im_frz h) ha
theorem DrA.length {K : PySem.W.Frag} {H : Hp} : ∀ {vs : List V} {ds : List PyData}, DrA K H vs ds → vs.length = ds.length
  | [], [], _ => rfl
  | _ :: vs, _ :: ds, h => by
    cases h with
    | cons h1 h2 => rw [List.length_cons, List.length_cons, DrA.length (K := K) (H := H) h2]
  | [], _ :: _, h => by cases h
  | _ :: _, [], h => by cases h
theorem DrA.get {K : PySem.W.Frag} {H : Hp} : ∀ {vs : List V} {ds : List PyData} {i : Nat} {d : PyData}, DrA K H vs ds → ds[i]? = some d → ∃ v, vs[i]? = some v ∧ Dr K H v d
  | v :: vs, d :: ds, 0, e, h, q => by
    cases h with
    | cons h1 h2 =>
      cases q
      exact ⟨v, rfl, h1⟩
  | v :: vs, d :: ds, i + 1, e, h, q => by
    cases h with
    | cons h1 h2 => exact DrA.get (K := K) (H := H) (i := i) h2 (by simpa using q)
  | [], [], _, _, _, q => by simp at q
  | [], _ :: _, _, _, h, _ => by cases h
  | _ :: _, [], _, _, h, _ => by cases h
theorem DrA.getV {K : PySem.W.Frag} {H : Hp} {vs : List V} {ds : List PyData} {i : Nat} {v : V} (h : DrA K H vs ds) (q : vs[i]? = some v) : ∃ d, ds[i]? = some d ∧ Dr K H v d := by
  have hl := h.length
  obtain ⟨hi, _⟩ := List.getElem?_eq_some_iff.mp q
  obtain ⟨v', h1, h2⟩ := h.get (d := ds[i]'(by omega)) (List.getElem?_eq_getElem (by omega))
  rw [q] at h1
  cases h1
  exact ⟨_, List.getElem?_eq_getElem (by omega), h2⟩
theorem DrA.append {K : PySem.W.Frag} {H : Hp} : ∀ {vs ws : List V} {ds es : List PyData}, DrA K H vs ds → DrA K H ws es → DrA K H (vs ++ ws) (ds ++ es)
  | [], _, [], _, _, h2 => h2
  | _ :: vs, _, _ :: ds, _, h, h2 => by
    cases h with
    | cons a b => exact DqAll.cons a (DrA.append (K := K) (H := H) b h2)
  | [], _, _ :: _, _, h, _ => by cases h
  | _ :: _, _, [], _, h, _ => by cases h
theorem DrA.nil {K : PySem.W.Frag} {H : Hp} : DrA K H [] [] := DqAll.nil
theorem DrA.cons {K : PySem.W.Frag} {H : Hp} {v : V} {d : PyData} {vs : List V} {ds : List PyData} (a : Dr K H v d) (b : DrA K H vs ds) : DrA K H (v :: vs) (d :: ds) := DqAll.cons a b
theorem DrA.snoc {K : PySem.W.Frag} {H : Hp} {v : V} {d : PyData} {vs : List V} {ds : List PyData} (a : DrA K H vs ds) (b : Dr K H v d) : DrA K H (vs ++ [v]) (ds ++ [d]) := a.append (DqAll.cons b DqAll.nil)
theorem DrA.ints {K : PySem.W.Frag} {H : Hp} : ∀ {vs : List V} {ns : List Int}, DrA K H vs (ns.map .int) → vs = ns.map V.int
  | [], [], _ => rfl
  | _ :: vs, _ :: ns, h => by
    cases h with
    | cons a b => rw [Dr.of_int (K := K) (H := H) a, DrA.ints (K := K) (H := H) b]; rfl
  | [], _ :: _, h => by cases h
  | _ :: _, [], h => by cases h
theorem DrA.bools {K : PySem.W.Frag} {H : Hp} : ∀ {vs : List V} {ns : List Bool}, DrA K H vs (ns.map .bool) → vs = ns.map V.bl
  | [], [], _ => rfl
  | _ :: vs, _ :: ns, h => by
    cases h with
    | cons a b => rw [Dr.of_bool (K := K) (H := H) a, DrA.bools (K := K) (H := H) b]; rfl
  | [], _ :: _, h => by cases h
  | _ :: _, [], h => by cases h
theorem DrA.of_ints {K : PySem.W.Frag} {H : Hp} : ∀ {ns : List Int}, DrA K H (ns.map V.int) (ns.map .int)
  | [] => DqAll.nil
  | n :: ns => DqAll.cons (Dq.int n) (DrA.of_ints (K := K) (H := H) (ns := ns))

/-! ### freezing -/
theorem inv_freeze {X : Cx} {pins : List (Addr × Obj)} {σ : L2.St} {H : Hp} {s : Shared} {a : Addr} {xs : List V} (I : Inv X pins σ H s) (h : H a = some (.lst xs)) : ∃ o, Inv X pins σ (upd H a (.frz o (.lst xs))) s := by
  obtain ⟨z, its, n, r, e⟩ := I.hok a _ h
  have hne : ∀ b u, H b = some u → (∀ ys, u ≠ .lst ys) → b ≠ a := fun b u q nq z => by
    subst z
    rw [h] at q
    cases q
    exact nq xs rfl
  refine ⟨{ cls := Value.type "list", data := Data.seq its.toArray n }, I.un (h' := s.heap) (t' := s.toks) (H' := upd H a (HO.frz { cls := Value.type "list", data := Data.seq its.toArray n } (HO.lst xs))) ?_ ?_⟩
  · refine ⟨fun b o q _ _ _ => q, fun b o q _ _ _ => ⟨o.slots, q⟩, fun b o q n _ => ?_, fun b o q _ => ⟨o, q⟩, fun b ys q => ?_, fun b o u q => ?_, fun b ps q => ⟨#[], ?_⟩⟩
    · rw [upd_ne (fun z => by subst z; rw [h] at n; cases n)]
      exact n
    · rw [upd_ne (hne b _ q fun _ z => nomatch z)]
      exact q
    · rw [upd_ne (hne b _ q fun _ z => nomatch z)]
      exact q
    · rw [upd_ne (hne b _ q fun _ z => nomatch z), q]
      simp
  · intro b u q
    by_cases hb : b = a
    · subst hb
      rw [upd_same] at q
      cases q
      exact ⟨e, z, its, n, r, e⟩
    · rw [upd_ne hb] at q
      refine (I.hok b u q).stay (fun c v _ q => q) (fun c q => ?_) fun c ys q => ?_
      · rw [upd_ne (hne c _ q fun _ z => nomatch z)]
        exact q
      · rw [upd_ne (hne c _ q fun _ z => nomatch z)]
        exact q
/-- a fresh list is frozen -/
def tFz (te : TE) : TE := fun σ H Q => te σ H fun v H1 => ∃ a xs, v = .ref a ∧ H1 a = some (.lst xs) ∧ ∀ o, Q v (upd H1 a (.frz o (.lst xs)))
theorem pe_fz {X : Cx} {e : Expr} {te : TE} (h : PE X e te) : PE X e (tFz te) := by
  refine ⟨fun pins s σ H Q I hq => ?_⟩
  refine thn (h.run pins s σ H _ I hq) fun v s1 ⟨x, H1, I1, r1, q1⟩ => ?_
  obtain ⟨a, xs, rfl, ha, q⟩ := q1
  obtain ⟨o, I2⟩ := inv_freeze I1 ha
  exact ⟨_, _, I2, r1, q o⟩
/-- the list in the slot i is frozen from here on -/
def tFzS (i : Nat) (t : TS) : TS := fun D σ H => ∃ a xs, σ[i]? = some (some (.ref a)) ∧ H a = some (.lst xs) ∧ ∀ o, t D σ (upd H a (.frz o (.lst xs)))
theorem pss_fz {X : Cx} {st : List Stmt} {t : TS} (i : Nat) (h : PSs X st t) : PSs X st (tFzS i t) := by
  refine ⟨fun pins s σ H D I hq => ?_⟩
  obtain ⟨a, xs, _, ha, q⟩ := hq
  obtain ⟨o, I2⟩ := inv_freeze I ha
  exact h.run pins s σ _ D I2 (q o)

/-- lists and tuples have their greatest length -/
def Wf (K : PySem.W.Frag) (H : Hp) : Prop := (∀ a xs, SqL K H a xs → xs.length ≤ sizeLine) ∧ ∀ a xs, SqT K H a xs → xs.length ≤ sizeLine
theorem inv_wf {X : Cx} {pins : List (Addr × Obj)} {σ : L2.St} {H : Hp} {s : Shared} (I : Inv X pins σ H s) : Wf X.K H :=
  ⟨fun a xs h => by obtain ⟨_, _, _, z⟩ := I.list h; exact z, fun a xs h => by obtain ⟨_, _, _, z⟩ := I.tuple h; exact z⟩
def tWf (K : PySem.W.Frag) (te : TE) : TE := fun σ H Q => Wf K H → te σ H Q
theorem pe_wf {X : Cx} {e : Expr} {te : TE} (h : PE X e te) : PE X e (tWf X.K te) := ⟨fun pins s σ H Q I hq => h.run pins s σ H Q I (hq (inv_wf I))⟩
theorem DrA.lenT {K : PySem.W.Frag} {H : Hp} (w : Wf K H) {v : V} {ds : List PyData} (h : Dr K H v (.tuple ds)) : ds.length ≤ sizeLine := by
  obtain ⟨a, vs, rfl, hs, ha⟩ := h.of_tup
  rw [← ha.length]
  exact w.2 _ _ hs
theorem DrA.lenL {K : PySem.W.Frag} {H : Hp} (w : Wf K H) {v : V} {ds : List PyData} (h : Dr K H v (.list ds)) : ds.length ≤ sizeLine := by
  obtain ⟨a, vs, rfl, hs, _, ha⟩ := h.of_lst
  rw [← ha.length]
  exact w.1 _ _ hs

/-! ### expressions -/
/-- e gives a value that stands for d -/
def EvP (K : PySem.W.Frag) (te : TE) (σ : L2.St) (H : Hp) (d : PyData) : Prop := ∀ H1, Ex H H1 → ∀ Q : VK, (∀ v H2, Ex H1 H2 → Dr K H2 v d → Q v H2) → te σ H1 Q
/-- e gives a new list of ds -/
def EvN (K : PySem.W.Frag) (te : TE) (σ : L2.St) (H : Hp) (ds : List PyData) : Prop := ∀ H1, Ex H H1 → ∀ Q : VK, (∀ p vs H2, H1 p = none → Ex H1 H2 → H2 p = some (.lst vs) → DrA K H2 vs ds → Q (.ref p) H2) → te σ H1 Q
def EvTs (tt : TT) (σ : L2.St) (H : Hp) (b : Bool) : Prop := EvT tt σ H b
/-- the slots -/
inductive Sl1 where
  | dat (d : PyData) | raw (v : V)
def SlOk (K : PySem.W.Frag) (H : Hp) (o : Option V) : Option Sl1 → Prop
  | none => True
  | some (.dat d) => ∃ v, o = some v ∧ Dr K H v d
  | some (.raw v) => o = some v
abbrev EnvD := List (Option Sl1)
structure Sl (K : PySem.W.Frag) (H : Hp) (σ : L2.St) (E : EnvD) : Prop where
  len : σ.length = E.length
  ok : ∀ (i : Nat) (o : Option V), σ[i]? = some o → ∀ (e : Option Sl1), E[i]? = some e → SlOk K H o e
section
variable {K : PySem.W.Frag} {H H' : Hp} {σ : L2.St} {E : EnvD}
theorem Sl.kp (S : Sl K H σ E) (k : Kp H H') : Sl K H' σ E := ⟨S.len, fun i o h e he => by
  have q := S.ok i o h e he
  cases e with
  | none => trivial
  | some x =>
    cases x with
    | dat d =>
      obtain ⟨v, e1, e2⟩ := q
      exact ⟨v, e1, e2.kp k⟩
    | raw v => exact q⟩
theorem Sl.ex (S : Sl K H σ E) (e : Ex H H') : Sl K H' σ E := S.kp (Kp.of e)
theorem Sl.at (S : Sl K H σ E) {i : Nat} {e : Sl1} (he : E[i]? = some (some e)) : ∃ o, σ[i]? = some o ∧ SlOk K H o (some e) := by
  obtain ⟨hi, _⟩ := List.getElem?_eq_some_iff.mp he
  have hs : i < σ.length := by rw [S.len]; exact hi
  exact ⟨σ[i], List.getElem?_eq_getElem hs, S.ok i _ (List.getElem?_eq_getElem hs) _ he⟩
theorem Sl.dat (S : Sl K H σ E) {i : Nat} {d : PyData} (he : E[i]? = some (some (.dat d))) : ∃ v, σ[i]? = some (some v) ∧ Dr K H v d := by
  obtain ⟨o, h1, v, rfl, h2⟩ := S.at he
  exact ⟨v, h1, h2⟩
theorem Sl.raw (S : Sl K H σ E) {i : Nat} {v : V} (he : E[i]? = some (some (.raw v))) : σ[i]? = some (some v) := by
  obtain ⟨o, h1, h2⟩ := S.at he
  rw [h1, show o = some v from h2]
theorem Sl.set (S : Sl K H σ E) (i : Nat) {o : Option V} {e : Option Sl1} (h : SlOk K H o e) : Sl K H (σ.set i o) (E.set i e) := by
  refine ⟨by rw [List.length_set, List.length_set]; exact S.len, fun j p hj e' he => ?_⟩
  by_cases hij : i = j
  · subst hij
    have h1 : i < σ.length := by
      obtain ⟨z, _⟩ := List.getElem?_eq_some_iff.mp hj
      simpa using z
    rw [List.getElem?_set_self h1] at hj
    rw [List.getElem?_set_self (by rw [← S.len]; exact h1)] at he
    cases hj
    cases he
    exact h
  · rw [List.getElem?_set_ne hij] at hj he
    exact S.ok j p hj e' he
theorem Sl.put (S : Sl K H σ E) (i : Nat) {v : V} {d : PyData} (h : Dr K H v d) : Sl K H (σ.set i (some v)) (E.set i (some (.dat d))) := S.set i ⟨v, rfl, h⟩
theorem Sl.putR (S : Sl K H σ E) (i : Nat) {v : V} : Sl K H (σ.set i (some v)) (E.set i (some (.raw v))) := S.set i rfl
/-- less is known -/
theorem Sl.weak {E' : EnvD} (S : Sl K H σ E) (hl : E'.length = E.length) (h : ∀ (i : Nat) (e : Sl1), E'[i]? = some (some e) → E[i]? = some (some e)) : Sl K H σ E' := ⟨S.len.trans hl.symm, fun i o hi e he => by
  cases e with
  | none => trivial
  | some x => exact S.ok i o hi _ (h i x he)⟩
def wipeE (E : EnvD) : List Nat → EnvD
  | [] => E
  | i :: r => wipeE (E.set i none) r
end
end Vx

/-! the rules for expressions -/
namespace Vx
open PySem L2 PySem.Spec PyProof.Rows Evl
variable [Tbs]

/-- a list to be read: frozen, or the def's own -/
def EvS (K : PySem.W.Frag) (te : TE) (σ : L2.St) (H : Hp) (ds : List PyData) : Prop := ∀ H1, Ex H H1 → ∀ Q : VK, (∀ a vs H2, Ex H1 H2 → SqL K H2 a vs → DrA K H2 vs ds → Q (.ref a) H2) → te σ H1 Q
def EvAs (K : PySem.W.Frag) (ta : TA) (σ : L2.St) (H : Hp) (ds : List PyData) : Prop := ∀ H1, Ex H H1 → ∀ Q : List V → Hp → Prop, (∀ vs H2, Ex H1 H2 → DrA K H2 vs ds → Q vs H2) → ta σ H1 Q
def cutD (ds : List PyData) (lo hi : Option Int) : List PyData := (ds.drop (HT.sIx ds.length 0 lo)).take (HT.sIx ds.length ds.length hi - HT.sIx ds.length 0 lo)
/-- the def's own list in the address l: its items -/
def Ow (K : PySem.W.Frag) (H0 H : Hp) (l : Addr) (ds : List PyData) : Prop := H0 l = none ∧ ∃ vs, H l = some (.lst vs) ∧ DrA K H vs ds

section
variable {K : PySem.W.Frag} {σ : L2.St} {H H0 H' : Hp} {ta tb te tx : TE} {t u : TT} {E : EnvD} {d e : PyData} {ds es : List PyData}

theorem EvP.mono (x : Ex H H') (h : EvP K te σ H d) : EvP K te σ H' d := fun H1 a Q q => h H1 (x.trans a) Q q
theorem EvN.mono (x : Ex H H') (h : EvN K te σ H ds) : EvN K te σ H' ds := fun H1 a Q q => h H1 (x.trans a) Q q
theorem EvS.mono (x : Ex H H') (h : EvS K te σ H ds) : EvS K te σ H' ds := fun H1 a Q q => h H1 (x.trans a) Q q
theorem EvAs.mono {ta : TA} (x : Ex H H') (h : EvAs K ta σ H ds) : EvAs K ta σ H' ds := fun H1 a Q q => h H1 (x.trans a) Q q
theorem EvP.to (h : EvP K te σ H d) (q : d = e) : EvP K te σ H e := q ▸ h
theorem EvN.to (h : EvN K te σ H ds) (q : ds = es) : EvN K te σ H es := q ▸ h
theorem EvP.s (h : EvP K te σ H (.list ds)) : EvS K te σ H ds := fun H1 x Q q => h H1 x Q fun v H2 x2 dr => by
  obtain ⟨a, vs, rfl, hs, _, ha⟩ := dr.of_lst
  exact q a vs H2 x2 hs ha
theorem EvN.s (h : EvN K te σ H ds) : EvS K te σ H ds := fun H1 x Q q => h H1 x Q fun p vs H2 _ x2 hp ha => q p vs H2 x2 (sq_of hp) ha
/-- a fresh list, frozen -/
theorem EvN.fz (h : EvN K te σ H ds) : EvP K (tFz te) σ H (.list ds) := fun H1 x Q q => h H1 x _ fun p vs H2 hp x2 h2 ha => by
  refine ⟨p, vs, rfl, h2, fun o => ?_⟩
  have k : Kp H2 (upd H2 p (.frz o (.lst vs))) := Kp.put (im_none h2 (fun _ z => nomatch z) fun _ _ z => nomatch z)
  exact q _ _ (Ex.mut x2 hp (nc_of h2 fun _ z => nomatch z)) (Dr.frz upd_same (ha.kp k))
theorem Ow.ex {l : Addr} (x : Ex H H') (h : Ow K H0 H l ds) : Ow K H0 H' l ds := by
  obtain ⟨a, vs, b, c⟩ := h
  exact ⟨a, vs, x l _ b, c.ex x⟩
theorem Ow.s {l : Addr} {i : Nat} (o : Ow K H0 H l ds) (S : Sl K H σ E) (hi : E[i]? = some (some (.raw (.ref l)))) : EvS K (tVar i) σ H ds := fun H1 x Q q => by
  obtain ⟨_, vs, b, c⟩ := o
  exact ⟨_, S.raw hi, q l vs H1 (Ex.refl H1) (sq_of (x l _ b)) (c.ex x)⟩

theorem p_var {i : Nat} (S : Sl K H σ E) (h : E[i]? = some (some (.dat d))) : EvP K (tVar i) σ H d := fun H1 x Q q => by
  obtain ⟨v, h1, h2⟩ := S.dat h
  exact ⟨v, h1, q v H1 (Ex.refl H1) (h2.ex x)⟩
theorem p_int {i : Int} : EvP K (tC (.int i)) σ H (.int i) := fun H1 _ Q q => q _ H1 (Ex.refl H1) .int
theorem p_bl {b : Bool} : EvP K (tC (.bl b)) σ H (.bool b) := fun H1 _ Q q => q _ H1 (Ex.refl H1) .bl
theorem p_non : EvP K (tC .non) σ H .none := fun H1 _ Q q => q _ H1 (Ex.refl H1) .non
theorem p_str {x : Str} : EvP K (tC (.str x)) σ H (.str x) := fun H1 _ Q q => q _ H1 (Ex.refl H1) .str

/-! numbers -/
theorem p_i0 {f : Int → Int → Int} {i j : Int} (ha : EvP K ta σ H (.int i)) (hb : EvP K tb σ H (.int j)) : EvP K (tOp (rI0 fun i j => .int (f i j)) ta tb) σ H (.int (f i j)) := fun H1 x Q q =>
  ha H1 x _ fun v H2 x2 d2 => hb H2 (x.trans x2) _ fun u H3 x3 d3 => ⟨i, j, d2.of_int, d3.of_int, q _ H3 (x2.trans x3) .int⟩
theorem p_b0 {f : Int → Int → Bool} {i j : Int} (ha : EvP K ta σ H (.int i)) (hb : EvP K tb σ H (.int j)) : EvP K (tOp (rI0 fun i j => .bl (f i j)) ta tb) σ H (.bool (f i j)) := fun H1 x Q q =>
  ha H1 x _ fun v H2 x2 d2 => hb H2 (x.trans x2) _ fun u H3 x3 d3 => ⟨i, j, d2.of_int, d3.of_int, q _ H3 (x2.trans x3) .bl⟩
theorem p_iC {C : Int → Int → Prop} {f : Int → Int → Int} {i j : Int} (ha : EvP K ta σ H (.int i)) (hb : EvP K tb σ H (.int j)) (hc : C i j) : EvP K (tOp (rI C fun i j => .int (f i j)) ta tb) σ H (.int (f i j)) := fun H1 x Q q =>
  ha H1 x _ fun v H2 x2 d2 => hb H2 (x.trans x2) _ fun u H3 x3 d3 => ⟨i, j, d2.of_int, d3.of_int, hc, q _ H3 (x2.trans x3) .int⟩
theorem p_neg {i : Int} (ha : EvP K ta σ H (.int i)) : EvP K (tUn (rU fun i => .int (-i)) ta) σ H (.int (-i)) := fun H1 x Q q =>
  ha H1 x _ fun v H2 x2 d2 => ⟨i, d2.of_int, q _ H2 x2 .int⟩
theorem p_eqI {i j : Int} (ha : EvP K ta σ H (.int i)) (hb : EvP K tb σ H (.int j)) : EvP K (tOp rEq ta tb) σ H (.bool (decide (i = j))) := fun H1 x Q q =>
  ha H1 x _ fun v H2 x2 d2 => hb H2 (x.trans x2) _ fun u H3 x3 d3 => by
    rw [d2.of_int, d3.of_int]
    refine ⟨rfl, ?_⟩
    have e : decide (V.int i = V.int j) = decide (i = j) := by simp
    rw [e]
    exact q _ H3 (x2.trans x3) .bl
theorem p_neI {i j : Int} (ha : EvP K ta σ H (.int i)) (hb : EvP K tb σ H (.int j)) : EvP K (tOp rNe ta tb) σ H (.bool (!decide (i = j))) := fun H1 x Q q =>
  ha H1 x _ fun v H2 x2 d2 => hb H2 (x.trans x2) _ fun u H3 x3 d3 => by
    rw [d2.of_int, d3.of_int]
    refine ⟨rfl, ?_⟩
    have e : decide (V.int i = V.int j) = decide (i = j) := by simp
    rw [e]
    exact q _ H3 (x2.trans x3) .bl
theorem p_eqB {i j : Bool} (ha : EvP K ta σ H (.bool i)) (hb : EvP K tb σ H (.bool j)) : EvP K (tOp rEq ta tb) σ H (.bool (i == j)) := fun H1 x Q q =>
  ha H1 x _ fun v H2 x2 d2 => hb H2 (x.trans x2) _ fun u H3 x3 d3 => by
    rw [d2.of_bool, d3.of_bool]
    refine ⟨rfl, ?_⟩
    have e : decide (V.bl i = V.bl j) = (i == j) := by cases i <;> cases j <;> rfl
    rw [e]
    exact q _ H3 (x2.trans x3) .bl
theorem p_neB {i j : Bool} (ha : EvP K ta σ H (.bool i)) (hb : EvP K tb σ H (.bool j)) : EvP K (tOp rNe ta tb) σ H (.bool (i != j)) := fun H1 x Q q =>
  ha H1 x _ fun v H2 x2 d2 => hb H2 (x.trans x2) _ fun u H3 x3 d3 => by
    rw [d2.of_bool, d3.of_bool]
    refine ⟨rfl, ?_⟩
    have e : (!decide (V.bl i = V.bl j)) = (i != j) := by cases i <;> cases j <;> rfl
    rw [e]
    exact q _ H3 (x2.trans x3) .bl
theorem p_eqStr {i j : Str} (ha : EvP K ta σ H (.str i)) (hb : EvP K tb σ H (.str j)) : EvP K (tOp rEq ta tb) σ H (.bool (decide (i = j))) := fun H1 x Q q =>
  ha H1 x _ fun v H2 x2 d2 => hb H2 (x.trans x2) _ fun u H3 x3 d3 => by
    rw [d2.of_str, d3.of_str]
    refine ⟨rfl, ?_⟩
    have e : decide (V.str i = V.str j) = decide (i = j) := by simp
    rw [e]
    exact q _ H3 (x2.trans x3) .bl
/-! data compared -/
theorem p_eqD (ha : EvP K ta σ H d) (hb : EvP K tb σ H e) (sd : SeqAt.shaped d = true) (se : SeqAt.shaped e = true) : EvP K (tOp (rEqD K) ta tb) σ H (.bool (PyData.eqv d e)) := fun H1 x Q q =>
  ha H1 x _ fun v H2 x2 d2 => hb H2 (x.trans x2) _ fun u H3 x3 d3 => ⟨d, e, (d2.ex x3).dp (noD_sh sd), d3.dp (noD_sh se), sd, se, q _ H3 (x2.trans x3) .bl⟩
theorem p_neD (ha : EvP K ta σ H d) (hb : EvP K tb σ H e) (sd : SeqAt.shaped d = true) (se : SeqAt.shaped e = true) : EvP K (tOp (rNeD K) ta tb) σ H (.bool (!PyData.eqv d e)) := fun H1 x Q q =>
  ha H1 x _ fun v H2 x2 d2 => hb H2 (x.trans x2) _ fun u H3 x3 d3 => ⟨d, e, (d2.ex x3).dp (noD_sh sd), d3.dp (noD_sh se), sd, se, q _ H3 (x2.trans x3) .bl⟩
def isNone : PyData → Bool
  | .none => true
  | _ => false
theorem dqC_ref {v : V} {ds : List PyData} (c : DqC K v (.tuple ds)) : ∃ a, v = .ref a := by cases c; exact ⟨_, rfl⟩
theorem Dr.none_iff {v : V} (h : Dr K H v d) : decide (v = .non) = isNone d := by
  cases h with
  | cst c =>
    obtain ⟨a, rfl⟩ := dqC_ref c
    simp [isNone]
  | _ => simp [isNone]
theorem p_isN (ha : EvP K ta σ H d) : EvP K (tOp (fun x y H Q => y = .non ∧ Q (.bl (decide (x = .non))) H) ta (tC .non)) σ H (.bool (isNone d)) := fun H1 x Q q =>
  ha H1 x _ fun v H2 x2 d2 => ⟨rfl, by rw [Dr.none_iff d2]; exact q _ H2 x2 .bl⟩
theorem p_notN (ha : EvP K ta σ H d) : EvP K (tOp (fun x y H Q => y = .non ∧ Q (.bl (!decide (x = .non))) H) ta (tC .non)) σ H (.bool (!isNone d)) := fun H1 x Q q =>
  ha H1 x _ fun v H2 x2 d2 => ⟨rfl, by rw [Dr.none_iff d2]; exact q _ H2 x2 .bl⟩
/-! in, of whole numbers -/
theorem eqV_int (i j : Int) : eqV (.int i) (.int j) = decide (i = j) := by unfold eqV; rfl
theorem inV_ints (i : Int) (ns : List Int) : inV (.int i) (ns.map V.int) = decide (i ∈ ns) := by
  unfold inV
  induction ns with
  | nil => simp
  | cons n r ih =>
    rw [List.map_cons, List.any_cons, ih, eqV_int]
    by_cases h : n = i
    · subst h; simp
    · simp [h, Ne.symm h, eq_comm]
theorem flat_ints (ns : List Int) : (ns.map V.int).all flatV = true := by
  induction ns with
  | nil => rfl
  | cons n r ih => rw [List.map_cons, List.all_cons, ih]; rfl
theorem p_inTI {i : Int} {ns : List Int} (ha : EvP K ta σ H (.int i)) (hb : EvP K tb σ H (.tuple (ns.map .int))) : EvP K (tOp (rIn K false) ta tb) σ H (.bool (decide (i ∈ ns))) := fun H1 x Q q =>
  ha H1 x _ fun v H2 x2 d2 => hb H2 (x.trans x2) _ fun u H3 x3 d3 => by
    obtain ⟨a, vs, rfl, hs, hd⟩ := d3.of_tup
    rw [d2.of_int]
    rw [hd.ints] at hs
    refine ⟨a, _, rfl, .inr hs, rfl, flat_ints ns, ?_⟩
    show Q (.bl (inV (.int i) (ns.map V.int))) H3
    rw [inV_ints]
    exact q _ H3 (x2.trans x3) .bl
theorem p_niTI {i : Int} {ns : List Int} (ha : EvP K ta σ H (.int i)) (hb : EvP K tb σ H (.tuple (ns.map .int))) : EvP K (tOp (rIn K true) ta tb) σ H (.bool (!decide (i ∈ ns))) := fun H1 x Q q =>
  ha H1 x _ fun v H2 x2 d2 => hb H2 (x.trans x2) _ fun u H3 x3 d3 => by
    obtain ⟨a, vs, rfl, hs, hd⟩ := d3.of_tup
    rw [d2.of_int]
    rw [hd.ints] at hs
    refine ⟨a, _, rfl, .inr hs, rfl, flat_ints ns, ?_⟩
    show Q (.bl (!inV (.int i) (ns.map V.int))) H3
    rw [inV_ints]
    exact q _ H3 (x2.trans x3) .bl
theorem p_inLI {i : Int} {ns : List Int} (ha : EvP K ta σ H (.int i)) (hb : EvS K tb σ H (ns.map .int)) : EvP K (tOp (rIn K false) ta tb) σ H (.bool (decide (i ∈ ns))) := fun H1 x Q q =>
  ha H1 x _ fun v H2 x2 d2 => hb H2 (x.trans x2) _ fun a vs H3 x3 hs hd => by
    rw [d2.of_int]
    rw [hd.ints] at hs
    refine ⟨a, _, rfl, .inl hs, rfl, flat_ints ns, ?_⟩
    show Q (.bl (inV (.int i) (ns.map V.int))) H3
    rw [inV_ints]
    exact q _ H3 (x2.trans x3) .bl
theorem p_niLI {i : Int} {ns : List Int} (ha : EvP K ta σ H (.int i)) (hb : EvS K tb σ H (ns.map .int)) : EvP K (tOp (rIn K true) ta tb) σ H (.bool (!decide (i ∈ ns))) := fun H1 x Q q =>
  ha H1 x _ fun v H2 x2 d2 => hb H2 (x.trans x2) _ fun a vs H3 x3 hs hd => by
    rw [d2.of_int]
    rw [hd.ints] at hs
    refine ⟨a, _, rfl, .inl hs, rfl, flat_ints ns, ?_⟩
    show Q (.bl (!inV (.int i) (ns.map V.int))) H3
    rw [inV_ints]
    exact q _ H3 (x2.trans x3) .bl

/-! truth values -/
theorem t_val {b : Bool} (h : EvP K te σ H (.bool b)) : EvT (tB te) σ H b := fun H1 x Q q => h H1 x _ fun v H2 x2 d2 => ⟨b, d2.of_bool, q H2 x2⟩
theorem t_test {b : Bool} (h : EvP K te σ H (.bool b)) : EvT (tTest te) σ H b := fun H1 x Q q => h H1 x _ fun v H2 x2 d2 => ⟨b, d2.of_bool, q H2 x2⟩
theorem t_truL (h : EvS K te σ H ds) : EvT (fun σ H Q => te σ H fun x H' => ∃ k, TruV K x H' k ∧ Q k H') σ H (!ds.isEmpty) := fun H1 x Q q => h H1 x _ fun a vs H2 x2 hs hd =>
  ⟨!vs.isEmpty, .inl ⟨vs, hs, rfl⟩, by
    have e : vs.isEmpty = ds.isEmpty := by
      have := hd.length
      cases vs <;> cases ds <;> simp_all
    rw [e]
    exact q H2 x2⟩
theorem t_truT (h : EvP K te σ H (.tuple ds)) : EvT (fun σ H Q => te σ H fun x H' => ∃ k, TruV K x H' k ∧ Q k H') σ H (!ds.isEmpty) := fun H1 x Q q => h H1 x _ fun v H2 x2 d2 => by
  obtain ⟨a, vs, rfl, hs, hd⟩ := d2.of_tup
  refine ⟨!vs.isEmpty, .inr (.inl ⟨vs, hs, rfl⟩), ?_⟩
  have e : vs.isEmpty = ds.isEmpty := by
    have := hd.length
    cases vs <;> cases ds <;> simp_all
  rw [e]
  exact q H2 x2
theorem t_truI {i : Int} (h : EvP K te σ H (.int i)) : EvT (fun σ H Q => te σ H fun x H' => ∃ k, TruV K x H' k ∧ Q k H') σ H (i != 0) := fun H1 x Q q => h H1 x _ fun v H2 x2 d2 => by
  rw [d2.of_int]
  exact ⟨_, rfl, q H2 x2⟩
theorem p_andV {a b : Bool} (h1 : EvP K ta σ H (.bool a)) (h2 : a = true → EvP K tb σ H (.bool b)) : EvP K (tAndV ta tb) σ H (.bool (a && b)) := fun H1 x Q q => h1 H1 x _ fun v H2 x2 d2 => ⟨a, d2.of_bool, by
  cases a with
  | true =>
    show tb σ H2 Q
    exact h2 rfl H2 (x.trans x2) Q fun v H3 x3 d3 => q v H3 (x2.trans x3) d3
  | false =>
    show Q (.bl false) H2
    exact q _ H2 x2 .bl⟩
theorem p_orV {a b : Bool} (h1 : EvP K ta σ H (.bool a)) (h2 : a = false → EvP K tb σ H (.bool b)) : EvP K (tOrV ta tb) σ H (.bool (a || b)) := fun H1 x Q q => h1 H1 x _ fun v H2 x2 d2 => ⟨a, d2.of_bool, by
  cases a with
  | true =>
    show Q (.bl true) H2
    exact q _ H2 x2 .bl
  | false =>
    show tb σ H2 Q
    exact h2 rfl H2 (x.trans x2) Q fun v H3 x3 d3 => q v H3 (x2.trans x3) d3⟩
theorem p_notV {a : Bool} (h1 : EvP K ta σ H (.bool a)) : EvP K (tNotV ta) σ H (.bool (!a)) := fun H1 x Q q => h1 H1 x _ fun v H2 x2 d2 => ⟨a, d2.of_bool, q _ H2 x2 .bl⟩
theorem p_if {b : Bool} (h : EvT t σ H b) (h1 : b = true → EvP K ta σ H d) (h2 : b = false → EvP K tb σ H d) : EvP K (tIf t ta tb) σ H d := fun H1 x Q q => h H1 x _ fun H2 x2 => by
  cases b with
  | true =>
    show ta σ H2 Q
    exact h1 rfl H2 (x.trans x2) Q fun v H3 x3 d3 => q v H3 (x2.trans x3) d3
  | false =>
    show tb σ H2 Q
    exact h2 rfl H2 (x.trans x2) Q fun v H3 x3 d3 => q v H3 (x2.trans x3) d3

/-! displays, items, slices -/
theorem a_nil : EvAs K tNil σ H [] := fun H1 _ Q q => q [] H1 (Ex.refl H1) .nil
theorem a_cons {tr : TA} (h : EvP K te σ H d) (hr : EvAs K tr σ H ds) : EvAs K (tCons te tr) σ H (d :: ds) := fun H1 x Q q =>
  h H1 x _ fun v H2 x2 d2 => hr H2 (x.trans x2) _ fun vs H3 x3 d3 => q _ H3 (x2.trans x3) (.cons (d2.ex x3) d3)
theorem p_tup {ta : TA} (h : EvAs K ta σ H ds) (hl : ds.length ≤ 100000) : EvP K (tTup ta) σ H (.tuple ds) := fun H1 x Q q =>
  h H1 x _ fun vs H2 x2 d2 => ⟨sz_of (by rw [d2.length]; exact hl), fun p hp => q _ _ (x2.trans (Ex.new hp)) (Dr.tup upd_same (d2.ex (Ex.new hp)))⟩
theorem n_lst {ta : TA} (h : EvAs K ta σ H ds) (hl : ds.length ≤ 100000) : EvN K (tLst ta) σ H ds := fun H1 x Q q =>
  h H1 x _ fun vs H2 x2 d2 => ⟨sz_of (by rw [d2.length]; exact hl), fun p hp => q p vs _ (fresh_back x2 hp) (x2.trans (Ex.new hp)) upd_same (d2.ex (Ex.new hp))⟩
theorem atI_dr {vs : List V} {i : Int} (h : DrA K H vs ds) (e : atI ds i = some d) : ∃ v, atI vs i = some v ∧ Dr K H v d := by
  unfold atI at e ⊢
  rw [h.length]
  cases q : ixN ds.length i with
  | none => rw [q] at e; cases e
  | some j =>
    rw [q] at e
    exact h.get (by simpa using e)
theorem p_ixT {i : Int} (ha : EvP K ta σ H (.tuple ds)) (hb : EvP K tb σ H (.int i)) (hi : atI ds i = some d) : EvP K (tOp (rIxT K) ta tb) σ H d := fun H1 x Q q =>
  ha H1 x _ fun v H2 x2 d2 => hb H2 (x.trans x2) _ fun u H3 x3 d3 => by
    obtain ⟨a, vs, rfl, hs, hd⟩ := d2.of_tup
    obtain ⟨v, h1, h2⟩ := atI_dr (hd.ex x3) hi
    exact ⟨a, vs, i, v, rfl, d3.of_int, ex_t x3 hs, h1, q v H3 (x2.trans x3) h2⟩
theorem p_ixL {i : Int} (ha : EvS K ta σ H ds) (hb : EvP K tb σ H (.int i)) (hi : atI ds i = some d) : EvP K (tOp (rIxL K) ta tb) σ H d := fun H1 x Q q =>
  ha H1 x _ fun a vs H2 x2 hs hd => hb H2 (x.trans x2) _ fun u H3 x3 d3 => by
    obtain ⟨v, h1, h2⟩ := atI_dr (hd.ex x3) hi
    exact ⟨a, vs, i, v, rfl, d3.of_int, ex_l x3 hs, h1, q v H3 (x2.trans x3) h2⟩
theorem DrA.drop : ∀ {vs : List V} {ds : List PyData} (n : Nat), DrA K H vs ds → DrA K H (vs.drop n) (ds.drop n)
  | _, _, 0, h => h
  | [], [], n + 1, h => .nil
  | _ :: _, _ :: _, n + 1, h => by
    cases h with
    | cons a b => exact DrA.drop n b
  | [], _ :: _, _ + 1, h => by cases h
  | _ :: _, [], _ + 1, h => by cases h
theorem DrA.take : ∀ {vs : List V} {ds : List PyData} (n : Nat), DrA K H vs ds → DrA K H (vs.take n) (ds.take n)
  | _, _, 0, _ => .nil
  | [], [], n + 1, h => .nil
  | _ :: _, _ :: _, n + 1, h => by
    cases h with
    | cons a b => exact DrA.cons a (DrA.take n b)
  | [], _ :: _, _ + 1, h => by cases h
  | _ :: _, [], _ + 1, h => by cases h
theorem DrA.cut {vs : List V} {ds : List PyData} {lo hi : Option Int} (h : DrA K H vs ds) : DrA K H (cutV vs lo hi) (cutD ds lo hi) := by
  unfold cutV cutD
  rw [h.length]
  exact (h.drop _).take _
def EvOi (to : TO) (σ : L2.St) (H : Hp) (o : Option Int) : Prop := EvO to σ H o
theorem o_none : EvO tNoPart σ H none := eo_none
theorem o_some {i : Int} (h : EvP K te σ H (.int i)) : EvO (tPart te) σ H (some i) := fun H1 x Q q => h H1 x _ fun v H2 x2 d2 => ⟨i, d2.of_int, q H2 x2⟩
theorem n_slL {tl th : TO} {lo hi : Option Int} (h : EvS K te σ H ds) (h1 : EvO tl σ H lo) (h2 : EvO th σ H hi) : EvN K (tSl (rSlL K) te tl th) σ H (cutD ds lo hi) := fun H1 x Q q =>
  h H1 x _ fun a vs H2 x2 hs hd => h1 H2 (x.trans x2) _ fun H3 x3 => h2 H3 ((x.trans x2).trans x3) _ fun H4 x4 =>
    ⟨a, vs, rfl, ex_l (x3.trans x4) hs, fun p hp => q p _ _ (fresh_back ((x2.trans x3).trans x4) hp) (((x2.trans x3).trans x4).trans (Ex.new hp)) upd_same (((hd.ex (x3.trans x4)).cut).ex (Ex.new hp))⟩
theorem n_cat (ha : EvN K ta σ H ds) (hb : EvN K tb σ H es) (hl : ds.length + es.length ≤ 16777216) : EvN K (tOp rCat ta tb) σ H (ds ++ es) := fun H1 x Q q =>
  ha H1 x _ fun a vs H2 f2 x2 h2 d2 => hb H2 (x.trans x2) _ fun b ws H3 f3 x3 h3 d3 =>
    ⟨a, b, vs, ws, rfl, rfl, x3 a _ h2, h3, by rw [d2.length, d3.length, sizeLine_eq]; exact hl, fun p hp => q p _ _ (fresh_back (x2.trans x3) hp) ((x2.trans x3).trans (Ex.new hp)) upd_same ((((d2.ex x3).append d3)).ex (Ex.new hp))⟩
theorem p_catT (ha : EvP K ta σ H (.tuple ds)) (hb : EvP K tb σ H (.tuple es)) (hl : ds.length + es.length ≤ 16777216) : EvP K (tOp (rCatA K) ta tb) σ H (.tuple (ds ++ es)) := fun H1 x Q q =>
  ha H1 x _ fun v H2 x2 d2 => hb H2 (x.trans x2) _ fun u H3 x3 d3 => by
    obtain ⟨a, vs, rfl, hs, hd⟩ := d2.of_tup
    obtain ⟨b, ws, rfl, hs', hd'⟩ := d3.of_tup
    refine ⟨a, b, vs, ws, rfl, rfl, ex_t x3 hs, hs', by rw [hd.length, hd'.length, sizeLine_eq]; exact hl, fun e => ?_, fun _ e => ?_, fun _ _ p hp => ?_⟩
    · have : ds = [] := by
        have := hd.length
        rw [e] at this
        exact List.eq_nil_of_length_eq_zero this.symm
      rw [this, List.nil_append] at q
      exact q _ H3 (x2.trans x3) d3
    · have : es = [] := by
        have := hd'.length
        rw [e] at this
        exact List.eq_nil_of_length_eq_zero this.symm
      rw [this, List.append_nil] at q
      exact q _ H3 (x2.trans x3) (d2.ex x3)
    · exact q _ _ ((x2.trans x3).trans (Ex.new hp)) (Dr.tup upd_same (((hd.ex x3).append hd').ex (Ex.new hp)))

/-! built-ins -/
def rLen0 (K : PySem.W.Frag) : List V → Hp → VK → Prop := fun xs H Q => ∃ p ys, xs = [.ref p] ∧ (SqL K H p ys ∨ SqT K H p ys) ∧ Q (.int ys.length) H
theorem p_lenL (h : EvS K te σ H ds) : EvP K (tCB (rLen0 K) (tCons te tNil)) σ H (.int ds.length) := fun H1 x Q q => h H1 x _ fun a vs H2 x2 hs hd =>
  ⟨a, vs, rfl, .inl hs, by rw [hd.length]; exact q _ H2 x2 .int⟩
theorem p_lenT (h : EvP K te σ H (.tuple ds)) : EvP K (tCB (rLen0 K) (tCons te tNil)) σ H (.int ds.length) := fun H1 x Q q => h H1 x _ fun v H2 x2 d2 => by
  obtain ⟨a, vs, rfl, hs, hd⟩ := d2.of_tup
  exact ⟨a, vs, rfl, .inr hs, by rw [hd.length]; exact q _ H2 x2 .int⟩
def absI (i : Int) : Int := if i < 0 then -i else i
def rAbs0 : List V → Hp → VK → Prop := fun xs H Q => ∃ i, xs = [.int i] ∧ Q (.int (if i < 0 then -i else i)) H
theorem p_abs {i : Int} (h : EvP K te σ H (.int i)) : EvP K (tCB rAbs0 (tCons te tNil)) σ H (.int (absI i)) := fun H1 x Q q => h H1 x _ fun v H2 x2 d2 =>
  ⟨i, by rw [d2.of_int], q _ H2 x2 .int⟩
def rMax0 : List V → Hp → VK → Prop := fun xs H Q => ∃ i j, xs = [.int i, .int j] ∧ Q (.int (if j > i then j else i)) H
def rMin0 : List V → Hp → VK → Prop := fun xs H Q => ∃ i j, xs = [.int i, .int j] ∧ Q (.int (if j < i then j else i)) H
theorem p_max2 {i j : Int} (ha : EvP K ta σ H (.int i)) (hb : EvP K tb σ H (.int j)) : EvP K (tCB rMax0 (tCons ta (tCons tb tNil))) σ H (.int (max i j)) := fun H1 x Q q =>
  ha H1 x _ fun v H2 x2 d2 => hb H2 (x.trans x2) _ fun u H3 x3 d3 => ⟨i, j, by rw [d2.of_int, d3.of_int], by
    have e : (if j > i then j else i) = max i j := by
      by_cases h : j > i
      · rw [if_pos h]; omega
      · rw [if_neg h]; omega
    rw [e]
    exact q _ H3 (x2.trans x3) .int⟩
theorem p_min2 {i j : Int} (ha : EvP K ta σ H (.int i)) (hb : EvP K tb σ H (.int j)) : EvP K (tCB rMin0 (tCons ta (tCons tb tNil))) σ H (.int (min i j)) := fun H1 x Q q =>
  ha H1 x _ fun v H2 x2 d2 => hb H2 (x.trans x2) _ fun u H3 x3 d3 => ⟨i, j, by rw [d2.of_int, d3.of_int], by
    have e : (if j < i then j else i) = min i j := by
      by_cases h : j < i
      · rw [if_pos h]; omega
      · rw [if_neg h]; omega
    rw [e]
    exact q _ H3 (x2.trans x3) .int⟩
def rInt0 : List V → Hp → VK → Prop := fun xs H Q => (∃ i, xs = [.int i] ∧ Q (.int i) H) ∨ ∃ k, xs = [.bl k] ∧ Q (.int (if k then 1 else 0)) H
theorem p_intI {i : Int} (h : EvP K te σ H (.int i)) : EvP K (tCB rInt0 (tCons te tNil)) σ H (.int i) := fun H1 x Q q => h H1 x _ fun v H2 x2 d2 =>
  .inl ⟨i, by rw [d2.of_int], q _ H2 x2 .int⟩
def b2n (b : Bool) : Int := if b then 1 else 0
theorem p_intB {b : Bool} (h : EvP K te σ H (.bool b)) : EvP K (tCB rInt0 (tCons te tNil)) σ H (.int (b2n b)) := fun H1 x Q q => h H1 x _ fun v H2 x2 d2 =>
  .inr ⟨b, by rw [d2.of_bool], q _ H2 x2 .int⟩
def rTupO (K : PySem.W.Frag) : List V → Hp → VK → Prop := fun xs H Q => ∃ p ys, xs = [.ref p] ∧ ((SqL K H p ys ∧ ∀ l, H l = none → Q (.ref l) (upd H l (.tup ys))) ∨ (SqT K H p ys ∧ Q (.ref p) H))
theorem p_tupL (h : EvS K te σ H ds) : EvP K (tCB (rTupO K) (tCons te tNil)) σ H (.tuple ds) := fun H1 x Q q => h H1 x _ fun a vs H2 x2 hs hd =>
  ⟨a, vs, rfl, .inl ⟨hs, fun l hl => q _ _ (x2.trans (Ex.new hl)) (Dr.tup upd_same (hd.ex (Ex.new hl)))⟩⟩
theorem p_tupT (h : EvP K te σ H (.tuple ds)) : EvP K (tCB (rTupO K) (tCons te tNil)) σ H (.tuple ds) := fun H1 x Q q => h H1 x _ fun v H2 x2 d2 => by
  obtain ⟨a, vs, rfl, hs, hd⟩ := d2.of_tup
  exact ⟨a, vs, rfl, .inr ⟨hs, q _ H2 x2 d2⟩⟩
def rLstO (K : PySem.W.Frag) : List V → Hp → VK → Prop := fun xs H Q => ∃ p ys, xs = [.ref p] ∧ (SqL K H p ys ∨ SqT K H p ys) ∧ ∀ l, H l = none → Q (.ref l) (upd H l (.lst ys))
theorem n_listL (h : EvS K te σ H ds) : EvN K (tCB (rLstO K) (tCons te tNil)) σ H ds := fun H1 x Q q => h H1 x _ fun a vs H2 x2 hs hd =>
  ⟨a, vs, rfl, .inl hs, fun l hl => q l vs _ (fresh_back x2 hl) (x2.trans (Ex.new hl)) upd_same (hd.ex (Ex.new hl))⟩
theorem n_listT (h : EvP K te σ H (.tuple ds)) : EvN K (tCB (rLstO K) (tCons te tNil)) σ H ds := fun H1 x Q q => h H1 x _ fun v H2 x2 d2 => by
  obtain ⟨a, vs, rfl, hs, hd⟩ := d2.of_tup
  exact ⟨a, vs, rfl, .inr hs, fun l hl => q l vs _ (fresh_back x2 hl) (x2.trans (Ex.new hl)) upd_same (hd.ex (Ex.new hl))⟩
theorem p_any {bs : List Bool} (h : EvS K te σ H (bs.map .bool)) : EvP K (tCB (rAny K) (tCons te tNil)) σ H (.bool (bs.any id)) := fun H1 x Q q => h H1 x _ fun a vs H2 x2 hs hd => by
  rw [hd.bools] at hs
  exact ⟨a, bs, rfl, hs, q _ H2 x2 .bl⟩
theorem p_all {bs : List Bool} (h : EvS K te σ H (bs.map .bool)) : EvP K (tCB (rAll K) (tCons te tNil)) σ H (.bool (bs.all id)) := fun H1 x Q q => h H1 x _ fun a vs H2 x2 hs hd => by
  rw [hd.bools] at hs
  exact ⟨a, bs, rfl, hs, q _ H2 x2 .bl⟩
/-- ints, sorted -/
def sortI (ns : List Int) : List Int := ns.mergeSort fun a b => decide (a ≤ b)
theorem sortI_of {ns ms : List Int} (h1 : ms.Perm ns) (h2 : ms.Pairwise (· ≤ ·)) : ms = sortI ns := by
  have h3 : (sortI ns).Perm ns := List.mergeSort_perm _ _
  have h4 : (sortI ns).Pairwise (fun a b => decide (a ≤ b) = true) := List.pairwise_mergeSort (fun a b c h1 h2 => by simp at *; omega) (fun a b => by simp; omega) ns
  refine List.Perm.eq_of_pairwise (le := (· ≤ ·)) (fun a b _ _ h h' => Int.le_antisymm h h') h2 (h4.imp fun h => by simpa using h) (h1.trans h3.symm)
theorem n_sortI {ns : List Int} (h : EvS K te σ H (ns.map .int)) : EvN K (tCB (rSortedI K) (tCons te tNil)) σ H ((sortI ns).map .int) := fun H1 x Q q => h H1 x _ fun a vs H2 x2 hs hd => by
  rw [hd.ints] at hs
  refine ⟨a, ns, rfl, hs, fun ms p h1 h2 hp => ?_⟩
  rw [sortI_of h1 h2]
  exact q p _ _ (fresh_back x2 hp) (x2.trans (Ex.new hp)) upd_same .of_ints
/-- a call of one's own def that keeps a promise on data -/
def SpD (K : PySem.W.Frag) (sp : Sp) (ds : List PyData) (d : PyData) : Prop := ∀ (vs : List V) (H : Hp), DrA K H vs ds → ∀ (Q : VK) (E : XK), (∀ v H', Ex H H' → Dr K H' v d → Q v H') → sp vs H Q E
def SpN (K : PySem.W.Frag) (sp : Sp) (ds : List PyData) (es : List PyData) : Prop := ∀ (vs : List V) (H : Hp), DrA K H vs ds → ∀ (Q : VK) (E : XK), (∀ p ws H', H p = none → Ex H H' → H' p = some (.lst ws) → DrA K H' ws es → Q (.ref p) H') → sp vs H Q E
theorem p_call {sp : Sp} {E' : XK} {ta : TA} (h : EvAs K ta σ H ds) (hs : SpD K sp ds d) : EvP K (tCall sp [] E' ta) σ H d := fun H1 x Q q =>
  h H1 x _ fun vs H2 x2 d2 => by
    show sp (vs ++ []) H2 Q E'
    rw [List.append_nil]
    exact hs vs H2 d2 Q E' fun v H3 x3 d3 => q v H3 (x2.trans x3) d3
theorem n_call {sp : Sp} {E' : XK} {ta : TA} (h : EvAs K ta σ H ds) (hs : SpN K sp ds es) : EvN K (tCall sp [] E' ta) σ H es := fun H1 x Q q =>
  h H1 x _ fun vs H2 x2 d2 => by
    show sp (vs ++ []) H2 Q E'
    rw [List.append_nil]
    exact hs vs H2 d2 Q E' fun p ws H3 hp x3 h3 d3 => q p ws H3 (fresh_back x2 hp) (x2.trans x3) h3 d3
end
end Vx

/-! what is walked, targets, comprehensions, statements, loops -/
namespace Vx
open PySem L2 PySem.Spec PyProof.Rows Evl RZ
variable [Tbs]

/-! ### wiping -/
theorem wipe_get (σ : L2.St) : ∀ (vs : List Nat) (i : Nat), (wipe σ vs)[i]? = if i ∈ vs then (if i < σ.length then some none else none) else σ[i]?
  | [], i => by simp [wipe]
  | v :: vs, i => by
    unfold wipe
    by_cases h : v = i
    · subst h
      rw [if_pos List.mem_cons_self, List.getElem?_set, if_pos rfl, wipe_length]
    · rw [List.getElem?_set_ne h, wipe_get σ vs i]
      by_cases h2 : i ∈ vs
      · rw [if_pos h2, if_pos (List.mem_cons_of_mem _ h2)]
      · rw [if_neg h2, if_neg]
        intro q
        rcases List.mem_cons.mp q with q | q
        · exact h q.symm
        · exact h2 q
theorem wipe_eq {σ σ' : L2.St} {vs : List Nat} (hl : σ'.length = σ.length) (h : ∀ i, i ∉ vs → σ'[i]? = σ[i]?) : wipe σ' vs = wipe σ vs := by
  apply List.ext_getElem?
  intro i
  rw [wipe_get, wipe_get, hl]
  by_cases hi : i ∈ vs
  · rw [if_pos hi, if_pos hi]
  · rw [if_neg hi, if_neg hi, h i hi]
/-- slots but those in ts are as they were -/
def SameBut (ts : List Nat) (σ σ' : L2.St) : Prop := σ'.length = σ.length ∧ ∀ i, i ∉ ts → σ'[i]? = σ[i]?
theorem SameBut.set {σ : L2.St} {j : Nat} {o : Option V} : SameBut [j] σ (σ.set j o) := ⟨by simp, fun i hi => by rw [List.getElem?_set_ne]; simpa [eq_comm] using hi⟩
theorem SameBut.wipe {ts : List Nat} {σ σ' : L2.St} {vs : List Nat} (h : SameBut ts (wipe σ vs) σ') (hs : ∀ t ∈ ts, t ∈ vs) : wipe σ' vs = wipe σ vs := by
  refine wipe_eq (by rw [h.1, wipe_length]) fun i hi => ?_
  rw [h.2 i fun q => hi (hs i q), wipe_get, if_neg hi]
theorem SameBut.trans {ts us : List Nat} {σ σ1 σ2 : L2.St} (a : SameBut ts σ σ1) (b : SameBut us σ1 σ2) : SameBut (ts ++ us) σ σ2 :=
  ⟨b.1.trans a.1, fun i hi => (b.2 i fun q => hi (List.mem_append_right _ q)).trans (a.2 i fun q => hi (List.mem_append_left _ q))⟩
def wipE (E : EnvD) : List Nat → EnvD
  | [] => E
  | v :: vs => (wipE E vs).set v none
theorem Sl.wipe {K : PySem.W.Frag} {H : Hp} {σ : L2.St} {E : EnvD} (S : Sl K H σ E) : ∀ vs : List Nat, Sl K H (wipe σ vs) (wipE E vs)
  | [] => S
  | v :: vs => by
    unfold L2.wipe wipE
    exact (Sl.wipe S vs).set v (o := none) (e := none) trivial

/-! ### targets -/
/-- the target g takes the datum d: the slots ts change, E becomes E' -/
def Gd (K : PySem.W.Frag) (g : TG) (ts : List Nat) (d : PyData) (E E' : EnvD) : Prop :=
  ∀ (σ : L2.St) (H : Hp) (v : V), Sl K H σ E → Dr K H v d → ∀ Q : L2.St → Hp → Prop, (∀ σ', SameBut ts σ σ' → Sl K H σ' E' → Q σ' H) → g v σ H Q
theorem gd_name {K : PySem.W.Frag} {j : Nat} {d : PyData} {E : EnvD} : Gd K (gName j) [j] d E (E.set j (some (.dat d))) := fun σ H v S dr Q q => q _ .set (S.put j dr)
/-- the items of a tuple, one by one -/
def Gds (K : PySem.W.Frag) (g : TGs) (ts : List Nat) (ds : List PyData) (E E' : EnvD) : Prop :=
  ∀ (σ : L2.St) (H : Hp) (vs : List V), Sl K H σ E → DrA K H vs ds → ∀ Q : L2.St → Hp → Prop, (∀ σ', SameBut ts σ σ' → Sl K H σ' E' → Q σ' H) → g vs σ H Q
theorem gds_nil {K : PySem.W.Frag} {E : EnvD} : Gds K gNil [] [] E E := fun σ H vs S da Q q => by
  cases vs with
  | nil => exact ⟨rfl, q σ ⟨rfl, fun _ _ => rfl⟩ S⟩
  | cons v vs => cases da
theorem gds_cons {K : PySem.W.Frag} {g : TG} {gs : TGs} {t1 t2 : List Nat} {d : PyData} {ds : List PyData} {E E1 E2 : EnvD} (h1 : Gd K g t1 d E E1) (h2 : Gds K gs t2 ds E1 E2) : Gds K (gCons g gs) (t1 ++ t2) (d :: ds) E E2 := fun σ H vs S da Q q => by
  cases vs with
  | nil => cases da
  | cons v vs =>
    cases da with
    | cons a b => exact ⟨v, vs, rfl, h1 σ H v S a _ fun σ1 s1 S1 => h2 σ1 H vs S1 b _ fun σ2 s2 S2 => q σ2 (s1.trans s2) S2⟩
theorem gd_tup {K : PySem.W.Frag} {gs : TGs} {ts : List Nat} {ds : List PyData} {E E' : EnvD} {n : Nat} (h : Gds K gs ts ds E E') (hn : ds.length = n) : Gd K (gTup K n gs) ts (.tuple ds) E E' := fun σ H v S dr Q q => by
  obtain ⟨a, vs, rfl, hs, hd⟩ := dr.of_tup
  exact ⟨a, vs, rfl, hs, hd.length.trans hn, h σ H vs S hd Q q⟩

/-! ### what is walked -/
def Yd (K : PySem.W.Frag) (ds : List PyData) : Nat → Hp → V → Hp → Prop := fun i H x H' => Ex H H' ∧ ∃ d, ds[i]? = some d ∧ Dr K H' x d
/-- for loops: what stands for ever, and the def's entry -/
def ItD (K : PySem.W.Frag) (H0 : Hp) (wi : TI) (σ : L2.St) (H : Hp) (ds : List PyData) : Prop := ∀ H1, Ex H H1 → ∀ R : It → Hp → Prop, (∀ J H2, Ex H1 H2 → Walk J ds.length (fun Hx => Kp H2 Hx ∧ Ex H0 Hx) (Yd K ds) → R J H2) → wi σ H1 R
/-- comprehensions: all that stood -/
def ItE (K : PySem.W.Frag) (wi : TI) (σ : L2.St) (H : Hp) (ds : List PyData) : Prop := ∀ H1, Ex H H1 → ∀ R : It → Hp → Prop, (∀ J H2, Ex H1 H2 → ds.length ≤ sizeLine → Walk J ds.length (fun Hx => Ex H2 Hx) (Yd K ds) → R J H2) → wi σ H1 R
section
variable {K : PySem.W.Frag} {σ : L2.St} {H H0 : Hp} {te ta tb : TE} {ds es : List PyData}
theorem yd_at {vs : List V} {Hs : Hp} {G : Hp → Prop} {J : It} (w : Walk J vs.length G (YAt vs)) (hd : DrA K Hs vs ds) (hg : ∀ Hx, G Hx → Kp Hs Hx) : Walk J ds.length G (Yd K ds) := by
  rw [← hd.length]
  refine w.mono (fun _ h => h) fun i Ha x Hb hi g y => ?_
  obtain ⟨rfl, e⟩ := y
  obtain ⟨d, h1, h2⟩ := hd.getV e
  exact ⟨Ex.refl _, d, h1, h2.kp (hg _ g)⟩
theorem SqT.kp {a : Addr} {vs : List V} {Hs Hx : Hp} (h : SqT K (im Hs) a vs) (k : Kp Hs Hx) : SqT K Hx a vs := Evl.ex_t (ex_im Hx) (Evl.ex_t k.ex h)
theorem SqL.kp {a : Addr} {vs : List V} {Hs Hx : Hp} (h : SqL K (im Hs) a vs) (k : Kp Hs Hx) : SqL K Hx a vs := Evl.ex_l (ex_im Hx) (Evl.ex_l k.ex h)
theorem Dr.of_tup' {v : V} {ds : List PyData} (h : Dr K H v (.tuple ds)) : ∃ a vs, v = .ref a ∧ SqT K (im H) a vs ∧ DrA K H vs ds := by
  cases h with
  | tup hs ha => exact ⟨_, _, rfl, .inl (.inl hs), ha⟩
theorem it_tup (h : EvP K te σ H (.tuple ds)) : ItD K H0 (iTup K te) σ H ds := fun H1 x R r => h H1 x _ fun v H2 x2 dr => by
  obtain ⟨a, vs, rfl, hs, hd⟩ := dr.of_tup'
  refine ⟨a, rfl, ⟨vs, Evl.ex_t (ex_im H2) hs⟩, r _ H2 x2 (yd_at (walk_tup.mono (fun Hx g => SqT.kp hs g.1) fun _ _ _ _ _ _ y => y) hd fun _ g => g.1)⟩
theorem it_lst (h : EvP K te σ H (.list ds)) : ItD K H0 (iList K te) σ H ds := fun H1 x R r => h H1 x _ fun v H2 x2 dr => by
  obtain ⟨a, vs, rfl, _, hs, hd⟩ := dr.of_lst
  refine ⟨a, rfl, ⟨vs, Evl.ex_l (ex_im H2) hs⟩, r _ H2 x2 (yd_at (walk_list.mono (fun Hx g => SqL.kp hs g.1) fun _ _ _ _ _ _ y => y) hd fun _ g => g.1)⟩
/-- over a list that a parameter brought -/
theorem it_par {a : Addr} {vs : List V} {i : Nat} {E : EnvD} (S : Sl K H σ E) (hi : E[i]? = some (some (.raw (.ref a)))) (e0 : Ex H0 H) (hs : SqL K H0 a vs) (hd : DrA K H0 vs ds) : ItD K H0 (iList K (tVar i)) σ H ds := fun H1 x R r =>
  ⟨.ref a, S.raw hi, a, rfl, ⟨vs, ex_l (e0.trans x) hs⟩, r _ H1 (Ex.refl H1) (yd_at (walk_list.mono (fun Hx g => ex_l g.2 hs) fun _ _ _ _ _ _ y => y) hd fun _ g => Kp.of g.2)⟩
def rangeL (lo hi : Int) : List Int := (List.range (hi - lo).toNat).map fun (i : Nat) => lo + (i : Int)
theorem rangeL_get {lo hi : Int} {i : Nat} (h : i < (hi - lo).toNat) : (rangeL lo hi)[i]? = some (lo + i) := by
  unfold rangeL
  rw [List.getElem?_map, List.getElem?_range h]
  rfl
theorem rangeL_length (lo hi : Int) : (rangeL lo hi).length = (hi - lo).toNat := by simp [rangeL]
def rangeOk (lo hi : Int) : Bool := decide (-(2 ^ 24) ≤ lo) && decide (lo ≤ 2 ^ 23) && decide (-(2 ^ 24) ≤ hi) && decide (hi ≤ 2 ^ 23) && decide (hi - lo ≤ 2 ^ 24)
theorem walk_rng {lo hi : Int} {G : Hp → Prop} : Walk (Itr lo (hi - lo).toNat) ((rangeL lo hi).map PyData.int).length G (Yd K ((rangeL lo hi).map .int)) := by
  rw [List.length_map, rangeL_length]
  refine walk_range.mono (fun _ _ => trivial) fun i Ha x Hb hi g y => ?_
  obtain ⟨rfl, rfl⟩ := y
  exact ⟨Ex.refl _, _, by rw [List.getElem?_map, rangeL_get hi]; rfl, .int⟩
theorem rangeOk_all {lo hi : Int} (h : rangeOk lo hi = true) : -(2 ^ 24) ≤ lo ∧ lo ≤ 2 ^ 23 ∧ -(2 ^ 24) ≤ hi ∧ hi ≤ 2 ^ 23 ∧ hi - lo ≤ 2 ^ 24 := by
  simp only [rangeOk, Bool.and_eq_true, decide_eq_true_eq] at h
  omega
theorem it_rng1 {ta : TA} {n : Int} (h : EvAs K ta σ H [.int n]) (hn : rangeOk 0 n = true) : ItD K H0 (iRng1 ta) σ H ((rangeL 0 n).map .int) := fun H1 x R r => h H1 x _ fun vs H2 x2 da => by
  have hb := rangeOk_all hn
  cases vs with
  | nil => cases da
  | cons v vs =>
    cases da with
    | cons a b =>
      cases vs with
      | cons _ _ => cases b
      | nil =>
        refine ⟨n, by rw [Dr.of_int (K := K) (H := H2) a], by omega, by omega, ?_⟩
        have e : n.toNat = (n - 0).toNat := by omega
        rw [e]
        exact r _ H2 x2 walk_rng
theorem it_rng2 {ta : TA} {lo n : Int} (h : EvAs K ta σ H [.int lo, .int n]) (hn : rangeOk lo n = true) : ItD K H0 (iRng2 ta) σ H ((rangeL lo n).map .int) := fun H1 x R r => h H1 x _ fun vs H2 x2 da => by
  have hb := rangeOk_all hn
  cases vs with
  | nil => cases da
  | cons v vs =>
    cases da with
    | cons a b =>
      cases vs with
      | nil => cases b
      | cons w ws =>
        cases b with
        | cons a2 b2 =>
          cases ws with
          | cons _ _ => cases b2
          | nil =>
            refine ⟨lo, n, by rw [Dr.of_int (K := K) (H := H2) a, Dr.of_int (K := K) (H := H2) a2], ⟨by omega, by omega, by omega, by omega⟩, ?_⟩
            exact r _ H2 x2 walk_rng
theorem range_line {lo hi : Int} (h : rangeOk lo hi = true) : ((rangeL lo hi).map PyData.int).length ≤ sizeLine := by
  have hb := rangeOk_all h
  rw [List.length_map, rangeL_length, sizeLine_eq]
  omega
/-! .. by comprehensions -/
end
theorem pi_wf {X : Cx} {tg iter : Expr} {wi : TI} (h : PI X tg iter wi) : PI X tg iter (fun σ H R => wi σ H fun J H1 => Wf X.K H1 → R J H1) := by
  refine ⟨fun pins s σ H R I hq => thn (h.run pins s σ H _ I hq) fun v s1 q => thn q fun it s2 p => ?_⟩
  obtain ⟨it, fp, tn, J, H', e, I', tt, t0, hf, r⟩ := p
  exact ⟨it, fp, tn, J, H', e, I', tt, t0, hf, r (inv_wf I')⟩
section
variable {K : PySem.W.Frag} {σ : L2.St} {H H0 : Hp} {te ta tb : TE} {ds es : List PyData}
def iWf (K : PySem.W.Frag) (wi : TI) : TI := fun σ H R => wi σ H fun J H1 => Wf K H1 → R J H1
theorem ItD.e {wi : TI} (h : ItD K H0 wi σ H ds) (e0 : Ex H0 H) (hl : ds.length ≤ sizeLine) : ItE K wi σ H ds := fun H1 x R r => h H1 x R fun J H2 x2 w => r J H2 x2 hl (w.mono (fun Hx g => ⟨Kp.of g, (e0.trans (x.trans x2)).trans g⟩) fun _ _ _ _ _ _ y => y)
theorem ie_tup (h : EvP K te σ H (.tuple ds)) : ItE K (iWf K (iTup K te)) σ H ds := fun H1 x R r => h H1 x _ fun v H2 x2 dr => by
  obtain ⟨a, vs, rfl, hs, hd⟩ := dr.of_tup
  refine ⟨a, rfl, ⟨vs, hs⟩, fun w => r _ H2 x2 (by rw [← hd.length]; exact w.2 _ _ hs) (yd_at (walk_tup.mono (fun Hx g => ex_t g hs) fun _ _ _ _ _ _ y => y) hd fun _ g => Kp.of g)⟩
theorem ie_lst (h : EvS K te σ H ds) : ItE K (iWf K (iList K te)) σ H ds := fun H1 x R r => h H1 x _ fun a vs H2 x2 hs hd =>
  ⟨a, rfl, ⟨vs, hs⟩, fun w => r _ H2 x2 (by rw [← hd.length]; exact w.1 _ _ hs) (yd_at (walk_list.mono (fun Hx g => ex_l g hs) fun _ _ _ _ _ _ y => y) hd fun _ g => Kp.of g)⟩
theorem ie_rng1 {ta : TA} {n : Int} (h : EvAs K ta σ H [.int n]) (hn : rangeOk 0 n = true) (e0 : Ex H0 H) : ItE K (iRng1 ta) σ H ((rangeL 0 n).map .int) := (it_rng1 (H0 := H0) h hn).e e0 (range_line hn)
theorem ie_rng2 {ta : TA} {lo n : Int} (h : EvAs K ta σ H [.int lo, .int n]) (hn : rangeOk lo n = true) (e0 : Ex H0 H) : ItE K (iRng2 ta) σ H ((rangeL lo n).map .int) := (it_rng2 (H0 := H0) h hn).e e0 (range_line hn)
/-- a pair -/
def prD (x y : PyData) : PyData := .tuple [x, y]
def enumD (ds : List PyData) : List PyData := ds.zipIdx.map fun p => prD (.int (p.2 : Int)) p.1
theorem yd_pair {xs ys : Nat → Option V} {Hs : Hp} {n : Nat} {G : Hp → Prop} {J : It} {fs : List PyData} (w : Walk J n G (YPair xs ys)) (hn : fs.length = n)
    (h : ∀ i x y, xs i = some x → ys i = some y → ∃ d e, fs[i]? = some (prD d e) ∧ Dr K Hs x d ∧ Dr K Hs y e) (hg : ∀ Hx, G Hx → Kp Hs Hx) : Walk J fs.length G (Yd K fs) := by
  rw [hn]
  refine w.mono (fun _ h => h) fun i Ha x Hb hi g y => ?_
  obtain ⟨T, x1, y1, rfl, hT, rfl, h1, h2⟩ := y
  obtain ⟨d, e, h3, h4, h5⟩ := h i x1 y1 h1 h2
  have k := (hg _ g).trans (Kp.of (Ex.new (o := .tup [x1, y1]) hT))
  exact ⟨Ex.new hT, _, h3, Dr.tup upd_same (.cons (h4.kp k) (.cons (h5.kp k) .nil))⟩
theorem ie_enumL (h : EvS K te σ H ds) : ItE K (iWf K (iEnum K (tCons te tNil))) σ H (enumD ds) := fun H1 x R r => h H1 x _ fun a vs H2 x2 hs hd => by
  have hl : (enumD ds).length = vs.length := by rw [hd.length]; simp [enumD]
  refine ⟨a, vs, rfl, hs, fun w => r _ H2 x2 (by rw [hl]; exact w.1 _ _ hs) (yd_pair (Hs := H2) (walk_enum.mono (fun Hx g => ex_l g hs) fun _ _ _ _ _ _ y => y) hl (fun i x y e1 e2 => ?_) fun _ g => Kp.of g)⟩
  obtain ⟨d, h1, h2⟩ := hd.getV e2
  have e1' : V.int (i : Nat) = x := by simpa using e1
  subst e1'
  exact ⟨_, d, by simp [enumD, h1], .int, h2⟩
theorem it_enumL (h : EvP K te σ H (.list ds)) : ItD K H0 (iEnum K (tCons te tNil)) σ H (enumD ds) := fun H1 x R r => h H1 x _ fun v H2 x2 dr => by
  obtain ⟨a, vs, rfl, hs0, hs, hd⟩ := dr.of_lst
  have hl : (enumD ds).length = vs.length := by rw [hd.length]; simp [enumD]
  refine ⟨a, vs, rfl, hs0, r _ H2 x2 (yd_pair (Hs := H2) (walk_enum.mono (fun Hx g => SqL.kp hs g.1) fun _ _ _ _ _ _ y => y) hl (fun i x y e1 e2 => ?_) fun _ g => g.1)⟩
  obtain ⟨d, h1, h2⟩ := hd.getV e2
  have e1' : V.int (i : Nat) = x := by simpa using e1
  subst e1'
  exact ⟨_, d, by simp [enumD, h1], .int, h2⟩
def zipD (ds es : List PyData) : List PyData := (ds.zip es).map fun p => prD p.1 p.2
theorem walk_zipT {a b : Addr} {xs ys : List V} {n : Nat} (hn : n = min xs.length ys.length) : Walk (ItzT K a b) n (fun H => SqT K H a xs ∧ SqT K H b ys) (YPair (fun i => xs[i]?) (fun i => ys[i]?)) := by
  subst hn
  refine ⟨fun i _ hi q => ?_, fun _ q => ⟨xs, ys, q.1, q.2, by omega⟩, fun i H v H' _ q y => ?_⟩
  · have h1 : i < xs.length := by omega
    have h2 : i < ys.length := by omega
    exact ⟨xs, ys, xs[i], ys[i], q.1, q.2, by simp [h1], by simp [h2]⟩
  · obtain ⟨T, x, z, h1, h2, h3, h4, h5⟩ := y
    exact ⟨T, x, z, h1, h2, h3, h4 xs q.1, h5 ys q.2⟩
theorem zipD_length (ds es : List PyData) : (zipD ds es).length = min ds.length es.length := by simp [zipD]
theorem zipD_get {ds es : List PyData} {i : Nat} {d e : PyData} (h1 : ds[i]? = some d) (h2 : es[i]? = some e) : (zipD ds es)[i]? = some (prD d e) := by
  have h3 : (ds.zip es)[i]? = some (d, e) := List.getElem?_zip_eq_some.mpr ⟨h1, h2⟩
  unfold zipD
  rw [List.getElem?_map, h3]
  rfl
theorem ie_zipT (ha : EvP K ta σ H (.tuple ds)) (hb : EvP K tb σ H (.tuple es)) : ItE K (iWf K (iZipA K (tCons ta (tCons tb tNil)))) σ H (zipD ds es) := fun H1 x R r => ha H1 x _ fun v H2 x2 dr => hb H2 (x.trans x2) _ fun u H3 x3 dr3 => by
  obtain ⟨a, vs, rfl, hs, hd⟩ := (dr.ex x3).of_tup
  obtain ⟨b, ws, rfl, hs', hd'⟩ := dr3.of_tup
  have hl : (zipD ds es).length = min vs.length ws.length := by rw [hd.length, hd'.length, zipD_length]
  refine ⟨a, b, vs, ws, rfl, .inr ⟨hs, hs', fun w => r _ H3 (x2.trans x3) (by rw [hl]; have := w.2 _ _ hs; omega) (yd_pair (Hs := H3) ((walk_zipT rfl).mono (fun Hx g => ⟨ex_t g hs, ex_t g hs'⟩) fun _ _ _ _ _ _ y => y) hl (fun i x y e1 e2 => ?_) fun _ g => Kp.of g)⟩⟩
  obtain ⟨d, h1, h2⟩ := hd.getV e1
  obtain ⟨e, h3, h4⟩ := hd'.getV e2
  exact ⟨d, e, zipD_get h1 h3, h2, h4⟩
theorem ie_zipL (ha : EvS K ta σ H ds) (hb : EvS K tb σ H es) : ItE K (iWf K (iZipA K (tCons ta (tCons tb tNil)))) σ H (zipD ds es) := fun H1 x R r => ha H1 x _ fun a vs H2 x2 hs hd => hb H2 (x.trans x2) _ fun b ws H3 x3 hs' hd' => by
  have hs := ex_l x3 hs
  have hd := hd.ex x3
  have hl : (zipD ds es).length = min vs.length ws.length := by rw [hd.length, hd'.length, zipD_length]
  refine ⟨a, b, vs, ws, rfl, .inl ⟨hs, hs', fun w => r _ H3 (x2.trans x3) (by rw [hl]; have := w.1 _ _ hs; omega) (yd_pair (Hs := H3) ((walk_zip rfl).mono (fun Hx g => ⟨ex_l g hs, ex_l g hs'⟩) fun _ _ _ _ _ _ y => y) hl (fun i x y e1 e2 => ?_) fun _ g => Kp.of g)⟩⟩
  obtain ⟨d, h1, h2⟩ := hd.getV e1
  obtain ⟨e, h3, h4⟩ := hd'.getV e2
  exact ⟨d, e, zipD_get h1 h3, h2, h4⟩
end

/-! ### comprehensions -/
def consO {β : Type} : Option β → List β → List β
  | some y, ys => y :: ys
  | none, ys => ys
def lcO {α β : Type} (fn : α → Option (Option β)) : List α → Option (List β)
  | [] => some []
  | x :: xs => (fn x).bind fun r => (lcO fn xs).bind fun ys => some (consO r ys)
theorem lcO_snoc {α β : Type} {fn : α → Option (Option β)} : ∀ {xs : List α} {x : α} {zs : List β}, lcO fn (xs ++ [x]) = some zs → ∃ ys r, lcO fn xs = some ys ∧ fn x = some r ∧ zs = ys ++ r.toList
  | [], x, zs, h => by
    simp only [List.nil_append, lcO, Option.bind_some] at h
    cases e : fn x with
    | none => rw [e] at h; cases h
    | some r =>
      rw [e] at h
      simp only [Option.bind_some] at h
      refine ⟨[], r, rfl, rfl, ?_⟩
      cases r with
      | none => simpa [consO] using h.symm
      | some y => simpa [consO] using h.symm
  | a :: xs, x, zs, h => by
    simp only [List.cons_append, lcO] at h
    cases e : fn a with
    | none => rw [e] at h; cases h
    | some q =>
      rw [e] at h
      simp only [Option.bind_some] at h
      cases e2 : lcO fn (xs ++ [x]) with
      | none => rw [e2] at h; cases h
      | some ws =>
        rw [e2] at h
        simp only [Option.bind_some, Option.some.injEq] at h
        obtain ⟨ys, r, h1, h2, h3⟩ := lcO_snoc e2
        refine ⟨consO q ys, r, by simp [lcO, e, h1], h2, ?_⟩
        subst h h3
        cases q <;> simp [consO]
theorem lcO_take {α β : Type} {fn : α → Option (Option β)} : ∀ {xs : List α} {ys : List β} (n : Nat), lcO fn xs = some ys → ∃ zs, lcO fn (xs.take n) = some zs
  | xs, ys, 0, _ => ⟨[], rfl⟩
  | [], ys, n + 1, h => ⟨[], rfl⟩
  | a :: xs, ys, n + 1, h => by
    simp only [lcO] at h
    cases e : fn a with
    | none => rw [e] at h; cases h
    | some q =>
      rw [e] at h
      simp only [Option.bind_some] at h
      cases e2 : lcO fn xs with
      | none => rw [e2] at h; cases h
      | some ws =>
        obtain ⟨zs, hz⟩ := lcO_take n e2
        refine ⟨consO q zs, ?_⟩
        simp only [List.take_succ_cons, lcO, e, hz, Option.bind_some]
theorem lcO_len {α β : Type} {fn : α → Option (Option β)} : ∀ {xs : List α} {ys : List β}, lcO fn xs = some ys → ys.length ≤ xs.length
  | [], ys, h => by
    simp only [lcO, Option.some.injEq] at h
    subst h
    simp
  | a :: xs, ys, h => by
    simp only [lcO] at h
    cases e : fn a with
    | none => rw [e] at h; cases h
    | some q =>
      rw [e] at h
      simp only [Option.bind_some] at h
      cases e2 : lcO fn xs with
      | none => rw [e2] at h; cases h
      | some ws =>
        rw [e2] at h
        simp only [Option.bind_some, Option.some.injEq] at h
        have := lcO_len e2
        subst h
        cases q <;> simp [consO] <;> omega
theorem lcO_map {α β : Type} (f : α → β) : ∀ xs : List α, lcO (fun x => some (some (f x))) xs = some (xs.map f)
  | [] => rfl
  | x :: xs => by simp only [lcO, lcO_map f xs, Option.bind_some, List.map_cons, consO]
theorem lcO_filter {α β : Type} (c : α → Bool) (f : α → β) : ∀ xs : List α, lcO (fun x => some (if c x = true then some (f x) else none)) xs = some ((xs.filter c).map f)
  | [] => rfl
  | x :: xs => by
    simp only [lcO, lcO_filter c f xs, Option.bind_some]
    by_cases h : c x = true
    · simp [h, consO]
    · simp [h, consO]
section
variable {K : PySem.W.Frag} {σ : L2.St} {H H0 : Hp} {te ta tb : TE} {tt : TT} {wi : TI} {g : TG} {E : EnvD}
theorem n_lc {α β : Type} {xs : List α} {enc : α → PyData} {ts vs : List Nat} {bind : α → EnvD} {encb : β → PyData} {ys : List β} (fn : α → Option (Option β)) (h : lcO fn xs = some ys)
    (S : Sl K H σ E) (hi : ItE K wi σ H (xs.map enc)) (hg : ∀ x, Gd K g ts (enc x) (wipE E vs) (bind x)) (hts : ∀ t ∈ ts, t ∈ vs)
    (hb : ∀ x ∈ xs, ∀ r, fn x = some r → ∀ σ' H', Ex H H' → Sl K H' σ' (bind x) → EvT tt σ' H' r.isSome ∧ ∀ y, r = some y → EvP K te σ' H' (encb y)) :
    EvN K (tLc wi g tt te vs) σ H (ys.map encb) := fun H1 x1 Q q => hi H1 x1 _ fun J H2 x2 hl w D hD => by
  rw [List.length_map] at hl
  have S2 := S.ex (x1.trans x2)
  refine lc_it w (fun i Hc => ∃ acc zs, lcO fn (xs.take i) = some zs ∧ Ex H2 Hc ∧ Hc D = some (.lst acc) ∧ DrA K Hc acc (zs.map encb)) ⟨[], [], rfl, Ex.new hD, upd_same, .nil⟩ (fun i Hc _ p => ?_) (fun i x Hc Hc' hin p y => ?_) (fun Hc p => ?_)
  · obtain ⟨_, _, _, p2, _⟩ := p
    exact p2
  · obtain ⟨acc, zs, p1, p2, p3, p4⟩ := p
    obtain ⟨y1, d, y2, y3⟩ := y
    rw [List.length_map] at hin
    have e1 : xs[i]? = some xs[i] := List.getElem?_eq_getElem hin
    rw [List.getElem?_map, e1] at y2
    cases y2
    have e3 : xs.take (i + 1) = xs.take i ++ [xs[i]] := by rw [List.take_add_one, e1]; rfl
    obtain ⟨zs', hz'⟩ := lcO_take (i + 1) h
    obtain ⟨zs2, r, hz2, hr, hzs⟩ := lcO_snoc (e3 ▸ hz')
    rw [p1] at hz2
    cases hz2
    have S3 : Sl K Hc' (wipe σ vs) (wipE E vs) := (S2.ex (p2.trans y1)).wipe vs
    have hacc : acc.length ≤ i := by
      have h1 := p4.length
      have h2 := lcO_len p1
      simp at h1 h2
      omega
    refine hg _ (wipe σ vs) Hc' x S3 y3 _ fun σ' sb S4 => ⟨sb.wipe hts, ?_⟩
    obtain ⟨t1, t2⟩ := hb xs[i] (List.getElem_mem hin) r hr σ' Hc' (((x1.trans x2).trans p2).trans y1) S4
    refine t1 Hc' (Ex.refl _) _ fun Hd x3 => ?_
    cases r with
    | none =>
      show ∃ acc zs, lcO fn (xs.take (i + 1)) = some zs ∧ Ex H2 Hd ∧ Hd D = some (.lst acc) ∧ DrA K Hd acc (zs.map encb)
      refine ⟨acc, zs, ?_, (p2.trans y1).trans x3, x3 D _ (y1 D _ p3), p4.ex (y1.trans x3)⟩
      rw [hz', hzs]
      simp
    | some z =>
      show te σ' Hd fun y H4 => ∃ acc, H4 D = some (.lst acc) ∧ acc.length < sizeLine ∧ ∃ acc' zs, lcO fn (xs.take (i + 1)) = some zs ∧ Ex H2 (upd H4 D (.lst (acc ++ [y]))) ∧ (upd H4 D (.lst (acc ++ [y]))) D = some (.lst acc') ∧ DrA K (upd H4 D (.lst (acc ++ [y]))) acc' (zs.map encb)
      refine t2 z rfl Hd x3 _ fun v H4 x4 d4 => ⟨acc, x4 D _ (x3 D _ (y1 D _ p3)), by omega, acc ++ [v], zs', hz', Ex.mut (((p2.trans y1).trans x3).trans x4) hD (nc_of (x4 D _ (x3 D _ (y1 D _ p3))) fun _ z => nomatch z), upd_same, ?_⟩
      have hD4 : H4 D = some (.lst acc) := x4 D _ (x3 D _ (y1 D _ p3))
      have k : Kp H4 (upd H4 D (.lst (acc ++ [v]))) := Kp.put (im_none hD4 (fun _ z => nomatch z) fun _ _ z => nomatch z)
      rw [hzs, List.map_append]
      exact ((p4.ex ((y1.trans x3).trans x4)).kp k).append (.cons (d4.kp k) .nil)
  · obtain ⟨acc, zs, p1, p2, p3, p4⟩ := p
    rw [List.length_map, List.take_length, h] at p1
    cases p1
    exact q D acc Hc (fresh_back x2 hD) (x2.trans p2) p3 p4
end
end Vx

/-! statements, loops, defs -/
namespace Vx
open PySem L2 PySem.Spec PyProof.Rows Evl RZ
variable [Tbs]

inductive Ct (α ρ : Type) where
  | go (a : α) | ret (r : ρ)
def foldC {σ α ρ : Type} (f : σ → α → Option (Ct σ ρ)) : σ → List α → Option (Ct σ ρ)
  | s, [] => some (.go s)
  | s, x :: xs => (f s x).bind fun c => match c with
    | .go s' => foldC f s' xs
    | .ret r => some (.ret r)
theorem foldC_cons {σ α ρ : Type} {f : σ → α → Option (Ct σ ρ)} {s : σ} {x : α} {xs : List α} {c : Ct σ ρ} (h : foldC f s (x :: xs) = some c) :
    (∃ s', f s x = some (.go s') ∧ foldC f s' xs = some c) ∨ ∃ r, f s x = some (.ret r) ∧ c = .ret r := by
  unfold foldC at h
  cases e : f s x with
  | none => rw [e] at h; cases h
  | some q =>
    rw [e] at h
    cases q with
    | go s' => exact .inl ⟨s', rfl, h⟩
    | ret r =>
      refine .inr ⟨r, rfl, ?_⟩
      simpa using h.symm
/-- the first result that is not none of a mirror -/
theorem bind_some {α β : Type} {m : Option α} {f : α → Option β} {b : β} (h : m.bind f = some b) : ∃ a, m = some a ∧ f a = some b := by
  cases m with
  | none => cases h
  | some a => exact ⟨a, rfl, h⟩
/-- a check of a mirror -/
def chk (b : Bool) : Option Unit := if b then some () else none
theorem chk_some {b : Bool} {u : Unit} (h : chk b = some u) : b = true := by
  cases b with
  | true => rfl
  | false => cases h

section
variable {K : PySem.W.Frag} {σ : L2.St} {H H0 H' : Hp} {te ta tb : TE} {t : TT} {g : TG} {E : EnvD} {d : PyData} {ds es : List PyData} {D : Ends} {tu tw tz : TS}

theorem Ow.kp_put {l l' : Addr} {vs : List V} {o : HO} (hl : H l' = some (.lst vs)) (ne : l ≠ l') (h : Ow K H0 H l ds) : Ow K H0 (upd H l' o) l ds := by
  obtain ⟨a, ws, b, c⟩ := h
  exact ⟨a, ws, by rw [upd_ne ne]; exact b, c.kp (Kp.put (im_none hl (fun _ z => nomatch z) fun _ _ z => nomatch z))⟩

/-- x = e -/
theorem s_set {i : Nat} (h : EvP K te σ H d) (k : ∀ v H1, Ex H H1 → Dr K H1 v d → D.nx (σ.set i (some v)) H1) : tAsg te (gName i) D σ H := h H (Ex.refl H) _ fun v H1 e dr => k v H1 e dr
/-- x = a new list, the def's own from here on -/
theorem s_setN {i : Nat} (h : EvN K te σ H ds) (e0 : Ex H0 H) (k : ∀ l H1, Ex H H1 → H l = none → Ow K H0 H1 l ds → D.nx (σ.set i (some (.ref l))) H1) : tAsg te (gName i) D σ H := h H (Ex.refl H) _ fun p vs H1 hp e h1 dr =>
  k p H1 e hp ⟨fresh_back e0 hp, vs, h1, dr⟩
theorem s_unp {ts : List Nat} {E' : EnvD} (S : Sl K H σ E) (h : EvP K te σ H d) (hg : Gd K g ts d E E') (k : ∀ σ' H1, Ex H H1 → Sl K H1 σ' E' → D.nx σ' H1) : tAsg te g D σ H := h H (Ex.refl H) _ fun v H1 e dr =>
  hg σ H1 v (S.ex e) dr _ fun σ' _ S' => k σ' H1 e S'
theorem s_ret (h : EvP K te σ H d) (k : ∀ v H1, Ex H H1 → Dr K H1 v d → D.rt v H1) : tRet te D σ H := h H (Ex.refl H) _ k
theorem s_retN (h : EvN K te σ H ds) (k : ∀ p vs H1, H p = none → Ex H H1 → H1 p = some (.lst vs) → DrA K H1 vs ds → D.rt (.ref p) H1) : tRet te D σ H := h H (Ex.refl H) _ k
/-- return x, x the def's own list -/
theorem s_retO {i : Nat} {l : Addr} (S : Sl K H σ E) (hi : E[i]? = some (some (.raw (.ref l)))) (o : Ow K H0 H l ds) (k : ∀ vs, H0 l = none → H l = some (.lst vs) → DrA K H vs ds → D.rt (.ref l) H) : tRet (tVar i) D σ H := by
  obtain ⟨a, vs, b, c⟩ := o
  exact ⟨.ref l, S.raw hi, k vs a b c⟩
theorem s_if {b : Bool} (h : EvT t σ H b) (h1 : b = true → ∀ H1, Ex H H1 → tu D σ H1) (h2 : b = false → ∀ H1, Ex H H1 → tw D σ H1) : tIfS t tu tw D σ H := if_is h h1 h2
theorem s_drop (h : EvP K te σ H d) (k : ∀ H1, Ex H H1 → D.nx σ H1) : tDrop te D σ H := h H (Ex.refl H) _ fun _ H1 e _ => k H1 e
theorem s_aug {i : Nat} {f : Int → Int → Int} {a b : Int} (S : Sl K H σ E) (hx : E[i]? = some (some (.dat (.int a)))) (h : EvP K te σ H (.int b)) (k : ∀ H1, Ex H H1 → D.nx (σ.set i (some (.int (f a b)))) H1) : tAug i te (ipI f) D σ H := by
  obtain ⟨v, h1, h2⟩ := S.dat hx
  rw [h2.of_int] at h1
  exact ⟨.int a, h1, h H (Ex.refl H) _ fun u H1 e du => ⟨a, b, rfl, du.of_int, k H1 e⟩⟩
/-- xs.append(e), xs the def's own -/
theorem s_app {i : Nat} {l : Addr} (S : Sl K H σ E) (hi : E[i]? = some (some (.raw (.ref l)))) (o : Ow K H0 H l ds) (h : EvP K te σ H d) (hz : ds.length < 16777216)
    (k : ∀ H1, Kp H H1 → Xb l H H1 → Ow K H0 H1 l (ds ++ [d]) → D.nx σ H1) :
    tDrop (tBM K "list" rAppend (tVar i) (tCons te tNil)) D σ H := by
  obtain ⟨a, vs, b, c⟩ := o
  refine ⟨.ref l, S.raw hi, .inl ⟨rfl, vs, sq_of b⟩, h H (Ex.refl H) _ fun v H1 e dr => ⟨l, vs, v, rfl, rfl, e l _ b, by rw [c.length, sizeLine_eq]; exact hz, ?_⟩⟩
  have hb := e l _ b
  have kp : Kp H1 (upd H1 l (.lst (vs ++ [v]))) := Kp.put (im_none hb (fun _ z => nomatch z) fun _ _ z => nomatch z)
  exact k _ ((Kp.of e).trans kp) (Xb.mut e (nc_of hb fun _ z => nomatch z)) ⟨a, vs ++ [v], upd_same, ((c.ex e).kp kp).append (.cons (dr.kp kp) .nil)⟩
/-- what a change of l alone leaves: the entry's heap -/
theorem ex_but {l : Addr} (e0 : Ex H0 H) (hl : H0 l = none) (nc : ∀ q, H l ≠ some (LamX.CodeO l q)) (q : Xb l H H') : Ex H0 H' := q.ex nc e0 hl
theorem Ow.nc {l : Addr} (h : Ow K H0 H l ds) : ∀ q, H l ≠ some (LamX.CodeO l q) := by
  obtain ⟨_, _, b, _⟩ := h
  exact nc_of b fun _ z => nomatch z
theorem Ow.but {l l' : Addr} (ne : l ≠ l') (kp : Kp H H') (q : Xb l' H H') (h : Ow K H0 H l ds) : Ow K H0 H' l ds := by
  obtain ⟨a, vs, b, c⟩ := h
  exact ⟨a, vs, q.at ne b, c.kp kp⟩
theorem Ow.ne {l l' : Addr} (h : Ow K H0 H l ds) (n : H l' = none) : l ≠ l' := by
  obtain ⟨_, _, b, _⟩ := h
  exact ne_of_none b n
theorem Ow.im {l : Addr} (h : Ow K H0 H l ds) : Vx.im H l = none := by
  obtain ⟨_, _, b, _⟩ := h
  exact im_none b (fun _ z => nomatch z) fun _ _ z => nomatch z
/-- the own list at l is frozen: a datum from here on -/
theorem s_fz {i : Nat} {l : Addr} (S : Sl K H σ E) (hi : E[i]? = some (some (.raw (.ref l)))) (o : Ow K H0 H l ds)
    (k : ∀ H1, Kp H H1 → Xb l H H1 → Sl K H1 σ (E.set i (some (.dat (.list ds)))) → tu D σ H1) : tFzS i tu D σ H := by
  have im0 := o.im
  obtain ⟨a, vs, b, c⟩ := o
  refine ⟨l, vs, S.raw hi, b, fun ob => ?_⟩
  have kp : Kp H (upd H l (.frz ob (.lst vs))) := Kp.put im0
  refine k _ kp (Xb.put (nc_of b fun _ z => nomatch z)) ?_
  have S2 := S.kp kp
  have hr := S.raw hi
  have e : σ.set i (some (.ref l)) = σ := by
    apply List.ext_getElem?
    intro j
    by_cases hj : i = j
    · subst hj
      obtain ⟨hlt, _⟩ := List.getElem?_eq_some_iff.mp hr
      rw [List.getElem?_set_self hlt, hr]
    · rw [List.getElem?_set_ne hj]
  have S3 := S2.put i (v := .ref l) (d := .list ds) (Dr.frz upd_same (c.kp kp))
  rw [e] at S3
  exact S3

/-- for x in xs -/
theorem s_for {α τ ρ : Type} {xs : List α} {enc : α → PyData} {ts : List Nat} {wi : TI} {st0 : τ} {c : Ct τ ρ} (hi : ItD K H0 wi σ H (xs.map enc)) (f : τ → α → Option (Ct τ ρ)) (hc : foldC f st0 xs = some c)
    (P : τ → L2.St → Hp → Prop) (hP : ∀ st σ H, P st σ H → Ex H0 H) (h0 : ∀ H1, Ex H H1 → P st0 σ H1)
    (hs : ∀ (Hk : Hp) (st : τ) (x : α) (σ' : L2.St) (H' : Hp) (c' : Ct τ ρ), Ex H Hk → x ∈ xs → f st x = some c' → P st σ' H' → Kp Hk H' → (∀ r, c' = .ret r → c = .ret r) →
      ∀ (v : V) (Hx : Hp), Ex H' Hx → Dr K Hx v (enc x) → ∀ N : L2.St → Hp → Prop, (∀ st' σ3 H3, c' = .go st' → P st' σ3 H3 → Kp Hk H3 → N σ3 H3) → g v σ' Hx fun σ2 H2 => tu { D with nx := N, ct := N, bk := D.nx } σ2 H2)
    (hd : ∀ st σ' H', c = .go st → P st σ' H' → Kp H H' → D.nx σ' H') : tFor wi g tu D σ H := hi H (Ex.refl H) _ fun J H2 x2 w => by
  rw [List.length_map] at w
  refine for_it w (D := D) (fun i σ' Hc => ∃ st, foldC f st (xs.drop i) = some c ∧ P st σ' Hc ∧ Kp H2 Hc) ⟨st0, hc, h0 H2 x2, Kp.refl H2⟩ (fun i σ' Hc _ p => ?_) (fun i x σ' Hc Hx hin p y => ?_) (fun σ' Hc p => ?_)
  · obtain ⟨st, _, p2, p3⟩ := p
    exact ⟨p3, hP _ _ _ p2⟩
  · obtain ⟨st, p1, p2, p3⟩ := p
    obtain ⟨y1, d, y2, y3⟩ := y
    have e1 : xs[i]? = some xs[i] := List.getElem?_eq_getElem hin
    rw [List.getElem?_map, e1] at y2
    cases y2
    have e2 : xs.drop i = xs[i] :: xs.drop (i + 1) := List.drop_eq_getElem_cons hin
    rw [e2] at p1
    rcases foldC_cons p1 with ⟨st', q1, q2⟩ | ⟨r, q1, q2⟩
    · exact hs H2 st xs[i] σ' Hc (.go st') x2 (List.getElem_mem hin) q1 p2 p3 (fun r z => nomatch z) x Hx y1 y3 _ fun st'' σ3 H3 z a b => by
        cases z
        exact ⟨st', q2, a, b⟩
    · exact hs H2 st xs[i] σ' Hc (.ret r) x2 (List.getElem_mem hin) q1 p2 p3 (fun r' z => by cases z; exact q2) x Hx y1 y3 _ fun st'' σ3 H3 z a b => nomatch z
  · obtain ⟨st, p1, p2, p3⟩ := p
    rw [List.drop_length] at p1
    have e : c = .go st := by
      unfold foldC at p1
      exact (Option.some.inj p1).symm
    exact hd st σ' Hc e p2 ((Kp.of x2).trans p3)

/-- while c: (a mirror that counts) -/
def whileC {τ ρ : Type} (cond : τ → Option Bool) (f : τ → Option (Ct τ ρ)) : Nat → τ → Option (Ct τ ρ)
  | 0, _ => none
  | n + 1, s => (cond s).bind fun b => if b then (f s).bind fun c => match c with
      | .go s' => whileC cond f n s'
      | .ret r => some (.ret r)
    else some (.go s)
theorem s_while {τ ρ : Type} {st0 : τ} {c : Ct τ ρ} (cond : τ → Option Bool) (f : τ → Option (Ct τ ρ)) (n : Nat) (hc : whileC cond f n st0 = some c)
    (P : τ → L2.St → Hp → Prop) (h0 : P st0 σ H)
    (hb : ∀ st b σ' H', cond st = some b → P st σ' H' → Kp H H' → EvT t σ' H' b)
    (hx : ∀ st σ' H' H'', P st σ' H' → Ex H' H'' → P st σ' H'')
    (hs : ∀ (st : τ) (σ' : L2.St) (H' : Hp) (c' : Ct τ ρ), cond st = some true → f st = some c' → P st σ' H' → Kp H H' → (∀ r, c' = .ret r → c = .ret r) →
      ∀ N : L2.St → Hp → Prop, (∀ st' σ3 H3, c' = .go st' → P st' σ3 H3 → Kp H H3 → N σ3 H3) → tu { D with nx := N, ct := N, bk := D.nx } σ' H')
    (hd : ∀ st σ' H', c = .go st → P st σ' H' → Kp H H' → D.nx σ' H') : tWhile t tu D σ H := by
  refine ⟨fun m σ' H' => ∃ st, whileC cond f m st = some c ∧ P st σ' H' ∧ Kp H H', ⟨n, st0, hc, h0, Kp.refl H⟩, fun m σ' H' p => ?_⟩
  obtain ⟨st, p1, p2, p3⟩ := p
  cases m with
  | zero => cases p1
  | succ m =>
    unfold whileC at p1
    obtain ⟨b, q1, q2⟩ := bind_some p1
    refine hb st b σ' H' q1 p2 p3 H' (Ex.refl _) _ fun H1 e1 => ?_
    cases b with
    | false =>
      show D.nx σ' H1
      have e : c = .go st := by simpa using q2.symm
      exact hd st σ' H1 e (hx _ _ _ _ p2 e1) (p3.trans (Kp.of e1))
    | true =>
      have q2' : ((f st).bind fun c => match c with
          | .go s' => whileC cond f m s'
          | .ret r => some (.ret r)) = some c := q2
      obtain ⟨c', q3, q4⟩ := bind_some q2'
      show ∃ N : L2.St → Hp → Prop, (∀ σ' H', N σ' H' → ∃ m', m' < m + 1 ∧ ∃ st, whileC cond f m' st = some c ∧ P st σ' H' ∧ Kp H H') ∧ tu { D with nx := N, ct := N, bk := D.nx } σ' H1
      refine ⟨fun σ3 H3 => ∃ st', c' = .go st' ∧ P st' σ3 H3 ∧ Kp H H3, fun σ3 H3 z => ?_, ?_⟩
      · obtain ⟨st', rfl, z2, z3⟩ := z
        exact ⟨m, Nat.lt_succ_self m, st', q4, z2, z3⟩
      · refine hs st σ' H1 c' q1 q3 (hx _ _ _ _ p2 e1) (p3.trans (Kp.of e1)) (fun r z => ?_) _ fun st' σ3 H3 a b c => ⟨st', a, b, c⟩
        subst z
        simpa using q4.symm
end

/-! ### defs -/
/-- a dict with whole numbers as keys -/
def DcK (K : PySem.W.Frag) (H : Hp) : List (Key × V) → List (Int × PyData) → Prop := fun ks kvs => Paired (fun p q => p.1 = Sum.inl q.1 ∧ Dr K H p.2 q.2) ks kvs
theorem DcK.kp {K : PySem.W.Frag} {H H' : Hp} {ks : List (Key × V)} {kvs : List (Int × PyData)} (k : Kp H H') (d : DcK K H ks kvs) : DcK K H' ks kvs := Paired.mono (fun _ _ q => ⟨q.1, q.2.kp k⟩) d
/-- what an argument is -/
inductive Fv where
  | d (x : PyData) | l (xs : List PyData)
/-- a field that is read -/
def FrV (K : PySem.W.Frag) (H : Hp) (v : V) : Fv → Prop
  | .d x => Dr K H v x
  | .l xs => ∃ a vs, v = .ref a ∧ SqL K H a vs ∧ DrA K H vs xs
def FrOk (K : PySem.W.Frag) (H : Hp) : List (Str × V) → List (Str × Fv) → Prop
  | [], [] => True
  | (n, v) :: fs, (m, x) :: st => n = m ∧ FrV K H v x ∧ FrOk K H fs st
  | _, _ => False
theorem FrV.ex {K : PySem.W.Frag} {H H' : Hp} {v : V} {x : Fv} (e : Ex H H') (h : FrV K H v x) : FrV K H' v x := by
  cases x with
  | d x => exact Dr.ex (K := K) h e
  | l xs =>
    obtain ⟨a, vs, rfl, h1, h2⟩ := h
    exact ⟨a, vs, rfl, ex_l e h1, h2.ex e⟩
theorem FrOk.ex {K : PySem.W.Frag} {H H' : Hp} (e : Ex H H') : ∀ {fs : List (Str × V)} {st : List (Str × Fv)}, FrOk K H fs st → FrOk K H' fs st
  | [], [], _ => trivial
  | _ :: _, _ :: _, h => ⟨h.1, h.2.1.ex e, FrOk.ex e h.2.2⟩
  | [], _ :: _, h => h.elim
  | _ :: _, [], h => h.elim
inductive Ag where
  | d (x : PyData) | l (xs : List PyData) | k (kvs : List (Int × PyData)) | o (C : Addr) (st : List (Str × Fv))
def AgOk (K : PySem.W.Frag) (H : Hp) (v : V) : Ag → Prop
  | .d x => Dr K H v x
  | .l xs => ∃ a vs, v = .ref a ∧ SqL K H a vs ∧ DrA K H vs xs
  | .k kvs => ∃ a ks, v = .ref a ∧ H a = some (.dK ks) ∧ DcK K H ks kvs
  | .o C st => ∃ a dx fs, v = .ref a ∧ H a = some (.ins C dx fs) ∧ FrOk K H fs st
inductive AgsOk (K : PySem.W.Frag) (H : Hp) : List V → List Ag → Prop
  | nil : AgsOk K H [] []
  | cons {v : V} {vs : List V} {a : Ag} {as : List Ag} : AgOk K H v a → AgsOk K H vs as → AgsOk K H (v :: vs) (a :: as)
/-- what a def hands back -/
inductive Rt where
  | d (x : PyData) | n (xs : List PyData) | k (kvs : List (Int × PyData))
def RtOk (K : PySem.W.Frag) (H : Hp) (Q : VK) : Rt → Prop
  | .d x => ∀ v H', Ex H H' → Dr K H' v x → Q v H'
  | .n xs => ∀ p vs H', H p = none → Ex H H' → H' p = some (.lst vs) → DrA K H' vs xs → Q (.ref p) H'
  | .k kvs => ∀ p ks H', H p = none → Ex H H' → H' p = some (.dK ks) → DcK K H' ks kvs → Q (.ref p) H'
/-- the promise: handed what R says, it hands back what R says -/
def SpR (K : PySem.W.Frag) (n : Nat) (R : List Ag → Rt → Prop) : Sp := fun vs H Q _ => ∃ as r, as.length = n ∧ R as r ∧ AgsOk K H vs as ∧ LamX.Tabs Tbs.l H ∧ RtOk K H Q r
theorem AgsOk.len {K : PySem.W.Frag} {H : Hp} : ∀ {vs : List V} {as : List Ag}, AgsOk K H vs as → vs.length = as.length
  | _, _, .nil => rfl
  | _, _, .cons _ t => by rw [List.length_cons, List.length_cons, AgsOk.len t]
def EvG (K : PySem.W.Frag) (ta : TA) (σ : L2.St) (H : Hp) (as : List Ag) : Prop := ∀ H1, Ex H H1 → ∀ Q : List V → Hp → Prop, (∀ vs H2, Ex H1 H2 → AgsOk K H2 vs as → Q vs H2) → ta σ H1 Q
section
variable {K : PySem.W.Frag} {σ : L2.St} {H H0 H' : Hp} {te : TE} {ta : TA} {d : PyData} {ds : List PyData} {as : List Ag}
theorem AgOk.ex {v : V} {a : Ag} (e : Ex H H') (h : AgOk K H v a) : AgOk K H' v a := by
  cases a with
  | d x => exact Dr.ex (K := K) h e
  | l xs =>
    obtain ⟨a, vs, rfl, h1, h2⟩ := h
    exact ⟨a, vs, rfl, ex_l e h1, h2.ex e⟩
  | k kvs =>
    obtain ⟨a, ks, rfl, h1, h2⟩ := h
    exact ⟨a, ks, rfl, e a _ h1, h2.kp (Kp.of e)⟩
  | o C st =>
    obtain ⟨a, dx, fs, rfl, h1, h2⟩ := h
    exact ⟨a, dx, fs, rfl, e a _ h1, FrOk.ex e h2⟩
theorem g_nil : EvG K tNil σ H [] := fun H1 _ Q q => q [] H1 (Ex.refl H1) .nil
theorem g_d (h : EvP K te σ H d) (hr : EvG K ta σ H as) : EvG K (tCons te ta) σ H (.d d :: as) := fun H1 x Q q =>
  h H1 x _ fun v H2 x2 d2 => hr H2 (x.trans x2) _ fun vs H3 x3 d3 => q _ H3 (x2.trans x3) (.cons (AgOk.ex (a := .d d) x3 d2) d3)
theorem g_l (h : EvS K te σ H ds) (hr : EvG K ta σ H as) : EvG K (tCons te ta) σ H (.l ds :: as) := fun H1 x Q q =>
  h H1 x _ fun a vs H2 x2 hs d2 => hr H2 (x.trans x2) _ fun ws H3 x3 d3 => q _ H3 (x2.trans x3) (.cons (AgOk.ex (a := .l ds) x3 ⟨a, vs, rfl, hs, d2⟩) d3)
theorem p_callR {n : Nat} {R : List Ag → Rt → Prop} {E' : XK} (t0 : LamX.Tabs Tbs.l H) (h : EvG K ta σ H as) (hn : as.length = n) (hr : R as (.d d)) : EvP K (tCall (SpR K n R) [] E' ta) σ H d := fun H1 x Q q =>
  h H1 x _ fun vs H2 x2 d2 => by
    show SpR K n R (vs ++ []) H2 Q E'
    rw [List.append_nil]
    exact ⟨as, .d d, hn, hr, d2, tabs_ex (x.trans x2) t0, fun v H3 x3 d3 => q v H3 (x2.trans x3) d3⟩
theorem n_callR {n : Nat} {R : List Ag → Rt → Prop} {E' : XK} (t0 : LamX.Tabs Tbs.l H) (h : EvG K ta σ H as) (hn : as.length = n) (hr : R as (.n ds)) : EvN K (tCall (SpR K n R) [] E' ta) σ H ds := fun H1 x Q q =>
  h H1 x _ fun vs H2 x2 d2 => by
    show SpR K n R (vs ++ []) H2 Q E'
    rw [List.append_nil]
    exact ⟨as, .n ds, hn, hr, d2, tabs_ex (x.trans x2) t0, fun p ws H3 hp x3 h3 d3 => q p ws H3 (fresh_back x2 hp) (x2.trans x3) h3 d3⟩
/-- a parameter that is a list -/
theorem par_s {a : Addr} {vs : List V} {i : Nat} {E : EnvD} (S : Sl K H σ E) (hi : E[i]? = some (some (.raw (.ref a)))) (e0 : Ex H0 H) (hs : SqL K H0 a vs) (hd : DrA K H0 vs ds) : EvS K (tVar i) σ H ds := fun H1 x Q q =>
  ⟨.ref a, S.raw hi, q a vs H1 (Ex.refl H1) (ex_l (e0.trans x) hs) (hd.ex (e0.trans x))⟩
/-- at the def's entry -/
theorem sl_start {N : List Str} {vs : List V} {E : EnvD} (hE : E.length = N.length) (hl : vs.length ≤ N.length) (h : ∀ (i : Nat) (v : V) (e : Option Sl1), vs[i]? = some v → E[i]? = some e → SlOk K H (some v) e) (hr : ∀ (i : Nat) (e : Option Sl1), vs.length ≤ i → E[i]? = some e → e = none) : Sl K H (L2.start N vs) E := by
  refine ⟨?_, fun i o hi e he => ?_⟩
  · unfold L2.start
    rw [List.length_append, List.length_map, List.length_replicate, hE]
    omega
  · unfold L2.start at hi
    by_cases hlt : i < vs.length
    · rw [List.getElem?_append_left (by simpa using hlt), List.getElem?_map, List.getElem?_eq_getElem hlt] at hi
      cases hi
      exact h i _ e (List.getElem?_eq_getElem hlt) he
    · have := hr i e (by omega) he
      subst this
      trivial
end
end Vx
namespace Vx
open PySem L2 PySem.Spec PyProof.Rows Evl RZ
variable [Tbs]
/-! ### encodings -/
abbrev eI : Int → PyData := PyData.int
abbrev eB : Bool → PyData := PyData.bool
abbrev eS : Str → PyData := PyData.str
abbrev eN : Unit → PyData := fun _ => PyData.none
abbrev eA : PyData → PyData := fun d => d
abbrev eT {α : Type} (f : α → PyData) : List α → PyData := fun xs => PyData.tuple (xs.map f)
abbrev eL {α : Type} (f : α → PyData) : List α → PyData := fun xs => PyData.list (xs.map f)
abbrev eP {α β : Type} (f : α → PyData) (g : β → PyData) : α × β → PyData := fun p => PyData.tuple [f p.1, g p.2]
abbrev eP3 {α β γ : Type} (f : α → PyData) (g : β → PyData) (h : γ → PyData) : α × β × γ → PyData := fun p => PyData.tuple [f p.1, g p.2.1, h p.2.2]
def eO {α : Type} (f : α → PyData) : Option α → PyData
  | none => .none
  | some a => f a
def Ct.el {τ ρ γ : Type} (c : Ct τ ρ) (f : τ → Option γ) (g : ρ → Option γ) : Option γ := match c with
  | .go a => f a
  | .ret r => g r
theorem cnd_t {α : Type} {c : Bool} {a b : Option α} {r : α} (h : c = true) (e : (bif c then a else b) = some r) : a = some r := by rw [h] at e; exact e
theorem cnd_f {α : Type} {c : Bool} {a b : Option α} {r : α} (h : c = false) (e : (bif c then a else b) = some r) : b = some r := by rw [h] at e; exact e
section
variable {K : PySem.W.Frag} {σ : L2.St} {H H0 : Hp} {te ta tb tc : TE} {t u : TT} {E : EnvD} {D : Ends} {tu tw : TS}
theorem s_ifJ {b : Bool} (M : L2.St → Hp → Prop) (h : EvT t σ H b) (hM : ∀ σ' H', M σ' H' → D.nx σ' H') (h1 : b = true → ∀ H1, Ex H H1 → (∀ σ' H', M σ' H' → D.nx σ' H') → tu D σ H1) (h2 : b = false → ∀ H1, Ex H H1 → (∀ σ' H', M σ' H' → D.nx σ' H') → tw D σ H1) : tIfS t tu tw D σ H :=
  s_if h (fun hb H1 e => h1 hb H1 e hM) fun hb H1 e => h2 hb H1 e hM
theorem s_next (h : D.nx σ H) : tNext D σ H := h
theorem Sl.forget (S : Sl K H σ E) (i : Nat) : Sl K H σ (E.set i none) := S.weak (by simp) fun j e h => by
  by_cases hj : i = j
  · subst hj
    by_cases hl : i < E.length
    · rw [List.getElem?_set_self hl] at h
      cases h
    · rw [List.getElem?_eq_none (by simpa using hl)] at h
      cases h
  · rw [List.getElem?_set_ne hj] at h
    exact h
/-! partial parts behind and, or, if -/
theorem p_andO {a r : Bool} {mb : Option Bool} (h : (bif a then mb else some false) = some r) (h1 : EvP K ta σ H (.bool a)) (h2 : a = true → ∀ b, mb = some b → EvP K tb σ H (.bool b)) : EvP K (tAndV ta tb) σ H (.bool r) := by
  cases a with
  | true => exact (p_andV h1 fun e => h2 e r h).to (by rw [Bool.true_and])
  | false =>
    have e : false = r := by simpa using h
    subst e
    exact (p_andV (b := false) h1 fun e => nomatch e).to rfl
theorem p_orO {a r : Bool} {mb : Option Bool} (h : (bif a then some true else mb) = some r) (h1 : EvP K ta σ H (.bool a)) (h2 : a = false → ∀ b, mb = some b → EvP K tb σ H (.bool b)) : EvP K (tOrV ta tb) σ H (.bool r) := by
  cases a with
  | false => exact (p_orV h1 fun e => h2 e r h).to (by rw [Bool.false_or])
  | true =>
    have e : true = r := by simpa using h
    subst e
    exact (p_orV (b := true) h1 fun e => nomatch e).to rfl
theorem t_andO {a r : Bool} {mb : Option Bool} (h : (bif a then mb else some false) = some r) (h1 : EvT t σ H a) (h2 : a = true → ∀ b, mb = some b → EvT u σ H b) : EvT (tAnd t u) σ H r := by
  cases a with
  | true => exact et_is (et_and h1 fun e => h2 e r h) (by rw [Bool.true_and])
  | false =>
    have e : false = r := by simpa using h
    subst e
    exact et_is (et_and (b := false) h1 fun e => nomatch e) rfl
theorem t_orO {a r : Bool} {mb : Option Bool} (h : (bif a then some true else mb) = some r) (h1 : EvT t σ H a) (h2 : a = false → ∀ b, mb = some b → EvT u σ H b) : EvT (tOr t u) σ H r := by
  cases a with
  | false => exact et_is (et_or h1 fun e => h2 e r h) (by rw [Bool.false_or])
  | true =>
    have e : true = r := by simpa using h
    subst e
    exact et_is (et_or (b := true) h1 fun e => nomatch e) rfl
theorem p_ifO {α : Type} {f : α → PyData} {b : Bool} {ma mb : Option α} {r : α} (h : (bif b then ma else mb) = some r) (h0 : EvT t σ H b) (h1 : b = true → ∀ a, ma = some a → EvP K ta σ H (f a)) (h2 : b = false → ∀ a, mb = some a → EvP K tb σ H (f a)) : EvP K (tIf t ta tb) σ H (f r) :=
  p_if h0 (fun e => h1 e r (cnd_t e h)) fun e => h2 e r (cnd_f e h)
theorem p_chainI {f g : Int → Int → Bool} {i j k : Int} (ha : EvP K ta σ H (.int i)) (hb : EvP K tb σ H (.int j)) (hc : EvP K tc σ H (.int k)) : EvP K (tChain (rI0 fun i j => .bl (f i j)) (rI0 fun i j => .bl (g i j)) ta tb tc) σ H (.bool (f i j && g j k)) := fun H1 x Q q =>
  ha H1 x _ fun v H2 x2 d2 => hb H2 (x.trans x2) _ fun u H3 x3 d3 => ⟨i, j, d2.of_int, d3.of_int, f i j, rfl, by
    revert q
    cases f i j with
    | true =>
      intro q
      refine hc H3 ((x.trans x2).trans x3) _ fun w H4 x4 d4 => ⟨j, k, d3.of_int, d4.of_int, ?_⟩
      exact q (.bl (g j k)) H4 ((x2.trans x3).trans x4) (by rw [Bool.true_and]; exact Dr.bl)
    | false =>
      intro q
      exact q (.bl false) H3 (x2.trans x3) Dr.bl⟩
/-! types as values -/
def tyName : PyData → String
  | .none => "NoneType" | .bool _ => "bool" | .int _ => "int" | .str _ => "str" | .list _ => "list" | .tuple _ => "tuple" | .dict [] => "dict" | .dict ((.bool _, _) :: _) => "dict" | .dict (_ :: _) => "tuple"
/-- the type of a value: also of a dict that is frozen -/
inductive TyZ (K : PySem.W.Frag) (H : Hp) : V → String → Prop where
  | base {x : V} {T : String} (h : TyB K H x T) : TyZ K H x T
  | fd {a : Addr} {o : Obj} {kvs : List (Key × V)} (h : H a = some (.frz o (.dK kvs))) : TyZ K H (.ref a) "dict"
  | fdT {a : Addr} {o : Obj} {kvs : List (List Key × V)} (h : H a = some (.frz o (.dT kvs))) : TyZ K H (.ref a) "dict"
def rTyZ (K : PySem.W.Frag) : List V → Hp → VK → Prop := fun xs H Q => ∃ x T, xs = [x] ∧ TyZ K H x T ∧ Q (.ty T) H
theorem call_typeZ {X : Cx} : CallR X (.type "type") (rTyZ X.K) := by
  intro pins s σ H xs us Q I r h
  obtain ⟨x, T, rfl, t, q⟩ := h
  cases t with
  | base b => exact call_type1 pins s σ H [x] us Q I r ⟨x, T, rfl, b, q⟩
  | @fd a o kvs h =>
    obtain ⟨u, rfl, rx⟩ := vals1 r
    cases (show u = Value.ref a from rx)
    obtain ⟨_, hb⟩ := I.hok a _ h
    obtain ⟨_, _, vs, _, p⟩ := (show ObjOk X.prog X.w H s.heap a (.dK kvs) from hb)
    exact call_type_of p.typeIs (by decide +kernel) ⟨.ty "dict", H, I, rfl, q⟩
  | @fdT a o kvs h =>
    obtain ⟨u, rfl, rx⟩ := vals1 r
    cases (show u = Value.ref a from rx)
    obtain ⟨_, hb⟩ := I.hok a _ h
    obtain ⟨_, _, vs, _, o', es, ep, h1, h2, _⟩ := (show ObjOk X.prog X.w H s.heap a (.dT kvs) from hb)
    exact call_type_of (show s.TypeIs (.ref a) "dict" from ⟨o', h1, h2.1⟩) (by decide +kernel) ⟨.ty "dict", H, I, rfl, q⟩
def EvY (te : TE) (σ : L2.St) (H : Hp) (T : String) : Prop := ∀ H1, Ex H H1 → ∀ Q : VK, (∀ H2, Ex H1 H2 → Q (.ty T) H2) → te σ H1 Q
theorem y_c {T : String} : EvY (tC (.ty T)) σ H T := fun H1 _ Q q => q H1 (Ex.refl H1)
theorem dqC_sqT {v : V} {ds : List PyData} (c : DqC K v (.tuple ds)) : ∃ a vs, v = .ref a ∧ SqT K H a vs ∧ DqCA K vs ds := by
  cases c with
  | tup h1 h2 h3 h4 h5 ha => exact ⟨_, _, rfl, .inr ⟨_, _, _, h1, h2, h3, h4, h5⟩, ha⟩
theorem Dr.tyB {v : V} {d : PyData} (h : Dr K H v d) : TyZ K H v (tyName d) := by
  cases h with
  | non => exact .base .non
  | bl b => exact .base (.bl b)
  | int i => exact .base (.int i)
  | str x => exact .base (.str x)
  | lst hs ha => exact .base (.lst (.inl (.inr ⟨_, ex_im H _ _ hs⟩)))
  | tup hs ha => exact .base (.tup (.inl (.inl (ex_im H _ _ hs))))
  | dic hs => exact .fd (ex_im H _ _ hs)
  | fdt hs e =>
    subst e
    exact .fdT (ex_im H _ _ hs)
  | cst c =>
    obtain ⟨a, vs, rfl, hs, _⟩ := dqC_sqT (H := H) c
    exact .base (.tup hs)
theorem y_type {d : PyData} (h : EvP K te σ H d) : EvY (tCB (rTyZ K) (tCons te tNil)) σ H (tyName d) := fun H1 x Q q => h H1 x _ fun v H2 x2 dr => ⟨v, _, rfl, Dr.tyB dr, q H2 x2⟩
def rEqY : R2 := fun x y H Q => ∃ a b, x = .ty a ∧ y = .ty b ∧ (∀ s' : Shared, s'.TypeIs (.type a) "type") ∧ (∀ s' : Shared, s'.TypeIs (.type b) "type") ∧ Q (.bl (decide (a = b))) H
theorem op_eqY {X : Cx} : OpR X (compareOp .Eq) rEqY := by
  intro pins s σ H x y v u Q I rx ry h
  obtain ⟨a, b, rfl, rfl, h1, h2, q⟩ := h
  cases (show v = Value.type a from rx)
  cases (show u = Value.type b from ry)
  by_cases e : a = b
  · subst e
    rw [decide_eq_true rfl] at q
    exact PySem.TypeEq.eq_type_same h1 ⟨.bl true, H, I, rfl, q⟩
  · rw [decide_eq_false e] at q
    exact PySem.TypeEq.eq_type_other h1 h2 (beq_eq_false_iff_ne.mpr fun z => e (Value.type.inj z)) ⟨.bl false, H, I, rfl, q⟩
theorem p_eqY {S T : String} (ha : EvY ta σ H S) (hb : EvY tb σ H T) (h1 : ∀ s' : Shared, s'.TypeIs (.type S) "type") (h2 : ∀ s' : Shared, s'.TypeIs (.type T) "type") : EvP K (tOp rEqY ta tb) σ H (.bool (decide (S = T))) := fun H1 x Q q =>
  ha H1 x _ fun H2 x2 => hb H2 (x.trans x2) _ fun H3 x3 => ⟨S, T, rfl, rfl, h1, h2, q _ H3 (x2.trans x3) .bl⟩
end
end Vx

/-! sorting at the hand layer: lists, dicts with tuple keys, sets of tuples -/
namespace Vx
open PySem L2 PySem.Spec PyProof.Rows PySem.W
variable [Tbs]

theorem dpAll_reads {X : Cx} {pins : List (Addr × Obj)} {σ : L2.St} {H : Hp} {s : Shared} (I : Inv X pins σ H s) : ∀ {bs : List (V × PyData)} {its : List Value}, Vals (bs.map (·.1)) its → (∀ b ∈ bs, Dp X.K H b.1 b.2) →
    EachIs (fun v b => RelV b.1 v ∧ ∃ as, Reads s.heap v b.2 as) its bs
  | [], [], _, _ => .nil
  | b :: bs, v :: its, r, h => by
    cases r with
    | cons r1 r2 => exact .cons ⟨r1, Dp.reads I b.2 b.1 v (h b List.mem_cons_self) r1⟩ (dpAll_reads I r2 fun c hc => h c (List.mem_cons_of_mem _ hc))
  | [], _ :: _, r, _ => by cases r
  | _ :: _, [], r, _ => by cases r
theorem each_vals : ∀ {out : List Value} {bs : List (V × PyData)}, EachIs (fun v b => RelV b.1 v) out bs → Vals (bs.map (·.1)) out
  | _, _, .nil => .nil
  | _, _, .cons h t => .cons h (each_vals t)
abbrev leD : V × PyData → V × PyData → Bool := dataLe false fun b => b.2
/-- sorted(xs), xs a list of data that are alike -/
def rSortD (K : PySem.W.Frag) : List V → Hp → VK → Prop := fun vs H Q => ∃ (a : Addr) (bs : List (V × PyData)), vs = [V.ref a] ∧ SqL K H a (bs.map (·.1)) ∧ (∀ b ∈ bs, Dp K H b.1 b.2) ∧ AllAlike (bs.map (·.2)) ∧ SortableT (bs.map (·.2)) ∧ (∀ b ∈ bs, b.2.depth ≤ 40) ∧
  ∀ p, H p = none → Q (.ref p) (upd H p (.lst ((bs.mergeSort leD).map (·.1))))
section
variable {X : Cx}
theorem cr_sortD (hu : X.A.units + 64 < cLine) : CallR X (.builtin "sorted") (rSortD X.K) := by
  intro pins s σ H vs us Q I r h
  obtain ⟨a, bs, rfl, hs, hd, hal, hk, hdep, q⟩ := h
  obtain ⟨its, rv, hl, hz⟩ := I.list hs
  rw [Vals.ref1 r]
  have E0 := dpAll_reads I rv hd
  refine sorted_dataT (R := fun v (b : V × PyData) => RelV b.1 v) (enc := fun b => b.2) (vs := its) (bs := bs) hl.isList (E0.mono fun _ _ x => x.1) (E0.mono fun _ _ x => x.2) hal hk (by rw [List.length_map] at hz; exact hz) (fun b hb => by have := hdep b hb; omega) fun out h1 h2 => ?_
  obtain ⟨ep, he⟩ := PyProof.Rows.sortedAll_at s.heap its out.toArray
  have hlen : ((bs.mergeSort leD).map (·.1)).length ≤ sizeLine := by
    rw [List.length_map, (List.mergeSort_perm _ _).length_eq]
    rw [List.length_map] at hz
    exact hz
  exact ⟨.ref _, upd H (s.heap.objs.size + 1) (.lst ((bs.mergeSort leD).map (·.1))), I.laid (t' := s.toks) (fun _ _ => PyProof.Rows.sortedAll_old) (Nat.le_succ _) ⟨hlen, out, ep, each_vals h2, he⟩, rfl, q _ (I.hok.fresh (Nat.le_succ _))⟩

/-- the sort behind a collection: the list is there -/
theorem sort_tail {A : Around} {E : Value → Shared → Prop} {pins : List (Addr × Obj)} {σ : L2.St} {H : Hp} {s : Shared} {Q : VK} {vs : List Value} {bs : List (V × PyData)} (hA : A.units = X.A.units + 1) (I : Inv X pins σ H s) (hv : Vals (bs.map (·.1)) vs) (hd : ∀ b ∈ bs, Dp X.K H b.1 b.2) (hal : AllAlike (bs.map (·.2))) (hk : SortableT (bs.map (·.2))) (hdep : ∀ b ∈ bs, b.2.depth ≤ 40)
    (hu : X.A.units + 64 < cLine) (hz : bs.length ≤ sizeLine) (q : ∀ p, H p = none → Q (.ref p) (upd H p (.lst ((bs.mergeSort leD).map (·.1))))) :
    wpAny (model X.prog X.w) A (do let l ← newList vs; let _ ← holding [l] (call (.builtin "list.sort") [l]); pure (PySem.Fin.done (.ret l))) (fun f s' => ∃ u, f = .done (.ret u) ∧ EP X pins σ Q u s') E s := by
  have hl : vs.length = bs.length := by rw [← hv.length, List.length_map]
  refine wpAny_bind (wpAny_newList ?_ (by rw [hl]; exact hz))
  have hoL : (s.heap.push (seqObj "list" vs.toArray 0)).get? s.heap.objs.size = some (seqObj "list" vs.toArray 0) := Heap.get?_push_size _ rfl
  have I1 : Inv X pins σ H { s with heap := s.heap.push (seqObj "list" vs.toArray 0) } := I.kept (t' := s.toks) fun b o e => Heap.get?_push_of_some _ e
  have E0 := dpAll_reads I1 hv hd
  have E1 : EachIs (fun v (b : V × PyData) => ∃ as, Reads (sortingHeap (s.heap.push (seqObj "list" vs.toArray 0)) s.heap.objs.size vs) v b.2 as) vs bs := by
    have hI : EachIs (fun v b => RelV b.1 v ∧ ∃ as, Reads s.heap v b.2 as) vs bs := dpAll_reads I hv hd
    exact hI.mono fun v b x => by
      obtain ⟨_, as, r⟩ := x
      exact ⟨as, PyProof.Rows.Reads.keeps (fun c o e => sortingHeap_old (Nat.ne_of_lt (Heap.lt_size e)) (Heap.get?_push_of_some _ e)) r⟩
  have S : SortsAt X.prog X.w A.in1 { s with heap := sortingHeap (s.heap.push (seqObj "list" vs.toArray 0)) s.heap.objs.size vs } (dataKind (sortingHeap (s.heap.push (seqObj "list" vs.toArray 0)) s.heap.objs.size vs) (bs.map (·.2))) vs :=
    sortsAtT (s := { s with heap := sortingHeap (s.heap.push (seqObj "list" vs.toArray 0)) s.heap.objs.size vs }) (each_map (R := fun v d => ∃ as, Reads (sortingHeap (s.heap.push (seqObj "list" vs.toArray 0)) s.heap.objs.size vs) v d as) (fun (b : V × PyData) => b.2) E1) hal hk (fun d hd => by
      obtain ⟨b, hb, rfl⟩ := List.mem_map.mp hd
      have := hdep b hb
      show A.units + 1 + _ < _
      omega)
  refine wpAny_bind (wpAny_holding (wpAny_call_entry PyProof.Rows.slot_list_sort ⟨_, hoL, rfl⟩ PyProof.Rows.entry_list_sort
    (list_sort_vals (s := { s with heap := s.heap.push (seqObj "list" vs.toArray 0) }) hoL S (by rw [hl]; exact hz) ⟨_, rfl, ?_⟩) (PyProof.Rows.args_list_sort _)))
  have e2 : EachIs (fun (v : Value) (b : V × PyData) => RelV b.1 v) (sortVals (dataKind (sortingHeap (s.heap.push (seqObj "list" vs.toArray 0)) s.heap.objs.size vs) (bs.map (·.2))) false vs vs) (bs.mergeSort leD) :=
    sortVals_data (enc := fun (b : V × PyData) => b.2) false (E0.mono fun _ _ x => x.1) E1 hal
  obtain ⟨ep, he⟩ := PyProof.Rows.sortedHeap_at (vs := vs) (out := (sortVals (dataKind (sortingHeap (s.heap.push (seqObj "list" vs.toArray 0)) s.heap.objs.size vs) (bs.map (·.2))) false vs vs).toArray) hoL
  have hlen : ((bs.mergeSort leD).map (·.1)).length ≤ sizeLine := by
    rw [List.length_map, (List.mergeSort_perm _ _).length_eq]
    exact hz
  refine wpAny_pure ⟨_, rfl, .ref s.heap.objs.size, upd H s.heap.objs.size (.lst ((bs.mergeSort leD).map (·.1))), I.laid (t' := s.toks) (fun b u e => ?_) (Nat.le_refl _) ⟨hlen, _, ep, each_vals e2, he⟩, rfl, q _ (I.hok.fresh (Nat.le_refl _))⟩
  have hb : b < s.heap.objs.size := Heap.lt_size e
  rw [PyProof.Rows.sortedHeap_old (Nat.ne_of_lt hb) (by rw [size_push']; exact Nat.lt_succ_of_lt hb)]
  exact Heap.get?_push_of_some _ e

theorem pairedAt {α β : Type} {F : α → β → Prop} : ∀ {l₁ : List α} {l₂ : List β} {i : Nat} {a : α} {b : β}, Paired F l₁ l₂ → l₁[i]? = some a → l₂[i]? = some b → F a b
  | _, _, 0, a, b, .cons h _, h1, h2 => by cases h1; cases h2; exact h
  | _, _, i + 1, a, b, .cons _ t, h1, h2 => pairedAt (i := i) t (by simpa using h1) (by simpa using h2)
  | [], _, i, _, _, _, h1, _ => by simp at h1
/-- sorted(d), d a dict whose keys are tuples of whole numbers -/
def rSortDT : List V → Hp → VK → Prop := fun vs H Q => ∃ (d : Addr) (kvs : List (List Key × V)) (ns : List (List Int)), vs = [V.ref d] ∧ H d = some (.dT kvs) ∧ kvs.map (·.1) = ns.map (fun k => k.map Sum.inl) ∧
  ∀ (p : Addr) (bs : List Addr), bs.length = ns.length → (∀ (i : Nat) (a : Addr) (k : List Int), bs[i]? = some a → ns[i]? = some k → H a = some (.tup (k.map V.int))) → H p = none → Q (.ref p) (upd H p (.lst ((((bs.map V.ref).zip (ns.map fun k => PyData.tuple (k.map .int))).mergeSort leD).map (·.1))))
theorem kV_ints (k : List Int) : (k.map (Sum.inl : Int → Key)).map kV = k.map V.int := by
  rw [List.map_map]
  rfl
theorem dp_ints {K : PySem.W.Frag} {H : Hp} {a : Addr} {k : List Int} (h : H a = some (.tup (k.map V.int))) : Dp K H (.ref a) (.tuple (k.map .int)) := by
  refine .tup (.inl (.inl h)) ?_
  clear h
  induction k with
  | nil => exact .nil
  | cons n r ih => exact .cons (.int n) ih
theorem alike_tups : ∀ (ns : List (List Int)), AllAlike (ns.map fun k => PyData.tuple (k.map .int)) := fun ns => AllAlike.of (enc := fun (k : List Int) => PyData.tuple (k.map .int)) fun a b => by
  rw [alike]
  exact alike_ints a b
theorem sortable_tups (ns : List (List Int)) : SortableT (ns.map fun k => PyData.tuple (k.map .int)) := .inl fun d hd => by
  obtain ⟨k, _, rfl⟩ := List.mem_map.mp hd
  exact ⟨_, rfl⟩
theorem depth_tup (k : List Int) : (PyData.tuple (k.map .int)).depth ≤ 40 := by
  rw [PyData.depth, depth_ints]
  omega
theorem zip_fst {α β : Type} {as : List α} {bs : List β} (h : as.length = bs.length) : (as.zip bs).map (·.1) = as := List.map_fst_zip (by omega)
theorem zip_snd {α β : Type} {as : List α} {bs : List β} (h : as.length = bs.length) : (as.zip bs).map (·.2) = bs := List.map_snd_zip (by omega)
theorem cr_sortDT (hc : X.calm = true) (hu : X.A.units + 64 < cLine) : CallR X (.builtin "sorted") rSortDT := by
  intro pins s σ H xs us Q I r h
  obtain ⟨d, kvs, ns, rfl, hd, hns, q⟩ := h
  rw [Vals.ref1 r]
  obtain ⟨z, hs, ks, pr, o, es, ep, ho, hx, hdt, he, hn⟩ := (show ObjOk X.prog X.w H s.heap d (.dT kvs) from I.hok d _ hd)
  have l1 : es.size = ks.length := size_of_entries he
  have l2 : kvs.length = ks.length := Paired.length pr
  have l3 : kvs.length = ns.length := by
    have e := congrArg List.length hns
    simpa using e
  refine Calls.call_function_entry PyProof.Rows.kind_sorted PyProof.Rows.plain_sorted PyProof.Rows.entry_sorted (PyProof.Rows.args_sorted1 _) ?_
  unfold Builtin.«sorted»
  refine wpAny_bind (m := checkCount "sorted" 1 1 _) (wpAny_pure ?_)
  refine wpAny_bind (PySem.W.kdu_collect (A := X.A.in1) (kdl_raw hs hx hdt) (I.ok.hd hc) ho (by omega) fun h' tk acc kp it => ?_)
  have I1 : Inv X pins σ H { s with heap := h', toks := tk } := I.kept kp
  have ea : acc.toList = ks.map fun x => Value.ref x.2.1 := by
    have hl : acc.toList.length = ks.length := by rw [Array.length_toList, it.1]; exact l1
    apply List.ext_getElem?
    intro j
    rw [List.getElem?_map]
    cases hj : acc.toList[j]? with
    | none =>
      have h1 := List.getElem?_eq_none_iff.mp hj
      rw [List.getElem?_eq_none (by omega)]
      all_goals rfl
    | some v =>
      obtain ⟨en, hen, hv⟩ := it.2 j v (by rw [← Array.getElem?_toList]; exact hj)
      have qe := entry_at he j
      rw [hen] at qe
      cases hb : ks[j]? with
      | none =>
        rw [hb] at qe
        exact nomatch (show some en = none from qe)
      | some b =>
        rw [hb] at qe
        have e2 : en = entryOfKey (tupleKind (mixKind X.prog X.w)) b := Option.some.inj qe
        rw [hv, e2]
        all_goals rfl
  have hbl : (ks.map fun x => x.2.1).length = ns.length := by rw [List.length_map]; omega
  have hat : ∀ (i : Nat) (a : Addr) (k : List Int), (ks.map fun x => x.2.1)[i]? = some a → ns[i]? = some k → H a = some (.tup (k.map V.int)) := fun i a k h1 h2 => by
    have hki : i < ks.length := by
      obtain ⟨h3, _⟩ := List.getElem?_eq_some_iff.mp h1
      simpa using h3
    have e1 : ks[i]? = some ks[i] := List.getElem?_eq_getElem hki
    rw [List.getElem?_map, e1] at h1
    have e2 : kvs[i]? = some (kvs[i]'(by omega)) := List.getElem?_eq_getElem (by omega)
    have e3 : (kvs.map (·.1))[i]? = some (kvs[i]'(by omega)).1 := by rw [List.getElem?_map, e2]; rfl
    rw [hns, List.getElem?_map, h2] at e3
    have e4 : k.map Sum.inl = (kvs[i]'(by omega)).1 := Option.some.inj e3
    have pi := pairedAt pr (i := i) e2 e1
    obtain ⟨p1, p2, _⟩ := pi
    have h1' : ks[i].2.1 = a := Option.some.inj h1
    rw [h1', ← e4, kV_ints] at p2
    exact p2
  have hv : Vals ((((ks.map fun x => x.2.1).map V.ref).zip (ns.map fun k => PyData.tuple (k.map .int))).map (·.1)) acc.toList := by
    rw [zip_fst (by simp only [List.length_map]; omega), ea]
    have e5 : ks.map (fun x => Value.ref x.2.1) = (ks.map fun x => x.2.1).map Value.ref := by rw [List.map_map]; rfl
    rw [e5]
    exact vals_refs _
  have hdp : ∀ b ∈ ((ks.map fun x => x.2.1).map V.ref).zip (ns.map fun k => PyData.tuple (k.map .int)), Dp X.K H b.1 b.2 := fun b hb => by
    obtain ⟨i, hi⟩ := List.mem_iff_getElem?.mp hb
    obtain ⟨h1, h2⟩ := List.getElem?_zip_eq_some.mp hi
    rw [List.getElem?_map] at h1 h2
    cases q1 : (ks.map fun x => x.2.1)[i]? with
    | none => rw [q1] at h1; cases h1
    | some a =>
      cases q2 : ns[i]? with
      | none => rw [q2] at h2; cases h2
      | some k =>
        rw [q1] at h1
        rw [q2] at h2
        rw [← Option.some.inj h1, ← Option.some.inj h2]
        exact dp_ints (hat i a k q1 q2)
  have hsnd : (((ks.map fun x => x.2.1).map V.ref).zip (ns.map fun k => PyData.tuple (k.map .int))).map (·.2) = ns.map fun k => PyData.tuple (k.map .int) := zip_snd (by simp only [List.length_map]; omega)
  exact sort_tail (A := X.A.in1) rfl I1 hv hdp (by rw [hsnd]; exact alike_tups ns) (by rw [hsnd]; exact sortable_tups ns) (fun b hb => by
    have hm : b.2 ∈ ns.map fun k => PyData.tuple (k.map .int) := by
      rw [← hsnd]
      exact List.mem_map.mpr ⟨b, hb, rfl⟩
    obtain ⟨k, _, e⟩ := List.mem_map.mp hm
    rw [← e]
    exact depth_tup k) hu (by rw [List.length_zip, List.length_map, List.length_map]; omega) fun p hp => q p _ hbl hat hp
end
end Vx

/-! typed rules, dicts of one's own -/
namespace Vx
open PySem L2 PySem.Spec PyProof.Rows Evl RZ
variable [Tbs]

section
variable {K : PySem.W.Frag} {σ : L2.St} {H H0 : Hp} {te ta tb : TE} {tt : TT} {wi : TI} {g : TG} {E : EnvD} {D : Ends} {α β : Type} {f : α → PyData} {h : β → PyData}
theorem atI_map {xs : List α} {i : Int} {a : α} (e : atI xs i = some a) : atI (xs.map f) i = some (f a) := by
  unfold atI at e ⊢
  rw [List.length_map]
  cases q : ixN xs.length i with
  | none => rw [q] at e; cases e
  | some j =>
    rw [q] at e
    have e' : xs[j]? = some a := e
    show (xs.map f)[j]? = some (f a)
    rw [List.getElem?_map, e']
    rfl
theorem q_ixT {xs : List α} {i : Int} {a : α} (ha : EvP K ta σ H (eT f xs)) (hb : EvP K tb σ H (.int i)) (e : atI xs i = some a) : EvP K (tOp (rIxT K) ta tb) σ H (f a) := p_ixT ha hb (atI_map e)
theorem q_ixL {xs : List α} {i : Int} {a : α} (ha : EvS K ta σ H (xs.map f)) (hb : EvP K tb σ H (.int i)) (e : atI xs i = some a) : EvP K (tOp (rIxL K) ta tb) σ H (f a) := p_ixL ha hb (atI_map e)
theorem q_lenL {xs : List α} (ha : EvS K te σ H (xs.map f)) : EvP K (tCB (rLen0 K) (tCons te tNil)) σ H (.int (xs.length : Int)) := (p_lenL ha).to (by rw [List.length_map])
theorem q_lenT {xs : List α} (ha : EvP K te σ H (eT f xs)) : EvP K (tCB (rLen0 K) (tCons te tNil)) σ H (.int (xs.length : Int)) := (p_lenT ha).to (by rw [List.length_map])
def cutL {α : Type} (xs : List α) (lo hi : Option Int) : List α := (xs.drop (HT.sIx xs.length 0 lo)).take (HT.sIx xs.length xs.length hi - HT.sIx xs.length 0 lo)
theorem cutD_map {xs : List α} {lo hi : Option Int} : cutD (xs.map f) lo hi = (cutL xs lo hi).map f := by
  unfold cutD cutL
  rw [List.length_map, ← List.map_drop, ← List.map_take]
theorem cutL_from (xs : List α) : cutL xs (some 1) none = xs.drop 1 := by
  unfold cutL
  rw [show HT.sIx xs.length 0 (some 1) = min 1 xs.length from HT.sIx_nat xs.length 0 1, HT.sIx_none]
  cases xs with
  | nil => rfl
  | cons x r =>
    rw [show min 1 (x :: r).length = 1 by rw [List.length_cons]; omega]
    rw [List.length_cons, Nat.add_sub_cancel, List.drop_succ_cons, List.drop_zero]
    exact List.take_length
theorem p_slT {ds : List PyData} {tl th : TO} {lo hi : Option Int} (h0 : EvP K te σ H (.tuple ds)) (h1 : EvO tl σ H lo) (h2 : EvO th σ H hi) : EvP K (tSl (rSlA K) te tl th) σ H (.tuple (cutD ds lo hi)) := fun H1 x Q q =>
  h0 H1 x _ fun v H2 x2 dr => h1 H2 (x.trans x2) _ fun H3 x3 => h2 H3 ((x.trans x2).trans x3) _ fun H4 x4 => by
    obtain ⟨a, vs, rfl, hs, hd⟩ := (dr.ex (x3.trans x4)).of_tup
    have k1 : (HT.sIx vs.length 0 lo = 0 ∧ HT.sIx vs.length vs.length hi = vs.length) → cutD ds lo hi = ds := fun ⟨e1, e2⟩ => by
      unfold cutD
      rw [hd.length] at e1 e2
      rw [e1, e2, List.drop_zero, Nat.sub_zero, List.take_length]
    refine ⟨a, vs, rfl, hs, ?_⟩
    first
      | exact ⟨fun e => q _ H4 ((x2.trans x3).trans x4) (by rw [k1 e]; exact dr.ex (x3.trans x4)), fun _ p hp => q _ _ (((x2.trans x3).trans x4).trans (Ex.new hp)) (Dr.tup upd_same (hd.cut.ex (Ex.new hp)))⟩
theorem q_slT {xs : List α} {tl th : TO} {lo hi : Option Int} (h0 : EvP K te σ H (eT f xs)) (h1 : EvO tl σ H lo) (h2 : EvO th σ H hi) : EvP K (tSl (rSlA K) te tl th) σ H (eT f (cutL xs lo hi)) := (p_slT h0 h1 h2).to (by rw [cutD_map])
theorem q_slL {xs : List α} {tl th : TO} {lo hi : Option Int} (h0 : EvS K te σ H (xs.map f)) (h1 : EvO tl σ H lo) (h2 : EvO th σ H hi) : EvN K (tSl (rSlL K) te tl th) σ H ((cutL xs lo hi).map f) := (n_slL h0 h1 h2).to cutD_map
theorem q_truL {xs : List α} (h0 : EvS K te σ H (xs.map f)) : EvT (fun σ H Q => te σ H fun x H' => ∃ k, TruV K x H' k ∧ Q k H') σ H (!xs.isEmpty) := et_is (t_truL h0) (by cases xs <;> rfl)
theorem q_truT {xs : List α} (h0 : EvP K te σ H (eT f xs)) : EvT (fun σ H Q => te σ H fun x H' => ∃ k, TruV K x H' k ∧ Q k H') σ H (!xs.isEmpty) := et_is (t_truT h0) (by cases xs <;> rfl)
theorem q_catT {xs ys : List α} (ha : EvP K ta σ H (eT f xs)) (hb : EvP K tb σ H (eT f ys)) (hl : xs.length + ys.length ≤ 16777216) : EvP K (tOp (rCatA K) ta tb) σ H (eT f (xs ++ ys)) := (p_catT ha hb (by rw [List.length_map, List.length_map]; exact hl)).to (by show PyData.tuple _ = PyData.tuple _; rw [List.map_append])
/-! lists of any kind, added -/
def rCatS : R2 := fun x y H Q => ∃ l b xs zs, x = .ref l ∧ y = .ref b ∧ Rd H l (.lst xs) ∧ Rd H b (.lst zs) ∧ xs.length + zs.length ≤ sizeLine ∧ ∀ p, H p = none → Q (.ref p) (upd H p (.lst (xs ++ zs)))
def EvR (K : PySem.W.Frag) (te : TE) (σ : L2.St) (H : Hp) (ds : List PyData) : Prop := ∀ H1, Ex H H1 → ∀ Q : VK, (∀ a vs H2, Ex H1 H2 → Rd H2 a (.lst vs) → DrA K H2 vs ds → Q (.ref a) H2) → te σ H1 Q
theorem EvR.s {ds : List PyData} (h : EvR K te σ H ds) : EvS K te σ H ds := fun H1 x Q q => h H1 x Q fun a vs H2 x2 hs hd => q a vs H2 x2 (.inl hs) hd
theorem Dr.of_lstR {v : V} {ds : List PyData} (h : Dr K H v (.list ds)) : ∃ a vs, v = .ref a ∧ Rd H a (.lst vs) ∧ DrA K H vs ds := by
  cases h with
  | lst hs ha => exact ⟨_, _, rfl, .inr ⟨_, ex_im H _ _ hs⟩, ha⟩
theorem EvP.r {ds : List PyData} (h : EvP K te σ H (.list ds)) : EvR K te σ H ds := fun H1 x Q q => h H1 x Q fun v H2 x2 dr => by
  obtain ⟨a, vs, rfl, hs, ha⟩ := Dr.of_lstR dr
  exact q a vs H2 x2 hs ha
theorem EvN.r {ds : List PyData} (h : EvN K te σ H ds) : EvR K te σ H ds := fun H1 x Q q => h H1 x Q fun p vs H2 _ x2 hp ha => q p vs H2 x2 (.inl hp) ha
theorem Ow.r {ds : List PyData} {l : Addr} {i : Nat} (o : Ow K H0 H l ds) (S : Sl K H σ E) (hi : E[i]? = some (some (.raw (.ref l)))) : EvR K (tVar i) σ H ds := fun H1 x Q q => by
  obtain ⟨_, vs, b, c⟩ := o
  exact ⟨_, S.raw hi, q l vs H1 (Ex.refl H1) (.inl (x l _ b)) (c.ex x)⟩
theorem q_catL {xs ys : List α} (ha : EvR K ta σ H (xs.map f)) (hb : EvR K tb σ H (ys.map f)) (hl : xs.length + ys.length ≤ 16777216) : EvN K (tOp rCatS ta tb) σ H ((xs ++ ys).map f) := fun H1 x Q q =>
  ha H1 x _ fun a vs H2 x2 hs hd => hb H2 (x.trans x2) _ fun b ws H3 x3 hs' hd' =>
    ⟨a, b, vs, ws, rfl, rfl, ex_rd x3 hs, hs', by rw [hd.length, hd'.length, List.length_map, List.length_map, sizeLine_eq]; exact hl, fun p hp => q p _ _ (fresh_back (x2.trans x3) hp) ((x2.trans x3).trans (Ex.new hp)) upd_same (by rw [List.map_append]; exact ((hd.ex x3).append hd').ex (Ex.new hp))⟩
theorem zipD_enc {xs : List α} {ys : List β} : zipD (xs.map f) (ys.map h) = (xs.zip ys).map (eP f h) := by
  unfold zipD
  rw [List.zip_map, List.map_map]
  rfl
theorem qe_zipT {xs : List α} {ys : List β} (ha : EvP K ta σ H (eT f xs)) (hb : EvP K tb σ H (eT h ys)) : ItE K (iWf K (iZipA K (tCons ta (tCons tb tNil)))) σ H ((xs.zip ys).map (eP f h)) := zipD_enc (f := f) (h := h) ▸ ie_zipT ha hb
theorem qe_zipL {xs : List α} {ys : List β} (ha : EvS K ta σ H (xs.map f)) (hb : EvS K tb σ H (ys.map h)) : ItE K (iWf K (iZipA K (tCons ta (tCons tb tNil)))) σ H ((xs.zip ys).map (eP f h)) := zipD_enc (f := f) (h := h) ▸ ie_zipL ha hb
def enumL {α : Type} (xs : List α) : List (Int × α) := xs.zipIdx.map fun p => ((p.2 : Int), p.1)
theorem enumD_enc {xs : List α} : enumD (xs.map f) = (enumL xs).map (eP eI f) := by
  unfold enumD enumL
  rw [List.zipIdx_map, List.map_map, List.map_map]
  rfl
theorem qe_enumL {xs : List α} (ha : EvS K te σ H (xs.map f)) : ItE K (iWf K (iEnum K (tCons te tNil))) σ H ((enumL xs).map (eP eI f)) := enumD_enc (f := f) ▸ ie_enumL ha
theorem qt_enumL {xs : List α} (ha : EvP K te σ H (eL f xs)) : ItD K H0 (iEnum K (tCons te tNil)) σ H ((enumL xs).map (eP eI f)) := enumD_enc (f := f) ▸ it_enumL ha
/-! comprehensions, total -/
theorem t_yes : EvT tYes σ H true := fun H1 _ Q q => q H1 (Ex.refl H1)
theorem n_lcM {xs : List α} {enc : α → PyData} {encb : β → PyData} {ts vs : List Nat} {bind : α → EnvD} (fn : α → β) (S : Sl K H σ E) (hi : ItE K wi σ H (xs.map enc)) (hg : ∀ x, Gd K g ts (enc x) (wipE E vs) (bind x)) (hts : ∀ t ∈ ts, t ∈ vs)
    (hb : ∀ x ∈ xs, ∀ σ' H', Ex H H' → Sl K H' σ' (bind x) → EvP K te σ' H' (encb (fn x))) : EvN K (tLc wi g tYes te vs) σ H ((xs.map fn).map encb) :=
  n_lc (fun x => some (some (fn x))) (lcO_map fn xs) S hi hg hts fun x hx r hr σ' H' e S' => by
    cases hr
    exact ⟨t_yes, fun y hy => by cases hy; exact hb x hx σ' H' e S'⟩
theorem lcO_filterB (c : α → Bool) (fn : α → β) (xs : List α) : lcO (fun x => some (bif c x then some (fn x) else none)) xs = some ((xs.filter c).map fn) := by
  have e : (fun x => some (bif c x then some (fn x) else none)) = fun x => some (if c x = true then some (fn x) else none) := by
    funext x
    cases c x <;> rfl
  rw [e]
  exact lcO_filter c fn xs
theorem n_lcF {xs : List α} {enc : α → PyData} {encb : β → PyData} {ts vs : List Nat} {bind : α → EnvD} (c : α → Bool) (fn : α → β) (S : Sl K H σ E) (hi : ItE K wi σ H (xs.map enc)) (hg : ∀ x, Gd K g ts (enc x) (wipE E vs) (bind x)) (hts : ∀ t ∈ ts, t ∈ vs)
    (hc : ∀ x ∈ xs, ∀ σ' H', Ex H H' → Sl K H' σ' (bind x) → EvT tt σ' H' (c x)) (hb : ∀ x ∈ xs, c x = true → ∀ σ' H', Ex H H' → Sl K H' σ' (bind x) → EvP K te σ' H' (encb (fn x))) : EvN K (tLc wi g tt te vs) σ H (((xs.filter c).map fn).map encb) :=
  n_lc (fun x => some (bif c x then some (fn x) else none)) (lcO_filterB c fn xs) S hi hg hts fun x hx r hr σ' H' e S' => by
    have hr' : (bif c x then some (fn x) else none) = r := Option.some.inj hr
    cases q : c x with
    | true =>
      have hcx := hc x hx σ' H' e S'
      rw [q] at hr' hcx
      have hr2 : r = some (fn x) := hr'.symm
      clear hr
      subst hr2
      exact ⟨hcx, fun y hy => by cases hy; exact hb x hx q σ' H' e S'⟩
    | false =>
      have hcx := hc x hx σ' H' e S'
      rw [q] at hr' hcx
      have hr2 : r = none := hr'.symm
      clear hr
      subst hr2
      exact ⟨hcx, fun y hy => nomatch hy⟩
/-! sorted -/
def sortT (xs : List (List Int)) : List (List Int) := xs.mergeSort fun a b => decide (a ≤ b)
theorem le_tup (a b : List Int) : (!PySem.W.dataLt (.tuple (b.map .int)) (.tuple (a.map .int))) = decide (a ≤ b) := by
  rw [PySem.W.dataLt_tuple]
  show (!PySem.W.rowLt (b.map .int) (a.map .int)) = _
  rw [PySem.W.dataLt_ints]
  by_cases h : b < a
  · have h' : ¬ a ≤ b := fun r => List.not_lt.mpr r h
    simp [h, h']
  · have h' : a ≤ b := List.not_lt.mp h
    simp [h, h']
theorem drA_pairs : ∀ {bs : List (V × PyData)}, (∀ b ∈ bs, Dr K H b.1 b.2) → DrA K H (bs.map (·.1)) (bs.map (·.2))
  | [], _ => DrA.nil
  | b :: bs, q => DrA.cons (q b List.mem_cons_self) (drA_pairs fun c hc => q c (List.mem_cons_of_mem _ hc))
theorem sort_snd (xs : List (List Int)) {bs : List (V × PyData)} (q : bs.map (·.2) = xs.map (eT eI)) : (bs.mergeSort leD).map (·.2) = (sortT xs).map (eT eI) := by
  have h1 : (bs.mergeSort leD).map (·.2) = (bs.map (·.2)).mergeSort (PySem.W.dataLe false fun d => d) := PySem.W.sort_maps (fun (b : V × PyData) => b.2) fun a _ b _ => rfl
  rw [h1, q]
  have h2 : ((sortT xs).map (eT eI)) = (xs.map (eT eI)).mergeSort (PySem.W.dataLe false fun d => d) := PySem.W.sort_maps (eT eI) fun a _ b _ => (le_tup a b).symm
  exact h2.symm
theorem drA_zip : ∀ {vs : List V} {ds : List PyData}, DrA K H vs ds → (vs.zip ds).map (·.1) = vs ∧ (vs.zip ds).map (·.2) = ds ∧ ∀ b ∈ vs.zip ds, Dr K H b.1 b.2
  | [], [], _ => ⟨rfl, rfl, fun b hb => nomatch hb⟩
  | v :: vs, d :: ds, q => by
    cases q with
    | cons a b =>
      obtain ⟨h1, h2, h3⟩ := drA_zip b
      refine ⟨by rw [List.zip_cons_cons, List.map_cons, h1], by rw [List.zip_cons_cons, List.map_cons, h2], fun c hc => ?_⟩
      rw [List.zip_cons_cons] at hc
      rcases List.mem_cons.mp hc with rfl | hc
      · exact a
      · exact h3 c hc
  | [], _ :: _, q => by cases q
  | _ :: _, [], q => by cases q
theorem n_sortTT {xs : List (List Int)} (h0 : EvS K te σ H (xs.map (eT eI))) : EvN K (tCB (rSortD K) (tCons te tNil)) σ H ((sortT xs).map (eT eI)) := fun H1 x Q q => h0 H1 x _ fun a vs H2 x2 hs hd => by
  obtain ⟨z1, z2, z3⟩ := drA_zip hd
  refine ⟨a, vs.zip (xs.map (eT eI)), rfl, by rw [z1]; exact hs, fun b hb => (z3 b hb).dp (by
    obtain ⟨k, _, e⟩ := List.mem_map.mp (show b.2 ∈ xs.map (eT eI) from by rw [← z2]; exact List.mem_map.mpr ⟨b, hb, rfl⟩)
    rw [← e]
    exact noDs_int k), by rw [z2]; exact alike_tups xs, by rw [z2]; exact sortable_tups xs, fun b hb => ?_, fun p hp => ?_⟩
  · have hm : b.2 ∈ xs.map (eT eI) := by
      rw [← z2]
      exact List.mem_map.mpr ⟨b, hb, rfl⟩
    obtain ⟨k, _, e⟩ := List.mem_map.mp hm
    rw [← e]
    exact depth_tup k
  · have hr := drA_pairs (K := K) (H := H2) (bs := (vs.zip (xs.map (eT eI))).mergeSort leD) fun b hb => z3 b ((List.mergeSort_perm _ _).mem_iff.mp hb)
    rw [sort_snd xs z2] at hr
    exact q p _ _ (fresh_back x2 hp) (x2.trans (Ex.new hp)) upd_same (hr.ex (Ex.new hp))

/-! ### dicts of one's own, tuples of whole numbers as keys -/
def DcT (K : PySem.W.Frag) (H : Hp) : List (List Key × V) → List (List Int × PyData) → Prop := fun ks kvs => Paired (fun p q => p.1 = q.1.map Sum.inl ∧ Dr K H p.2 q.2) ks kvs
def OwT (K : PySem.W.Frag) (H0 H : Hp) (l : Addr) (kvs : List (List Int × PyData)) : Prop := H0 l = none ∧ ∃ ks, H l = some (.dT ks) ∧ DcT K H ks kvs
theorem DcT.kp {H' : Hp} {ks : List (List Key × V)} {kvs : List (List Int × PyData)} (k : Kp H H') (d : DcT K H ks kvs) : DcT K H' ks kvs := Paired.mono (fun _ _ q => ⟨q.1, q.2.kp k⟩) d
theorem OwT.ex {H' : Hp} {l : Addr} {kvs : List (List Int × PyData)} (e : Ex H H') (o : OwT K H0 H l kvs) : OwT K H0 H' l kvs := by
  obtain ⟨a, ks, b, c⟩ := o
  exact ⟨a, ks, e _ _ b, c.kp (Kp.of e)⟩
theorem OwT.but {H' : Hp} {l l' : Addr} {kvs : List (List Int × PyData)} (ne : l ≠ l') (kp : Kp H H') (q : Xb l' H H') (o : OwT K H0 H l kvs) : OwT K H0 H' l kvs := by
  obtain ⟨a, ks, b, c⟩ := o
  exact ⟨a, ks, q.at ne b, c.kp kp⟩
theorem OwT.nc {l : Addr} {kvs : List (List Int × PyData)} (o : OwT K H0 H l kvs) : ∀ q, H l ≠ some (LamX.CodeO l q) := by
  obtain ⟨_, _, b, _⟩ := o
  exact nc_of b fun _ z => nomatch z
theorem OwT.ne {l l' : Addr} {kvs : List (List Int × PyData)} (o : OwT K H0 H l kvs) (n : H l' = none) : l ≠ l' := by
  obtain ⟨_, _, b, _⟩ := o
  exact ne_of_none b n
/-- d[k] = v at the level of data -/
def putA {κ ω : Type} [DecidableEq κ] (kvs : List (κ × ω)) (k : κ) (v : ω) : List (κ × ω) :=
  if (kvs.any fun kv => decide (kv.1 = k)) = true then kvs.map (fun kv => if kv.1 = k then (kv.1, v) else kv) else kvs ++ [(k, v)]
theorem inl_inj {a b : List Int} (e : (a.map (Sum.inl : Int → Key)) = b.map Sum.inl) : a = b := by
  induction a generalizing b with
  | nil => cases b with
    | nil => rfl
    | cons _ _ => cases e
  | cons x r ih =>
    cases b with
    | nil => cases e
    | cons y t =>
      rw [List.map_cons, List.map_cons] at e
      injection e with e1 e2
      injection e1 with e1
      rw [e1, ih e2]
theorem dct_any {ks : List (List Key × V)} {kvs : List (List Int × PyData)} (d : DcT K H ks kvs) (k : List Int) : (ks.any fun kv => decide (kv.1 = k.map Sum.inl)) = kvs.any fun kv => decide (kv.1 = k) := by
  unfold DcT at d
  induction d with
  | nil => rfl
  | cons q _ ih =>
    rw [List.any_cons, List.any_cons, ih, q.1]
    congr 1
    exact decide_eq_decide.mpr ⟨fun e => inl_inj e, fun e => by rw [e]⟩
theorem dct_map {ks : List (List Key × V)} {kvs : List (List Int × PyData)} (d : DcT K H ks kvs) (k : List Int) {v : V} {x : PyData} (dv : Dr K H v x) :
    DcT K H (ks.map fun kv => if kv.1 = k.map Sum.inl then (kv.1, v) else kv) (kvs.map fun kv => if kv.1 = k then (kv.1, x) else kv) := by
  unfold DcT at d ⊢
  induction d with
  | nil => exact .nil
  | @cons a b _ _ q _ ih =>
    rw [List.map_cons, List.map_cons]
    refine .cons ?_ ih
    by_cases e : b.1 = k
    · rw [if_pos e, if_pos (by rw [q.1, e])]
      exact ⟨q.1, dv⟩
    · rw [if_neg e, if_neg (fun z => e (inl_inj (q.1.symm.trans z)))]
      exact q
theorem dct_put {ks : List (List Key × V)} {kvs : List (List Int × PyData)} (d : DcT K H ks kvs) (k : List Int) {v : V} {x : PyData} (dv : Dr K H v x) : DcT K H (putK ks (k.map Sum.inl) v) (putA kvs k x) := by
  unfold putK putA
  rw [dct_any d k]
  by_cases e : (kvs.any fun kv => decide (kv.1 = k)) = true
  · rw [if_pos e, if_pos e]
    exact dct_map d k dv
  · rw [if_neg e, if_neg e]
    exact Paired.snoc d ⟨rfl, dv⟩
theorem dct_keys {ks : List (List Key × V)} {kvs : List (List Int × PyData)} (d : DcT K H ks kvs) : ks.map (·.1) = (kvs.map (·.1)).map fun k => k.map Sum.inl := by
  unfold DcT at d
  induction d with
  | nil => rfl
  | cons z _ ih => rw [List.map_cons, List.map_cons, List.map_cons, ih, z.1]
theorem s_dnewT {i : Nat} (e0 : Ex H0 H) (k : ∀ l H1, Ex H H1 → H l = none → OwT K H0 H1 l [] → D.nx (σ.set i (some (.ref l))) H1) : tAsg tDNewT (gName i) D σ H := fun p hp =>
  k p _ (Ex.new hp) hp ⟨fresh_back e0 hp, [], upd_same, .nil⟩
theorem s_dputT {i : Nat} {l : Addr} {kvs : List (List Int × PyData)} {n : List Int} {x : PyData} (S : Sl K H σ E) (hi : E[i]? = some (some (.raw (.ref l)))) (o : OwT K H0 H l kvs) (hk : EvP K ta σ H (eT eI n)) (hv : EvP K te σ H x) (hz : kvs.length < 16777216)
    (k : ∀ H1, Kp H H1 → Xb l H H1 → OwT K H0 H1 l (putA kvs n x) → D.nx σ H1) : sDPut (tVar i) ta te D σ H := by
  obtain ⟨a, ks, b, c⟩ := o
  refine hv H (Ex.refl H) _ fun v H1 e1 dv => ⟨.ref l, S.raw hi, hk H1 e1 _ fun w H2 e2 dk => ?_⟩
  obtain ⟨q, ws, rfl, hq, hd⟩ := dk.of_tupE
  rw [hd.ints] at hq
  have hl := e2 l _ (e1 l _ b)
  have hq' : H2 q = some (.tup ((n.map (Sum.inl : Int → Key)).map kV)) := by rw [kV_ints]; exact hq
  refine ⟨l, _, rfl, DPut.t hl hq' (by rw [Paired.length c, sizeLine_eq]; exact hz), ?_⟩
  have kp : Kp H2 (upd H2 l (.dT (putK ks (n.map Sum.inl) v))) := Kp.put (im_none hl (fun _ z => nomatch z) fun _ _ z => nomatch z)
  exact k _ ((Kp.of (e1.trans e2)).trans kp) (Xb.mut (e1.trans e2) (nc_of hl fun _ z => nomatch z)) ⟨a, _, upd_same, (dct_put ((c.kp (Kp.of (e1.trans e2)))) n (dv.ex e2)).kp kp⟩
theorem n_sortDT {i : Nat} {l : Addr} {kvs : List (List Int × PyData)} (S : Sl K H σ E) (hi : E[i]? = some (some (.raw (.ref l)))) (o : OwT K H0 H l kvs) : EvN K (tCB rSortDT (tCons (tVar i) tNil)) σ H ((sortT (kvs.map (·.1))).map (eT eI)) := fun H1 x Q q => by
  obtain ⟨_, ks, b, c⟩ := o.ex x
  have hns := dct_keys c
  refine ⟨.ref l, S.raw hi, l, ks, kvs.map (·.1), rfl, b, hns, fun p bs hl hat hp => ?_⟩
  have hlen : (bs.map V.ref).length = ((kvs.map (·.1)).map fun k => PyData.tuple (k.map .int)).length := by simp only [List.length_map] at hl ⊢; exact hl
  have hz : ∀ b ∈ (bs.map V.ref).zip ((kvs.map (·.1)).map fun k => PyData.tuple (k.map .int)), Dr K H1 b.1 b.2 := fun b hb => by
    obtain ⟨j, hj⟩ := List.mem_iff_getElem?.mp hb
    obtain ⟨h1, h2⟩ := List.getElem?_zip_eq_some.mp hj
    rw [List.getElem?_map] at h1 h2
    cases q1 : bs[j]? with
    | none => rw [q1] at h1; cases h1
    | some a =>
      cases q2 : (kvs.map (·.1))[j]? with
      | none => rw [q2] at h2; cases h2
      | some k =>
        rw [q1] at h1
        rw [q2] at h2
        rw [← Option.some.inj h1, ← Option.some.inj h2]
        exact Dr.tup (hat j a k q1 q2) .of_ints
  have hr := drA_pairs (K := K) (H := H1) (bs := ((bs.map V.ref).zip ((kvs.map (·.1)).map fun k => PyData.tuple (k.map .int))).mergeSort leD) fun b hb => hz b ((List.mergeSort_perm _ _).mem_iff.mp hb)
  rw [sort_snd (kvs.map (·.1)) (zip_snd hlen)] at hr
  exact q p _ _ hp (Ex.new hp) upd_same (hr.ex (Ex.new hp))
end
section
variable {X : Cx}
theorem op_catS : OpR X (binaryOp .Add) rCatS := by
  intro pins s σ H x y v u Q I rx ry h
  obtain ⟨l, b, xs, zs, rfl, rfl, hH, hB, hz, q⟩ := h
  cases rx
  cases ry
  obtain ⟨hl, its, n, r, e⟩ := hH.ok I.hok
  obtain ⟨hl2, its2, n2, r2, e2⟩ := hB.ok I.hok
  have l1 := r.length
  have l2 := r2.length
  refine PySem.P.add_list e e2 ?_ (by rw [List.size_toArray, List.size_toArray]; omega)
  have ea : its.toArray ++ its2.toArray = (its ++ its2).toArray := by simp
  rw [ea]
  exact ⟨.ref _, _, I.lnew (t' := s.toks) (r.append r2) (by rw [List.length_append]; omega), rfl, q _ I.fresh⟩
end
end Vx

/-! rules that the generator names -/
namespace Vx
open PySem L2 PySem.Spec PyProof.Rows Evl RZ
variable [Tbs]
/-! checks -/
theorem chk_dec {p : Prop} [Decidable p] {u : Unit} (h : chk (decide p) = some u) : p := of_decide_eq_true (chk_some h)
theorem sh_l {a b : Bool} {u : Unit} (h : chk (a && b) = some u) : a = true := by
  have := chk_some h
  cases a with
  | true => rfl
  | false => cases this
theorem sh_r {a b : Bool} {u : Unit} (h : chk (a && b) = some u) : b = true := by
  have := chk_some h
  cases a with
  | true => exact this
  | false => cases this
def inW (i : Int) : Bool := decide (-(2 ^ 64) < i) && decide (i < 2 ^ 64)
def mulOk (i j : Int) : Bool := inW i || inW j
theorem inW_is {i : Int} (h : inW i = true) : -(2 ^ 64) < i ∧ i < 2 ^ 64 := by
  unfold inW at h
  rw [Bool.and_eq_true] at h
  exact ⟨of_decide_eq_true h.1, of_decide_eq_true h.2⟩
theorem mul_ok {i j : Int} {u : Unit} (h : chk (mulOk i j) = some u) : L2.CMul i j := by
  have := chk_some h
  unfold mulOk at this
  rcases Bool.or_eq_true _ _ ▸ this with h | h
  · exact .inl (inW_is h)
  · exact .inr (inW_is h)
def divOk (_ j : Int) : Bool := decide (0 < j) && decide (j < 1073741824)
theorem div_ok {i j : Int} {u : Unit} (h : chk (divOk i j) = some u) : L2.CDiv i j := by
  have := chk_some h
  unfold divOk at this
  rw [Bool.and_eq_true] at this
  exact ⟨of_decide_eq_true this.1, of_decide_eq_true this.2⟩
theorem tyMeta (d : PyData) : ∀ s' : Shared, s'.TypeIs (.type (tyName d)) "type" := by
  intro s'
  cases d with
  | none => exact PySem.TypeEq.meta_NoneType s'
  | bool b => exact PySem.TypeEq.meta_bool s'
  | int i => exact PySem.TypeEq.meta_int s'
  | str x => exact PySem.TypeEq.meta_str s'
  | list x => exact PySem.TypeEq.meta_list s'
  | tuple x => exact PySem.TypeEq.meta_tuple s'
  | dict x =>
    cases x with
    | nil => exact PySem.TypeEq.meta_dict s'
    | cons p _ =>
      obtain ⟨k, u⟩ := p
      cases k <;> first | exact PySem.TypeEq.meta_tuple s' | exact PySem.TypeEq.meta_dict s'
/-! isinstance -/
/-- the type of a value: also of a dict with tuples as keys that is frozen -/
def TyV (K : PySem.W.Frag) (H : Hp) (x : V) (t : Value) : Prop := TyX K H x t ∨ ∃ a o kvs, x = .ref a ∧ H a = some (.frz o (.dT kvs)) ∧ t = .type "dict"
def rIsiV (K : PySem.W.Frag) : List V → Hp → VK → Prop := fun xs H Q => ∃ (x c : V) (t u : Value) (b : Bool), xs = [x, c] ∧ ClsV c u ∧ TyV K H x t ∧ PySem.W.kitOne K t u = some b ∧ Q (.bl b) H
theorem call_isiV {X : Cx} : CallR X (.builtin "isinstance") (rIsiV X.K) := by
  intro pins s σ H xs us Q I r h
  obtain ⟨x, c, t, u, b, rfl, k, ty, e, q⟩ := h
  rcases ty with ty | ⟨a, o, kvs, rfl, ea, rfl⟩
  · exact call_isi pins s σ H _ us Q I r ⟨x, c, t, u, b, rfl, k, ty, e, q⟩
  obtain ⟨u1, u2, rfl, r1, r2⟩ := vals2 r
  have e2 := k.eq r2
  subst e2
  cases (show u1 = Value.ref a from r1)
  obtain ⟨_, hb⟩ := I.hok a _ ea
  obtain ⟨_, _, vs, _, o', es, ep, h1, h2, _⟩ := (show ObjOk X.prog X.w H s.heap a (.dT kvs) from hb)
  exact PySem.W.kia_one PySem.W.kitx_dict I.kIn ⟨o', h1, h2.1⟩ e (fun z => nomatch z) fun tk => ⟨.bl b, H, I.tok tk, rfl, q⟩
def isI (T : String) (d : PyData) : Bool := match T, d with
  | "int", .int _ => true
  | "int", .bool _ => true
  | "bool", .bool _ => true
  | "str", .str _ => true
  | "tuple", .tuple _ => true
  | "list", .list _ => true
  | "dict", .dict [] => true
  | "dict", .dict ((.bool _, _) :: _) => true
  | "tuple", .dict ((.bool _, _) :: _) => false
  | "tuple", .dict (_ :: _) => true
  | _, _ => false
section
variable {K : PySem.W.Frag} {σ : L2.St} {H H0 : Hp} {te ta tb : TE} {tt : TT} {wi : TI} {g : TG} {E : EnvD} {D : Ends} {α β : Type} {f : α → PyData} {h : β → PyData}
theorem Dr.tyX {v : V} {d : PyData} (h : Dr K H v d) : TyV K H v (.type (tyName d)) := by
  cases h with
  | non => exact .inl (.base .non)
  | bl b => exact .inl (.base (.bl b))
  | int i => exact .inl (.base (.int i))
  | str x => exact .inl (.base (.str x))
  | lst hs ha => exact .inl (.base (.frz (ex_im H _ _ hs)))
  | tup hs ha => exact .inl (.base (.tup (ex_im H _ _ hs)))
  | dic hs => exact .inl (.fDict (ex_im H _ _ hs))
  | cst c =>
    cases c with
    | tup h1 h2 => exact .inl (.kTuple h1 h2)
  | fdt hs e =>
    subst e
    exact .inr ⟨_, _, _, rfl, ex_im H _ _ hs, rfl⟩
theorem kit_of_ty (T : String) (hT : T = "int" ∨ T = "bool" ∨ T = "str" ∨ T = "tuple" ∨ T = "list") (d : PyData) : PySem.W.kitOne K (.type (tyName d)) (.type T) = some (isI T d) := by
  rcases hT with rfl | rfl | rfl | rfl | rfl <;> (cases d with
    | dict kvs =>
      cases kvs with
      | nil => first | rfl | decide +kernel
      | cons p _ =>
        obtain ⟨k, u⟩ := p
        cases k <;> first | rfl | exact (by decide +kernel : _ = _) | (show PySem.W.kitOne K (.type "dict") _ = some false; first | rfl | decide +kernel)
    | _ => first | rfl | decide +kernel)
theorem p_isi {T : String} {d : PyData} (hT : T = "int" ∨ T = "bool" ∨ T = "str" ∨ T = "tuple" ∨ T = "list") (ha : EvP K te σ H d) : EvP K (tCB (rIsiV K) (tCons te (tCons (tC (.ty T)) tNil))) σ H (.bool (isI T d)) := fun H1 x Q q =>
  ha H1 x _ fun v H2 x2 dr => ⟨v, .ty T, _, _, isI T d, rfl, .ty T, dr.tyX, kit_of_ty T hT d, q _ H2 x2 .bl⟩
theorem p_isiint {d : PyData} (ha : EvP K te σ H d) : EvP K (tCB (rIsiV K) (tCons te (tCons (tC (.ty "int")) tNil))) σ H (.bool (isI "int" d)) := p_isi (.inl rfl) ha
theorem p_isibool {d : PyData} (ha : EvP K te σ H d) : EvP K (tCB (rIsiV K) (tCons te (tCons (tC (.ty "bool")) tNil))) σ H (.bool (isI "bool" d)) := p_isi (.inr (.inl rfl)) ha
theorem p_isistr {d : PyData} (ha : EvP K te σ H d) : EvP K (tCB (rIsiV K) (tCons te (tCons (tC (.ty "str")) tNil))) σ H (.bool (isI "str" d)) := p_isi (.inr (.inr (.inl rfl))) ha
theorem p_isituple {d : PyData} (ha : EvP K te σ H d) : EvP K (tCB (rIsiV K) (tCons te (tCons (tC (.ty "tuple")) tNil))) σ H (.bool (isI "tuple" d)) := p_isi (.inr (.inr (.inr (.inl rfl)))) ha
theorem p_isilist {d : PyData} (ha : EvP K te σ H d) : EvP K (tCB (rIsiV K) (tCons te (tCons (tC (.ty "list")) tNil))) σ H (.bool (isI "list" d)) := p_isi (.inr (.inr (.inr (.inr rfl)))) ha
/-! dicts -/
theorem putA_map {κ ω ω' : Type} [DecidableEq κ] (e : ω → ω') (kvs : List (κ × ω)) (k : κ) (v : ω) : (putA kvs k v).map (fun p => (p.1, e p.2)) = putA (kvs.map fun p => (p.1, e p.2)) k (e v) := by
  unfold putA
  rw [List.any_map]
  have e1 : ((fun kv : κ × ω' => decide (kv.1 = k)) ∘ fun p : κ × ω => (p.1, e p.2)) = fun kv : κ × ω => decide (kv.1 = k) := rfl
  rw [e1]
  split
  · rw [List.map_map, List.map_map]
    apply List.map_congr_left
    intro p _
    show (fun p : κ × ω => (p.1, e p.2)) (if p.1 = k then (p.1, v) else p) = if p.1 = k then (p.1, e v) else (p.1, e p.2)
    split <;> rfl
  · rw [List.map_append]
    rfl
theorem sortDT_ty {ω : Type} {env : ω → PyData} {t : TE} {kvs : List (List Int × ω)} (h : EvN K t σ H ((sortT ((kvs.map fun p => (p.1, env p.2)).map (·.1))).map (eT eI))) : EvN K t σ H ((sortT (kvs.map (·.1))).map (eT eI)) := by
  rw [List.map_map] at h
  exact h
/-! comprehensions with a partial condition, a partial element -/
theorem lc_part {t : TT} {te : TE} {γ : Type} {encb : γ → PyData} {c : Bool} {m : Option γ} {r : Option γ} (e : (bif c then Option.map some m else some none) = some r) (hc : EvT t σ H c) (hy : c = true → ∀ y, m = some y → EvP K te σ H (encb y)) : EvT t σ H r.isSome ∧ ∀ y, r = some y → EvP K te σ H (encb y) := by
  cases c with
  | true =>
    have e : Option.map some m = some r := e
    cases m with
    | none => cases e
    | some y => cases e; exact ⟨hc, fun z hz => by cases hz; exact hy rfl y rfl⟩
  | false => cases e; exact ⟨hc, fun z hz => nomatch hz⟩
/-! enumerate(tuple) -/
theorem hd_in {A : Around} (h : A.handled = none) : A.in1.handled = none := h
theorem enumT_end {prog : Program} {w : World} {A : Around} {E : Value → Shared → Prop} {s : Shared} {e it a : Addr} {i : Nat} {items : Array Value} {old : Value} {Q : Option Value → Shared → Prop} (hh : A.in1.handled = none)
    (he : IsEnum s.heap e it i old) (hit : s.heap.IsTupleIter it a i) (ht : s.heap.IsTuple a items) (hx : items[i]? = none)
    (hQ : ∀ h', Heap.ExtBut it s.heap h' → Q none { s with heap := h' }) : wpAny (model prog w) A (pyNext (.ref e)) Q E s := by
  have hT : s.TypeIs (.ref e) "enumerate" := ⟨_, he, rfl⟩
  unfold pyNext
  refine wpAny_bind (wpAny_attempt (wpAny_callSpecial?_slot (name := Str.ofString "__next__") hT F.slot_enumerate_next
    (wpAny_call_entry F.slot_enumerate_next hT F.entry_enumerate_next ?_ (F.args_enumerate_next_1 _))))
  show wpAny _ _ (field (.ref e) 2 >>= _) _ _ _
  refine wpAny_bind (wpAny_field he rfl (x := .ref it) rfl ?_)
  refine wpAny_bind (wpAny_nextOf_tuple_end hh hit ht hx fun h' x he' hx' => ?_)
  obtain ⟨o, ho, hc⟩ := hx'
  refine wpAny_bind (wpAny_isInstance (T := "StopIteration") (b := true) ⟨o, ho, hc⟩ isSubtype_stop ?_)
  exact wpAny_pure (hQ _ he')
theorem meets_enumerate_newT {v : Value} {o : Obj} {H : Heap → Prop} (B : Begins v o H) :
    Meets (Builtin.«enumerate.__new__» ⟨[.type "enumerate", v], []⟩) (fun _ R s => H s.heap ∧
      R (.ok (.ret (.ref (s.heap.push o).objs.size))) { s with heap := (s.heap.push o).push { cls := .type "enumerate", data := .fields #[.none, .bool false, .ref s.heap.objs.size, rawInt 0, .none, .none] } }) :=
  .of_wp fun prog w A R s h => by
    obtain ⟨hp, g, d, tk, os⟩ := s; obtain ⟨h1, h⟩ := h
    have hsub := sub_enumerate
    have q1 : ∀ {A' : Around} {E : Value → Shared → Prop} {Q : Value → Shared → Prop}, Q (.ref hp.objs.size) ⟨hp.push o, g, d, tk, os⟩ → wpAny (model prog w) A' (pyIter v) Q E ⟨hp, g, d, tk, os⟩ :=
      fun q => B.iter prog w _ _ ⟨hp, g, d, tk, os⟩ _ h1 q
    wp_walk using q1
    refine wpAny_stack_any fun st => wpAny_pure ?_
    split
    · rename_i c _ _ _ _ _
      cases (c == Value.type "enumerate")
      · wp_walk using q1
        exact ⟨_, rfl, h⟩
      · wp_walk using q1
        exact ⟨_, rfl, h⟩
    · wp_walk using q1
      exact ⟨_, rfl, h⟩
theorem enumT_begins {prog : Program} {w : World} {A : Around} {E : Value → Shared → Prop} {s : Shared} {v : Value} {o : Obj} {H : Heap → Prop} {Q : Value → Shared → Prop} (B : Begins v o H) (h1 : H s.heap)
    (h : ∀ h', IsEnum h' (s.heap.objs.size + 1) s.heap.objs.size 0 .none → h'.get? s.heap.objs.size = some o → (∀ b o, s.heap.get? b = some o → h'.get? b = some o) → Q (.ref (s.heap.objs.size + 1)) { s with heap := h' }) :
    wpAny (model prog w) A (call (.type "enumerate") [v]) Q E s := by
  refine callType_new F.called_enumerate (by decide) (F.typeCall_enumerate_1 _) (F.newCall_enumerate_1 _) (fun obj => F.args_object_init_2 obj _) F.entry_enumerate_new (meets_enumerate_newT B) ⟨h1, ?_⟩
  have hz : (s.heap.push o).objs.size = s.heap.objs.size + 1 := Heap.size_push ..
  show _ ∧ _
  rw [hz]
  have he : IsEnum ((s.heap.push o).push { cls := .type "enumerate", data := .fields #[.none, .bool false, .ref s.heap.objs.size, rawInt 0, .none, .none] }) (s.heap.objs.size + 1) s.heap.objs.size 0 .none := by
    have := Heap.get?_push_size (s.heap.push o) (o := { cls := .type "enumerate", data := .fields #[.none, .bool false, .ref s.heap.objs.size, rawInt 0, .none, .none] }) rfl
    rw [hz] at this; exact this
  exact ⟨⟨_, he, rfl⟩, h _ he (Heap.get?_push_of_some _ (Heap.get?_push_size _ B.free)) fun b o x => Heap.get?_push_of_some _ (Heap.get?_push_of_some _ x)⟩
def IteT (K : PySem.W.Frag) (a : Addr) : It :=
  ⟨fun i H => ∃ (xs : List V) (x : V), SqT K H a xs ∧ xs[i]? = some x, fun i H v H' => ∃ T x, v = .ref T ∧ H T = none ∧ H' = upd H T (.tup [.int (i : Nat), x]) ∧ ∀ xs, SqT K H a xs → xs[i]? = some x, fun i H => ∃ xs : List V, SqT K H a xs ∧ xs.length ≤ i⟩
theorem turn_enumT {P : Program} {w : World} {K : PySem.W.Frag} {elts : List Expr} {kk : Nat} {tpos : Pos} (a e it : Addr) :
    Turn P w K (.Tuple elts kk tpos) (IteT K a) [e, it] e (fun i h => (∃ old, IsEnum h e it ((i : Nat) : Int) old) ∧ h.IsTupleIter it a i ∧ e ≠ it ∧ a ≠ it ∧ a ≠ e) where
  mem := by simp
  obj := fun i h st b hb => by
    obtain ⟨⟨old, he⟩, ⟨o, ho, hc, hd⟩, _⟩ := st
    have e' : b = e ∨ b = it := by simpa using hb
    rcases e' with z | z
    · rw [z]; exact ⟨_, he, fun v q => nomatch q⟩
    · rw [z]; exact ⟨o, ho, fun v q => by rw [hd] at q; cases q⟩
  keep := fun i h h' st k => let ⟨⟨old, he⟩, hi, hne⟩ := st; ⟨⟨old, k e (by simp) _ he⟩, hi.at fun o q => k it (by simp) o q, hne⟩
  item := by
    intro X hP hw hK hc i pins s σ H E I hf st hg
    subst hP hw hK
    obtain ⟨⟨old, he⟩, hit, hne, hai, hae⟩ := st
    obtain ⟨xs, x, hq, hx⟩ := hg
    obtain ⟨its, rv, p, hz⟩ := I.tuple hq
    have p : s.heap.IsTuple a its.toArray := p
    obtain ⟨u, hu, ru⟩ := rv.get hx
    have hel : e < s.heap.objs.size := Heap.lt_size he
    have hil : it < s.heap.objs.size := by obtain ⟨_, q, _⟩ := hit; exact Heap.lt_size q
    have hin : i < its.length := by
      have := List.getElem?_eq_some_iff.mp hu
      exact this.1
    refine wpAny_pyNext_enum_itemD (Draws.tuple (prog := X.prog) (w := X.w) (A := X.A.in1) (hd_in (I.ok.hd hc)) it a hai its.toArray) he ⟨hit, p⟩ (by simpa using hin) hne (by simp [hne, Ne.symm hae]) fun x' h' tk hP ho hst hT hsz hk => ?_
    obtain ⟨hit', p'⟩ := hst
    have hxu : x' = u := by
      have hP' : its[i]? = some x' := by simpa using hP
      rw [hu] at hP'
      exact (Option.some.inj hP').symm
    subst hxu
    refine ⟨_, rfl, wpAny_letOwnedTupleGo_enum (s := { s with heap := h', toks := tk + 1 }) ho fun h'' he' sb => ?_⟩
    have hT2 : h''.get? s.heap.objs.size = some { cls := .type "tuple", data := .seq #[.int i tk, x'] } := (sb.2 _ (Nat.ne_of_gt hel)).trans hT
    have new : ObjOk X.prog X.w (upd H s.heap.objs.size (.tup [.int (i : Nat), x])) h'' s.heap.objs.size (.tup [.int (i : Nat), x]) :=
      ⟨by show 2 ≤ sizeLine; decide, [.int i tk, x'], .cons ⟨_, rfl⟩ (.cons ru .nil), ⟨_, hT2, rfl, _, rfl⟩⟩
    have I1 : Inv X pins σ (upd H s.heap.objs.size (.tup [.int (i : Nat), x])) { s with heap := h'', toks := tk + 1 } :=
      I.turnedNew (ch := [e, it]) (fun b ob hb q => (sb.2 b (fun z => hb (by simp [z]))).trans (hk b ob (fun z => hb (by simp [z])) (fun z => hb (by simp [z])) q)) hf (Nat.le_refl _) new
    refine ⟨.ref s.heap.objs.size, _, I1, rfl, ⟨_, x, rfl, I.hok.fresh (Nat.le_refl _), rfl, fun ys hy => by rw [I.tuple_inj hy hq]; exact hx⟩, ⟨⟨x', ?_⟩, hit'.at fun o q => (sb.2 it (Ne.symm hne)).trans q, hne, hai, hae⟩, fun b hb => ?_⟩
    · have e1 : ((i + 1 : Nat) : Int) = (i : Int) + 1 := by omega
      rw [e1]; exact he'
    · have hb' : b < s.heap.objs.size := by
        have e' : b = e ∨ b = it := by simpa using hb
        rcases e' with z | z
        · rw [z]; exact hel
        · rw [z]; exact hil
      rw [upd_ne (Nat.ne_of_lt hb')]
      exact (hf b hb).1
  done := by
    intro X hP hw hK hc i pins s σ H E I hf st hg
    subst hP hw hK
    obtain ⟨⟨old, he⟩, hit, hne, hai, hae⟩ := st
    obtain ⟨xs, hq, hx⟩ := hg
    obtain ⟨its, rv, p, hz⟩ := I.tuple hq
    have p : s.heap.IsTuple a its.toArray := p
    obtain ⟨f0, f1, f2, f3, f4, f5⟩ := hf it (by simp)
    have hl := rv.length
    exact enumT_end (hd_in (I.ok.hd hc)) he hit p (by simp; omega) fun h' eb => ⟨rfl, I.turned (t' := s.toks) (fun b o hb q => eb b o hb q) f0 f1 f3 f4 f5⟩
  self := fun A i s Q E st h => let ⟨⟨_, he⟩, _⟩ := st; wpAny_pyIter_enum he h
def iEnumT (K : PySem.W.Frag) (ta : TA) : TI := fun σ H R => ta σ H fun vs H1 => ∃ a xs, vs = [.ref a] ∧ SqT K H1 a xs ∧ R (IteT K a) H1
theorem pi_enumT {X : Cx} {e : Expr} {ta : TA} {p pos tpos : Pos} {elts : List Expr} {kk : Nat} (hg : Gl X "enumerate") (hm : X.mg "enumerate" = none) (ha : PA X [e] ta) (hs : starEach [e] X.env = [(false, eval e X.env)] := by rfl) :
    PI X (.Tuple elts kk tpos) (.Call (.Name "enumerate" p) [e] [] pos) (iEnumT X.K ta) := by
  refine ⟨fun pins s σ H R I h => ?_⟩
  refine Call_ (ld_blt I hg hm boot_enumerate (PyProof.Rows.callWith_type1 (thn (ha.run pos pins s σ H _ I h) fun us s1 ⟨vs, H1, I1, r1, q1⟩ => ?_) hs rfl))
  obtain ⟨a, xs, ex, hq, q⟩ := q1
  subst ex
  cases r1 with
  | cons r rr =>
    cases rr
    cases r
    obtain ⟨its, rv, p', hz⟩ := I1.tuple hq
    have p' : s1.heap.IsTuple a its.toArray := p'
    have hal : a < s1.heap.objs.size := by obtain ⟨o, q, _⟩ := p'; exact Heap.lt_size q
    refine enumT_begins (begins_tuple a its.toArray) p' fun h' he hit hk => wpAny_pyIter_enum he ?_
    have I2 : Inv X pins σ H1 { s1 with heap := h' } := I1.kept (t' := s1.toks) hk
    refine ⟨s1.heap.objs.size + 1, [s1.heap.objs.size + 1, s1.heap.objs.size], _, _, H1, rfl, I2, turn_enumT a (s1.heap.objs.size + 1) s1.heap.objs.size, ⟨⟨.none, he⟩, ⟨_, hit, rfl, rfl⟩, Nat.succ_ne_self _, Nat.ne_of_lt hal, Nat.ne_of_lt (Nat.lt_succ_of_lt hal)⟩, fun b hb => ?_, q⟩
    have e' : b = s1.heap.objs.size + 1 ∨ b = s1.heap.objs.size := by simpa using hb
    have hle : s1.heap.objs.size ≤ b := by
      rcases e' with z | z
      · rw [z]; exact Nat.le_add_right _ _
      · rw [z]; exact Nat.le_refl _
    exact I1.fpOk hle (I1.hok.fresh hle)
theorem walk_enumT {a : Addr} {xs : List V} : Walk (IteT K a) xs.length (fun H => SqT K H a xs) (YPair (fun i => some (.int (i : Nat))) (fun i => xs[i]?)) := by
  refine ⟨fun i _ hi q => ⟨xs, xs[i], q, by simp [hi]⟩, fun _ q => ⟨xs, q, Nat.le_refl _⟩, fun i H v H' _ q y => ?_⟩
  obtain ⟨T, x, h1, h2, h3, h4⟩ := y
  exact ⟨T, .int (i : Nat), x, h1, h2, h3, rfl, h4 xs q⟩
theorem ie_enumT {ds : List PyData} (h : EvP K te σ H (.tuple ds)) : ItE K (iWf K (iEnumT K (tCons te tNil))) σ H (enumD ds) := fun H1 x R r => h H1 x _ fun v H2 x2 dr => by
  obtain ⟨a, vs, rfl, hs, hd⟩ := dr.of_tup
  have hl : (enumD ds).length = vs.length := by rw [hd.length]; simp [enumD]
  refine ⟨a, vs, rfl, hs, fun w => r _ H2 x2 (by rw [hl]; exact w.2 _ _ hs) (yd_pair (Hs := H2) (walk_enumT.mono (fun Hx g => ex_t g hs) fun _ _ _ _ _ _ y => y) hl (fun i x y e1 e2 => ?_) fun _ g => Kp.of g)⟩
  obtain ⟨d, h1, h2⟩ := hd.getV e2
  have e1' : V.int (i : Nat) = x := by simpa using e1
  subst e1'
  exact ⟨_, d, by simp [enumD, h1], .int, h2⟩
theorem it_enumT {ds : List PyData} (h : EvP K te σ H (.tuple ds)) : ItD K H0 (iEnumT K (tCons te tNil)) σ H (enumD ds) := fun H1 x R r => h H1 x _ fun v H2 x2 dr => by
  obtain ⟨a, vs, rfl, hs, hd⟩ := dr.of_tup'
  have hl : (enumD ds).length = vs.length := by rw [hd.length]; simp [enumD]
  refine ⟨a, vs, rfl, Evl.ex_t (ex_im H2) hs, r _ H2 x2 (yd_pair (Hs := H2) (walk_enumT.mono (fun Hx g => SqT.kp hs g.1) fun _ _ _ _ _ _ y => y) hl (fun i x y e1 e2 => ?_) fun _ g => g.1)⟩
  obtain ⟨d, h1, h2⟩ := hd.getV e2
  have e1' : V.int (i : Nat) = x := by simpa using e1
  subst e1'
  exact ⟨_, d, by simp [enumD, h1], .int, h2⟩
theorem qe_enumT {xs : List α} (ha : EvP K te σ H (eT f xs)) : ItE K (iWf K (iEnumT K (tCons te tNil))) σ H ((enumL xs).map (eP eI f)) := enumD_enc (f := f) ▸ ie_enumT ha
theorem qt_enumT {xs : List α} (ha : EvP K te σ H (eT f xs)) : ItD K H0 (iEnumT K (tCons te tNil)) σ H ((enumL xs).map (eP eI f)) := enumD_enc (f := f) ▸ it_enumT ha
end
end Vx

namespace Vx
open PySem L2
variable [Tbs]
theorem s_nextX {a b c : L2.St → Hp → Prop} {r : VK} {σ : L2.St} {H : Hp} (h : a σ H) : tNext ⟨a, r, b, c⟩ σ H := h
theorem st_seq {t u : TS} {D : Ends} {σ : L2.St} {H : Hp} (h : t { D with nx := u D } σ H) : tSeq t u D σ H := h
end Vx
/-! the rules, the frame given (within a comprehension's block it stands) -/
namespace Vx
open PySem L2 PySem.Spec PyProof.Rows Evl RZ
variable [Tbs]
section
variable {X : Cx} (K : PySem.W.Frag)
theorem op_inK (hK : X.K = K := by rfl) : OpR X (compareOp .In) (rIn K false) := by subst hK; exact op_in_seq
theorem op_notInK (hK : X.K = K := by rfl) : OpR X (compareOp .NotIn) (rIn K true) := by subst hK; exact op_notIn_seq
theorem ix_tupK (hK : X.K = K := by rfl) : IxR X (rIxT K) := by subst hK; exact ix_tup
theorem ix_listK (hK : X.K = K := by rfl) : IxR X (rIxL K) := by subst hK; exact ix_list
theorem sl_tupK (hK : X.K = K := by rfl) : SlR X (rSlA K) := by subst hK; exact sl_tupA
theorem sl_listK (hK : X.K = K := by rfl) : SlR X (rSlL K) := by subst hK; exact sl_list
theorem op_catAK (hK : X.K = K := by rfl) : OpR X (binaryOp .Add) (rCatA K) := by subst hK; exact op_catA
theorem op_eqDK (hu : X.A.units + 64 < cLine) (hK : X.K = K := by rfl) : OpR X (compareOp .Eq) (rEqD K) := by subst hK; exact op_eqD hu
theorem op_neDK (hu : X.A.units + 64 < cLine) (hK : X.K = K := by rfl) : OpR X (compareOp .NotEq) (rNeD K) := by subst hK; exact op_neD hu
theorem cl_len (hK : X.K = K := by rfl) : CallR X (.builtin "len") (rLen0 K) := by subst hK; exact call_len_seq
theorem cl_tup (hK : X.K = K := by rfl) : CallR X (.type "tuple") (rTupO K) := by subst hK; exact call_tuple_of
theorem cl_lst (hK : X.K = K := by rfl) : CallR X (.type "list") (rLstO K) := by subst hK; exact call_list_of
theorem cl_any (hc : X.calm = true) (hK : X.K = K := by rfl) : CallR X (.builtin "any") (rAny K) := by subst hK; exact cr_any hc
theorem cl_all (hc : X.calm = true) (hK : X.K = K := by rfl) : CallR X (.builtin "all") (rAll K) := by subst hK; exact cr_all hc
theorem cl_isi (hK : X.K = K := by rfl) : CallR X (.builtin "isinstance") (rIsiV K) := by subst hK; exact call_isiV
theorem cl_type (hK : X.K = K := by rfl) : CallR X (.type "type") (rTyZ K) := by subst hK; exact call_typeZ
theorem cl_sortD (hu : X.A.units + 64 < cLine) (hK : X.K = K := by rfl) : CallR X (.builtin "sorted") (rSortD K) := by subst hK; exact cr_sortD hu
theorem cl_sortI (hK : X.K = K := by rfl) : CallR X (.builtin "sorted") (rSortedI K) := by subst hK; exact cr_sortedI
theorem pg_tupK {es : List Expr} {k : Nat} {t : TGs} {n : Nat} {pos : Pos} (hc : X.calm = true) (h : PGs X es t) (hK : X.K = K := by rfl)
    (hn : (assignEach es X.env).length = n := by rfl) (hst : (assignEach es X.env).findIdx? (·.1) = none := by rfl) : PG X (.Tuple es k pos) (gTup K n t) := by subst hK; exact pg_tup hc h hn hst
end
end Vx

/-! for the mirrors: loops, checks, sorting -/
namespace Vx
open PySem L2 PySem.Spec PyProof.Rows Evl RZ
variable [Tbs]
theorem chk_t {b : Bool} (h : b = true) : chk b = some () := by rw [h]; rfl
theorem chk_p {p : Prop} [Decidable p] (h : p) : chk (decide p) = some () := chk_t (decide_eq_true h)
section
variable {τ α ρ : Type}
theorem foldC_nil (f : τ → α → Option (Ct τ ρ)) (s : τ) : foldC f s [] = some (.go s) := rfl
theorem foldC_go1 {f : τ → α → Option (Ct τ ρ)} {s s' : τ} {x : α} {xs : List α} (h : f s x = some (.go s')) : foldC f s (x :: xs) = foldC f s' xs := by
  rw [foldC, h]; rfl
theorem foldC_ret1 {f : τ → α → Option (Ct τ ρ)} {s : τ} {r : ρ} {x : α} {xs : List α} (h : f s x = some (.ret r)) : foldC f s (x :: xs) = some (.ret r) := by
  rw [foldC, h]; rfl
/-- an invariant over what has been walked and what is left -/
theorem foldC_inv {f : τ → α → Option (Ct τ ρ)} (P : List α → τ → Prop) : ∀ (xs done : List α) (s0 : τ), P done s0 → (∀ done x rest s, P done s → done ++ x :: rest = done ++ x :: rest → x ∈ xs → ∃ s', f s x = some (.go s') ∧ P (done ++ [x]) s') → ∃ s, foldC f s0 xs = some (.go s) ∧ P (done ++ xs) s
  | [], done, s0, h0, _ => ⟨s0, rfl, by rw [List.append_nil]; exact h0⟩
  | x :: xs, done, s0, h0, hs => by
    obtain ⟨s', e, p⟩ := hs done x xs s0 h0 rfl List.mem_cons_self
    obtain ⟨s, e2, p2⟩ := foldC_inv P xs (done ++ [x]) s' p fun d y r s h _ m => hs d y r s h rfl (List.mem_cons_of_mem _ m)
    exact ⟨s, by rw [foldC_go1 e, e2], by rw [List.append_assoc] at p2; exact p2⟩
theorem foldC_all {f : τ → α → Option (Ct τ ρ)} (P : List α → τ → Prop) {xs : List α} {s0 : τ} (h0 : P [] s0) (hs : ∀ done x s, P done s → x ∈ xs → ∃ s', f s x = some (.go s') ∧ P (done ++ [x]) s') : ∃ s, foldC f s0 xs = some (.go s) ∧ P xs s := by
  have := foldC_inv P xs [] s0 h0 fun d x r s h _ m => hs d x s h m
  rwa [List.nil_append] at this
theorem foldC_pure {f : τ → α → Option (Ct τ ρ)} (g : τ → α → τ) : ∀ (xs : List α) (s0 : τ), (∀ s, ∀ x ∈ xs, f s x = some (.go (g s x))) → foldC f s0 xs = some (.go (xs.foldl g s0))
  | [], s0, _ => rfl
  | x :: xs, s0, h => by
    rw [foldC_go1 (h s0 x List.mem_cons_self), foldC_pure g xs _ fun s y m => h s y (List.mem_cons_of_mem _ m)]
    rfl
/-- over numbers -/
theorem foldC_rng {f : τ → Int → Option (Ct τ ρ)} (P : Int → τ → Prop) {lo hi : Int} {s0 : τ} (h0 : P lo s0) (hs : ∀ i s, lo ≤ i → i < hi → P i s → ∃ s', f s i = some (.go s') ∧ P (i + 1) s') : ∃ s, foldC f s0 (rangeL lo hi) = some (.go s) ∧ P (max lo hi) s := by
  have key : ∀ (n : Nat) (k : Nat) (s : τ), lo + (k : Int) + (n : Int) = max lo hi → P (lo + k) s → ∃ s', foldC f s ((List.range' k n).map fun (i : Nat) => lo + (i : Int)) = some (.go s') ∧ P (max lo hi) s' := by
    intro n
    induction n with
    | zero => intro k s e p; exact ⟨s, rfl, by rw [← e]; simpa using p⟩
    | succ n ih =>
      intro k s e p
      have h1 : lo + (k : Int) < hi := by omega
      obtain ⟨s', e1, p1⟩ := hs (lo + k) s (by omega) h1 p
      obtain ⟨s2, e2, p2⟩ := ih (k + 1) s' (by omega) (by rw [show lo + ((k + 1 : Nat) : Int) = lo + k + 1 by omega]; exact p1)
      refine ⟨s2, ?_, p2⟩
      rw [List.range'_succ, List.map_cons, foldC_go1 e1]
      exact e2
  obtain ⟨s, e, p⟩ := key (hi - lo).toNat 0 s0 (by omega) (by simpa using h0)
  refine ⟨s, ?_, p⟩
  unfold rangeL
  rw [List.range_eq_range']
  exact e
/-- a search that hands back -/
theorem foldC_find {f : τ → α → Option (Ct τ ρ)} {s0 : τ} (p : α → Bool) (r : α → ρ) : ∀ (xs : List α), (∀ x ∈ xs, f s0 x = some (if p x then .ret (r x) else .go s0)) → foldC f s0 xs = some (match xs.find? p with | some x => .ret (r x) | none => .go s0)
  | [], _ => rfl
  | x :: xs, h => by
    have h1 := h x List.mem_cons_self
    by_cases e : p x = true
    · rw [if_pos e] at h1
      rw [foldC_ret1 h1, List.find?_cons, e]
    · rw [if_neg e] at h1
      rw [foldC_go1 h1, List.find?_cons, Bool.eq_false_iff.mpr e, foldC_find p r xs fun y m => h y (List.mem_cons_of_mem _ m)]
end
theorem atI_nat {α : Type} {xs : List α} {i : Int} {n : Nat} (h : i = n) (hn : n < xs.length) : atI xs i = some xs[n] := by
  subst h
  unfold atI ixN
  rw [if_pos (by omega)]
  simp [hn]
theorem atI_ok {α : Type} {xs : List α} {i : Int} (h0 : 0 ≤ i) (hn : i < xs.length) : ∃ x, atI xs i = some x ∧ xs[i.toNat]? = some x := by
  have h1 : i.toNat < xs.length := by omega
  exact ⟨xs[i.toNat], atI_nat (n := i.toNat) (by omega) h1, List.getElem?_eq_getElem h1⟩
theorem sortI_perm (xs : List Int) : (sortI xs).Perm xs := List.mergeSort_perm _ _
theorem sortI_le (xs : List Int) : (sortI xs).Pairwise (· ≤ ·) :=
  (List.pairwise_mergeSort (fun a b c h1 h2 => by simp at *; omega) (fun a b => by simp; omega) xs).imp fun h => by simpa using h
theorem sortI_length (xs : List Int) : (sortI xs).length = xs.length := (sortI_perm xs).length_eq
theorem sortI_mem {xs : List Int} {i : Int} : i ∈ sortI xs ↔ i ∈ xs := (sortI_perm xs).mem_iff
theorem rangeOk_t {lo hi : Int} (h1 : 0 ≤ lo) (h2 : lo ≤ 8388608) (h3 : 0 ≤ hi) (h4 : hi ≤ 8388608) : rangeOk lo hi = true := by
  unfold rangeOk
  simp only [Bool.and_eq_true, decide_eq_true_eq]
  omega
theorem rangeL_mem {lo hi i : Int} (h : i ∈ rangeL lo hi) : lo ≤ i ∧ i < hi := by
  unfold rangeL at h
  obtain ⟨n, hn, rfl⟩ := List.mem_map.mp h
  have := List.mem_range.mp hn
  omega
theorem cond_or {α : Type} {b : Bool} {x y : α} : (bif b then x else y) = if b = true then x else y := by cases b <;> rfl

/-! a mirror hands back something that keeps Q -/
def Y {α : Type} (m : Option α) (Q : α → Prop) : Prop := ∃ r, m = some r ∧ Q r
namespace Y
variable {α β τ ρ ω : Type} {Q : β → Prop}
theorem ret {r : β} (h : Q r) : Y (some r) Q := ⟨r, rfl, h⟩
theorem is {m : Option β} {z : β} (h : Y m (· = z)) : m = some z := by
  obtain ⟨r, e, rfl⟩ := h
  exact e
theorem of {m : Option β} {z : β} (h : m = some z) : Y m (· = z) := ⟨z, h, rfl⟩
theorem imp {m : Option β} {R : β → Prop} (h : Y m R) (k : ∀ r, R r → Q r) : Y m Q := by
  obtain ⟨r, e, q⟩ := h
  exact ⟨r, e, k r q⟩
theorem bind {m : Option α} {f : α → Option β} (h : Y m fun a => Y (f a) Q) : Y (m.bind f) Q := by
  obtain ⟨r, e, q⟩ := h
  rw [e]
  exact q
theorem call {m : Option α} {f : α → Option β} {R : α → Prop} (h : Y m R) (k : ∀ a, R a → Y (f a) Q) : Y (m.bind f) Q := bind (h.imp k)
theorem let_ {a : α} {f : α → Option β} (h : Y (f a) Q) : Y ((some a).bind f) Q := h
theorem chk {b : Bool} {f : Unit → Option β} (h : b = true) (k : Y (f ()) Q) : Y ((Vx.chk b).bind f) Q := by
  rw [chk_t h]
  exact k
theorem chkp {p : Prop} [Decidable p] {f : Unit → Option β} (h : p) (k : Y (f ()) Q) : Y ((Vx.chk (decide p)).bind f) Q := chk (decide_eq_true h) k
theorem at_ {xs : List α} {i : Int} {f : α → Option β} (h0 : 0 ≤ i) (h1 : i < (xs.length : Int)) (k : ∀ x, xs[i.toNat]? = some x → Y (f x) Q) : Y ((atI xs i).bind f) Q := by
  obtain ⟨x, e, e2⟩ := atI_ok h0 h1
  rw [e]
  exact k x e2
theorem cond {b : Bool} {m n : Option β} (h1 : b = true → Y m Q) (h2 : b = false → Y n Q) : Y (bif b then m else n) Q := by
  cases b with
  | true => exact h1 rfl
  | false => exact h2 rfl
theorem condp {p : Prop} [Decidable p] {m n : Option β} (h1 : p → Y m Q) (h2 : ¬ p → Y n Q) : Y (bif decide p then m else n) Q :=
  cond (fun h => h1 (of_decide_eq_true h)) fun h => h2 (of_decide_eq_false h)
theorem rng {f : τ → Int → Option (Ct τ ρ)} {lo hi : Int} {s0 : τ} {k : τ → Option β} {g : ρ → Option β} (P : Int → τ → Prop) (h0 : P lo s0) (hs : ∀ i s, lo ≤ i → i < hi → P i s → Y (f s i) fun c => ∃ s', c = .go s' ∧ P (i + 1) s')
    (hk : ∀ s, P (max lo hi) s → Y (k s) Q) : Y ((foldC f s0 (rangeL lo hi)).bind fun c => Ct.el c k g) Q := by
  obtain ⟨s, e, p⟩ := foldC_rng (f := f) P h0 fun i s h1 h2 p => by
    obtain ⟨_, e, s', rfl, q⟩ := hs i s h1 h2 p
    exact ⟨s', e, q⟩
  rw [e]
  exact hk s p
theorem all {f : τ → α → Option (Ct τ ρ)} {xs : List α} {s0 : τ} {k : τ → Option β} {g : ρ → Option β} (P : List α → τ → Prop) (h0 : P [] s0) (hs : ∀ done x s, x ∈ xs → P done s → Y (f s x) fun c => ∃ s', c = .go s' ∧ P (done ++ [x]) s')
    (hk : ∀ s, P xs s → Y (k s) Q) : Y ((foldC f s0 xs).bind fun c => Ct.el c k g) Q := by
  obtain ⟨s, e, p⟩ := foldC_all (f := f) P h0 fun d x s p m => by
    obtain ⟨_, e, s', rfl, q⟩ := hs d x s m p
    exact ⟨s', e, q⟩
  rw [e]
  exact hk s p
theorem allR {f : τ → α → Option (Ct τ ρ)} {k : τ → Option β} {g : ρ → Option β} (P : List α → τ → Prop) (R : ρ → Prop) {xs : List α} {s0 : τ} (h0 : P [] s0)
    (hs : ∀ done x s, x ∈ xs → P done s → Y (f s x) fun c => (∃ s', c = .go s' ∧ P (done ++ [x]) s') ∨ ∃ r, c = .ret r ∧ R r) (hk : ∀ s, P xs s → Y (k s) Q) (hr : ∀ r, R r → Y (g r) Q) : Y ((foldC f s0 xs).bind fun c => Ct.el c k g) Q := by
  have key : ∀ (ys done : List α) (s : τ), (∀ y ∈ ys, y ∈ xs) → P done s → (∃ s', foldC f s ys = some (.go s') ∧ P (done ++ ys) s') ∨ ∃ r, foldC f s ys = some (.ret r) ∧ R r := by
    intro ys
    induction ys with
    | nil => intro done s _ p; exact .inl ⟨s, rfl, by rw [List.append_nil]; exact p⟩
    | cons y ys ih =>
      intro done s hm p
      obtain ⟨c, e, q⟩ := hs done y s (hm y List.mem_cons_self) p
      rcases q with ⟨s', rfl, q⟩ | ⟨r, rfl, q⟩
      · rw [foldC_go1 e]
        rcases ih (done ++ [y]) s' (fun z hz => hm z (List.mem_cons_of_mem _ hz)) q with ⟨s2, e2, q2⟩ | z
        · exact .inl ⟨s2, e2, by rw [List.append_assoc] at q2; exact q2⟩
        · exact .inr z
      · exact .inr ⟨r, foldC_ret1 e, q⟩
  rcases key xs [] s0 (fun _ h => h) h0 with ⟨s, e, p⟩ | ⟨r, e, p⟩
  · rw [e]
    exact hk s p
  · rw [e]
    exact hr r p
theorem while_ {cond : τ → Option Bool} {f : τ → Option (Ct τ ρ)} {k : τ → Option β} {g : ρ → Option β} (cb : τ → Bool) (P : τ → Prop) (R : ρ → Prop) (m : τ → Nat) {fuel : Nat} {s0 : τ} (h0 : P s0) (hm : m s0 < fuel) (hc : ∀ s, cond s = some (cb s))
    (hs : ∀ s, P s → cb s = true → Y (f s) fun c => (∃ s', c = .go s' ∧ P s' ∧ m s' < m s) ∨ ∃ r, c = .ret r ∧ R r) (hk : ∀ s, P s → cb s = false → Y (k s) Q) (hr : ∀ r, R r → Y (g r) Q) : Y ((whileC cond f fuel s0).bind fun c => Ct.el c k g) Q := by
  have key : ∀ (fuel : Nat) (s : τ), P s → m s < fuel → (∃ s', whileC cond f fuel s = some (.go s') ∧ P s' ∧ cb s' = false) ∨ ∃ r, whileC cond f fuel s = some (.ret r) ∧ R r := by
    intro fuel
    induction fuel with
    | zero => intro s _ h; omega
    | succ fuel ih =>
      intro s p h
      unfold whileC
      rw [hc s, Option.bind_some]
      cases hb : cb s with
      | false => exact .inl ⟨s, rfl, p, hb⟩
      | true =>
        obtain ⟨c, e, q⟩ := hs s p hb
        rw [if_pos rfl, e, Option.bind_some]
        rcases q with ⟨s', rfl, q, q2⟩ | ⟨r, rfl, q⟩
        · exact ih s' q (by omega)
        · exact .inr ⟨r, rfl, q⟩
  rcases key fuel s0 h0 hm with ⟨s, e, p, b⟩ | ⟨r, e, p⟩
  · rw [e]
    exact hk s p b
  · rw [e]
    exact hr r p
theorem allP {f : τ → α → Option (Ct τ ρ)} {xs : List α} {s0 : τ} {k : τ → Option β} {g : ρ → Option β} (P : List α → τ → Prop) (h0 : P [] s0) (hs : ∀ done x more s, xs = done ++ x :: more → P done s → Y (f s x) fun c => ∃ s', c = .go s' ∧ P (done ++ [x]) s')
    (hk : ∀ s, P xs s → Y (k s) Q) : Y ((foldC f s0 xs).bind fun c => Ct.el c k g) Q := by
  have key : ∀ (ys done : List α) (s : τ), xs = done ++ ys → P done s → ∃ s', foldC f s ys = some (.go s') ∧ P xs s' := by
    intro ys
    induction ys with
    | nil => intro done s e p; rw [List.append_nil] at e; exact ⟨s, rfl, e ▸ p⟩
    | cons y ys ih =>
      intro done s e p
      obtain ⟨_, e1, s', rfl, q⟩ := hs done y ys s e p
      rw [foldC_go1 e1]
      exact ih (done ++ [y]) s' (by rw [e, List.append_assoc]; rfl) q
  obtain ⟨s, e, p⟩ := key xs [] s0 rfl h0
  rw [e]
  exact hk s p
theorem goR {s : τ} {P : τ → Prop} {R : ρ → Prop} (h : P s) : Y (some (Ct.go s : Ct τ ρ)) fun c => (∃ s', c = .go s' ∧ P s') ∨ ∃ r, c = .ret r ∧ R r := ⟨_, rfl, .inl ⟨s, rfl, h⟩⟩
theorem retR {r : ρ} {P : τ → Prop} {R : ρ → Prop} (h : R r) : Y (some (Ct.ret r : Ct τ ρ)) fun c => (∃ s', c = .go s' ∧ P s') ∨ ∃ r, c = .ret r ∧ R r := ⟨_, rfl, .inr ⟨r, rfl, h⟩⟩
theorem go {s : τ} {P : τ → Prop} (h : P s) : Y (some (Ct.go s : Ct τ ρ)) fun c => ∃ s', c = .go s' ∧ P s' := ⟨_, rfl, s, rfl, h⟩
/-- a comprehension whose parts never fail -/
theorem lc {fn : α → Option (Option ω)} {xs : List α} {k : List ω → Option β} (g : α → Option ω) (h : ∀ x ∈ xs, fn x = some (g x)) (hk : Y (k (xs.filterMap g)) Q) : Y ((lcO fn xs).bind k) Q := by
  have e : lcO fn xs = some (xs.filterMap g) := by
    clear hk
    induction xs with
    | nil => rfl
    | cons x r ih =>
      unfold lcO
      rw [h x List.mem_cons_self, ih fun y m => h y (List.mem_cons_of_mem _ m), List.filterMap_cons]
      cases g x <;> rfl
  rw [e]
  exact hk
end Y
end Vx

/-! sorted(set(xs)): xs a list of ints, a list of tuples of ints -/
namespace Vx
open PySem L2 PySem.Spec PyProof.Rows Evl RZ
variable [Tbs]
/-- the empty set, just laid -/
abbrev emO (w : World) : Obj := { cls := .type "set", dict := none, data := .set #[] 0 (.fresh 0 0 (!w.params.followText "set-order")) }
abbrev emH (w : World) (h : Heap) : Heap := h.push (emO w)
abbrev liO (l : Addr) : Obj := { cls := .type "list_iterator", data := .fields #[.ref l, .int 0 0] }
/-- what set.__init__ leaves -/
abbrev Filled (w : World) (s : Shared) (ns : List Int) (s2 : Shared) : Prop :=
  ∃ h2 k c, s2 = { s with heap := h2, toks := k } ∧ SetR w h2 s.heap.objs.size (fun j => decide (j ∈ ns)) c ∧ c ≤ ns.length ∧ ∀ b o, s.heap.get? b = some o → h2.get? b = some o
section
variable {P : Program} {w : World} {A : Around} {E : Value → Shared → Prop} {s : Shared}
theorem fill_list {l : Addr} {xs : Array Value} {ns : List Int} (hh : A.in1.handled = none) (hl : s.heap.IsList l xs) (hi : IntsAre xs.toList ns) (hb : ns.length + 1 < scanBound) :
    wpAny (model P w) A (Builtin.«set.__init__» ⟨[.ref s.heap.objs.size, .ref l], []⟩) (fun f s2 => f = .done (.ret .none) ∧ Filled w s ns s2) E { s with heap := emH w s.heap } := by
  obtain ⟨⟨cl, dct, dat, slo⟩, g1, g2, m, g3⟩ := hl
  cases g2
  cases g3
  have len : xs.size = ns.length := by rw [← Array.length_toList]; exact IntsAre.length hi
  have below : l < s.heap.objs.size := Heap.lt_size g1
  have up : (emH w s.heap).objs.size = s.heap.objs.size + 1 := Heap.size_push ..
  have here : (emH w s.heap).get? s.heap.objs.size = some (emO w) := Heap.get?_push_size _ rfl
  have isSet : Shared.TypeIs { s with heap := emH w s.heap } (.ref s.heap.objs.size) "set" := ⟨_, here, rfl⟩
  have g1' : (emH w s.heap).get? l = some { cls := .type "list", dict := dct, data := .seq xs m, slots := slo } := Heap.get?_push_of_some _ g1
  have isL : (emH w s.heap).IsList l xs := ⟨_, g1', rfl, m, rfl⟩
  have n1 := F.sub_list_set
  have n2 := F.sub_list_frozenset
  have n3 : (Value.type "list" == Value.type "dict") = false := by decide
  unfold Builtin.«set.__init__» noKeywords Builtin.Frozenset.updateFrom
  generalize it : pyIter = J
  wp_walk
  subst it
  refine wpAny_pyIter_list isL (wpAny_bind (wpAny_runValue ?_))
  have num : ∀ (i : Nat) (v : Value), xs[i]? = some v → ∃ k t, ns[i]? = some k ∧ v = .int k t := fun i v hv => by
    obtain ⟨t, e⟩ := PyProof.Rows.IntsAre.int_at hi i v (by rw [Array.getElem?_toList]; exact hv)
    have lt : i < ns.length := len ▸ (Array.getElem?_eq_some_iff.mp hv).1
    exact ⟨ns[i], t, List.getElem?_eq_getElem lt, by rw [e, List.getD_eq_getElem?_getD, List.getElem?_eq_getElem lt]; rfl⟩
  refine set_update_ints ((Walks.list hh _ l (by show l ≠ (emH w s.heap).objs.size; rw [up]; exact Nat.ne_of_lt (Nat.lt_succ_of_lt below)) xs).toS) s.heap.objs.size (by show s.heap.objs.size ∉ [(emH w s.heap).objs.size, l]; simp only [List.mem_cons, List.not_mem_nil, or_false]; rw [up]; exact fun z => z.elim (Nat.ne_of_lt (Nat.lt_succ_self _)) (Nat.ne_of_gt below)) ns len hb num (xs.size - 0) 0 _ (by omega) (Nat.zero_le _) ⟨⟨_, Heap.get?_push_size _ rfl, rfl, rfl⟩, isL.push _⟩ ?_ ?_
  · exact ⟨0, Nat.le_refl 0, setR_new_at (show ((emH w s.heap).push (liO l)).get? s.heap.objs.size = some (emO w) from Heap.get?_push_of_some _ here)⟩
  · intro ⟨h2, gs, dr, k, os⟩ c mv hc r
    have e1 : gs = s.gens := mv.gens
    have e2 : dr = s.drawn := mv.drawn
    have e3 : os = s.os := mv.os
    subst e1 e2 e3
    refine wpAny_pure (wpAny_pure ⟨rfl, h2, k, c, rfl, r, by omega, fun b o e => ?_⟩)
    have lt := Heap.lt_size e
    exact mv.heap b o (by show b ∉ [s.heap.objs.size, (emH w s.heap).objs.size]; simp only [List.mem_cons, List.not_mem_nil, or_false]; rw [up]; exact fun z => z.elim (Nat.ne_of_lt lt) (Nat.ne_of_lt (Nat.lt_succ_of_lt lt))) (Heap.get?_push_of_some _ (Heap.get?_push_of_some _ e))
theorem call_set_ints {l : Addr} {xs : Array Value} {ns : List Int} {Q : Value → Shared → Prop} (hh : A.handled = none) (hl : s.heap.IsList l xs) (hi : IntsAre xs.toList ns) (hb : ns.length + 1 < scanBound)
    (q : ∀ s2, Filled w s ns s2 → Q (.ref s.heap.objs.size) s2) : wpAny (model P w) A (call (.type "set") [.ref l]) Q E s := by
  obtain ⟨c, tl, x1⟩ := F.called_set.mro
  have x2 := F.called_set.made
  have x3 := F.called_set.sub
  have x4 := F.called_set.notType
  have x5 := F.called_set.canCreate
  have x6 := F.typeCall_set_1 (.ref l)
  have x7 := F.called_set.init.lookup
  have x8 := F.called_set.init.bind (.ref s.heap.objs.size)
  refine wpAny_call (codeAny_of_tree (show wpAny _ _ (callAny (.type "set") _) _ _ _ from wpAny_pure ⟨Code.quiet_builtin _ (by decide +kernel), codeAny_builtin F.entry_type_call ?_⟩))
  rw [Around.under_plain (weight_type_call_type "set" [.ref l] []) rfl]
  repeat (any_goals (first | assumption | wp_step))
  refine codeAny_mono (code_set_led1 (.ref l) (E := E) (Q₁ := fun v t => v = .ref s.heap.objs.size ∧ t = { s with heap := emH w s.heap }) ⟨rfl, rfl⟩) fun r t hr => ?_
  rcases r with e | f
  · exact hr
  rcases f with _ | _ | _ | v
  all_goals first | exact hr.elim | skip
  obtain ⟨rfl, rfl⟩ := hr
  repeat (any_goals (first | assumption | wp_step))
  have isSet : Shared.TypeIs { s with heap := emH w s.heap } (.ref s.heap.objs.size) "set" := ⟨_, Heap.get?_push_size _ rfl, rfl⟩
  refine codeAny_mono (codeAny_call_builtin (R := wants (fun r t => r = .none ∧ Filled w s ns t) E) F.called_set.init.plain F.entry_set_init (check_set_init_1 isSet (wpAny_mono (fill_list hh hl hi hb) (fun f t x => ?_) fun _ _ x => x))) fun r t hr => ?_
  · obtain ⟨rfl, x⟩ := x
    exact ⟨rfl, x⟩
  · rcases r with e | f
    · exact hr
    rcases f with _ | _ | _ | v
    all_goals first | exact hr.elim | skip
    obtain ⟨rfl, x⟩ := hr
    repeat (any_goals (first | assumption | wp_step))
    exact q _ x
end
/-! what a set holds, in order -/
def dd {α : Type} [DecidableEq α] : List α → List α
  | [] => []
  | x :: xs => if x ∈ xs then dd xs else x :: dd xs
theorem dd_mem {α : Type} [DecidableEq α] {a : α} : ∀ {xs : List α}, a ∈ dd xs ↔ a ∈ xs
  | [] => Iff.rfl
  | x :: xs => by
    unfold dd
    split
    · rename_i h
      rw [dd_mem (xs := xs), List.mem_cons]
      exact ⟨.inr, fun z => z.elim (fun e => e ▸ h) id⟩
    · rw [List.mem_cons, List.mem_cons, dd_mem (xs := xs)]
theorem dd_nodup {α : Type} [DecidableEq α] : ∀ (xs : List α), (dd xs).Nodup
  | [] => List.nodup_nil
  | x :: xs => by
    unfold dd
    split
    · exact dd_nodup xs
    · rename_i h
      exact List.nodup_cons.mpr ⟨fun z => h (dd_mem.mp z), dd_nodup xs⟩
def setI (ns : List Int) : List Int := sortI (dd ns)
def setT (ns : List (List Int)) : List (List Int) := sortT (dd ns)
theorem setI_of {ns ms : List Int} (h1 : ms.Pairwise (· < ·)) (h2 : ∀ k, k ∈ ms ↔ k ∈ ns) : ms = setI ns :=
  sortI_of ((List.perm_ext_iff_of_nodup (h1.imp fun h => Int.ne_of_lt h) (dd_nodup ns)).mpr fun k => (h2 k).trans dd_mem.symm) (h1.imp fun h => Int.le_of_lt h)
theorem sortT_perm (xs : List (List Int)) : (sortT xs).Perm xs := List.mergeSort_perm _ _
theorem sortT_le (xs : List (List Int)) : (sortT xs).Pairwise (· ≤ ·) :=
  (List.pairwise_mergeSort (le := fun a b : List Int => decide (a ≤ b)) (fun a b c h1 h2 => by simp only [decide_eq_true_eq] at *; exact List.le_trans h1 h2) (fun a b => by simp only [Bool.or_eq_true, decide_eq_true_eq]; exact List.le_total a b) xs).imp fun h => of_decide_eq_true h
theorem sortT_of {ns ms : List (List Int)} (h1 : ms.Perm ns) (h2 : ms.Pairwise (· ≤ ·)) : ms = sortT ns :=
  List.Perm.eq_of_pairwise (le := (· ≤ ·)) (fun a b _ _ h h' => List.le_antisymm h h') h2 (sortT_le ns) (h1.trans (sortT_perm ns).symm)
theorem sortT_congr {ns ms : List (List Int)} (h : ms.Perm ns) : sortT ms = sortT ns := sortT_of ((sortT_perm ms).trans h) (sortT_le ms)
theorem perm_lift {α β : Type} {f : α → β} : ∀ {us vs : List β}, us.Perm vs → ∀ L, vs = L.map f → ∃ L1 : List α, L1.Perm L ∧ us = L1.map f := by
  intro us vs h
  induction h with
  | nil => intro L e; cases L with
    | nil => exact ⟨[], .refl _, rfl⟩
    | cons _ _ => cases e
  | cons x _ ih => intro L e; cases L with
    | nil => cases e
    | cons a L =>
      rw [List.map_cons] at e
      injection e with e1 e2
      obtain ⟨L1, p, q⟩ := ih L e2
      exact ⟨a :: L1, p.cons a, by rw [List.map_cons, e1, q]⟩
  | swap x y l => intro L e; cases L with
    | nil => cases e
    | cons a L => cases L with
      | nil => cases e
      | cons b L =>
        rw [List.map_cons, List.map_cons] at e
        injection e with e1 e2
        injection e2 with e2 e3
        exact ⟨b :: a :: L, List.Perm.swap a b L, by rw [List.map_cons, List.map_cons, e1, e2, e3]⟩
  | trans _ _ i1 i2 => intro L e; obtain ⟨L1, p1, q1⟩ := i2 L e; obtain ⟨L2, p2, q2⟩ := i1 L1 q1; exact ⟨L2, p2.trans p1, q2⟩
theorem dp_sqT {K : PySem.W.Frag} {H : Hp} {a : Addr} {k : List Int} (h : SqT K H a (k.map V.int)) : Dp K H (.ref a) (.tuple (k.map .int)) := by
  refine .tup h ?_
  clear h
  induction k with
  | nil => exact .nil
  | cons n r ih => exact .cons (.int n) ih
/-- set(xs), ints -/
def rSetI (K : PySem.W.Frag) (w : World) : List V → Hp → VK → Prop := fun xs H Q => ∃ (l : Addr) (ns : List Int), xs = [V.ref l] ∧ SqL K H l (ns.map V.int) ∧ ns.length + 1 < scanBound ∧
  ∀ a c, H a = none → c ≤ ns.length → Q (.ref a) (upd H a (SetO w a (fun j => decide (j ∈ ns)) c))
/-- sorted(s), s a set of tuples of ints -/
def rSortST (K : PySem.W.Frag) (P : Program) (w : World) : List V → Hp → VK → Prop := fun vs H Q => ∃ (a : Addr) (L : List (Addr × List Int)), vs = [V.ref a] ∧ H a = some (SetTO P w a L) ∧ (∀ p ∈ L, SqT K H p.1 (p.2.map V.int)) ∧
  ∀ (L' : List (Addr × List Int)) (p : Addr), L'.Perm L → (L.map (·.2)).Nodup → L'.map (·.2) = sortT (L.map (·.2)) → H p = none → Q (.ref p) (upd H p (.lst (L'.map fun q => V.ref q.1)))
section
variable {X : Cx}
theorem cr_setI (hc : X.calm = true) : CallR X (.type "set") (rSetI X.K X.w) := by
  intro pins s σ H xs us Q I r h
  obtain ⟨l, ns, rfl, hl, hb, q⟩ := h
  rw [Vals.ref1 r]
  obtain ⟨its, rv, pl, hz⟩ := I.list hl
  refine call_set_ints (I.ok.hd hc) pl.isList (intsAre_of rv) hb fun s2 f => ?_
  obtain ⟨h2, k, c, rfl, R, hc', kp⟩ := f
  exact ⟨.ref s.heap.objs.size, upd H s.heap.objs.size (SetO X.w s.heap.objs.size _ c), I.laid (t' := k) kp (Nat.le_refl _) (setO_new R), rfl, q _ c (I.hok.fresh (Nat.le_refl _)) hc'⟩
theorem cr_sortST (hc : X.calm = true) (hu : X.A.units + 64 < cLine) : CallR X (.builtin "sorted") (rSortST X.K X.prog X.w) := by
  intro pins s σ H vs us Q I r h
  obtain ⟨a, L, rfl, ha, hk, q⟩ := h
  have R0 : SetT0 X.prog X.w s.heap a L := (I.hok a _ ha).1
  obtain ⟨es, ep, t, R⟩ := R0.full fun p hp => I.isT (hk p hp)
  rw [Vals.ref1 r]
  obtain ⟨o, ho, hex, hd⟩ := R.ob
  have hfew := R.few
  have hsz := R.size
  refine Calls.call_function_entry PyProof.Rows.kind_sorted PyProof.Rows.plain_sorted PyProof.Rows.entry_sorted (PyProof.Rows.args_sorted1 _) ?_
  unfold Builtin.«sorted»
  refine wpAny_bind (m := checkCount "sorted" 1 1 _) (wpAny_pure ?_)
  refine wpAny_bind (collect_set (A := X.A.in1) (I.ok.hd hc) ⟨o, ho, hex.1, hd⟩ R.fits (by unfold scanBound; omega) R.tab.ris R.led fun s1 ws k1 _ g1 o1 pm => ?_)
  have I1 : Inv X pins σ H s1 := I.call' (ch := []) o1 (Un.kept k1) (I.hok.kept k1) (by rw [g1]; exact I.bare) fun _ z => nomatch z
  have rows : es.toList.map (·.2) = L.map fun p => Value.ref p.1 := by
    rw [R.rows]
    unfold rowsOf
    rw [List.map_map]
    rfl
  rw [rows] at pm
  obtain ⟨L1, p1, rfl⟩ := perm_lift pm L rfl
  have hv : Vals ((L1.map fun p => (V.ref p.1, PyData.tuple (p.2.map .int))).map (·.1)) (L1.map fun p => Value.ref p.1) := by
    rw [List.map_map]
    exact vals_of_refs L1
  have hl : L1.length < 64 := by rw [p1.length_eq]; exact hfew
  have e3 : (L1.map fun p => (V.ref p.1, PyData.tuple (p.2.map .int))).map (·.2) = (L1.map (·.2)).map fun k => PyData.tuple (k.map .int) := by rw [List.map_map, List.map_map]; rfl
  refine sort_tail (bs := L1.map fun p => (V.ref p.1, PyData.tuple (p.2.map .int))) rfl I1 hv (fun b hb => ?_) (by rw [e3]; exact alike_tups _) (by rw [e3]; exact sortable_tups _) (fun b hb => ?_) hu (by rw [List.length_map, sizeLine_eq]; omega) fun p hp => ?_
  · obtain ⟨z, hz, rfl⟩ := List.mem_map.mp hb
    exact dp_sqT (hk z (p1.mem_iff.mp hz))
  · obtain ⟨z, hz, rfl⟩ := List.mem_map.mp hb
    exact depth_tup z.2
  · have e4 : (L1.map fun p => (V.ref p.1, PyData.tuple (p.2.map .int))).mergeSort leD = (L1.mergeSort fun p r => decide (p.2 ≤ r.2)).map fun p => (V.ref p.1, PyData.tuple (p.2.map .int)) :=
      (PySem.W.sort_maps (fun p : Addr × List Int => (V.ref p.1, PyData.tuple (p.2.map .int))) fun a _ b _ => (le_tup a.2 b.2).symm).symm
    rw [e4, List.map_map]
    have e5 : (L1.mergeSort fun p r => decide (p.2 ≤ r.2)).map (·.2) = sortT (L1.map (·.2)) := PySem.W.sort_maps (fun p : Addr × List Int => p.2) fun a _ b _ => rfl
    exact q _ p ((List.mergeSort_perm _ _).trans p1) R.nd (e5.trans (sortT_congr (p1.map _))) hp
end
section
variable {X : Cx} (K : PySem.W.Frag) (P : Program) (w : World)
theorem cl_setI (hc : X.calm = true) (hK : X.K = K := by rfl) (hw : X.w = w := by rfl) : CallR X (.type "set") (rSetI K w) := by subst hK hw; exact cr_setI hc
theorem cl_setT (hc : X.calm = true) (hu : X.A.units + 64 < cLine) (hK : X.K = K := by rfl) (hP : X.prog = P := by rfl) (hw : X.w = w := by rfl) : CallR X (.type "set") (rSetOfT K P w) := by subst hK hP hw; exact cr_setOfT hc hu
theorem cl_sortSI (hc : X.calm = true) (hw : X.w = w := by rfl) : CallR X (.builtin "sorted") (rSortedSet w) := by subst hw; exact cr_sortedSet hc
theorem cl_sortST (hc : X.calm = true) (hu : X.A.units + 64 < cLine) (hK : X.K = K := by rfl) (hP : X.prog = P := by rfl) (hw : X.w = w := by rfl) : CallR X (.builtin "sorted") (rSortST K P w) := by subst hK hP hw; exact cr_sortST hc hu
end
section
variable {K : PySem.W.Frag} {P : Program} {w : World} {σ : L2.St} {H : Hp} {te : TE}
theorem n_sortSetI {ns : List Int} (h : EvS K te σ H (ns.map .int)) (hl : ns.length < 64) : EvN K (tCB (rSortedSet w) (tCons (tCB (rSetI K w) (tCons te tNil)) tNil)) σ H ((setI ns).map .int) := fun H1 x Q q => h H1 x _ fun l vs H2 x2 hs hd => by
  rw [hd.ints] at hs
  refine ⟨l, ns, rfl, hs, by unfold scanBound; omega, fun a c ha hc => ⟨a, _, c, rfl, upd_same, by omega, fun ms p h1 h2 h3 hp => ?_⟩⟩
  rw [setI_of h1 fun k => (h2 k).trans decide_eq_true_iff]
  have xa : Ex H2 (upd H2 a (SetO w a (fun j => decide (j ∈ ns)) c)) := Ex.new ha
  exact q p _ _ (fresh_back (x2.trans xa) hp) ((x2.trans xa).trans (Ex.new hp)) upd_same DrA.of_ints
theorem tups_of : ∀ {vs : List V} {xs : List (List Int)}, DrA K H vs (xs.map (eT eI)) → ∃ ks : List (Addr × List Int), vs = ks.map (fun p => V.ref p.1) ∧ ks.map (·.2) = xs ∧ ∀ p ∈ ks, Dr K H (.ref p.1) (eT eI p.2)
  | vs, [], d => by
    cases d
    exact ⟨[], rfl, rfl, fun p hp => nomatch hp⟩
  | vs, x :: xs, d => by
    rw [List.map_cons] at d
    cases d with
    | cons d1 d2 =>
      obtain ⟨ks, e1, e2, h⟩ := tups_of d2
      have d1 : Dr K H _ (eT eI x) := d1
      obtain ⟨a, us, rfl, _⟩ := Dr.of_tupE d1
      refine ⟨(a, x) :: ks, by rw [e1]; rfl, by rw [← e2]; rfl, fun p hp => ?_⟩
      rcases List.mem_cons.mp hp with rfl | hp
      · exact d1
      · exact h p hp
theorem n_sortSetT {xs : List (List Int)} (h : EvS K te σ H (xs.map (eT eI))) (hl : xs.length < 64) : EvN K (tCB (rSortST K P w) (tCons (tCB (rSetOfT K P w) (tCons te tNil)) tNil)) σ H ((setT xs).map (eT eI)) := fun H1 x Q q => h H1 x _ fun l vs H2 x2 hs hd => by
  obtain ⟨ks, e1, e2, hk⟩ := tups_of hd
  rw [e1] at hs
  have sq : ∀ {H'}, Ex H2 H' → ∀ p ∈ ks, SqT K H' p.1 (p.2.map V.int) := fun {H'} e p hp => by
    obtain ⟨a, us, q1, q2, q3⟩ := ((hk p hp).ex e).of_tup
    cases q1
    rw [q3.ints] at q2
    exact q2
  refine ⟨l, ks, rfl, hs, sq (Ex.refl _), by rw [← List.length_map (f := (·.2)), e2]; exact hl, fun a L ha s1 s2 => ?_⟩
  have xa : Ex H2 (upd H2 a (SetTO P w a L)) := Ex.new ha
  refine ⟨a, L, rfl, upd_same, fun p hp => sq xa p (s1 p hp), fun L' p pm nd es hp => ?_⟩
  have eq : sortT (L.map (·.2)) = setT xs := sortT_congr ((List.perm_ext_iff_of_nodup nd (dd_nodup xs)).mpr fun k => by
    rw [dd_mem, ← e2]
    constructor
    · intro hk'
      obtain ⟨z, hz, rfl⟩ := List.mem_map.mp hk'
      exact List.mem_map.mpr ⟨z, s1 z hz, rfl⟩
    · intro hk'
      obtain ⟨z, hz, rfl⟩ := List.mem_map.mp hk'
      exact s2 z hz)
  have xp : Ex H2 (upd (upd H2 a (SetTO P w a L)) p (.lst (L'.map fun z => V.ref z.1))) := xa.trans (Ex.new hp)
  have da : DrA K (upd (upd H2 a (SetTO P w a L)) p (.lst (L'.map fun z => V.ref z.1))) (L'.map fun z => V.ref z.1) ((setT xs).map (eT eI)) := by
    rw [← eq, ← es]
    have := drA_pairs (K := K) (H := upd (upd H2 a (SetTO P w a L)) p (.lst (L'.map fun z => V.ref z.1))) (bs := L'.map fun z => (V.ref z.1, eT eI z.2)) fun b hb => by
      obtain ⟨z, hz, rfl⟩ := List.mem_map.mp hb
      exact (hk z (s1 z (pm.mem_iff.mp hz))).ex xp
    rw [List.map_map, List.map_map] at this
    rw [List.map_map]
    exact this
  exact q p _ _ (fresh_back (x2.trans xa) hp) (x2.trans xp) upd_same da
end
end Vx

/-! dicts of one's own, whole numbers as keys -/
namespace Vx
open PySem L2 PySem.Spec PyProof.Rows Evl RZ
variable [Tbs]
def OwK (K : PySem.W.Frag) (H0 H : Hp) (l : Addr) (kvs : List (Int × PyData)) : Prop := H0 l = none ∧ ∃ ks, H l = some (.dK ks) ∧ DcK K H ks kvs
section
variable {K : PySem.W.Frag} {σ : L2.St} {H H0 H' : Hp} {te ta tb : TE} {E : EnvD} {D : Ends} {l l' : Addr} {kvs : List (Int × PyData)} {ks : List (Key × V)}
theorem OwK.ex (e : Ex H H') (o : OwK K H0 H l kvs) : OwK K H0 H' l kvs := by
  obtain ⟨a, ks, b, c⟩ := o
  exact ⟨a, ks, e _ _ b, c.kp (Kp.of e)⟩
theorem OwK.but (ne : l ≠ l') (kp : Kp H H') (q : Xb l' H H') (o : OwK K H0 H l kvs) : OwK K H0 H' l kvs := by
  obtain ⟨a, ks, b, c⟩ := o
  exact ⟨a, ks, q.at ne b, c.kp kp⟩
theorem OwK.ne (o : OwK K H0 H l kvs) (n : H l' = none) : l ≠ l' := by
  obtain ⟨_, _, b, _⟩ := o
  exact ne_of_none b n
theorem OwK.nc (o : OwK K H0 H l kvs) : ∀ q, H l ≠ some (LamX.CodeO l q) := by
  obtain ⟨_, _, b, _⟩ := o
  exact nc_of b fun _ z => nomatch z
theorem inl_one {a b : Int} (e : (Sum.inl a : Key) = Sum.inl b) : a = b := by injection e
theorem dck_any (d : DcK K H ks kvs) (k : Int) : (ks.any fun kv => decide (kv.1 = Sum.inl k)) = kvs.any fun kv => decide (kv.1 = k) := by
  unfold DcK at d
  induction d with
  | nil => rfl
  | cons q _ ih =>
    rw [List.any_cons, List.any_cons, ih, q.1]
    congr 1
    exact decide_eq_decide.mpr ⟨fun e => inl_one e, fun e => by rw [e]⟩
theorem dck_map (d : DcK K H ks kvs) (k : Int) {v : V} {x : PyData} (dv : Dr K H v x) : DcK K H (ks.map fun kv => if kv.1 = Sum.inl k then (kv.1, v) else kv) (kvs.map fun kv => if kv.1 = k then (kv.1, x) else kv) := by
  unfold DcK at d ⊢
  induction d with
  | nil => exact .nil
  | @cons a b _ _ q _ ih =>
    rw [List.map_cons, List.map_cons]
    refine .cons ?_ ih
    by_cases e : b.1 = k
    · rw [if_pos e, if_pos (by rw [q.1, e])]
      exact ⟨q.1, dv⟩
    · rw [if_neg e, if_neg (fun z => e (inl_one (q.1.symm.trans z)))]
      exact q
theorem dck_put (d : DcK K H ks kvs) (k : Int) {v : V} {x : PyData} (dv : Dr K H v x) : DcK K H (putK ks (Sum.inl k) v) (putA kvs k x) := by
  unfold putK putA
  rw [dck_any d k]
  by_cases e : (kvs.any fun kv => decide (kv.1 = k)) = true
  · rw [if_pos e, if_pos e]
    exact dck_map d k dv
  · rw [if_neg e, if_neg e]
    exact Paired.snoc d ⟨rfl, dv⟩
theorem dck_keys (d : DcK K H ks kvs) : ks.map (·.1) = (kvs.map (·.1)).map Sum.inl := by
  unfold DcK at d
  induction d with
  | nil => rfl
  | cons z _ ih => rw [List.map_cons, List.map_cons, List.map_cons, ih, z.1]
/-- k in d -/
def hasA {κ ω : Type} [DecidableEq κ] (kvs : List (κ × ω)) (k : κ) : Bool := kvs.any fun kv => decide (kv.1 = k)
theorem isSome_find {κ ω : Type} [DecidableEq κ] (ks : List (κ × ω)) (k : κ) : ((ks.find? fun kv => decide (kv.1 = k)).map (·.2)).isSome = ks.any fun kv => decide (kv.1 = k) := by
  induction ks with
  | nil => rfl
  | cons p r ih =>
    rw [List.find?_cons, List.any_cons]
    cases decide (p.1 = k) with
    | true => rfl
    | false => rw [Bool.false_or]; exact ih
theorem dget_k {n : Int} (o : OwK K H0 H l kvs) : ∃ r, DGet H l (.int n) r ∧ r.isSome = hasA kvs n := by
  obtain ⟨_, ks, b, c⟩ := o
  refine ⟨_, DGet.k (k := Sum.inl n) b, ?_⟩
  rw [show hasA kvs n = _ from (dck_any c n).symm]
  exact isSome_find ks (Sum.inl n)
theorem p_dinK {i : Nat} {n : Int} (S : Sl K H σ E) (hi : E[i]? = some (some (.raw (.ref l)))) (o : OwK K H0 H l kvs) (ha : EvP K ta σ H (.int n)) : EvP K (tDIn ta (tVar i)) σ H (.bool (hasA kvs n)) := fun H1 x Q q => ha H1 x _ fun v H2 x2 dr => by
  obtain ⟨r, g, e⟩ := dget_k (n := n) (o.ex (x.trans x2))
  refine ⟨.ref l, S.raw hi, l, r, rfl, by rw [dr.of_int]; exact g, ?_⟩
  rw [e]
  exact q _ H2 x2 .bl
theorem p_dninK {i : Nat} {n : Int} (S : Sl K H σ E) (hi : E[i]? = some (some (.raw (.ref l)))) (o : OwK K H0 H l kvs) (ha : EvP K ta σ H (.int n)) : EvP K (tDNotIn ta (tVar i)) σ H (.bool (!hasA kvs n)) := fun H1 x Q q => ha H1 x _ fun v H2 x2 dr => by
  obtain ⟨r, g, e⟩ := dget_k (n := n) (o.ex (x.trans x2))
  refine ⟨.ref l, S.raw hi, l, r, rfl, by rw [dr.of_int]; exact g, ?_⟩
  rw [e]
  exact q _ H2 x2 .bl
theorem s_dnewK {i : Nat} (e0 : Ex H0 H) (k : ∀ l H1, Ex H H1 → H l = none → OwK K H0 H1 l [] → D.nx (σ.set i (some (.ref l))) H1) : tAsg tDNewK (gName i) D σ H := fun p hp =>
  k p _ (Ex.new hp) hp ⟨fresh_back e0 hp, [], upd_same, .nil⟩
theorem s_dputK {i : Nat} {n : Int} {x : PyData} (S : Sl K H σ E) (hi : E[i]? = some (some (.raw (.ref l)))) (o : OwK K H0 H l kvs) (hk : EvP K ta σ H (.int n)) (hv : EvP K te σ H x) (hz : kvs.length < 16777216)
    (k : ∀ H1, Kp H H1 → Xb l H H1 → OwK K H0 H1 l (putA kvs n x) → D.nx σ H1) : sDPut (tVar i) ta te D σ H := by
  obtain ⟨a, ks, b, c⟩ := o
  refine hv H (Ex.refl H) _ fun v H1 e1 dv => ⟨.ref l, S.raw hi, hk H1 e1 _ fun w H2 e2 dk => ?_⟩
  rw [dk.of_int]
  have hl := e2 l _ (e1 l _ b)
  refine ⟨l, _, rfl, DPut.k (k := Sum.inl n) hl (by rw [Paired.length c, sizeLine_eq]; exact hz), ?_⟩
  have kp : Kp H2 (upd H2 l (.dK (putK ks (Sum.inl n) v))) := Kp.put (im_none hl (fun _ z => nomatch z) fun _ _ z => nomatch z)
  exact k _ ((Kp.of (e1.trans e2)).trans kp) (Xb.mut (e1.trans e2) (nc_of hl fun _ z => nomatch z)) ⟨a, _, upd_same, (dck_put ((c.kp (Kp.of (e1.trans e2)))) n (dv.ex e2)).kp kp⟩
end
/-- sorted(d), d a dict whose keys are whole numbers -/
def rSortDK : List V → Hp → VK → Prop := fun vs H Q => ∃ (d : Addr) (kvs : List (Key × V)) (ns : List Int), vs = [V.ref d] ∧ H d = some (.dK kvs) ∧ kvs.map (·.1) = ns.map Sum.inl ∧ ∀ p, H p = none → Q (.ref p) (upd H p (.lst ((sortI ns).map V.int)))
theorem vals_keys {P : Program} {w : World} : ∀ {ns : List Int} {es : List DictEntry} {vs : List (Key × Value)}, Pairs (mixKind P w) es vs → vs.map (·.1) = ns.map Sum.inl → Vals (ns.map V.int) (es.map (·.key))
  | [], _, _, .nil, _ => .nil
  | [], _, _, .cons _ _ _, e => nomatch e
  | n :: ns, _, _, .nil, e => nomatch e
  | n :: ns, _, _, .cons h _ t, e => by
    rw [List.map_cons, List.map_cons] at e
    injection e with e1 e2
    rw [e1] at h
    have h : L2.keyIs (Sum.inl n) _ = true := h
    rcases L2.keyIs_shape h with ⟨i, u, q1, q2⟩ | ⟨x, u, q1, q2⟩
    · injection q1 with q1
      subst q1
      rw [List.map_cons, List.map_cons, q2]
      exact .cons ⟨u, rfl⟩ (vals_keys t e2)
    · exact nomatch q1
theorem leD_int (a b : Int) : leD (V.int a, PyData.int a) (V.int b, PyData.int b) = decide (a ≤ b) := by
  show (!PySem.W.dataLt (.int b) (.int a)) = decide (a ≤ b)
  rw [PySem.W.dataLt_int]
  by_cases h : b < a
  · rw [decide_eq_true h, decide_eq_false (by omega)]; rfl
  · rw [decide_eq_false h, decide_eq_true (by omega)]; rfl
section
variable {X : Cx}
theorem cr_sortDK (hc : X.calm = true) (hu : X.A.units + 64 < cLine) : CallR X (.builtin "sorted") rSortDK := by
  intro pins s σ H xs us Q I r h
  obtain ⟨d, kvs, ns, rfl, hd, hns, q⟩ := h
  rw [Vals.ref1 r]
  obtain ⟨z, hs, vs, kv, o, es, ep, ho, hx, hdt, hk, pr, nd⟩ := dk_of I.hok hd
  have l1 : es.size = vs.length := by rw [← Array.length_toList]; exact pr.length
  have l2 : kvs.length = vs.length := Paired.length kv
  have l3 : kvs.length = ns.length := by simpa using congrArg List.length hns
  have ke : vs.map (·.1) = ns.map Sum.inl := by
    rw [← hns]
    clear hns l1 l2 l3 q pr nd hd
    unfold L2.KV at kv
    induction kv with
    | nil => rfl
    | cons a _ ih => rw [List.map_cons, List.map_cons, ih (by rw [List.length_cons] at z; omega), a.1]
  refine Calls.call_function_entry PyProof.Rows.kind_sorted PyProof.Rows.plain_sorted PyProof.Rows.entry_sorted (PyProof.Rows.args_sorted1 _) ?_
  unfold Builtin.«sorted»
  refine wpAny_bind (m := checkCount "sorted" 1 1 _) (wpAny_pure ?_)
  refine wpAny_bind (PySem.W.kdu_collect (A := X.A.in1) (kdl_raw hs hx hdt) (I.ok.hd hc) ho (by omega) fun h' tk acc kp it => ?_)
  have I1 : Inv X pins σ H { s with heap := h', toks := tk } := I.kept kp
  have ea : acc.toList = es.toList.map (·.key) := by
    apply List.ext_getElem?
    intro j
    rw [List.getElem?_map, Array.getElem?_toList, Array.getElem?_toList]
    cases hj : acc[j]? with
    | none =>
      have h1 := Array.getElem?_eq_none_iff.mp hj
      rw [it.1] at h1
      rw [Array.getElem?_eq_none h1]
      all_goals rfl
    | some v =>
      obtain ⟨en, hen, hv⟩ := it.2 j v hj
      rw [hen, hv]
      all_goals rfl
  have e1 : (ns.map fun n => (V.int n, PyData.int n)).map (·.1) = ns.map V.int := by rw [List.map_map]; rfl
  have e2 : (ns.map fun n => (V.int n, PyData.int n)).map (·.2) = ns.map PyData.int := by rw [List.map_map]; rfl
  have e3 : ((ns.map fun n => (V.int n, PyData.int n)).mergeSort leD).map (·.1) = (sortI ns).map V.int := by
    have e4 : (ns.map fun n => (V.int n, PyData.int n)).mergeSort leD = (sortI ns).map fun n => (V.int n, PyData.int n) := (PySem.W.sort_maps (fun n : Int => (V.int n, PyData.int n)) fun a _ b _ => (leD_int a b).symm).symm
    rw [e4, List.map_map]
    rfl
  refine sort_tail (A := X.A.in1) (bs := ns.map fun n => (V.int n, PyData.int n)) rfl I1 (by rw [e1, ea]; exact vals_keys pr ke) (fun b hb => ?_) (by rw [e2]; exact PySem.W.AllAlike.of (enc := PyData.int) fun a b => rfl) (by rw [e2]; exact .inr fun d' hd' => (by
    obtain ⟨n, _, rfl⟩ := List.mem_map.mp hd'
    exact ⟨fun e => (nomatch e), fun _ e => nomatch e⟩)) (fun b hb => ?_) hu (by rw [List.length_map]; omega) fun p hp => ?_
  · obtain ⟨n, _, rfl⟩ := List.mem_map.mp hb
    exact .int n
  · obtain ⟨n, _, rfl⟩ := List.mem_map.mp hb
    show (PyData.int n).depth ≤ 40
    rw [PyData.depth]
    omega
  · rw [e3]
    exact q p hp
end
section
variable {K : PySem.W.Frag} {σ : L2.St} {H H0 : Hp} {E : EnvD} {l : Addr} {kvs : List (Int × PyData)}
theorem n_sortDK {i : Nat} (S : Sl K H σ E) (hi : E[i]? = some (some (.raw (.ref l)))) (o : OwK K H0 H l kvs) : EvN K (tCB rSortDK (tCons (tVar i) tNil)) σ H ((sortI (kvs.map (·.1))).map .int) := fun H1 x Q q => by
  obtain ⟨_, ks, b, c⟩ := o.ex x
  exact ⟨.ref l, S.raw hi, l, ks, kvs.map (·.1), rfl, b, dck_keys c, fun p hp => q p _ _ hp (Ex.new hp) upd_same DrA.of_ints⟩
/-- an expression that makes a dict -/
def EvDK (K : PySem.W.Frag) (te : TE) (σ : L2.St) (H : Hp) (kvs : List (Int × PyData)) : Prop := ∀ H1, Ex H H1 → ∀ Q : VK, (∀ p ks H2, H1 p = none → Ex H1 H2 → H2 p = some (.dK ks) → DcK K H2 ks kvs → Q (.ref p) H2) → te σ H1 Q
theorem s_setDK {te : TE} {D : Ends} {i : Nat} (h : EvDK K te σ H kvs) (e0 : Ex H0 H) (k : ∀ l H1, Ex H H1 → H l = none → OwK K H0 H1 l kvs → D.nx (σ.set i (some (.ref l))) H1) : tAsg te (gName i) D σ H :=
  h H (Ex.refl H) _ fun p ks H1 hp e h1 d => k p H1 e hp ⟨fresh_back e0 hp, ks, h1, d⟩
def putAll {α ω : Type} (fk : α → Int) (fv : α → ω) (xs : List α) : List (Int × ω) := xs.foldl (fun acc x => putA acc (fk x) (fv x)) []
theorem putA_length {κ ω : Type} [DecidableEq κ] (s : List (κ × ω)) (k : κ) (v : ω) : (putA s k v).length ≤ s.length + 1 := by
  unfold putA
  split
  · rw [List.length_map]; omega
  · simp
theorem putAll_snoc {α ω : Type} (fk : α → Int) (fv : α → ω) (xs : List α) (x : α) : putAll fk fv (xs ++ [x]) = putA (putAll fk fv xs) (fk x) (fv x) := by
  unfold putAll
  rw [List.foldl_append]
  rfl
theorem putAll_length {α ω : Type} (fk : α → Int) (fv : α → ω) : ∀ (n : Nat) (xs : List α), xs.length = n → (putAll fk fv xs).length ≤ n
  | 0, xs, h => by
    cases List.length_eq_zero_iff.mp h
    exact Nat.le_refl _
  | n + 1, xs, h => by
    obtain ⟨ys, y, rfl⟩ : ∃ ys y, xs = ys ++ [y] := ⟨xs.dropLast, xs.getLast (by intro e; subst e; cases h), (List.dropLast_concat_getLast _).symm⟩
    rw [putAll_snoc]
    have h1 := putA_length (putAll fk fv ys) (fk y) (fv y)
    have h2 := putAll_length fk fv n ys (by simpa using h)
    omega
theorem n_dcK {α ω : Type} {xs : List α} {enc : α → PyData} {encv : ω → PyData} {ts vs : List Nat} {bind : α → EnvD} {wi : TI} {g : TG} {tk tv : TE} (fk : α → Int) (fv : α → ω)
    (S : Sl K H σ E) (hi : ItE K wi σ H (xs.map enc)) (hg : ∀ x, Gd K g ts (enc x) (wipE E vs) (bind x)) (hts : ∀ t ∈ ts, t ∈ vs)
    (hb : ∀ x ∈ xs, ∀ σ' H', Ex H H' → Sl K H' σ' (bind x) → EvP K tk σ' H' (.int (fk x)) ∧ EvP K tv σ' H' (encv (fv x))) :
    EvDK K (tDc wi g tYes tk tv vs) σ H ((putAll fk fv xs).map fun p => (p.1, encv p.2)) := fun H1 x1 Q q => hi H1 x1 _ fun J H2 x2 hl w D hD => by
  rw [List.length_map] at hl
  have S2 := S.ex (x1.trans x2)
  refine ⟨fun i m Hc => m = (xs.map enc).length - i ∧ i ≤ (xs.map enc).length ∧ ∃ ks, Ex H2 Hc ∧ Hc D = some (.dK ks) ∧ DcK K Hc ks ((putAll fk fv (xs.take i)).map fun p => (p.1, encv p.2)), ⟨_, rfl, Nat.zero_le _, [], Ex.new hD, upd_same, .nil⟩, fun i m Hc hp => ?_⟩
  obtain ⟨rfl, hi', ks, p2, p3, p4⟩ := hp
  by_cases hlt : i < (xs.map enc).length
  · refine .inr ⟨w.goes i Hc hlt p2, fun H' => ∃ ks, Ex H2 H' ∧ H' D = some (.dK ks) ∧ DcK K H' ks ((putAll fk fv (xs.take (i + 1))).map fun p => (p.1, encv p.2)), fun H' p' => ⟨_, by omega, rfl, hlt, p'⟩, fun x Hc' y => ?_⟩
    obtain ⟨y1, d, y2, y3⟩ := w.yields i Hc x Hc' hlt p2 y
    have hin : i < xs.length := by simpa using hlt
    have e1 : xs[i]? = some xs[i] := List.getElem?_eq_getElem hin
    rw [List.getElem?_map, e1] at y2
    cases y2
    have e3 : xs.take (i + 1) = xs.take i ++ [xs[i]] := by rw [List.take_add_one, e1]; rfl
    have S3 : Sl K Hc' (wipe σ vs) (wipE E vs) := (S2.ex (p2.trans y1)).wipe vs
    refine hg _ (wipe σ vs) Hc' x S3 y3 _ fun σ' sb S4 => ⟨sb.wipe hts, ?_⟩
    obtain ⟨t1, t2⟩ := hb xs[i] (List.getElem_mem hin) σ' Hc' (((x1.trans x2).trans p2).trans y1) S4
    refine t_yes Hc' (Ex.refl _) _ fun Hd x3 => ?_
    show tk σ' Hd _
    refine t1 Hd x3 _ fun vk H4 x4 dk => t2 H4 (x3.trans x4) _ fun vv H5 x5 dv => ?_
    have hD5 : H5 D = some (.dK ks) := x5 D _ (x4 D _ (x3 D _ (y1 D _ p3)))
    have hlen : ks.length ≤ xs.length := by
      rw [Paired.length p4, List.length_map]
      have := putAll_length fk fv _ (xs.take i) rfl
      rw [List.length_take] at this
      omega
    have hls : ks.length < sizeLine := by
      rw [Paired.length p4, List.length_map]
      have := putAll_length fk fv _ (xs.take i) rfl
      rw [List.length_take] at this
      omega
    refine ⟨ks, Sum.inl (fk xs[i]), dk.of_int, hD5, hls, _, Ex.mut ((((p2.trans y1).trans x3).trans x4).trans x5) hD (nc_of hD5 fun _ z => nomatch z), upd_same, ?_⟩
    have k : Kp H5 (upd H5 D (.dK (putK ks (Sum.inl (fk xs[i])) vv))) := Kp.put (im_none hD5 (fun _ z => nomatch z) fun _ _ z => nomatch z)
    rw [e3, putAll_snoc, putA_map]
    exact (dck_put (p4.kp (Kp.of (((y1.trans x3).trans x4).trans x5))) (fk xs[i]) dv).kp k
  · have e : i = (xs.map enc).length := by omega
    subst e
    refine .inl ⟨w.stops Hc p2, ?_⟩
    rw [List.length_map, List.take_length] at p4
    exact q D ks Hc (fresh_back x2 hD) (x2.trans p2) p3 p4
end
end Vx

/-! t[::-1], t a tuple -/
namespace Vx
open PySem L2 PySem.Spec PyProof.Rows Evl RZ
variable [Tbs]
theorem rev_places (n : Nat) : Builtin.Slice.slicePlaces ((n : Int) - 1) (-1) (-1) = n := by
  unfold Builtin.Slice.slicePlaces
  rw [if_neg (show ¬ (-1 : Int) > 0 by decide)]
  by_cases h : n = 0
  · subst h
    rfl
  · rw [if_pos (by omega), show (- -1 : Int) = 1 by decide, Int.ediv_one]
    omega
theorem rev_pick (xs : Array Value) : ((List.range xs.size).filterMap fun (m : Nat) => xs[(((xs.size : Int) - 1) + (m : Int) * (-1)).toNat]?) = xs.toList.reverse := by
  have e : (List.range xs.size).filterMap (fun (m : Nat) => xs[(((xs.size : Int) - 1) + (m : Int) * (-1)).toNat]?) = ((List.range xs.size).map fun k => xs.size - 1 - k).filterMap (xs[·]?) := by
    rw [List.filterMap_map]
    have key : ∀ ms : List Nat, (∀ m ∈ ms, m < xs.size) → ms.filterMap (fun (m : Nat) => xs[(((xs.size : Int) - 1) + (m : Int) * (-1)).toNat]?) = ms.filterMap ((fun i => xs[i]?) ∘ fun k => xs.size - 1 - k) := by
      intro ms
      induction ms with
      | nil => intro _; rfl
      | cons m ms ih =>
        intro h
        have hm := h m List.mem_cons_self
        have em : (((xs.size : Int) - 1) + (m : Int) * (-1)).toNat = xs.size - 1 - m := by omega
        rw [List.filterMap_cons, List.filterMap_cons, ih fun k hk => h k (List.mem_cons_of_mem _ hk), em]
        rfl
    exact key _ fun m hm => List.mem_range.mp hm
  rw [e, PySem.W.krv_range, List.filterMap_reverse, PySem.W.krv_all]
section
variable {prog : Program} {w : World} {A : Around} {E : Value → Shared → Prop} {s : Shared}
theorem applied_rev {sl : Addr} {t : Tok} {n : Nat} {Q : Int × Int × Nat → Shared → Prop} (hs : s.heap.IsSliceOf sl .none .none (.int (-1) t)) (q : Q ((n : Int) - 1, -1, n) s) : wpAny (model prog w) A (Builtin.Slice.sliceApplied (.ref sl) (pure (n : Int))) Q E s := by
  obtain ⟨o, ho, _, hd⟩ := hs
  unfold Builtin.Slice.sliceApplied Builtin.Slice.sliceFields
  refine wpAny_bind (wpAny_bind (wpAny_field ho hd (x := .none) rfl (wpAny_bind (wpAny_field ho hd (x := .none) rfl (wpAny_bind (wpAny_field ho hd (x := .int (-1) t) rfl (wpAny_pure ?_)))))))
  refine wpAny_bind (slicePart_int ?_)
  show wpAny _ _ (if ((-1 : Int) == 0) = true then _ else _) _ _ s
  rw [if_neg (by decide)]
  refine wpAny_bind (slicePart_none (wpAny_bind (slicePart_none (wpAny_bind (wpAny_pure ?_)))))
  show wpAny _ _ (pure ((n : Int) - 1, (-1 : Int), Builtin.Slice.slicePlaces ((n : Int) - 1) (-1) (-1))) _ _ s
  rw [rev_places]
  exact wpAny_pure q
theorem getItem_rev {t sl : Addr} {u : Tok} {xs : Array Value} {Q : Value → Shared → Prop} (ht : IsTup s.heap t xs) (hs : s.heap.IsSliceOf sl .none .none (.int (-1) u)) (hz : xs.size ≤ sizeLine)
    (q : Q (.ref s.heap.objs.size) { s with heap := s.heap.push { cls := .type "tuple", data := .seq xs.toList.reverse.toArray } }) : wpAny (model prog w) A (getItem (.ref t) (.ref sl)) Q E s := by
  have ok : sizeOk (.seq xs.toList.reverse.toArray) := by
    show xs.toList.reverse.toArray.size ≤ sizeLine
    rw [List.size_toArray, List.length_reverse, Array.length_toList]
    exact hz
  have isS : s.TypeIs (.ref sl) "slice" := by obtain ⟨o, a, b, _⟩ := hs; exact ⟨o, a, b⟩
  unfold getItem
  try with_reducible refine wpAny_holding ?_
  first | refine wpAny_bind (wpAny_pure ?_) | skip
  refine wpAny_bind (wpAny_sequenceKey ht.typeIs (by decide) (wpAny_bind (wpAny_callSpecial?_slot (name := Str.ofString "__getitem__") ht.typeIs PyProof.Rows.slot_tuple_getitem (wpAny_call_entry PyProof.Rows.slot_tuple_getitem ht.typeIs entry_tuple_getitem ?_ (args_tuple_getitem _ _)))))
  show wpAny _ _ (Builtin.Tuple.tupleItemsOf (.ref t) >>= _) _ _ s
  refine wpAny_bind (tupleItemsOf_ ht (wpAny_bind (wpAny_typeOf isS ?_)))
  rw [if_pos (by decide)]
  refine wpAny_bind (applied_rev hs ?_)
  show wpAny _ _ (if ((((xs.size : Nat) : Int) - 1 == 0 && (-1 : Int) == 1 && xs.size == xs.size) = true) then _ else _) _ _ s
  rw [if_neg (by simp), rev_pick]
  first
    | exact wpAny_bind (m := Builtin.Tuple.tupleExact _) (wpAny_newObj_type (wpAny_pure ⟨_, rfl, wpAny_pure q⟩) ok)
    | exact wpAny_bind (m := Builtin.Tuple.tupleExact _) (wpAny_newObj_type (wpAny_bind (wpAny_pure (wpAny_pure ⟨_, rfl, wpAny_pure q⟩))) ok)
    | exact wpAny_bind (wpAny_bind (m := Builtin.Tuple.tupleExact _) (wpAny_newObj_type (wpAny_pure (wpAny_pure ⟨_, rfl, wpAny_pure q⟩)) ok))
    | exact wpAny_bind (wpAny_bind (m := Builtin.Tuple.tupleExact _) (wpAny_newObj_type (wpAny_pure ⟨_, rfl, wpAny_pure q⟩) ok))
end
def tRevT (K : PySem.W.Frag) (te : TE) : TE := fun σ H Q => te σ H fun x H1 => ∃ a xs, x = .ref a ∧ SqT K H1 a xs ∧ ∀ p, H1 p = none → Q (.ref p) (upd H1 p (.tup xs.reverse))
section
variable {X : Cx}
theorem pe_revT {e : Expr} {te : TE} {k : Nat} {p1 p2 p3 pos : Pos} (he : PE X e te) : PE X (.Subscript e (.Slice none none (some (.UnaryOp .USub (.Constant (.int 1) k p1) p2)) p3) pos) (tRevT X.K te) := by
  refine ⟨fun pins s σ H Q I h => Subscript_ (thn (he.run pins s σ H _ I h) fun v s1 ⟨x, H1, I1, r1, a, xs, ex, hx, q⟩ => ?_)⟩
  subst ex
  cases r1
  have st : PO X (some (.UnaryOp .USub (.Constant (.int 1) k p1) p2)) (tPart (tUn (rU fun i => .int (-i)) (tC (.int 1)))) := po_some (pe_un un_neg pe_int)
  refine wpAny_Slice (thn (po_none.run pins s1 σ H1 (fun o H2 => o = none ∧ H2 = H1) I1 ⟨rfl, rfl⟩) fun vl s2 ⟨l, H2, I2, pl, el, e2⟩ => ?_)
  subst el e2
  refine thn (po_none.run pins s2 σ H2 (fun o H3 => o = none ∧ H3 = H2) I2 ⟨rfl, rfl⟩) fun vu s3 ⟨u, H3, I3, pu, eu, e3⟩ => ?_
  subst eu e3
  refine thn (st.run pins s3 σ H3 (fun o H4 => o = some (-1) ∧ H4 = H3) I3 ⟨1, rfl, -1, rfl, rfl, rfl⟩) fun vs s4 ⟨o, H4, I4, ps, eo, e4⟩ => ?_
  subst eo e4
  cases pl
  cases pu
  cases ps
  rename_i tk5 _
  have I5 : Inv X pins σ H4 { s4 with heap := s4.heap.push { cls := .type "slice", data := .fields #[.none, .none, .int (-1) tk5] } } := I4.kept (t' := s4.toks) fun b ob q => Heap.get?_push_of_some _ q
  obtain ⟨its, r, ht, hz⟩ := I5.tuple hx
  show wpAny (model X.prog X.w) X.A (subscriptTail e (.Slice none none (some (.UnaryOp .USub (.Constant (.int 1) k p1) p2)) p3) (.ref a) (.ref s4.heap.objs.size)) (EP X pins σ Q) X.xe _
  refine tail_any (ops := [.ref a, .ref s4.heap.objs.size]) ht.typeIs PyProof.Rows.slot_tuple_getitem.lookup ?_ (by with_unfolding_all rfl)
  refine getItem_rev ht (Heap.IsSliceOf.new _ _ _ _) (by rw [List.size_toArray, ← r.length]; exact hz) ?_
  exact ⟨.ref _, _, I5.laid (t' := s4.toks) (o := .tup xs.reverse) (fun b ob q => Heap.get?_push_of_some _ q) (Nat.le_refl _) ⟨by rw [List.length_reverse]; exact hz, _, r.reverse, IsTup.new _ _⟩, rfl, q _ (I5.hok.fresh (Nat.le_refl _))⟩
end
section
variable {K : PySem.W.Frag} {σ : L2.St} {H : Hp} {te : TE} {α : Type} {f : α → PyData}
theorem DrA.reverse {H : Hp} {vs : List V} {ds : List PyData} (d : DrA K H vs ds) : DrA K H vs.reverse ds.reverse := by
  induction vs generalizing ds with
  | nil => cases d; exact .nil
  | cons v vs ih => cases d with
    | cons a b => rw [List.reverse_cons, List.reverse_cons]; exact (ih b).append (.cons a .nil)
theorem p_revT {ds : List PyData} (h : EvP K te σ H (.tuple ds)) : EvP K (tRevT K te) σ H (.tuple ds.reverse) := fun H1 x Q q => h H1 x _ fun v H2 x2 dr => by
  obtain ⟨a, vs, rfl, hs, hd⟩ := dr.of_tup
  exact ⟨a, vs, rfl, hs, fun p hp => q _ _ (x2.trans (Ex.new hp)) (Dr.tup upd_same (hd.reverse.ex (Ex.new hp)))⟩
theorem q_revT {xs : List α} (h : EvP K te σ H (eT f xs)) : EvP K (tRevT K te) σ H (eT f xs.reverse) := (p_revT h).to (by show PyData.tuple _ = PyData.tuple _; rw [List.map_reverse])
end
/-! sorted(t), t a tuple of ints -/
def rSortTI (K : PySem.W.Frag) : List V → Hp → VK → Prop := fun vs H Q => ∃ (a : Addr) (ns : List Int), vs = [V.ref a] ∧ SqT K H a (ns.map V.int) ∧ ∀ p, H p = none → Q (.ref p) (upd H p (.lst ((sortI ns).map V.int)))
theorem cr_sortTI {X : Cx} (hu : X.A.units + 64 < cLine) : CallR X (.builtin "sorted") (rSortTI X.K) := by
  intro pins s σ H xs us Q I r h
  obtain ⟨a, ns, rfl, ha, q⟩ := h
  rw [Vals.ref1 r]
  obtain ⟨its, rv, ⟨o, ho, hc, n, hd⟩, hz⟩ := I.tuple ha
  have hz' : ns.length ≤ sizeLine := by rw [List.length_map] at hz; exact hz
  have hlen : its.length = ns.length := by rw [← rv.length, List.length_map]
  refine Calls.call_function_entry PyProof.Rows.kind_sorted PyProof.Rows.plain_sorted PyProof.Rows.entry_sorted (PyProof.Rows.args_sorted1 _) ?_
  unfold Builtin.«sorted»
  refine wpAny_bind (m := checkCount "sorted" 1 1 _) (wpAny_pure ?_)
  refine wpAny_bind (wpAny_collect_seq (A := X.A.in1) a (.inr rfl) ho hc hd (fun h' kp => ?_) (by rw [List.size_toArray, hlen]; exact hz'))
  have I1 : Inv X pins σ H { s with heap := h' } := I.kept (t' := s.toks) kp
  have e1 : (ns.map fun n => (V.int n, PyData.int n)).map (·.1) = ns.map V.int := by rw [List.map_map]; rfl
  have e2 : (ns.map fun n => (V.int n, PyData.int n)).map (·.2) = ns.map PyData.int := by rw [List.map_map]; rfl
  have e3 : ((ns.map fun n => (V.int n, PyData.int n)).mergeSort leD).map (·.1) = (sortI ns).map V.int := by
    have e4 : (ns.map fun n => (V.int n, PyData.int n)).mergeSort leD = (sortI ns).map fun n => (V.int n, PyData.int n) := (PySem.W.sort_maps (fun n : Int => (V.int n, PyData.int n)) fun a _ b _ => (leD_int a b).symm).symm
    rw [e4, List.map_map]
    rfl
  refine sort_tail (A := X.A.in1) (bs := ns.map fun n => (V.int n, PyData.int n)) rfl I1 (by rw [e1]; exact rv) (fun b hb => ?_) (by rw [e2]; exact PySem.W.AllAlike.of (enc := PyData.int) fun a b => rfl) (by rw [e2]; exact .inr fun d' hd' => (by
    obtain ⟨n, _, rfl⟩ := List.mem_map.mp hd'
    exact ⟨fun e => (nomatch e), fun _ e => nomatch e⟩)) (fun b hb => ?_) hu (by rw [List.length_map]; exact hz') fun p hp => ?_
  · obtain ⟨n, _, rfl⟩ := List.mem_map.mp hb
    exact .int n
  · obtain ⟨n, _, rfl⟩ := List.mem_map.mp hb
    show (PyData.int n).depth ≤ 40
    rw [PyData.depth]
    omega
  · rw [e3]
    exact q p hp
section
variable {K : PySem.W.Frag} {σ : L2.St} {H : Hp} {te : TE}
theorem n_sortTI {ns : List Int} (h : EvP K te σ H (eT eI ns)) : EvN K (tCB (rSortTI K) (tCons te tNil)) σ H ((sortI ns).map .int) := fun H1 x Q q => h H1 x _ fun v H2 x2 dr => by
  obtain ⟨a, vs, rfl, hs, hd⟩ := dr.of_tup
  rw [hd.ints] at hs
  exact ⟨a, ns, rfl, hs, fun p hp => q p _ _ (fresh_back x2 hp) (x2.trans (Ex.new hp)) upd_same DrA.of_ints⟩
theorem sortDK_ty {ω : Type} {env : ω → PyData} {t : TE} {kvs : List (Int × ω)} (h : EvN K t σ H ((sortI ((kvs.map fun p => (p.1, env p.2)).map (·.1))).map .int)) : EvN K t σ H ((sortI (kvs.map (·.1))).map eI) := by
  rw [List.map_map] at h
  exact h
theorem hasA_map {ω : Type} {env : ω → PyData} {kvs : List (Int × ω)} {k : Int} : hasA (kvs.map fun p => (p.1, env p.2)) k = hasA kvs k := by
  unfold hasA
  rw [List.any_map]
  rfl
theorem EvP.opt {α : Type} {f : α → PyData} {o : Option α} {a : α} (h : o = some a) (e : EvP K te σ H (eO f o)) : EvP K te σ H (f a) := by
  rw [h] at e
  exact e
end
/-! == of data that are made of whole numbers -/
class Cl {α : Type} [DecidableEq α] (f : α → PyData) : Prop where
  eq : ∀ a b, PyData.eqv (f a) (f b) = decide (a = b)
theorem eqv_list {α : Type} [DecidableEq α] {f : α → PyData} (h : ∀ a b, PyData.eqv (f a) (f b) = decide (a = b)) : ∀ xs ys : List α, PyData.eqvAll (xs.map f) (ys.map f) = decide (xs = ys)
  | [], [] => by simp [PyData.eqvAll]
  | [], _ :: _ => by simp [PyData.eqvAll]
  | _ :: _, [] => by simp [PyData.eqvAll]
  | x :: xs, y :: ys => by
    rw [List.map_cons, List.map_cons, PySem.W.eqv_all_cons, h x y, eqv_list h xs ys]
    by_cases e1 : x = y
    · by_cases e2 : xs = ys
      · simp [e1, e2]
      · simp [e1, e2]
    · simp [e1]
instance : Cl eI := ⟨fun a b => by simp only [PyData.eqv]; exact Bool.eq_iff_iff.mpr (by simp)⟩
instance {α : Type} [DecidableEq α] {f : α → PyData} [c : Cl f] : Cl (eT f) := ⟨fun a b => by simp only [PyData.eqv]; exact eqv_list c.eq a b⟩
instance {α : Type} [DecidableEq α] {f : α → PyData} [c : Cl f] : Cl (eL f) := ⟨fun a b => by simp only [PyData.eqv]; exact eqv_list c.eq a b⟩
instance {α β : Type} [DecidableEq α] [DecidableEq β] {f : α → PyData} {g : β → PyData} [c : Cl f] [d : Cl g] : Cl (eP f g) := ⟨fun a b => by
  obtain ⟨a1, a2⟩ := a
  obtain ⟨b1, b2⟩ := b
  simp only [PyData.eqv, PySem.W.eqv_all_cons, c.eq, d.eq]
  by_cases e1 : a1 = b1 <;> by_cases e2 : a2 = b2 <;> simp [e1, e2, PyData.eqvAll]⟩
instance {α : Type} [DecidableEq α] {f : α → PyData} [c : Cl f] : Cl (eO (eT f)) := ⟨fun a b => by
  cases a with
  | none => cases b with
    | none => simp [eO, PyData.eqv]
    | some y => simp [eO, PyData.eqv]
  | some x => cases b with
    | none => simp [eO, PyData.eqv]
    | some y =>
      show PyData.eqv (eT f x) (eT f y) = _
      rw [(inferInstance : Cl (eT f)).eq x y]
      simp⟩
theorem p_eqC {α : Type} [DecidableEq α] {f : α → PyData} [c : Cl f] {K : PySem.W.Frag} {σ : L2.St} {H : Hp} {ta tb : TE} {a b : α} (ha : EvP K ta σ H (f a)) (hb : EvP K tb σ H (f b)) (h1 : SeqAt.shaped (f a) = true) (h2 : SeqAt.shaped (f b) = true) : EvP K (tOp (rEqD K) ta tb) σ H (.bool (decide (a = b))) :=
  (p_eqD ha hb h1 h2).to (by rw [c.eq])
theorem p_neC {α : Type} [DecidableEq α] {f : α → PyData} [c : Cl f] {K : PySem.W.Frag} {σ : L2.St} {H : Hp} {ta tb : TE} {a b : α} (ha : EvP K ta σ H (f a)) (hb : EvP K tb σ H (f b)) (h1 : SeqAt.shaped (f a) = true) (h2 : SeqAt.shaped (f b) = true) : EvP K (tOp (rNeD K) ta tb) σ H (.bool (!decide (a = b))) :=
  (p_neD ha hb h1 h2).to (by rw [c.eq])
section
variable {X : Cx} (K : PySem.W.Frag)
theorem cl_sortTI (hu : X.A.units + 64 < cLine) (hK : X.K = K := by rfl) : CallR X (.builtin "sorted") (rSortTI K) := by subst hK; exact cr_sortTI hu
theorem pi_wfK {tg e : Expr} {w : TI} (h : PI X tg e w) (hK : X.K = K := by rfl) : PI X tg e (iWf K w) := by subst hK; exact pi_wf h
theorem pi_tupK {tg l : Expr} {tl : TE} (hl : PE X l tl) (hK : X.K = K := by rfl) : PI X tg l (iTup K tl) := by subst hK; exact pi_tup hl
theorem pi_listK {tg l : Expr} {tl : TE} (hl : PE X l tl) (hK : X.K = K := by rfl) : PI X tg l (iList K tl) := by subst hK; exact pi_list hl
end
end Vx
namespace Vx
open PySem L2
variable [Tbs]
theorem nx_go {a b c : L2.St → Hp → Prop} {r : VK} {σ : L2.St} {H : Hp} (h : a σ H) : Ends.nx ⟨a, r, b, c⟩ σ H := h
theorem un_of {A : Around} {k : Nat} (h : Room k A) : A.units + 64 < cLine := h.units
end Vx

/-! list(range(..)), x = xs.pop(i) -/
namespace Vx
open PySem L2 PySem.Spec PyProof.Rows Evl RZ
variable [Tbs]
section
variable {K : PySem.W.Frag} {σ : L2.St} {H H0 : Hp} {te ta tb : TE} {E : EnvD} {D : Ends} {α : Type} {f : α → PyData}
theorem rgV_is (a b : Int) : rgV a b = (rangeL a b).map V.int := by
  unfold rgV rangeL
  rw [List.map_map]
  rfl
theorem rgOk_of {a b : Int} (h : rangeOk a b = true) : RgOk a b := by
  obtain ⟨h1, h2, h3, h4, h5⟩ := rangeOk_all h
  exact ⟨by omega, by omega, by omega, by omega, by omega⟩
theorem n_listRg2 {lo hi : Int} (ha : EvP K ta σ H (.int lo)) (hb : EvP K tb σ H (.int hi)) (h : rangeOk lo hi = true) : EvN K (tLstRg (tRg2 ta tb)) σ H ((rangeL lo hi).map .int) := fun H1 x Q q =>
  ha H1 x _ fun v H2 x2 d1 => hb H2 (x.trans x2) _ fun u H3 x3 d2 => ⟨lo, hi, d1.of_int, d2.of_int, rgOk_of h, fun p hp => q p _ _ (fresh_back (x2.trans x3) hp) ((x2.trans x3).trans (Ex.new hp)) upd_same (by rw [rgV_is]; exact DrA.of_ints)⟩
/-- what xs.pop(i) gives and leaves -/
def popA (xs : List α) (i : Int) : Option (α × List α) := (ixN xs.length i).bind fun k => (xs[k]?).map fun y => (y, xs.eraseIdx k)
theorem popA_is {xs ys : List α} {i : Int} {y : α} (h : popA xs i = some (y, ys)) : ∃ k, ixN xs.length i = some k ∧ xs[k]? = some y ∧ ys = xs.eraseIdx k := by
  unfold popA at h
  cases e : ixN xs.length i with
  | none => rw [e] at h; cases h
  | some k =>
    rw [e] at h
    have h : (xs[k]?).map (fun y => (y, xs.eraseIdx k)) = some (y, ys) := h
    cases e2 : xs[k]? with
    | none => rw [e2] at h; cases h
    | some z => rw [e2] at h; cases h; exact ⟨k, rfl, e2, rfl⟩
theorem DrA.erase : ∀ {vs : List V} {ds : List PyData} (k : Nat), DrA K H vs ds → DrA K H (vs.eraseIdx k) (ds.eraseIdx k)
  | [], ds, k, d => by cases d; exact .nil
  | v :: vs, ds, 0, d => by cases d with | cons a b => exact b
  | v :: vs, ds, k + 1, d => by cases d with | cons a b => exact .cons a (DrA.erase k b)
theorem erase_map : ∀ (xs : List α) (k : Nat), (xs.map f).eraseIdx k = (xs.eraseIdx k).map f
  | [], k => by simp
  | x :: xs, 0 => rfl
  | x :: xs, k + 1 => by
    show f x :: (xs.map f).eraseIdx k = f x :: (xs.eraseIdx k).map f
    rw [erase_map xs k]
/-- x = xs.pop(i), xs the def's own -/
theorem s_popAt {i j : Nat} {l : Addr} {xs ys : List α} {y : α} {n : Int} (S : Sl K H σ E) (hi : E[i]? = some (some (.raw (.ref l)))) (o : Ow K H0 H l (xs.map f)) (h : EvP K te σ H (.int n)) (e : popA xs n = some (y, ys)) (hz : xs.length ≤ 16777216)
    (k : ∀ v H1, Kp H H1 → Xb l H H1 → Ow K H0 H1 l (ys.map f) → Dr K H1 v (f y) → D.nx (σ.set j (some v)) H1) :
    tAsg (tBM K "list" rPopAt (tVar i) (tCons te tNil)) (gName j) D σ H := by
  obtain ⟨a, vs, b, c⟩ := o
  obtain ⟨m, e1, e2, rfl⟩ := popA_is e
  obtain ⟨s1, s2, s3, s4⟩ := ixN_seq e1
  have len : vs.length = xs.length := by rw [c.length, List.length_map]
  refine ⟨.ref l, S.raw hi, .inl ⟨rfl, vs, sq_of b⟩, h H (Ex.refl H) _ fun v H1 ex dr => ?_⟩
  have hb := ex l _ b
  obtain ⟨w, hw, dw⟩ := (show ∃ w, vs[m]? = some w ∧ Dr K H w (f y) from by
    have hm : m < vs.length := by omega
    refine ⟨vs[m], List.getElem?_eq_getElem hm, ?_⟩
    obtain ⟨d, h1, h2⟩ := c.getV (List.getElem?_eq_getElem hm)
    rw [List.getElem?_map, e2] at h1
    cases h1
    exact h2)
  have kp : Kp H1 (upd H1 l (.lst (vs.eraseIdx m))) := Kp.put (im_none hb (fun _ z => nomatch z) fun _ _ z => nomatch z)
  refine ⟨l, vs, n, m, w, rfl, by rw [dr.of_int], hb, by omega, by omega, by rw [len]; exact s1, hw, ?_⟩
  have me : (xs.eraseIdx m).map f = (xs.map f).eraseIdx m := (erase_map xs m).symm
  exact k w _ ((Kp.of ex).trans kp) (Xb.mut ex (nc_of hb fun _ z => nomatch z)) ⟨a, _, upd_same, by rw [me]; exact ((c.ex ex).kp kp).erase m⟩ ((dw.ex ex).kp kp)
theorem p_ltT {ns ms : List Int} (ha : EvP K ta σ H (eT eI ns)) (hb : EvP K tb σ H (eT eI ms)) : EvP K (tOp (rLtT K) ta tb) σ H (.bool (HT.lexLt ns ms)) := fun H1 x Q q =>
  ha H1 x _ fun v H2 x2 d1 => hb H2 (x.trans x2) _ fun u H3 x3 d2 => by
    obtain ⟨a, vs, rfl, h1, e1⟩ := (d1.ex x3).of_tup
    obtain ⟨b, ws, rfl, h2, e2⟩ := d2.of_tup
    rw [e1.ints] at h1
    rw [e2.ints] at h2
    exact ⟨a, b, ns, ms, rfl, rfl, h1, h2, q _ H3 (x2.trans x3) .bl⟩
end
theorem op_ltTK {X : Cx} (K : PySem.W.Frag) (hu : X.A.units + 64 < cLine) (hK : X.K = K := by rfl) : OpR X (compareOp .Lt) (rLtT K) := by subst hK; exact op_ltT (by omega)
end Vx

/-! defs that may raise -/
namespace Vx
open PySem L2 PySem.Spec PyProof.Rows Evl RZ
variable [Tbs]
/-- a def's way out: a value, or an error of an own class -/
inductive Rs (ρ : Type) where
  | v (r : ρ) | x (C : String)
/-- the promise of a def that may raise; ca: the classes' addresses -/
def SpX (K : PySem.W.Frag) (ca : String → Addr) (n : Nat) (R : List Ag → Rs Rt → Prop) : Sp := fun vs H Q E => ∃ as r, as.length = n ∧ R as r ∧ AgsOk K H vs as ∧ LamX.Tabs Tbs.l H ∧ (match r with
  | .v r => RtOk K H Q r
  | .x C => ∀ H', Ex H H' → E (.ref (ca C)) none H')
theorem some_list {α : Type} {g : α → PyData} : ∀ (xs : List (Option (List α))), ((xs.filter fun it => !(isNone (eO (eT g) it))).map fun it => it).map (eO (eT g)) = (xs.filterMap id).map (eT g)
  | [] => rfl
  | none :: xs => some_list xs
  | some a :: xs => congrArg (eT g a :: ·) (some_list xs)
end Vx

/-! comprehensions of any number of clauses: lists, sets of ints -/
namespace Vx
open PySem L2 PySem.Spec PyProof.Rows Evl RZ PpSet
variable [Tbs]
/-- a turn of the last clause: what is done with an item that passes -/
def turnL (it : Value) (t i : Expr) (ifs : List Expr) (env : Env) (what : Sem Unit) (c : Code) : Sem Fin := do
  standAt i.pos; match ← pyNext it with
  | none => pure (.done .next)
  | some v =>
    letOwnedTupleGo t it v; assign t env v
    let mut ok := true
    for c in ifs do if ok then
        ok ← isTrue c env (eval c env)
    if ok then what
    again c
/-- a turn of a clause ahead of another -/
def turnM (it : Value) (t i : Expr) (ifs : List Expr) (env : Env) (i1 : Expr) (st : Value → Code) (c : Code) : Sem Fin := do
  standAt i.pos; match ← pyNext it with
  | none => pure (.done .next)
  | some v =>
    letOwnedTupleGo t it v; assign t env v
    let mut ok := true
    for c in ifs do if ok then
        ok ← isTrue c env (eval c env)
    if ok then
      let x ← eval i1 env; standAt i1.pos
      let x ← foldedSetIterable i1 env x
      let _ ← runOwn (st (← holding [x] (pyIter x))) env
    again c
abbrev testsOf (ifs : List Expr) (env : Env) : Sem Bool := forIn ifs true fun c r => if r = true then do let ok ← isTrue c env (eval c env); pure (ForInStep.yield ok) else pure (ForInStep.yield r)
section
variable {elt t i t1 i1 : Expr} {ifs ifs1 : List Expr} {gens : List Comprehension} {scope : Scope} {pos : Pos} {it acc : Value} {env : Env} {k : Nat}
theorem lastL (h0 : gens[k]? = some ⟨t, i, ifs, 0⟩) (h1 : gens[k + 1]? = none) : compTurn (.ListComp elt gens scope pos) k it acc env =
    turnL it t i ifs env (do let _ ← call (.builtin "list.append") [acc, ← eval elt env]) (.compLoop (.ListComp elt gens scope pos) k it acc env) := by
  unfold compTurn turnL
  simp only [h0, h1]
  rfl
theorem midL (h0 : gens[k]? = some ⟨t, i, ifs, 0⟩) (h1 : gens[k + 1]? = some ⟨t1, i1, ifs1, 0⟩) : compTurn (.ListComp elt gens scope pos) k it acc env =
    turnM it t i ifs env i1 (fun v => .compStart (.ListComp elt gens scope pos) (k + 1) v acc env) (.compLoop (.ListComp elt gens scope pos) k it acc env) := by
  unfold compTurn turnM
  simp only [h0, h1]
  rfl
theorem lastS (h0 : gens[k]? = some ⟨t, i, ifs, 0⟩) (h1 : gens[k + 1]? = none) : compTurn (.SetComp elt gens scope pos) k it acc env =
    turnL it t i ifs env (do let v ← eval elt env; standAt elt.pos; let _ ← call (.builtin "set.add") [acc, v]) (.compLoop (.SetComp elt gens scope pos) k it acc env) := by
  unfold compTurn turnL
  simp only [h0, h1]
  rfl
theorem midS (h0 : gens[k]? = some ⟨t, i, ifs, 0⟩) (h1 : gens[k + 1]? = some ⟨t1, i1, ifs1, 0⟩) : compTurn (.SetComp elt gens scope pos) k it acc env =
    turnM it t i ifs env i1 (fun v => .compStart (.SetComp elt gens scope pos) (k + 1) v acc env) (.compLoop (.SetComp elt gens scope pos) k it acc env) := by
  unfold compTurn turnM
  simp only [h0, h1]
  rfl
end
section
variable {prog : Program} {w : World} {A : Around} {R : Result → Shared → Prop} {s : Shared} {e t i i1 : Expr} {ifs : List Expr} {it acc : Value} {env : Env} {k : Nat}
/-- a list or a set comprehension -/
def Lc2 (e elt : Expr) (gens : List Comprehension) (scope : Scope) (pos : Pos) : Prop := e = .ListComp elt gens scope pos ∨ e = .SetComp elt gens scope pos ∨ ∃ vx, e = .DictComp elt vx gens scope pos
theorem enterT {elt : Expr} {gens : List Comprehension} {scope : Scope} {pos : Pos} {Q : Fin → Shared → Prop} {E : Value → Shared → Prop} (hE : Lc2 e elt gens scope pos) (h : wpAny (model prog w) A ((compTurn e k it acc env).onRaise fun x => do noteFrame x env; theTreesLotGoes x) Q E s) :
    wpAny (model prog w) (A.under (.compLoop e k it acc env)) ((model prog w).den (.compLoop e k it acc env)) Q E s := by
  rcases hE with rfl | rfl | ⟨_, rfl⟩ <;> exact h
theorem enterS {elt : Expr} {gens : List Comprehension} {scope : Scope} {pos : Pos} {Q : Fin → Shared → Prop} {E : Value → Shared → Prop} (hE : Lc2 e elt gens scope pos) (h : wpAny (model prog w) A ((compStart e k it acc env).onRaise fun x => do noteFrame x env; standAt theWindowsPlace) Q E s) :
    wpAny (model prog w) (A.under (.compStart e k it acc env)) ((model prog w).den (.compStart e k it acc env)) Q E s := by
  rcases hE with rfl | rfl | ⟨_, rfl⟩ <;> exact h
theorem loopL {elt : Expr} {gens : List Comprehension} {scope : Scope} {pos : Pos} {what : Sem Unit} (hE : Lc2 e elt gens scope pos) (hT : compTurn e k it acc env = turnL it t i ifs env what (.compLoop e k it acc env)) (I : Nat → Shared → Prop)
    (turn : ∀ n s, I n s → wpAny (model prog w) A (pyNext it) (fun r s1 => match r with
      | none => R (.ok .next) s1
      | some v => wpAny (model prog w) A (letOwnedTupleGo t it v) (fun _ s2 => wpAny (model prog w) A (assign t env v) (fun _ s3 => wpAny (model prog w) A (testsOf ifs env) (fun ok s4 =>
          if ok = true then wpAny (model prog w) A what (fun _ s5 => ∃ m, m < n ∧ I m s5) (fun _ _ => False) s4 else ∃ m, m < n ∧ I m s4) (fun _ _ => False) s3) (fun _ _ => False) s2) (fun _ _ => False) s1) (fun _ _ => False) s)
    (n : Nat) (h : I n s) : codeAny (model prog w) A (.compLoop e k it acc env) R s := by
  refine codeAny_loop rfl I (fun n s hI => ?_) n h
  refine enterT hE (wpAny_noted ?_)
  rw [hT]
  refine wpAny_bind (wpAny_standAt (wpAny_bind (thnF (turn n s hI) fun r s1 h1 => ?_)))
  cases r with
  | none => exact wpAny_pure h1
  | some v =>
    refine wpAny_bind (thnF h1 fun _ s2 h2 => wpAny_bind (thnF h2 fun _ s3 h3 => wpAny_bind (thnF h3 fun ok s4 h4 => ?_)))
    cases ok with
    | false => exact wpAny_pure ⟨rfl, h4⟩
    | true => exact wpAny_bind (thnF h4 fun _ s5 h5 => wpAny_pure ⟨rfl, h5⟩)
theorem loopM {elt : Expr} {gens : List Comprehension} {scope : Scope} {pos : Pos} {st : Value → Code} (hE : Lc2 e elt gens scope pos) (hT : compTurn e k it acc env = turnM it t i ifs env i1 st (.compLoop e k it acc env)) (hs : ∀ x, foldedSetIterable i1 env x = pure x) (I : Nat → Shared → Prop)
    (turn : ∀ n s, I n s → wpAny (model prog w) A (pyNext it) (fun r s1 => match r with
      | none => R (.ok .next) s1
      | some v => wpAny (model prog w) A (letOwnedTupleGo t it v) (fun _ s2 => wpAny (model prog w) A (assign t env v) (fun _ s3 => wpAny (model prog w) A (testsOf ifs env) (fun ok s4 =>
          if ok = true then wpAny (model prog w) A (eval i1 env) (fun x s5 => wpAny (model prog w) A (pyIter x) (fun it1 s6 => codeAny (model prog w) A (st it1) (fun r s' => match r with
            | .ok _ => ∃ m, m < n ∧ I m s'
            | .error _ => False) s6) (fun _ _ => False) s5) (fun _ _ => False) s4 else ∃ m, m < n ∧ I m s4) (fun _ _ => False) s3) (fun _ _ => False) s2) (fun _ _ => False) s1) (fun _ _ => False) s)
    (n : Nat) (h : I n s) : codeAny (model prog w) A (.compLoop e k it acc env) R s := by
  refine codeAny_loop rfl I (fun n s hI => ?_) n h
  refine enterT hE (wpAny_noted ?_)
  rw [hT]
  refine wpAny_bind (wpAny_standAt (wpAny_bind (thnF (turn n s hI) fun r s1 h1 => ?_)))
  cases r with
  | none => exact wpAny_pure h1
  | some v =>
    refine wpAny_bind (thnF h1 fun _ s2 h2 => wpAny_bind (thnF h2 fun _ s3 h3 => wpAny_bind (thnF h3 fun ok s4 h4 => ?_)))
    cases ok with
    | false => exact wpAny_pure ⟨rfl, h4⟩
    | true =>
      refine wpAny_bind (thnF h4 fun x s5 h5 => ?_)
      refine wpAny_bind (wpAny_standAt (wpAny_bind (wpAny_of_eq (hs x) (wpAny_bind (wpAny_holding (thnF h5 fun it1 s6 h6 => ?_))))))
      refine wpAny_bind (wpAny_runOwn ?_)
      rw [Around.mark_none]
      refine codeAny_mono h6 fun r s' hr => ?_
      cases r with
      | ok f =>
        first
          | exact wpAny_pure ⟨rfl, hr⟩
          | exact wpAny_bind (wpAny_pure (wpAny_pure ⟨rfl, hr⟩))
      | error e => exact hr.elim
/-- a clause's start -/
theorem startG {elt : Expr} {gens : List Comprehension} {scope : Scope} {pos : Pos} {g : Comprehension} (hE : Lc2 e elt gens scope pos) (hg : (clausesOf e)[k]? = some g) (ha : g.is_async = 0) (h0 : codeAny (model prog w) A (.compLoop e k it acc env) R s)
    (h : wpAny (model prog w) A (pyIter it) (fun it' s' => codeAny (model prog w) A (.compLoop e k it' acc env) R s') (notedBy (model prog w) A env fun x s' => R (.error x) s') s) : codeAny (model prog w) A (.compStart e k it acc env) R s := by
  refine codeAny_of_tree ?_
  refine enterS hE (wpAny_notedAt ?_)
  unfold compStart
  rw [hg]
  have hz : (Option.elim (some g) false fun x => x.is_async != 0) = false := by simp [ha]
  rw [hz]
  show wpAny _ _ (ask >>= _) _ _ s
  refine wpAny_bind (wpAny_askSetting (wpAny_ite ?_))
  split
  · first
      | exact wpAny_bind (wpAny_pure (wpAny_pure (And.intro rfl h0)))
      | exact wpAny_pure (And.intro rfl h0)
  · refine wpAny_bind (wpAny_rule ?_)
    show wpAny _ _ (standAt g.iter.pos >>= _) _ _ s
    exact wpAny_bind (wpAny_standAt (wpAny_bind (wpAny_mono h (fun it' s' h' => wpAny_pure (And.intro rfl h')) fun _ _ x => x)))
end
/-! ### the clauses -/
structure Cls where
  tg : Expr
  iter : Expr
  ifs : List Expr
  wi : TI
  g : TG
  tt : TT
  vs : List Nat
abbrev Cls.gen (c : Cls) : Comprehension := ⟨c.tg, c.iter, c.ifs, 0⟩
abbrev TIn := L2.St → Hp → (Hp → Prop) → Prop
def tLoop (c : Cls) (rest : TIn) (J : It) (σ : L2.St) (vs : List Nat) (H1 : Hp) (Nx : Hp → Prop) : Prop := ∃ W : Nat → Nat → Hp → Prop, (∃ m, W 0 m H1) ∧ ∀ i m H, W i m H → (J.stop i H ∧ Nx H) ∨
  (J.go i H ∧ ∃ N1 : Hp → Prop, (∀ H', N1 H' → ∃ m', m' < m ∧ W (i + 1) m' H') ∧ ∀ x H', J.yld i H x H' → c.g x (wipe σ vs) H' fun σ2 H2 => wipe σ2 vs = wipe σ vs ∧ c.tt σ2 H2 fun b H3 => if b = true then rest σ2 H3 N1 else N1 H3)
def tIn (em : TIn) : List Cls → TIn
  | [] => em
  | c :: cs => fun σ H Nx => c.wi σ H fun J H1 => tLoop c (tIn em cs) J σ c.vs H1 Nx
structure ClOk (Y : Cx) (c : Cls) : Prop where
  pi : PI Y c.tg c.iter c.wi
  pg : PG Y c.tg c.g
  pt : PTs Y c.ifs c.tt
  fs : ∀ env x, foldedSetIterable c.iter env x = pure x
def AllCl (Y : Cx) : List Cls → Prop
  | [] => True
  | c :: cs => ClOk Y c ∧ AllCl Y cs
def ChainV : List Nat → List Cls → Prop
  | _, [] => True
  | vs, c :: cs => (∀ i ∈ c.vs, i ∈ vs) ∧ ChainV c.vs cs
section
variable {Y : Cx} {e elt : Expr} {gens : List Comprehension} {scope : Scope} {pos : Pos} {acc : Value} {what : Sem Unit} {em : TIn}
theorem loop_run (hY : Y.xe = fun _ _ => False) (hc : Y.calm = true) (hE : Lc2 e elt gens scope pos)
    (hL : ∀ k t i ifs it, gens[k]? = some ⟨t, i, ifs, 0⟩ → gens[k + 1]? = none → compTurn e k it acc Y.env = turnL it t i ifs Y.env what (.compLoop e k it acc Y.env))
    (hM : ∀ k t i ifs t1 i1 ifs1 it, gens[k]? = some ⟨t, i, ifs, 0⟩ → gens[k + 1]? = some ⟨t1, i1, ifs1, 0⟩ → compTurn e k it acc Y.env = turnM it t i ifs Y.env i1 (fun v => .compStart e (k + 1) v acc Y.env) (.compLoop e k it acc Y.env))
    (hw : ∀ pins σ H s Nx (F : Shared → Prop), Inv Y pins σ H s → em σ H Nx → (∀ s' H', Inv Y pins σ H' s' → Nx H' → F s') → wpAny (model Y.prog Y.w) Y.A what (fun _ s' => F s') (fun _ _ => False) s) :
    ∀ (cs : List Cls) (c : Cls) (k : Nat) (pins : List (Addr × Obj)) (σ : L2.St) (vs : List Nat) (H : Hp) (s : Shared) (J : It) (fp : List Addr) (it : Addr) (tn : Nat → Heap → Prop) (Nx : Hp → Prop) (R : Result → Shared → Prop),
      gens.drop k = (c :: cs).map Cls.gen → PG Y c.tg c.g → PTs Y c.ifs c.tt → AllCl Y cs → ChainV vs cs → Turn Y.prog Y.w Y.K c.tg J fp it tn → Inv Y pins (wipe σ vs) H s → tn 0 s.heap → (∀ b ∈ fp, H b = none) →
      (∀ σ' H' s', Inv Y pins σ' H' s' → (∀ b ∈ fp, H' b = none) → ∀ b ∈ fp, FpOk Y pins H' b) → tLoop c (tIn em cs) J σ vs H Nx → (∀ s' H', Inv Y pins (wipe σ vs) H' s' → Nx H' → R (.ok .next) s') →
      codeAny (model Y.prog Y.w) Y.A (.compLoop e k (.ref it) acc Y.env) R s := by
  intro cs
  induction cs with
  | nil =>
    intro c k pins σ vs H s J fp it tn Nx R hk pg pt _ _ T I st n0 stat hl hR
    have e0 : gens[k]? = some c.gen := by
      have := congrArg (·[0]?) hk
      simpa [List.getElem?_drop] using this
    have e1 : gens[k + 1]? = none := by
      have := congrArg (·[1]?) hk
      simpa [List.getElem?_drop] using this
    obtain ⟨W, ⟨m0, w0⟩, turn⟩ := hl
    refine loopL hE (hL k _ _ _ _ e0 e1) (fun n s' => ∃ i H', Inv Y pins (wipe σ vs) H' s' ∧ tn i s'.heap ∧ (∀ b ∈ fp, H' b = none) ∧ W i n H') ?_ m0 ⟨0, H, I, st, n0, w0⟩
    rintro n s5 ⟨i, H5, I5, st5, n5, w5⟩
    rcases turn i n H5 w5 with ⟨stop, qq⟩ | ⟨go, N1, hN1, step⟩
    · refine thnF (T.done Y rfl rfl rfl hc i pins s5 _ H5 (fun _ _ => False) I5 (stat _ _ _ I5 n5) st5 stop) fun r s6 ⟨hr, I6⟩ => ?_
      subst hr
      exact hR s6 H5 I6 qq
    · refine thnF (T.item Y rfl rfl rfl hc i pins s5 _ H5 (fun _ _ => False) I5 (stat _ _ _ I5 n5) st5 go) fun r s6 ⟨u, hr, h6⟩ => ?_
      subst hr
      refine thnF h6 fun _ s7 ⟨x, H7, I7, r7, y7, st7, n7⟩ => ?_
      have I7' := I7.pinned (stat _ _ _ I7 n7) (T.obj _ _ st7)
      refine thnF (hY ▸ pg.run _ s7 _ H7 x u _ I7' r7 (step x H7 y7)) fun _ s8 ⟨σ8, H8, I8, hw8, q8⟩ => ?_
      refine thnF (hY ▸ pt.run _ s8 σ8 H8 _ I8 q8) fun b s9 ⟨H9, I9, q9⟩ => ?_
      have fin : ∀ (s' : Shared) (H' : Hp), Inv Y (pins ++ pinsAt fp s7.heap) σ8 H' s' → N1 H' → ∃ m, m < n ∧ ∃ i H', Inv Y pins (wipe σ vs) H' s' ∧ tn i s'.heap ∧ (∀ b ∈ fp, H' b = none) ∧ W i m H' := fun s' H' I' nx => by
        obtain ⟨m', hm, w'⟩ := hN1 H' nx
        have pin' : ∀ b ∈ fp, ∀ o, s7.heap.get? b = some o → s'.heap.get? b = some o ∧ H' b = none := fun b hb o e =>
          let z := I'.pin (b, o) (List.mem_append_right _ (List.mem_append_right _ (mem_pinsAt hb e)))
          ⟨z.1, z.2.1⟩
        refine ⟨m', hm, i + 1, H', (I'.unpinned).weak (by rw [← hw8, wipe_length]) (fun j v e => ?_), T.keep _ _ _ st7 fun b hb o e => (pin' b hb o e).1, fun b hb => ?_, w'⟩
        · rw [← hw8] at e
          exact (wipe_some e).1
        · obtain ⟨o, e, _⟩ := T.obj _ _ st7 b hb
          exact (pin' b hb o e).2
      cases b with
      | false => exact fin s9 H9 I9 q9
      | true => exact hw _ _ _ _ _ _ I9 q9 fin
  | cons c1 cs ih =>
    intro c k pins σ vs H s J fp it tn Nx R hk pg pt hall hch T I st n0 stat hl hR
    obtain ⟨ok1, hall⟩ := hall
    obtain ⟨hv, hch⟩ := hch
    have e0 : gens[k]? = some c.gen := by
      have := congrArg (·[0]?) hk
      simpa [List.getElem?_drop] using this
    have e1 : gens[k + 1]? = some c1.gen := by
      have := congrArg (·[1]?) hk
      simpa [List.getElem?_drop] using this
    have hk1 : gens.drop (k + 1) = (c1 :: cs).map Cls.gen := by
      have := congrArg (List.drop 1) hk
      rw [List.drop_drop] at this
      simpa using this
    obtain ⟨W, ⟨m0, w0⟩, turn⟩ := hl
    refine loopM hE (hM k _ _ _ _ _ _ _ e0 e1) (ok1.fs _) (fun n s' => ∃ i H', Inv Y pins (wipe σ vs) H' s' ∧ tn i s'.heap ∧ (∀ b ∈ fp, H' b = none) ∧ W i n H') ?_ m0 ⟨0, H, I, st, n0, w0⟩
    rintro n s5 ⟨i, H5, I5, st5, n5, w5⟩
    rcases turn i n H5 w5 with ⟨stop, qq⟩ | ⟨go, N1, hN1, step⟩
    · refine thnF (T.done Y rfl rfl rfl hc i pins s5 _ H5 (fun _ _ => False) I5 (stat _ _ _ I5 n5) st5 stop) fun r s6 ⟨hr, I6⟩ => ?_
      subst hr
      exact hR s6 H5 I6 qq
    · refine thnF (T.item Y rfl rfl rfl hc i pins s5 _ H5 (fun _ _ => False) I5 (stat _ _ _ I5 n5) st5 go) fun r s6 ⟨u, hr, h6⟩ => ?_
      subst hr
      refine thnF h6 fun _ s7 ⟨x, H7, I7, r7, y7, st7, n7⟩ => ?_
      have I7' := I7.pinned (stat _ _ _ I7 n7) (T.obj _ _ st7)
      refine thnF (hY ▸ pg.run _ s7 _ H7 x u _ I7' r7 (step x H7 y7)) fun _ s8 ⟨σ8, H8, I8, hw8, q8⟩ => ?_
      refine thnF (hY ▸ pt.run _ s8 σ8 H8 _ I8 q8) fun b s9 ⟨H9, I9, q9⟩ => ?_
      have fin : ∀ {σ9 : L2.St} {s' : Shared} {H' : Hp}, Inv Y (pins ++ pinsAt fp s7.heap) σ9 H' s' → (wipe σ vs).length = σ9.length → (∀ (j : Nat) v, (wipe σ vs)[j]? = some (some v) → σ9[j]? = some (some v)) → N1 H' →
          ∃ m, m < n ∧ ∃ i H', Inv Y pins (wipe σ vs) H' s' ∧ tn i s'.heap ∧ (∀ b ∈ fp, H' b = none) ∧ W i m H' := fun {σ9 s' H'} I' hl hk nx => by
        obtain ⟨m', hm, w'⟩ := hN1 H' nx
        have pin' : ∀ b ∈ fp, ∀ o, s7.heap.get? b = some o → s'.heap.get? b = some o ∧ H' b = none := fun b hb o e =>
          let z := I'.pin (b, o) (List.mem_append_right _ (List.mem_append_right _ (mem_pinsAt hb e)))
          ⟨z.1, z.2.1⟩
        refine ⟨m', hm, i + 1, H', (I'.unpinned).weak hl hk, T.keep _ _ _ st7 fun b hb o e => (pin' b hb o e).1, fun b hb => ?_, w'⟩
        obtain ⟨o, e, _⟩ := T.obj _ _ st7 b hb
        exact (pin' b hb o e).2
      have hl8 : (wipe σ vs).length = σ8.length := by rw [← hw8, wipe_length]
      have hk8 : ∀ (j : Nat) v, (wipe σ vs)[j]? = some (some v) → σ8[j]? = some (some v) := fun j v e => by
        rw [← hw8] at e
        exact (wipe_some e).1
      have hk9 : ∀ (j : Nat) v, (wipe σ vs)[j]? = some (some v) → (wipe σ8 c1.vs)[j]? = some (some v) := fun j v e => by
        rw [← hw8] at e
        obtain ⟨a1, a2⟩ := wipe_some e
        rw [wipe_out fun z => a2 (hv j z)]
        exact a1
      cases b with
      | false => exact fin I9 hl8 hk8 q9
      | true =>
        refine thnF (hY ▸ ok1.pi.run _ s9 σ8 H9 _ I9 q9) fun xv s10 hx => thnF hx fun itv s11 h11 => ?_
        obtain ⟨it1, fp1, tn1, J1, H11, ei, I11, T1, st11, f11, q11⟩ := h11
        subst ei
        have lp := ih c1 (k + 1) (pins ++ pinsAt fp s7.heap) σ8 c1.vs H11 s11 J1 fp1 it1 tn1 N1 (fun r s' => match r with
          | .ok _ => ∃ m, m < n ∧ ∃ i H', Inv Y pins (wipe σ vs) H' s' ∧ tn i s'.heap ∧ (∀ b ∈ fp, H' b = none) ∧ W i m H'
          | .error _ => False) hk1 ok1.pg ok1.pt hall hch T1 (I11.weak (wipe_length _ _) fun j v e => (wipe_some e).1) st11 (fun b hb => (f11 b hb).1) (fun σ' H' s' I' hn b hb => ⟨hn b hb, (f11 b hb).2⟩) q11
          fun s' H' I' nx => fin I' (hl8.trans (wipe_length σ8 c1.vs).symm) hk9 nx
        refine startG (g := c1.gen) hE ?_ rfl lp (T1.self Y.A 0 _ _ _ st11 lp)
        rcases hE with rfl | rfl | ⟨_, rfl⟩ <;> exact e1
end
section
variable {X : Cx} {elt : Expr} {scope : Scope} {pos : Pos}
abbrev BlkR (X : Cx) (scope : Scope) (R : Cx → Prop) : Prop := ∀ (s : Shared) (H : Hp) (C : Addr) (cl : List (Str × Addr)) (fp : List Addr), R (X.blk s H scope (compEnvC scope cl C X.env) fp)
/-- the whole, the new object of any kind -/
theorem outerG {pins : List (Addr × Obj)} {s : Shared} {σ : L2.St} {H : Hp} {Q : VK} {e : Expr} {c : Cls} {cs : List Cls} {own : List (Str × Nat)} {pos' : Pos} {use : Option (Value → Sem Unit)} {Qf : Value → Shared → Prop} {mk : Sem Value} {ob : Obj} {o : Addr → HO} {em : Addr → TIn} {what : Value → Env → Sem Unit}
    (hc : X.calm = true) (hN : X.N.Nodup) (I : Inv X pins σ H s) (hE : Lc2 e elt ((c :: cs).map Cls.gen) scope pos) (hi : PI X c.tg c.iter c.wi) (ok : BlkOk X.N X.env.scope scope own)
    (hg : BlkR X scope fun Y => PG Y c.tg c.g) (ht : BlkR X scope fun Y => PTs Y c.ifs c.tt) (hcs : BlkR X scope fun Y => AllCl Y cs) (hch : ChainV (own.map (·.2)) cs) (hs : ∀ x, foldedSetIterable c.iter X.env x = pure x)
    (hL : ∀ k t i ifs it (a : Addr) env, ((c :: cs).map Cls.gen)[k]? = some ⟨t, i, ifs, 0⟩ → ((c :: cs).map Cls.gen)[k + 1]? = none → compTurn e k it (.ref a) env = turnL it t i ifs env (what (.ref a) env) (.compLoop e k it (.ref a) env))
    (hM : ∀ k t i ifs t1 i1 ifs1 it (a : Addr) env, ((c :: cs).map Cls.gen)[k]? = some ⟨t, i, ifs, 0⟩ → ((c :: cs).map Cls.gen)[k + 1]? = some ⟨t1, i1, ifs1, 0⟩ → compTurn e k it (.ref a) env = turnM it t i ifs env i1 (fun v => .compStart e (k + 1) v (.ref a) env) (.compLoop e k it (.ref a) env))
    (hnew : ∀ (s2 : Shared) (Q : Value → Shared → Prop), Q (.ref s2.heap.objs.size) { s2 with heap := s2.heap.push ob } → wpAny (model X.prog X.w) X.A mk Q X.xe s2)
    (hob : ∀ (H' : Hp) (h : Heap), sysModules < h.objs.size → ObjOk X.prog X.w H' (h.push ob) h.objs.size (o h.objs.size))
    (hw : ∀ D, BlkR X scope fun Y => ∀ pins σ H s Nx (F : Shared → Prop), Inv Y pins σ H s → em D σ H Nx → (∀ s' H', Inv Y pins σ H' s' → Nx H' → F s') → wpAny (model Y.prog Y.w) Y.A (what (.ref D) Y.env) (fun _ s' => F s') (fun _ _ => False) s)
    (h : c.wi σ H fun J H1 => ∀ D, H1 D = none → tLoop c (tIn (em D) cs) J σ (own.map (·.2)) (upd H1 D (o D)) (Q (.ref D)))
    (hRR : ∀ D C s' m H', Inv X pins σ H' s' → Q (.ref D) H' → s'.heap.Ns C m → FpOk X pins H' C → compPost (model X.prog X.w) X.A X.xe use Qf (.ref D) C (.ok .next) s') :
    wpAny (model X.prog X.w) X.A (comprehension e scope X.env pos' mk false (eval c.iter X.env) use) Qf X.xe s := by
  have hcl : clausesOf e = (c :: cs).map Cls.gen := by rcases hE with rfl | rfl | ⟨_, rfl⟩ <;> rfl
  have hfree : ∀ y ∈ scope.names, y.2 = .free → ∃ c, X.env.cells.lookup y.1 = some c := fun y hy e => by
    rcases ok.free y hy e with k | k
    · exact I.ok.has _ (.inl k)
    · exact I.ok.has _ (.inr k)
  refine wpAny_comprehension_free (use := use) (g := c.gen) (gs := cs.map Cls.gen) hcl hs (closure_ok hfree) ok.kind (fun y hy e => by rw [ok.uniq y hy, e])
    (thn (hi.run pins s σ H _ I h) fun xv s1 hx => thn hx fun itv s2 h2 => ?_)
  obtain ⟨it, fp, tn, J, H2, ei, I2, T, st2, f2, q⟩ := h2
  subst ei
  refine hnew s2 _ (newEnv_comp ?_)
  generalize hD : s2.heap.objs.size = D
  have hDn : H2 D = none := I2.hok.fresh (Nat.le_of_eq hD)
  have lp := q D hDn
  generalize hs3 : ({ s2 with heap := s2.heap.push ob } : Shared) = s3
  have I3 : Inv X pins σ (upd H2 D (o D)) s3 := by
    rw [← hs3, ← hD]
    exact I2.laid (t' := s2.toks) (fun b o e => Heap.get?_push_of_some _ e) (Nat.le_refl _) (hob _ _ I2.big)
  have h3 : s3.heap = s2.heap.push ob := by rw [← hs3]
  have sz : ∀ b ∈ fp, b < s2.heap.objs.size := fun b hb => by
    obtain ⟨o, e, _⟩ := T.obj _ _ st2 b hb
    exact Heap.lt_size e
  have f3 : ∀ b ∈ fp, FpOk X pins (upd H2 D (o D)) b ∧ b < s3.heap.objs.size := fun b hb => by
    have hlt := sz b hb
    refine ⟨⟨?_, (f2 b hb).2⟩, by rw [h3, Heap.size_push]; exact Nat.lt_succ_of_lt hlt⟩
    rw [upd_ne (by rw [← hD]; exact Nat.ne_of_lt hlt)]
    exact (f2 b hb).1
  have st3 : tn 0 s3.heap := T.keep _ _ _ st2 fun b _ o e => by rw [h3]; exact Heap.get?_push_of_some _ e
  have I4 := block_start I3 ok hN f3
  have pg := hg s3 (upd H2 D (o D)) s3.heap.objs.size (cellsFrom (s3.heap.objs.size + 1) scope.names (cloFrom X.env.cells scope.names [])) fp
  have pt := ht s3 (upd H2 D (o D)) s3.heap.objs.size (cellsFrom (s3.heap.objs.size + 1) scope.names (cloFrom X.env.cells scope.names [])) fp
  have pa := hcs s3 (upd H2 D (o D)) s3.heap.objs.size (cellsFrom (s3.heap.objs.size + 1) scope.names (cloFrom X.env.cells scope.names [])) fp
  have pw := hw D s3 (upd H2 D (o D)) s3.heap.objs.size (cellsFrom (s3.heap.objs.size + 1) scope.names (cloFrom X.env.cells scope.names [])) fp
  show codeAny _ _ (.compStart e 0 (.ref it) (.ref D) (compEnvC scope (cellsFrom (s3.heap.objs.size + 1) scope.names (cloFrom X.env.cells scope.names [])) s3.heap.objs.size X.env)) (compPost (model X.prog X.w) X.A X.xe use Qf (.ref D) s3.heap.objs.size) { s3 with heap := pushCells (s3.heap.push { cls := .type "dict", data := .dict #[] }) scope.names }
  have nfp : ∀ b ∈ fp, (upd H2 D (o D)) b = none := fun b hb => (f3 b hb).1.1
  generalize hce : compEnvC scope (cellsFrom (s3.heap.objs.size + 1) scope.names (cloFrom X.env.cells scope.names [])) s3.heap.objs.size X.env = ce at I4 pg pt pa pw ⊢
  have cL : ce.locals = s3.heap.objs.size := by subst hce; rfl
  generalize hH3 : upd H2 D (o D) = H3 at I3 I4 pg pt pa pw lp nfp f3
  generalize hs4 : ({ s3 with heap := pushCells (s3.heap.push { cls := .type "dict", data := .dict #[] }) scope.names } : Shared) = s4 at I4 ⊢
  have st4 : tn 0 s4.heap := T.keep _ _ _ st3 fun b _ o e => by rw [← hs4]; exact pushCells_keeps _ _ _ _ (Heap.get?_push_of_some _ e)
  have loop : codeAny (model X.prog X.w) X.A (.compLoop e 0 (.ref it) (.ref D) ce) (compPost (model X.prog X.w) X.A X.xe use Qf (.ref D) s3.heap.objs.size) s4 := by
    refine loop_run (Y := X.blk s3 H3 scope ce fp) (what := what (.ref D) ce) rfl hc hE (fun k t i ifs it => hL k t i ifs it _ _) (fun k t i ifs t1 i1 ifs1 it => hM k t i ifs t1 i1 ifs1 it _ _) pw cs c 0 [] σ (own.map (·.2)) H3 s4 J fp it tn (Q (.ref D)) _ rfl pg pt pa hch T I4 st4 nfp
      (fun σ' H' s' I' hn b hb => ⟨hn b hb, (I'.ok.exf b hb).1, I'.ok.exfs b hb, .inl hb, fun x c e => (I'.ok.exf b hb).2 x c e, fun p hp => absurd (show p ∈ ([] : List (Addr × Obj)) ++ [] from hp) (by simp)⟩) lp fun s6 H5 I6 qq => ?_
    have I7 : Inv X pins σ H5 s6 := I3.call' (ch := fp) I6.os I6.base I6.hok I6.bare fun b hb => ⟨(f3 b hb).1.2.2.2.1, (f3 b hb).1.2.1, (f3 b hb).1.2.2.2.2.1, (f3 b hb).1.2.2.2.2.2⟩
    have nC : H5 s3.heap.objs.size = none := by
      have z : H5 ce.locals = none := I6.free
      rw [cL] at z
      exact z
    obtain ⟨m, hn, _⟩ := I6.loc
    have hn : s6.heap.Ns ce.locals m := hn
    rw [cL] at hn
    exact hRR D s3.heap.objs.size s6 m H5 I7 qq hn (I3.fpOk (Nat.le_refl _) nC)
  refine startG (g := c.gen) hE ?_ rfl loop (T.self X.A 0 _ _ _ st4 loop)
  rw [hcl]
  rfl
/-! lists -/
def emL (te : TE) (D : Addr) : TIn := fun σ H Nx => te σ H fun y H1 => ∃ acc, H1 D = some (.lst acc) ∧ acc.length < sizeLine ∧ Nx (upd H1 D (.lst (acc ++ [y])))
def tLcG (c : Cls) (cs : List Cls) (te : TE) (vs : List Nat) : TE := fun σ H Q => c.wi σ H fun J H1 => ∀ D, H1 D = none → tLoop c (tIn (emL te D) cs) J σ vs (upd H1 D (.lst [])) (Q (.ref D))
theorem emL_ok {te : TE} {D : Addr} (he : BlkR X scope fun Y => PE Y elt te) : BlkR X scope fun Y => ∀ pins σ H s Nx (F : Shared → Prop), Inv Y pins σ H s → emL te D σ H Nx → (∀ s' H', Inv Y pins σ H' s' → Nx H' → F s') →
    wpAny (model Y.prog Y.w) Y.A (do let _ ← call (.builtin "list.append") [.ref D, ← eval elt Y.env]) (fun _ s' => F s') (fun _ _ => False) s := fun s0 H0 C cl fp pins σ H s Nx F I h k => by
  refine wpAny_bind (thnF ((he s0 H0 C cl fp).run pins s σ H _ I h) fun z s1 ⟨yv, H1, I1, r1, acc, hD, hz, nx⟩ => ?_)
  exact wpAny_bind (app_ok I1 hD hz r1 fun s2 I2 => wpAny_pure (k s2 _ I2 nx))
theorem lcG_core {pins : List (Addr × Obj)} {s : Shared} {σ : L2.St} {H : Hp} {Q : VK} {c : Cls} {cs : List Cls} {own : List (Str × Nat)} {te : TE} {pos' : Pos} {use : Option (Value → Sem Unit)} {Qf : Value → Shared → Prop}
    (hc : X.calm = true) (hN : X.N.Nodup) (I : Inv X pins σ H s) (hi : PI X c.tg c.iter c.wi) (ok : BlkOk X.N X.env.scope scope own)
    (hg : BlkR X scope fun Y => PG Y c.tg c.g) (ht : BlkR X scope fun Y => PTs Y c.ifs c.tt) (hcs : BlkR X scope fun Y => AllCl Y cs) (hch : ChainV (own.map (·.2)) cs) (he : BlkR X scope fun Y => PE Y elt te) (hs : ∀ x, foldedSetIterable c.iter X.env x = pure x)
    (h : tLcG c cs te (own.map (·.2)) σ H Q)
    (hRR : ∀ D C s' m H', Inv X pins σ H' s' → Q (.ref D) H' → s'.heap.Ns C m → FpOk X pins H' C → compPost (model X.prog X.w) X.A X.xe use Qf (.ref D) C (.ok .next) s') :
    wpAny (model X.prog X.w) X.A (comprehension (.ListComp elt ((c :: cs).map Cls.gen) scope pos) scope X.env pos' (newList []) false (eval c.iter X.env) use) Qf X.xe s :=
  outerG (elt := elt) (pos := pos) (o := fun _ => .lst []) (ob := { cls := .type "list", data := .seq ([] : List Value).toArray }) (em := emL te) (what := fun acc env => do let _ ← call (.builtin "list.append") [acc, ← eval elt env]) hc hN I (.inl rfl) hi ok hg ht hcs hch hs
    (fun k t i ifs it acc env => lastL) (fun k t i ifs t1 i1 ifs1 it acc env => midL) (fun s2 Q q => wpAny_newObj_type q (by show 0 ≤ sizeLine; decide))
    (fun H' h _ => ⟨Nat.zero_le _, [], 0, .nil, Heap.get?_push_size _ rfl⟩) (fun D => emL_ok he) h hRR
/-- [e for .. for .. ..] -/
theorem pe_lcG {c : Cls} {cs : List Cls} {own : List (Str × Nat)} {te : TE} (hc : X.calm = true) (hN : X.N.Nodup) (hi : PI X c.tg c.iter c.wi) (ok : BlkOk X.N X.env.scope scope own)
    (hg : BlkR X scope fun Y => PG Y c.tg c.g) (ht : BlkR X scope fun Y => PTs Y c.ifs c.tt) (hcs : BlkR X scope fun Y => AllCl Y cs) (hch : ChainV (own.map (·.2)) cs) (he : BlkR X scope fun Y => PE Y elt te) (hs : ∀ x, foldedSetIterable c.iter X.env x = pure x := by intro _; rfl) :
    PE X (.ListComp elt ((c :: cs).map Cls.gen) scope pos) (tLcG c cs te (own.map (·.2))) := by
  refine ⟨fun pins s σ H Q I h => ?_⟩
  rw [eval_ListComp]
  refine lcG_core hc hN I hi ok hg ht hcs hch he hs h fun D C s' m H' I' q hn f => ⟨m, hn, fun h'' sb => ?_⟩
  obtain ⟨f0, f1, f2, f3, f4, f5⟩ := f
  exact ⟨.ref D, H', I'.turned (t' := s'.toks) (fun b o hb e => (sb.2 b hb).trans e) f0 f1 f3 f4 f5, rfl, q⟩
/-- y = [e for .. for .. ..] -/
theorem ps_setLcG {i : Nat} {y : Str} {py : Pos} {spos : Pos} {c : Cls} {cs : List Cls} {own : List (Str × Nat)} {te : TE} (hc : X.calm = true) (hN : X.N.Nodup) (hy : X.N[i]? = some y) (hyl : X.env.scope.names.lookup y = some .local)
    (hsw : swapsWith (.ListComp elt ((c :: cs).map Cls.gen) scope pos) (some (.Name y py)) spos.line X.env = pure true) (hi : PI X c.tg c.iter c.wi) (ok : BlkOk X.N X.env.scope scope own)
    (hg : BlkR X scope fun Y => PG Y c.tg c.g) (ht : BlkR X scope fun Y => PTs Y c.ifs c.tt) (hcs : BlkR X scope fun Y => AllCl Y cs) (hch : ChainV (own.map (·.2)) cs) (he : BlkR X scope fun Y => PE Y elt te) (hs : ∀ x, foldedSetIterable c.iter X.env x = pure x := by intro _; rfl) :
    PS X (.Assign [.Name y py] (.ListComp elt ((c :: cs).map Cls.gen) scope pos) spos) (tAsg (tLcG c cs te (own.map (·.2))) (gName i)) := by
  refine ⟨fun pins s σ H D I h => ?_⟩
  rw [exec_Assign_Name_used _ _ _ _ hsw]
  refine wpAny_bind (wpAny_standAt (wpAny_bind ?_))
  show wpAny _ X.A (do let _ ← comprehension (.ListComp elt ((c :: cs).map Cls.gen) scope pos) scope X.env (firstIterPos ((c :: cs).map Cls.gen) pos) (newList []) false (eval c.iter X.env) (some (assign (.Name y py) X.env))) _ _ s
  have h : tLcG c cs te (own.map (·.2)) σ H (fun x H1 => gName i x σ H1 D.nx) := h
  refine wpAny_bind (thn (lcG_core (Qf := fun _ s' => SP X pins D .next s') hc hN I hi ok hg ht hcs hch he hs h fun L C s' m H' I' q hn f => ?_) fun _ s' hq => wpAny_pure (wpAny_pure hq))
  show wpAny _ _ (assign (.Name y py) X.env (.ref L)) _ _ _
  refine wpAny_assign_Name (store_ok2 (v := V.ref L) I' hN hy (.inl hyl) rfl (fun s2 I2 ⟨a, sb, ha⟩ => ?_) (.inr hyl))
  obtain ⟨f0, f1, f2, f3, f4, f5⟩ := f
  have haC : C ≠ a := by
    rcases ha with z | z
    · rw [z]; exact f1
    · exact fun e => f4 y a z e.symm
  refine ⟨m, hn.sameBut sb haC, fun h3 sb3 => ?_⟩
  exact ⟨_, H', I2.turned (t' := s2.toks) (fun b o hb e => (sb3.2 b hb).trans e) f0 f1 f3 f4 f5, q⟩
/-! sets of ints -/
def emS (w : World) (te : TE) (D : Addr) : TIn := fun σ H Nx => te σ H fun y H1 => ∃ (k : Int) (S : Int → Bool) (n : Nat), y = .int k ∧ H1 D = some (SetO w D S n) ∧ n + 1 < scanBound ∧ Nx (upd H1 D (SetO w D (fun j => S j || decide (j = k)) (if S k = true then n else n + 1)))
def tScG (w : World) (c : Cls) (cs : List Cls) (te : TE) (vs : List Nat) : TE := fun σ H Q => c.wi σ H fun J H1 => ∀ D, H1 D = none → tLoop c (tIn (emS w te D) cs) J σ vs (upd H1 D (SetO w D (fun _ => false) 0)) (Q (.ref D))
theorem emS_ok {te : TE} {D : Addr} (he : BlkR X scope fun Y => PE Y elt te) : BlkR X scope fun Y => ∀ pins σ H s Nx (F : Shared → Prop), Inv Y pins σ H s → emS X.w te D σ H Nx → (∀ s' H', Inv Y pins σ H' s' → Nx H' → F s') →
    wpAny (model Y.prog Y.w) Y.A (do let v ← eval elt Y.env; standAt elt.pos; let _ ← call (.builtin "set.add") [.ref D, v]) (fun _ s' => F s') (fun _ _ => False) s := fun s0 H0 C cl fp pins σ H s Nx F I h k => by
  refine wpAny_bind (thnF ((he s0 H0 C cl fp).run pins s σ H _ I h) fun z s1 ⟨yv, H1, I1, r1, n, S, m, ey, hD, hz, nx⟩ => ?_)
  subst ey
  obtain ⟨tk, rfl⟩ : ∃ tk, z = .int n tk := r1
  refine wpAny_bind (wpAny_standAt (wpAny_bind (setR_add (setO_get I1 hD) hz fun h' sb R => wpAny_pure (k _ _ (I1.write (e := D) (t' := s1.toks + 1) (by rw [hD]; trivial) (.inl rfl) (fun b u hb hu => (sb.2 b hb).trans hu) ?_ (setO_new R)) nx))))
  obtain ⟨o, _, _, _, ho, _⟩ := R
  exact ⟨o, ho⟩
/-- {e for .. for .. ..}, e an int -/
theorem pe_scG {c : Cls} {cs : List Cls} {own : List (Str × Nat)} {te : TE} (hc : X.calm = true) (hN : X.N.Nodup) (hi : PI X c.tg c.iter c.wi) (ok : BlkOk X.N X.env.scope scope own)
    (hg : BlkR X scope fun Y => PG Y c.tg c.g) (ht : BlkR X scope fun Y => PTs Y c.ifs c.tt) (hcs : BlkR X scope fun Y => AllCl Y cs) (hch : ChainV (own.map (·.2)) cs) (he : BlkR X scope fun Y => PE Y elt te) (hs : ∀ x, foldedSetIterable c.iter X.env x = pure x := by intro _; rfl) :
    PE X (.SetComp elt ((c :: cs).map Cls.gen) scope pos) (tScG X.w c cs te (own.map (·.2))) := by
  refine ⟨fun pins s σ H Q I h => ?_⟩
  rw [eval_SetComp]
  refine outerG (elt := elt) (pos := pos) (o := fun a => SetO X.w a (fun _ => false) 0) (ob := { cls := .type "set", dict := none, data := .set #[] 0 (.fresh 0 0 (!X.w.params.followText "set-order")) }) (em := emS X.w te) (what := fun acc env => do let v ← eval elt env; standAt elt.pos; let _ ← call (.builtin "set.add") [acc, v]) hc hN I (.inr (.inl rfl)) hi ok hg ht hcs hch hs
    (fun k t i ifs it acc env => lastS) (fun k t i ifs t1 i1 ifs1 it acc env => midS) (fun s2 Q q => newSet_ok q) (fun H' h _ => setO_new (setR_fresh X.w)) (fun D => emS_ok he) h fun D C s' m H' I' q hn f => ⟨m, hn, fun h'' sb => ?_⟩
  obtain ⟨f0, f1, f2, f3, f4, f5⟩ := f
  exact ⟨.ref D, H', I'.turned (t' := s'.toks) (fun b o hb e => (sb.2 b hb).trans e) f0 f1 f3 f4 f5, rfl, q⟩
end
end Vx

/-! comprehensions of several clauses, told by data -/
namespace Vx
open PySem L2 PySem.Spec PyProof.Rows Evl RZ PpSet
variable [Tbs]
/-- what several clauses give: one after another -/
def catO {α β : Type} (f : α → Option (List β)) : List α → Option (List β)
  | [] => some []
  | x :: xs => (f x).bind fun ys => (catO f xs).bind fun zs => some (ys ++ zs)
theorem catO_snoc {α β : Type} {f : α → Option (List β)} : ∀ {xs : List α} {x : α} {zs : List β}, catO f (xs ++ [x]) = some zs → ∃ ys r, catO f xs = some ys ∧ f x = some r ∧ zs = ys ++ r
  | [], x, zs, h => by
    obtain ⟨r, h1, h2⟩ := bind_some h
    obtain ⟨q, h3, h4⟩ := bind_some h2
    cases h3; cases h4
    exact ⟨[], r, rfl, h1, by simp⟩
  | a :: xs, x, zs, h => by
    obtain ⟨r, h1, h2⟩ := bind_some h
    obtain ⟨q, h3, h4⟩ := bind_some h2
    cases h4
    obtain ⟨ys, r', h5, h6, h7⟩ := catO_snoc h3
    refine ⟨r ++ ys, r', ?_, h6, by rw [h7, List.append_assoc]⟩
    show (f a).bind _ = _
    rw [h1, Option.bind_some, h5, Option.bind_some]
theorem catO_take {α β : Type} {f : α → Option (List β)} : ∀ {xs : List α} {ys : List β} (n : Nat), catO f xs = some ys → ∃ zs ws, catO f (xs.take n) = some zs ∧ ys = zs ++ ws
  | xs, ys, 0, _ => ⟨[], ys, by simp [catO], rfl⟩
  | [], ys, n + 1, h => ⟨[], ys, by simp [catO], rfl⟩
  | a :: xs, ys, n + 1, h => by
    obtain ⟨r, h1, h2⟩ := bind_some h
    obtain ⟨q, h3, h4⟩ := bind_some h2
    cases h4
    obtain ⟨zs, ws, e1, e2⟩ := catO_take n h3
    refine ⟨r ++ zs, ws, ?_, by rw [e2, List.append_assoc]⟩
    show catO f (a :: xs.take n) = _
    show (f a).bind _ = _
    rw [h1, Option.bind_some, e1, Option.bind_some]
/-- all but D stays -/
structure Bt (D : Addr) (H H' : Hp) : Prop where
  but : Xb D H H'
  kp : Kp H H'
  n2 : ∀ q, H' D ≠ some (LamX.CodeO D q)
  ex0 : ∀ H0 : Hp, H0 D = none → Ex H0 H → Ex H0 H'
theorem Bt.refl {D : Addr} {H : Hp} (n : ∀ q, H D ≠ some (LamX.CodeO D q)) : Bt D H H := ⟨Xb.of (Ex.refl H), Kp.refl H, n, fun _ _ e => e⟩
theorem Bt.trans {D : Addr} {H H1 H2 : Hp} (a : Bt D H H1) (b : Bt D H1 H2) : Bt D H H2 := ⟨a.but.trans a.n2 b.but, a.kp.trans b.kp, b.n2, fun H0 n e => b.ex0 H0 n (a.ex0 H0 n e)⟩
theorem Bt.of {D : Addr} {H H' : Hp} (e : Ex H H') (n : ∀ q, H' D ≠ some (LamX.CodeO D q)) : Bt D H H' := ⟨Xb.of e, Kp.of e, n, fun _ _ e0 => e0.trans e⟩
theorem Bt.new {D : Addr} {H : Hp} {o : HO} (h : H D = none) (n : ∀ q, o ≠ LamX.CodeO D q) : Bt D H (upd H D o) := ⟨Xb.put (nc_none h), Kp.of (Ex.new h), fun q => by rw [upd_same]; exact fun z => n q (Option.some.inj z), fun _ _ e => e.trans (Ex.new h)⟩
theorem Bt.put {D : Addr} {H : Hp} {o : HO} (h : im H D = none) (m : ∀ q, H D ≠ some (LamX.CodeO D q)) (n : ∀ q, o ≠ LamX.CodeO D q) : Bt D H (upd H D o) := ⟨Xb.put m, Kp.put h, fun q => by rw [upd_same]; exact fun z => n q (Option.some.inj z), fun _ k e => Ex.mut e k m⟩
theorem Bt.ex {D : Addr} {H0 H H' : Hp} (b : Bt D H H') (e : Ex H0 H) (n : H0 D = none) : Ex H0 H' := b.ex0 H0 n e
/-- what is put together so far: kept by what only adds -/
structure CtOk {β : Type} (D : Addr) (Ct : Hp → List β → Prop) : Prop where
  ex : ∀ H H' zs, Ex H H' → Ct H zs → Ct H' zs
  nc : ∀ H zs, Ct H zs → ∀ q, H D ≠ some (LamX.CodeO D q)
/-- a part of the block puts ys to it -/
def InOk {β : Type} (t : TIn) (D : Addr) (Ct : Hp → List β → Prop) (lim : Nat) (σ : L2.St) (H : Hp) (ys : List β) : Prop := ∀ zs, Ct H zs → zs.length + ys.length ≤ lim → ∀ Nx : Hp → Prop, (∀ Hd, Bt D H Hd → Ct Hd (zs ++ ys) → Nx Hd) → t σ H Nx
section
variable {K : PySem.W.Frag} {σ : L2.St} {H H0 : Hp} {E : EnvD} {α β : Type} {enc : α → PyData} {xs : List α} {ys : List β} {D : Addr} {Ct : Hp → List β → Prop} {lim : Nat} {bind : α → EnvD} {ts : List Nat}
/-- the turns, by what each adds -/
theorem loop_ok {c : Cls} {rest : TIn} {J : It} {vs : List Nat} {H1 : Hp} {zs : List β} {G : Hp → Prop} {Nx : Hp → Prop} (hx : CtOk D Ct) (fn : α → Option (List β)) (h : catO fn xs = some ys) (S : Sl K H1 σ E) (hg : ∀ x, Gd K c.g ts (enc x) (wipE E vs) (bind x)) (hts : ∀ t ∈ ts, t ∈ vs)
    (w : Walk J (xs.map enc).length G (Yd K (xs.map enc))) (hG : ∀ Hc, Bt D H1 Hc → G Hc) (c0 : Ct H1 zs) (hl : zs.length + ys.length ≤ lim)
    (hb : ∀ x ∈ xs, ∀ r, fn x = some r → ∀ σ' H', Bt D H1 H' → Sl K H' σ' (bind x) → ∃ b, EvT c.tt σ' H' b ∧ (b = false → r = []) ∧ (b = true → ∀ H'', Ex H' H'' → InOk rest D Ct lim σ' H'' r))
    (k : ∀ Hd, Bt D H1 Hd → Ct Hd (zs ++ ys) → Nx Hd) : tLoop c rest J σ vs H1 Nx := by
  have hn : (xs.map enc).length = xs.length := List.length_map ..
  rw [hn] at w
  refine ⟨fun i m Hc => m = xs.length - i ∧ i ≤ xs.length ∧ Bt D H1 Hc ∧ ∃ y1, catO fn (xs.take i) = some y1 ∧ Ct Hc (zs ++ y1), ⟨xs.length, by simp, Nat.zero_le _, Bt.refl (hx.nc _ _ c0), [], by simp [catO], by rw [List.append_nil]; exact c0⟩, ?_⟩
  rintro i m Hc ⟨rfl, hi, bt, y1, e1, ct⟩
  by_cases hlt : i < xs.length
  · refine .inr ⟨w.goes i Hc hlt (hG _ bt), fun H' => i + 1 ≤ xs.length ∧ Bt D H1 H' ∧ ∃ y1, catO fn (xs.take (i + 1)) = some y1 ∧ Ct H' (zs ++ y1), fun H' p => ⟨xs.length - (i + 1), by omega, rfl, p.1, p.2⟩, fun x H' y => ?_⟩
    obtain ⟨x1, d, e2, dr⟩ := w.yields i Hc x H' hlt (hG _ bt) y
    have ex : xs[i]? = some xs[i] := List.getElem?_eq_getElem hlt
    rw [List.getElem?_map, ex] at e2
    cases e2
    have e3 : xs.take (i + 1) = xs.take i ++ [xs[i]] := by rw [List.take_add_one, ex]; rfl
    obtain ⟨y2, ws, e4, e5⟩ := catO_take (i + 1) h
    rw [e3] at e4
    obtain ⟨y1', r, e6, e7, e8⟩ := catO_snoc e4
    rw [e1] at e6
    cases e6
    subst e8
    have bt1 : Bt D H1 H' := bt.trans (Bt.of x1 (hx.nc _ _ (hx.ex _ _ _ x1 ct)))
    have S3 : Sl K H' (wipe σ vs) (wipE E vs) := (S.kp bt1.kp).wipe vs
    refine hg _ (wipe σ vs) H' x S3 dr _ fun σ' sb S4 => ⟨sb.wipe hts, ?_⟩
    obtain ⟨b, t1, t2, t3⟩ := hb xs[i] (List.getElem_mem hlt) r e7 σ' H' bt1 S4
    refine t1 H' (Ex.refl _) _ fun Hd x3 => ?_
    have ct3 := hx.ex _ _ _ (x1.trans x3) ct
    have b3 := Bt.of (D := D) x3 (hx.nc _ _ ct3)
    cases b with
    | false =>
      refine ⟨hlt, bt1.trans b3, y1, ?_, ct3⟩
      rw [e3, e4, t2 rfl, List.append_nil]
    | true =>
      refine t3 rfl Hd x3 (zs ++ y1) ct3 ?_ _ fun Hq bq cq => ⟨hlt, (bt1.trans b3).trans bq, y1 ++ r, by rw [e3, e4], by rw [← List.append_assoc]; exact cq⟩
      rw [e5] at hl
      simp only [List.length_append] at hl ⊢
      omega
  · have e : i = xs.length := by omega
    subst e
    rw [List.take_length, h] at e1
    cases e1
    exact .inl ⟨w.stops _ (hG _ bt), k _ bt ct⟩
/-- a clause within -/
theorem in_clause {c : Cls} {rest : TIn} (hx : CtOk D Ct) (fn : α → Option (List β)) (h : catO fn xs = some ys) (S : Sl K H σ E) (e0 : Ex H0 H) (hD : H0 D = none) (hi : ItD K H0 c.wi σ H (xs.map enc)) (hg : ∀ x, Gd K c.g ts (enc x) (wipE E c.vs) (bind x)) (hts : ∀ t ∈ ts, t ∈ c.vs)
    (hb : ∀ x ∈ xs, ∀ r, fn x = some r → ∀ σ' H', Bt D H H' → Sl K H' σ' (bind x) → ∃ b, EvT c.tt σ' H' b ∧ (b = false → r = []) ∧ (b = true → ∀ H'', Ex H' H'' → InOk rest D Ct lim σ' H'' r)) :
    InOk (fun σ H Nx => c.wi σ H fun J H1 => tLoop c rest J σ c.vs H1 Nx) D Ct lim σ H ys := fun zs ct hl Nx k => hi H (Ex.refl H) _ fun J H1 x1 w =>
  loop_ok hx fn h (S.ex x1) hg hts w (fun Hc bt => ⟨bt.kp, bt.ex (e0.trans x1) hD⟩) (hx.ex _ _ _ x1 ct) hl (fun x hm r hr σ' H' bt S' => hb x hm r hr σ' H' ((Bt.of x1 (hx.nc _ _ (hx.ex _ _ _ x1 ct))).trans bt) S') fun Hd bt cd => k Hd ((Bt.of x1 (hx.nc _ _ (hx.ex _ _ _ x1 ct))).trans bt) cd
/-- the last clause's own: a list -/
def CtL (K : PySem.W.Frag) (D : Addr) (encb : β → PyData) : Hp → List β → Prop := fun H zs => ∃ acc, H D = some (.lst acc) ∧ DrA K H acc (zs.map encb)
theorem ctL_ok {encb : β → PyData} : CtOk D (CtL K D encb) := ⟨fun H H' zs e ⟨acc, h1, h2⟩ => ⟨acc, e _ _ h1, h2.ex e⟩, fun H zs ⟨acc, h1, _⟩ => nc_of h1 fun _ z => nomatch z⟩
theorem in_lst {encb : β → PyData} {te : TE} {y : β} (h : EvP K te σ H (encb y)) : InOk (emL te D) D (CtL K D encb) sizeLine σ H [y] := fun zs ct hl Nx k => h H (Ex.refl H) _ fun v H1 x1 dr => by
  obtain ⟨acc, h1, h2⟩ := ct
  have hl : zs.length + 1 ≤ sizeLine := hl
  have h3 : acc.length = zs.length := by rw [h2.length, List.length_map]
  have hD := x1 _ _ h1
  have nim : im H1 D = none := im_none hD (fun _ z => nomatch z) fun _ _ z => nomatch z
  have kp : Kp H1 (upd H1 D (.lst (acc ++ [v]))) := Kp.put nim
  refine ⟨acc, hD, by omega, k _ ((Bt.of x1 (nc_of hD fun _ z => nomatch z)).trans (Bt.put nim (nc_of hD fun _ z => nomatch z) fun _ z => nomatch z)) ⟨acc ++ [v], upd_same, ?_⟩⟩
  rw [List.map_append]
  exact ((h2.ex x1).kp kp).append (.cons (dr.kp kp) .nil)
/-- [e for .. for .. ..] -/
theorem n_lcG {encb : β → PyData} {c : Cls} {cs : List Cls} {te : TE} {vs : List Nat} (fn : α → Option (List β)) (h : catO fn xs = some ys) (hl : ys.length ≤ 16777216) (S : Sl K H σ E) (hi : ItE K c.wi σ H (xs.map enc)) (hg : ∀ x, Gd K c.g ts (enc x) (wipE E vs) (bind x)) (hts : ∀ t ∈ ts, t ∈ vs)
    (hb : ∀ x ∈ xs, ∀ r, fn x = some r → ∀ D σ' H', H D = none → Bt D H H' → Sl K H' σ' (bind x) → ∃ b, EvT c.tt σ' H' b ∧ (b = false → r = []) ∧ (b = true → ∀ H'', Ex H' H'' → InOk (tIn (emL te D) cs) D (CtL K D encb) sizeLine σ' H'' r)) :
    EvN K (tLcG c cs te vs) σ H (ys.map encb) := fun H1 x1 Q q => hi H1 x1 _ fun J H2 x2 _ w D hD => by
  have x12 := x1.trans x2
  have b0 : Bt D H2 (upd H2 D (.lst [])) := Bt.new hD fun _ z => nomatch z
  refine loop_ok (H1 := upd H2 D (.lst [])) (zs := []) (Ct := CtL K D encb) (lim := sizeLine) ctL_ok fn h ((S.ex x12).ex (Ex.new hD)) hg hts w (fun Hc bt => (b0.trans bt).ex (Ex.refl _) hD) ⟨[], upd_same, .nil⟩ (by rw [sizeLine_eq]; simpa using hl) (fun x hm r hr σ' H' bt S' => ?_) fun Hd bt cd => ?_
  · exact hb x hm r hr D σ' H' (fresh_back x12 hD) (((Bt.of x12 (nc_none hD)).trans b0).trans bt) S'
  · obtain ⟨acc, h1, h2⟩ := cd
    exact q D acc Hd (fresh_back x2 hD) ((b0.trans bt).ex x2 (fresh_back x2 hD)) h1 h2
/-! a set of ints -/
def CtS (w : World) (D : Addr) : Hp → List Int → Prop := fun H zs => ∃ S n, H D = some (SetO w D S n) ∧ (∀ k, S k = true ↔ k ∈ zs) ∧ n ≤ zs.length
theorem ctS_ok {w : World} : CtOk D (CtS w D) := ⟨fun H H' zs e ⟨S, n, h1, h2⟩ => ⟨S, n, e _ _ h1, h2⟩, fun H zs ⟨S, n, h1, _⟩ => nc_set h1⟩
theorem in_set {w : World} {te : TE} {y : Int} (h : EvP K te σ H (.int y)) : InOk (emS w te D) D (CtS w D) 4000 σ H [y] := fun zs ct hl Nx k => h H (Ex.refl H) _ fun v H1 x1 dr => by
  obtain ⟨S, n, h1, h2, h3⟩ := ct
  have hl : zs.length + 1 ≤ 4000 := hl
  have hD := x1 _ _ h1
  have nim : im H1 D = none := im_none hD (fun _ z => nomatch z) fun _ _ z => nomatch z
  refine ⟨y, S, n, dr.of_int, hD, by unfold scanBound; omega, k _ ((Bt.of x1 (nc_set hD)).trans (Bt.put nim (nc_set hD) fun _ z => codeO_set z.symm)) ⟨_, _, upd_same, fun j => ?_, ?_⟩⟩
  · simp only [Bool.or_eq_true, decide_eq_true_eq, List.mem_append, List.mem_singleton, h2]
  · rw [List.length_append, List.length_singleton]
    split <;> omega
/-- sorted({e for .. for .. ..}) -/
theorem n_sortSc {w : World} {c : Cls} {cs : List Cls} {te : TE} {vs : List Nat} {ys : List Int} (fn : α → Option (List Int)) (h : catO fn xs = some ys) (hl : ys.length < 64) (S : Sl K H σ E) (hi : ItE K c.wi σ H (xs.map enc)) (hg : ∀ x, Gd K c.g ts (enc x) (wipE E vs) (bind x)) (hts : ∀ t ∈ ts, t ∈ vs)
    (hb : ∀ x ∈ xs, ∀ r, fn x = some r → ∀ D σ' H', H D = none → Bt D H H' → Sl K H' σ' (bind x) → ∃ b, EvT c.tt σ' H' b ∧ (b = false → r = []) ∧ (b = true → ∀ H'', Ex H' H'' → InOk (tIn (emS w te D) cs) D (CtS w D) 4000 σ' H'' r)) :
    EvN K (tCB (rSortedSet w) (tCons (tScG w c cs te vs) tNil)) σ H ((setI ys).map .int) := fun H1 x1 Q q => hi H1 x1 _ fun J H2 x2 _ w' D hD => by
  have x12 := x1.trans x2
  have b0 : Bt D H2 (upd H2 D (SetO w D (fun _ => false) 0)) := Bt.new hD fun _ z => codeO_set z.symm
  refine loop_ok (H1 := upd H2 D (SetO w D (fun _ => false) 0)) (zs := []) (Ct := CtS w D) (lim := 4000) ctS_ok fn h ((S.ex x12).ex (Ex.new hD)) hg hts w' (fun Hc bt => (b0.trans bt).ex (Ex.refl _) hD) ⟨_, _, upd_same, fun k => by simp, Nat.zero_le _⟩ (by simp; omega) (fun x hm r hr σ' H' bt S' => ?_) fun Hd bt cd => ?_
  · exact hb x hm r hr D σ' H' (fresh_back x12 hD) (((Bt.of x12 (nc_none hD)).trans b0).trans bt) S'
  · obtain ⟨S1, n, h1, h2, h3⟩ := cd
    have xd : Ex H1 Hd := (b0.trans bt).ex x2 (fresh_back x2 hD)
    rw [List.nil_append] at h2 h3
    refine ⟨D, S1, n, rfl, h1, by omega, fun ms p a1 a2 _ hp => ?_⟩
    rw [setI_of a1 fun k => (a2 k).trans (h2 k)]
    exact q p _ _ (fresh_back xd hp) (xd.trans (Ex.new hp)) upd_same DrA.of_ints
end
end Vx

/-! max(xs, default=d), max(xs) -/
namespace Vx
open PySem L2 PySem.Spec PyProof.Rows Evl RZ
variable [Tbs]
/-- the greatest of xs, d if there is none -/
def maxDf (d : Int) : List Int → Int
  | [] => d
  | x :: xs => xs.foldl (fun a y => if a < y then y else a) x
def rMaxDf (K : PySem.W.Frag) : List V → List V → Hp → VK → Prop := fun vs zs H Q => ∃ (a : Addr) (ns : List Int) (d : Int), vs = [V.ref a] ∧ zs = [.int d] ∧ SqL K H a (ns.map V.int) ∧ Q (.int (maxDf d ns)) H
theorem holdAll_ints {h : Heap} : ∀ {vs : List Value} {ns : List Int}, IntsAre vs ns → PySem.W.HoldAll h vs ns
  | [], [], _ => ⟨_, .nil⟩
  | v :: vs, n :: ns, i => by
    cases i with
    | cons _ t h2 =>
      obtain ⟨as, r⟩ := holdAll_ints (h := h) h2
      exact ⟨_, .cons (.int _ _) r⟩
  | [], _ :: _, i => by cases i
  | _ :: _, [], i => by cases i
theorem maxOf_is (x : Int) (xs : List Int) : PySem.W.maxOf x xs = maxDf 0 (x :: xs) := by
  unfold PySem.W.maxOf maxDf
  congr
  funext a y
  show (if decide (a < y) = true then y else a) = _
  by_cases h : a < y
  · rw [if_pos h, if_pos (decide_eq_true h)]
  · rw [if_neg h, if_neg (by simpa using h)]
section
variable {X : Cx}
theorem cr_maxDf (hc : X.calm = true) (hu : X.A.units + 64 < cLine) : CallRK X (.builtin "max") [Str.ofString "default"] (rMaxDf X.K) := by
  intro pins s σ H vs zs us ws Q I r rz h
  obtain ⟨a, ns, d, rfl, rfl, hs, q⟩ := h
  obtain ⟨its, rv, hl, _⟩ := I.list hs
  obtain rfl := Vals.ref1 r
  obtain ⟨w1, rfl, e1⟩ := vals1 rz
  obtain ⟨tk, rfl⟩ : ∃ tk, w1 = .int d tk := e1
  refine PySem.W.max_list_datum_default (I.ok.hd hc) hl.isList (holdAll_ints rv.ints) (by show X.A.units + 1 + 0 < _; omega) (fun e h' tk k => ?_) fun y ys i v h' tk e hi r k => ?_
  · subst e
    exact ⟨.int d, H, I.kept k, ⟨_, rfl⟩, q⟩
  · subst e
    obtain ⟨as, r⟩ := r
    rw [maxOf_is] at r
    cases r
    exact ⟨.int _, H, I.kept k, ⟨_, rfl⟩, q⟩
end
theorem cl_maxDf {X : Cx} (K : PySem.W.Frag) (hc : X.calm = true) (hu : X.A.units + 64 < cLine) (hK : X.K = K := by rfl) : CallRK X (.builtin "max") [Str.ofString "default"] (rMaxDf K) := by subst hK; exact cr_maxDf hc hu
theorem cl_max {X : Cx} (K : PySem.W.Frag) (hc : X.calm = true) (hK : X.K = K := by rfl) : CallR X (.builtin "max") (rMax K) := by subst hK; exact cr_max hc
section
variable {K : PySem.W.Frag} {σ : L2.St} {H : Hp} {te tb : TE}
theorem p_maxDf {ns : List Int} {d : Int} (ha : EvS K te σ H (ns.map .int)) (hb : EvP K tb σ H (.int d)) : EvP K (tCKw (rMaxDf K) (tCons te tNil) (tCons tb tNil)) σ H (.int (maxDf d ns)) := fun H1 x Q q =>
  ha H1 x _ fun a vs H2 x2 hs hd => hb H2 (x.trans x2) _ fun v H3 x3 dr => by
    rw [hd.ints] at hs
    rw [dr.of_int]
    exact ⟨a, ns, d, rfl, rfl, ex_l x3 hs, q _ H3 (x2.trans x3) .int⟩
theorem maxDf_mem {d : Int} : ∀ {ns : List Int}, ns ≠ [] → maxDf d ns ∈ ns ∧ ∀ y ∈ ns, y ≤ maxDf d ns
  | [], h => absurd rfl h
  | x :: xs, _ => by
    show xs.foldl (fun a y => if a < y then y else a) x ∈ x :: xs ∧ ∀ y ∈ x :: xs, y ≤ xs.foldl (fun a y => if a < y then y else a) x
    induction xs generalizing x with
    | nil => simp
    | cons z zs ih =>
      rw [List.foldl_cons]
      obtain ⟨h1, h2⟩ := ih (if x < z then z else x) (by simp)
      refine ⟨?_, fun y hy => ?_⟩
      · rcases List.mem_cons.mp h1 with e | e
        · rw [e]; split <;> simp
        · simp [e]
      · have h3 := h2 _ List.mem_cons_self
        rcases List.mem_cons.mp hy with e | e
        · refine Int.le_trans ?_ h3; subst e; split <;> omega
        · rcases List.mem_cons.mp e with e | e
          · refine Int.le_trans ?_ h3; subst e; split <;> omega
          · exact h2 y (List.mem_cons_of_mem _ e)
theorem p_maxL {ns : List Int} (ha : EvS K te σ H (ns.map .int)) (hn : ns ≠ []) : EvP K (tCB (rMax K) (tCons te tNil)) σ H (.int (maxDf 0 ns)) := fun H1 x Q q =>
  ha H1 x _ fun a vs H2 x2 hs hd => by
    rw [hd.ints] at hs
    refine ⟨a, ns, rfl, hs, (List.length_pos_iff.mpr hn), fun m h1 h2 => ?_⟩
    obtain ⟨h3, h4⟩ := maxDf_mem (d := 0) hn
    have e : m = maxDf 0 ns := Int.le_antisymm (h4 m h1) (h2 _ h3)
    rw [e]
    exact q _ H2 x2 .int
end
theorem ne_of_chk {α : Type} {xs : List α} {u : Unit} (h : chk (!xs.isEmpty) = some u) : xs ≠ [] := fun e => by
  subst e
  cases h
/-! clauses, for the generator -/
theorem all_nil {Y : Cx} : AllCl Y [] := trivial
theorem all_cons {Y : Cx} {c : Cls} {cs : List Cls} (a : PI Y c.tg c.iter c.wi) (b : PG Y c.tg c.g) (d : PTs Y c.ifs c.tt) (e : ∀ env x, foldedSetIterable c.iter env x = pure x) (h : AllCl Y cs) : AllCl Y (c :: cs) := ⟨⟨a, b, d, e⟩, h⟩
theorem ch_nil {vs : List Nat} : ChainV vs [] := trivial
theorem ch_cons {vs : List Nat} {c : Cls} {cs : List Cls} (h : ∀ i ∈ c.vs, i ∈ vs) (k : ChainV c.vs cs) : ChainV vs (c :: cs) := ⟨h, k⟩
theorem pe_scGw {X : Cx} (w : World) {elt : Expr} {scope : Scope} {pos : Pos} {c : Cls} {cs : List Cls} {own : List (Str × Nat)} {te : TE} (hc : X.calm = true) (hN : X.N.Nodup) (hi : PI X c.tg c.iter c.wi) (ok : BlkOk X.N X.env.scope scope own)
    (hg : BlkR X scope fun Y => PG Y c.tg c.g) (ht : BlkR X scope fun Y => PTs Y c.ifs c.tt) (hcs : BlkR X scope fun Y => AllCl Y cs) (hch : ChainV (own.map (·.2)) cs) (he : BlkR X scope fun Y => PE Y elt te) (hs : ∀ x, foldedSetIterable c.iter X.env x = pure x := by intro _; rfl) (hw : X.w = w := by rfl) :
    PE X (.SetComp elt ((c :: cs).map Cls.gen) scope pos) (tScG w c cs te (own.map (·.2))) := by
  subst hw
  exact pe_scG hc hN hi ok hg ht hcs hch he hs
end Vx

/-! set(t), t a tuple of tuples of ints -/
namespace Vx
open PySem L2 PySem.Spec PyProof.Rows Evl RZ
variable [Tbs]
abbrev tiO (l : Addr) : Obj := { cls := .type "tuple_iterator", data := .fields #[.ref l, .int 0 0] }
/-- what set.__init__ leaves -/
abbrev FilledT (P : Program) (w : World) (s : Shared) (ks : List (Addr × List Int)) (s2 : Shared) : Prop :=
  ∃ h2 k L es ep t, s2 = { s with heap := h2, toks := k } ∧ SetTR P w h2 s.heap.objs.size L es ep t ∧ Got ks ks.length L ∧ ∀ b o, s.heap.get? b = some o → h2.get? b = some o
section
variable {P : Program} {w : World} {A : Around} {E : Value → Shared → Prop} {s : Shared}
theorem fill_tups {l : Addr} {xs : Array Value} {ks : List (Addr × List Int)} (hh : A.in1.handled = none) (hl : s.heap.IsTuple l xs) (hi : xs.toList = ks.map fun p => Value.ref p.1) (hk : ∀ p ∈ ks, IsT P w s.heap p.2 p.1) (hb : ks.length < 64) (hu : A.in1.units + 2 < cLine) :
    wpAny (model P w) A (Builtin.«set.__init__» ⟨[.ref s.heap.objs.size, .ref l], []⟩) (fun f s2 => f = .done (.ret .none) ∧ FilledT P w s ks s2) E { s with heap := emH w s.heap } := by
  obtain ⟨⟨cl, dct, dat, slo⟩, g1, g2, m, g3⟩ := hl
  cases g2
  cases g3
  have len : xs.size = ks.length := by rw [← Array.length_toList, hi, List.length_map]
  have below : l < s.heap.objs.size := Heap.lt_size g1
  have up : (emH w s.heap).objs.size = s.heap.objs.size + 1 := Heap.size_push ..
  have here : (emH w s.heap).get? s.heap.objs.size = some (emO w) := Heap.get?_push_size _ rfl
  have isSet : Shared.TypeIs { s with heap := emH w s.heap } (.ref s.heap.objs.size) "set" := ⟨_, here, rfl⟩
  have g1' : (emH w s.heap).get? l = some { cls := .type "tuple", dict := dct, data := .seq xs m, slots := slo } := Heap.get?_push_of_some _ g1
  have isL : (emH w s.heap).IsTuple l xs := ⟨_, g1', rfl, m, rfl⟩
  have n1 := F.sub_tuple_set
  have n2 := F.sub_tuple_frozenset
  have n3 : (Value.type "tuple" == Value.type "dict") = false := by decide
  unfold Builtin.«set.__init__» noKeywords Builtin.Frozenset.updateFrom
  generalize it : pyIter = J
  wp_walk
  subst it
  refine wpAny_pyIter_tuple isL (wpAny_bind (wpAny_runValue ?_))
  have val : ∀ (i : Nat) (v : Value), xs[i]? = some v → ∃ p, ks[i]? = some p ∧ v = .ref p.1 := fun i v hv => by
    have q : xs.toList[i]? = some v := by rw [Array.getElem?_toList]; exact hv
    rw [hi, List.getElem?_map] at q
    cases hq : ks[i]? with
    | none => rw [hq] at q; cases q
    | some p => rw [hq] at q; exact ⟨p, rfl, (Option.some.inj q).symm⟩
  have gone : ∀ b, s.heap.objs.size ≤ b → s.heap.get? b = none := fun b hb => by
    cases q : s.heap.get? b with
    | none => rfl
    | some o => exact absurd (Nat.lt_of_lt_of_le (Heap.lt_size q) hb) (Nat.lt_irrefl _)
  refine set_update_tups ((Walks.tuple hh _ l (by show l ≠ (emH w s.heap).objs.size; rw [up]; exact Nat.ne_of_lt (Nat.lt_succ_of_lt below)) xs).toS) s.heap.objs.size (by show s.heap.objs.size ∉ [(emH w s.heap).objs.size, l]; simp only [List.mem_cons, List.not_mem_nil, or_false]; rw [up]; exact fun z => z.elim (Nat.ne_of_lt (Nat.lt_succ_self _)) (Nat.ne_of_gt below)) ks len hb val s.heap hk (gone _ (Nat.le_refl _))
    (fun b hb => gone b (by rw [List.mem_singleton.mp hb]; show s.heap.objs.size ≤ (emH w s.heap).objs.size; rw [up]; exact Nat.le_succ _)) (by show A.in1.units < _; omega) (xs.size - 0) 0 _ (by omega) (Nat.zero_le _) ⟨⟨_, Heap.get?_push_size _ rfl, rfl, rfl⟩, isL.push _⟩ (fun b o e => Heap.get?_push_of_some _ (Heap.get?_push_of_some _ e)) ?_ ?_
  · exact ⟨[], #[], 0, _, setTR_fresh (show ((emH w s.heap).push (tiO l)).get? s.heap.objs.size = some (emO w) from Heap.get?_push_of_some _ here), Got.zero ks⟩
  · intro ⟨h2, gs, dr, k, os⟩ L es ep t mv r g kp
    have e1 : gs = s.gens := mv.gens
    have e2 : dr = s.drawn := mv.drawn
    have e3 : os = s.os := mv.os
    subst e1 e2 e3
    rw [len] at g
    exact wpAny_pure (wpAny_pure ⟨rfl, h2, k, L, es, ep, t, rfl, r, g, kp⟩)
theorem call_set_tupT {l : Addr} {xs : Array Value} {ks : List (Addr × List Int)} {Q : Value → Shared → Prop} (hh : A.handled = none) (hl : s.heap.IsTuple l xs) (hi : xs.toList = ks.map fun p => Value.ref p.1) (hk : ∀ p ∈ ks, IsT P w s.heap p.2 p.1) (hb : ks.length < 64) (hu : A.units + 64 < cLine)
    (q : ∀ s2, FilledT P w s ks s2 → Q (.ref s.heap.objs.size) s2) : wpAny (model P w) A (call (.type "set") [.ref l]) Q E s := by
  obtain ⟨c, tl, x1⟩ := F.called_set.mro
  have x2 := F.called_set.made
  have x3 := F.called_set.sub
  have x4 := F.called_set.notType
  have x5 := F.called_set.canCreate
  have x6 := F.typeCall_set_1 (.ref l)
  have x7 := F.called_set.init.lookup
  have x8 := F.called_set.init.bind (.ref s.heap.objs.size)
  refine wpAny_call (codeAny_of_tree (show wpAny _ _ (callAny (.type "set") _) _ _ _ from wpAny_pure ⟨Code.quiet_builtin _ (by decide +kernel), codeAny_builtin F.entry_type_call ?_⟩))
  rw [Around.under_plain (weight_type_call_type "set" [.ref l] []) rfl]
  repeat (any_goals (first | assumption | wp_step))
  refine codeAny_mono (code_set_led1 (.ref l) (E := E) (Q₁ := fun v t => v = .ref s.heap.objs.size ∧ t = { s with heap := emH w s.heap }) ⟨rfl, rfl⟩) fun r t hr => ?_
  rcases r with e | f
  · exact hr
  rcases f with _ | _ | _ | v
  all_goals first | exact hr.elim | skip
  obtain ⟨rfl, rfl⟩ := hr
  repeat (any_goals (first | assumption | wp_step))
  have isSet : Shared.TypeIs { s with heap := emH w s.heap } (.ref s.heap.objs.size) "set" := ⟨_, Heap.get?_push_size _ rfl, rfl⟩
  refine codeAny_mono (codeAny_call_builtin (R := wants (fun r t => r = .none ∧ FilledT P w s ks t) E) F.called_set.init.plain F.entry_set_init (check_set_init_1 isSet (wpAny_mono (fill_tups hh hl hi hk hb (by have e : A.in1.in1.in1.units = A.units + 3 := rfl; omega)) (fun f t x => ?_) fun _ _ x => x))) fun r t hr => ?_
  · obtain ⟨rfl, x⟩ := x
    exact ⟨rfl, x⟩
  · rcases r with e | f
    · exact hr
    rcases f with _ | _ | _ | v
    all_goals first | exact hr.elim | skip
    obtain ⟨rfl, x⟩ := hr
    repeat (any_goals (first | assumption | wp_step))
    exact q _ x
end
/-- set(t), t a tuple of tuples of ints -/
def rSetOfTT (K : PySem.W.Frag) (P : Program) (w : World) : List V → Hp → VK → Prop := fun xs H Q => ∃ (l : Addr) (ks : List (Addr × List Int)), xs = [V.ref l] ∧ SqT K H l (ks.map fun p => V.ref p.1) ∧ (∀ p ∈ ks, SqT K H p.1 (p.2.map V.int)) ∧ ks.length < 64 ∧
  ∀ a L, H a = none → (∀ p ∈ L, p ∈ ks) → (∀ p ∈ ks, p.2 ∈ L.map (·.2)) → Q (.ref a) (upd H a (SetTO P w a L))
theorem cr_setOfTT {X : Cx} (hc : X.calm = true) (hu : X.A.units + 64 < cLine) : CallR X (.type "set") (rSetOfTT X.K X.prog X.w) := by
  intro pins s σ H xs us Q I r h
  obtain ⟨l, ks, rfl, hl, hk, hf, q⟩ := h
  rw [Vals.ref1 r]
  obtain ⟨its, rv, pl, hz⟩ := I.tuple hl
  refine call_set_tupT (I.ok.hd hc) pl (by simpa using refs_of_vals rv) (fun p hp => I.isT (hk p hp)) hf hu fun s2 f => ?_
  obtain ⟨h', tk, L, es, ep, t, rfl, R, g, k⟩ := f
  refine ⟨.ref s.heap.objs.size, upd H s.heap.objs.size (SetTO X.prog X.w s.heap.objs.size L), I.laid (t' := tk) k (Nat.le_refl _) (setTO_new R.t0), rfl, q _ L (I.hok.fresh (Nat.le_refl _)) (fun p hp => ?_) fun p hp => ?_⟩
  · exact List.mem_of_mem_take (g.sub p hp)
  · exact g.all p (by rw [List.take_length]; exact hp)
theorem cl_setTT {X : Cx} (K : PySem.W.Frag) (P : Program) (w : World) (hc : X.calm = true) (hu : X.A.units + 64 < cLine) (hK : X.K = K := by rfl) (hP : X.prog = P := by rfl) (hw : X.w = w := by rfl) : CallR X (.type "set") (rSetOfTT K P w) := by subst hK hP hw; exact cr_setOfTT hc hu
section
variable {K : PySem.W.Frag} {P : Program} {w : World} {σ : L2.St} {H : Hp} {te : TE}
theorem n_sortSetTT {xs : List (List Int)} (h : EvP K te σ H (eT (eT eI) xs)) (hl : xs.length < 64) : EvN K (tCB (rSortST K P w) (tCons (tCB (rSetOfTT K P w) (tCons te tNil)) tNil)) σ H ((setT xs).map (eT eI)) := fun H1 x Q q => h H1 x _ fun v H2 x2 dr => by
  obtain ⟨l, vs, rfl, hs, hd⟩ := dr.of_tup
  obtain ⟨ks, e1, e2, hk⟩ := tups_of hd
  rw [e1] at hs
  have sq : ∀ {H'}, Ex H2 H' → ∀ p ∈ ks, SqT K H' p.1 (p.2.map V.int) := fun {H'} e p hp => by
    obtain ⟨a, us, q1, q2, q3⟩ := ((hk p hp).ex e).of_tup
    cases q1
    rw [q3.ints] at q2
    exact q2
  refine ⟨l, ks, rfl, hs, sq (Ex.refl _), by rw [← List.length_map (f := (·.2)), e2]; exact hl, fun a L ha s1 s2 => ?_⟩
  have xa : Ex H2 (upd H2 a (SetTO P w a L)) := Ex.new ha
  refine ⟨a, L, rfl, upd_same, fun p hp => sq xa p (s1 p hp), fun L' p pm nd es hp => ?_⟩
  have eq : sortT (L.map (·.2)) = setT xs := sortT_congr ((List.perm_ext_iff_of_nodup nd (dd_nodup xs)).mpr fun k => by
    rw [dd_mem, ← e2]
    constructor
    · intro hk'
      obtain ⟨z, hz, rfl⟩ := List.mem_map.mp hk'
      exact List.mem_map.mpr ⟨z, s1 z hz, rfl⟩
    · intro hk'
      obtain ⟨z, hz, rfl⟩ := List.mem_map.mp hk'
      exact s2 z hz)
  have xp : Ex H2 (upd (upd H2 a (SetTO P w a L)) p (.lst (L'.map fun z => V.ref z.1))) := xa.trans (Ex.new hp)
  have da : DrA K (upd (upd H2 a (SetTO P w a L)) p (.lst (L'.map fun z => V.ref z.1))) (L'.map fun z => V.ref z.1) ((setT xs).map (eT eI)) := by
    rw [← eq, ← es]
    have := drA_pairs (K := K) (H := upd (upd H2 a (SetTO P w a L)) p (.lst (L'.map fun z => V.ref z.1))) (bs := L'.map fun z => (V.ref z.1, eT eI z.2)) fun b hb => by
      obtain ⟨z, hz, rfl⟩ := List.mem_map.mp hb
      exact (hk z (s1 z (pm.mem_iff.mp hz))).ex xp
    rw [List.map_map, List.map_map] at this
    rw [List.map_map]
    exact this
  exact q p _ _ (fresh_back (x2.trans xa) hp) (x2.trans xp) upd_same da
end
end Vx

/-! lambdas handed to a def that calls them -/
namespace Vx
open PySem L2 PySem.Spec PyProof.Rows Evl RZ LamX
variable [Tbs]
abbrev klo (X : Cx) (params : Arguments) (body : Expr) (scope : Scope) (pm : Value) (c' : Addr) (ctv : Value) : Obj := PySem.W.kla_obj "<lambda>" (X.env.qual ++ "<lambda>") params body scope (cloFrom X.env.cells scope.names []) pm c' ctv
section
variable {X : Cx} {pins : List (Addr × Obj)} {σ : L2.St} {H : Hp} {s : Shared}
theorem ex_tabled {P c' : Addr} {q : Str} {ps qs : Array Value} (hP : H P = some (.tbl ps)) (nC : H c' = none) (hm : (P, q) ∈ Tbs.l) (hT : TabS (upd (upd H P (.tbl qs)) c' (CodeO c' q)) P q) : Vx.Ex H (upd (upd H P (.tbl qs)) c' (CodeO c' q)) := by
  refine ⟨fun a o h n => ?_, fun a rs h => ?_, fun P' q' m t => ?_⟩
  · rw [upd_ne (ne_of_none h nC), upd_ne]
    · exact h
    · intro z
      subst z
      rw [hP] at h
      exact n ps (Option.some.inj h).symm
  · by_cases e : a = P
    · subst e
      exact ⟨qs, by rw [upd_ne (ne_of_none hP nC), upd_same]⟩
    · exact ⟨rs, by rw [upd_ne (ne_of_none h nC), upd_ne e]; exact h⟩
  · by_cases e : P' = P
    · subst e
      rw [Tbs.one P' q' q m hm]
      exact hT
    · obtain ⟨rs, h1, h2, h3⟩ := t
      refine ⟨rs, by rw [upd_ne (ne_of_none h1 nC), upd_ne e]; exact h1, h2, fun pos cv hc => ?_⟩
      obtain ⟨c, e1, e2⟩ := h3 pos cv hc
      refine ⟨c, e1, ?_⟩
      rw [upd_ne (ne_of_none e2 nC), upd_ne]
      · exact e2
      · intro z
        subst z
        rw [hP] at e2
        exact codeO_ne ps (Option.some.inj e2).symm
/-- the lambda is made -/
theorem lam_new {c P : Addr} {params : Arguments} {body : Expr} {scope : Scope} {pos : Pos} {E Q : Value → Shared → Prop} (I : Inv X pins σ H s) (TB : TabB X.base X.mg c P) (hcode : X.env.code = .ref c) (hm : (P, X.env.qual ++ "<lambda>") ∈ Tbs.l) (hT : Tabs Tbs.l H)
    (hdef : defaultsOf params X.env = ([], [])) (hfree : ∀ y ∈ scope.names, y.2 = .free → ∃ c, X.env.cells.lookup y.1 = some c)
    (h : ∀ (f c' : Addr) (pm ctv : Value) (H1 : Hp) (s' : Shared), Inv X pins σ H1 s' → Vx.Ex H H1 → s'.heap.get? f = some (klo X params body scope pm c' ctv) → H1 f = none → f ∉ frs X.stack → H1 c' = some (CodeO c' (X.env.qual ++ "<lambda>")) → Q (.ref f) s') :
    wpAny (model X.prog X.w) X.A (eval (.Lambda params body scope pos) X.env) Q E s := by
  obtain ⟨ps, hP, ht, ha⟩ := hT _ hm
  have hP : H P = some (.tbl ps) := hP
  refine PySem.W.kla_eval hdef ?_
  have hk := TB.bm.keeps I.bk
  have hp : s.heap.get? P = some { cls := .none, data := .fields ps } := I.hok P _ hP
  have away : ∀ f, s.heap.objs.size ≤ f → f ∉ frs X.stack := fun f hf z => (List.mem_cons.mp (I.stkSub _ z)).elim (fun e => absurd (show f < s.heap.objs.size by rw [e]; exact I.lt) (Nat.not_lt_of_le hf)) fun e => I.nofs hf e
  cases hc : codeAmong pos ps.toList with
  | some cv =>
    obtain ⟨c', rfl, hco⟩ := ha pos cv hc
    refine PySem.W.kla_makeFunctionHit (mg := X.mg) (c := c) (P := P) (ps := ps) (closure_ok hfree) I.ok.glob (I.mod.glob.keeps I.bk) hcode (TB.code.keeps I.bk) hp ht hc hk fun ctv h' tk hx hz => ?_
    exact h h'.objs.size c' _ ctv H _ (I.kept (t' := tk) fun b o e => Heap.get?_push_of_some _ (hx b o e)) (Vx.Ex.refl H) (Heap.get?_push_size _ rfl) (I.hok.fresh hz) (away _ hz) hco
  | none =>
    refine PySem.W.kla_makeFunction (mg := X.mg) (c := c) (P := P) (ps := ps) (closure_ok hfree) I.ok.glob (I.mod.glob.keeps I.bk) hcode (TB.code.keeps I.bk) hp ht hc TB.gP hk fun c' ctv h' tk hx hge hlt hrec htb => ?_
    obtain ⟨c2, oc, vs, t, e2, hoc, hd, hv⟩ := id hrec
    cases e2
    have nC : H c' = none := I.hok.fresh hge
    have nF : H h'.objs.size = none := I.hok.fresh (Nat.le_trans hge (Nat.le_of_lt hlt))
    have J := inv_table (t' := tk) (more := #[rawInt pos.line, rawInt pos.col, .ref c']) (h' := h'.push (klo X params body scope ((X.mg "__name__").getD .none) c' ctv)) I hP (fun b o hb e => Heap.get?_push_of_some _ (hx b o hb e)) (Heap.get?_push_of_some _ htb) hge ⟨oc, vs, t, Heap.get?_push_of_some _ hoc, hd, hv⟩
    have lst : (ps ++ #[rawInt pos.line, rawInt pos.col, .ref c']).toList = ps.toList ++ [rawInt pos.line, rawInt pos.col, .ref c'] := by simp
    have keep : ∀ b o, H b = some o → (∀ rs, o ≠ .tbl rs) → upd (upd H P (.tbl (ps ++ #[rawInt pos.line, rawInt pos.col, .ref c']))) c' (CodeO c' (X.env.qual ++ "<lambda>")) b = some o := fun b o e n => by
      rw [upd_ne (ne_of_none e nC), upd_ne (fun z => n ps (Option.some.inj (e.symm.trans (by rw [z]; exact hP))))]
      exact e
    have tabP : TabS (upd (upd H P (.tbl (ps ++ #[rawInt pos.line, rawInt pos.col, .ref c']))) c' (CodeO c' (X.env.qual ++ "<lambda>"))) P (X.env.qual ++ "<lambda>") := by
      refine ⟨_, by rw [upd_ne (ne_of_none hP nC), upd_same], by rw [lst]; exact PySem.TriplesOk_snoc _ _ _ _ ht, fun p' cv hcv => ?_⟩
      rw [lst] at hcv
      rcases among_app _ ht hcv with z | z
      · obtain ⟨c0, e1, e2⟩ := ha p' cv z
        exact ⟨c0, e1, keep _ _ e2 codeO_ne⟩
      · exact ⟨c', z, upd_same⟩
    refine h h'.objs.size c' _ ctv _ _ J (ex_tabled hP nC hm tabP) (Heap.get?_push_size _ rfl) ?_ (away _ (Nat.le_trans hge (Nat.le_of_lt hlt))) upd_same
    rw [upd_ne (Nat.ne_of_gt hlt), upd_ne (ne_of_none hP nF).symm]
    exact nF
/-! ### the lambda's names -/
structure LamP (sc scope : Scope) (ps : List Str) : Prop where
  kind : scope.kind = .function
  co : scope.isCoroutine = false
  gen : scope.isGenerator = false
  nocell : ∀ y ∈ scope.names, y.2 ≠ .cell
  par : ∀ x ∈ ps, scope.names.lookup x = some .local
  loc : ∀ y ∈ scope.names, y.2 = .local → y.1 ∈ ps
  nd : ps.Nodup
  free : ∀ y ∈ scope.names, y.2 = .free → sc.names.lookup y.1 = some .cell ∨ sc.names.lookup y.1 = some .free
def lamPB (sc scope : Scope) (ps : List Str) : Bool :=
  decide (scope.kind = .function) && !scope.isCoroutine && !scope.isGenerator && (scope.names.all fun y => !decide (y.2 = .cell)) && (ps.all fun x => decide (scope.names.lookup x = some .local)) && (scope.names.all fun y => !decide (y.2 = .local) || decide (y.1 ∈ ps)) && decide ps.Nodup && (scope.names.all fun y => !decide (y.2 = .free) || decide (sc.names.lookup y.1 = some .cell) || decide (sc.names.lookup y.1 = some .free))
theorem lamP_by {sc scope : Scope} {ps : List Str} (h : lamPB sc scope ps = true) : LamP sc scope ps := by
  unfold lamPB at h
  simp only [Bool.and_eq_true, Bool.or_eq_true, Bool.not_eq_true', decide_eq_true_eq, decide_eq_false_iff_not, List.all_eq_true] at h
  obtain ⟨⟨⟨⟨⟨⟨⟨h1, h2⟩, h3⟩, h4⟩, h5⟩, h6⟩, h7⟩, h8⟩ := h
  refine ⟨h1, h2, h3, h4, h5, fun y hy e => (h6 y hy).resolve_left fun z => z e, h7, fun y hy e => ?_⟩
  rcases h8 y hy with (z | z) | z
  · exact absurd e z
  · exact .inl z
  · exact .inr z
theorem LamP.has {scope : Scope} {ps : List Str} (L : LamP X.env.scope scope ps) (ok : X.Ok) : ∀ y ∈ scope.names, y.2 = .free → ∃ c, X.env.cells.lookup y.1 = some c := fun y hy e => (L.free y hy e).elim (fun k => ok.has _ (.inl k)) fun k => ok.has _ (.inr k)
/-- the slots is take vs -/
def setL : L2.St → List Nat → List V → L2.St
  | σ, i :: is, v :: vs => setL (σ.set i (some v)) is vs
  | σ, _, _ => σ
theorem setL_len : ∀ (is : List Nat) (vs : List V) (σ : L2.St), (setL σ is vs).length = σ.length
  | [], _, _ => rfl
  | _ :: _, [], _ => rfl
  | i :: is, v :: vs, σ => by
    show (setL (σ.set i (some v)) is vs).length = _
    rw [setL_len is vs, List.length_set]
theorem setL_at : ∀ (is : List Nat) (vs : List V) (σ : L2.St) (i : Nat) (v : V), vs.length = is.length → (setL σ is vs)[i]? = some (some v) → (∃ j : Nat, is[j]? = some i ∧ vs[j]? = some v) ∨ (i ∉ is ∧ σ[i]? = some (some v))
  | [], [], _, i, v, _, h => .inr ⟨by simp, h⟩
  | [], _ :: _, _, _, _, e, _ => by simp at e
  | _ :: _, [], _, _, _, e, _ => by simp at e
  | k :: is, u :: vs, σ, i, v, e, h => by
    rcases setL_at is vs (σ.set k (some u)) i v (by simpa using e) h with ⟨j, h1, h2⟩ | ⟨h1, h2⟩
    · exact .inl ⟨j + 1, by simpa using h1, by simpa using h2⟩
    · by_cases hk : k = i
      · subst hk
        have hlt : k < σ.length := by
          obtain ⟨z, _⟩ := List.getElem?_eq_some_iff.mp h2
          simpa using z
        rw [List.getElem?_set_self hlt] at h2
        cases h2
        exact .inl ⟨0, rfl, rfl⟩
      · rw [List.getElem?_set_ne hk] at h2
        exact .inr ⟨by simp only [List.mem_cons, not_or]; exact ⟨fun z => hk z.symm, h1⟩, h2⟩
theorem lam_enter {A : Around} {outer : List Env} {E : XK} {scope : Scope} {f c' : Addr} {h₁ : Heap} {tk : Nat} {HZ : Hp} {s1 : Shared} {ps : List Str} {is : List Nat} {vs : List V} {us : List Value} (I : Inv X pins σ H s) (hN : X.N.Nodup) (L : LamP X.env.scope scope ps) (hat : is.map (fun i => X.N[i]?) = ps.map some) (hl : vs.length = is.length) (r : Vals vs us)
    (e0 : Env0 X.prog X.w X.K X.mg X.base A outer s1 HZ) (hd : A.handled = none) (un : Un (frs X.stack) [] H HZ s.heap s1.heap) (hns : h₁.Ns s1.heap.objs.size fun y => (ps.zip us).reverse.lookup y) (kp : ∀ b o, s1.heap.get? b = some o → h₁.get? b = some o) :
    Inv (lamCx X A outer s1 HZ E scope f c') [] (setL σ is vs) HZ { s1 with heap := h₁, toks := tk } := by
  have cm : ∀ {y c}, (cloFrom X.env.cells scope.names []).lookup y = some c → X.env.cells.lookup y = some c := fun {y c} e => NdefX.clo_cm (L.has I.ok) e
  have look : ∀ {y}, scope.names.lookup y = some .free → ∃ c, (cloFrom X.env.cells scope.names []).lookup y = some c := fun {y} k => mem_lookup (cloFrom_has (cells := X.env.cells) (acc := []) (PySem.mem_of_lookup k : (y, NameKind.free) ∈ scope.names))
  have cellK : ∀ {c : Addr} {v : Option Value}, H c = none → s.heap.IsCell c v → h₁.IsCell c v := fun {c v} n ⟨o, ho, hd⟩ => by
    obtain ⟨sl, q⟩ := un.any ho n (by simp)
    exact ⟨_, kp _ _ q, hd⟩
  have noA : ∀ b : Addr, b ∉ (lamCx X A outer s1 HZ E scope f c').ex := fun b z => absurd (show b ∈ ([] : List Addr) from z) (by simp)
  have par_at : ∀ {j i : Nat}, is[j]? = some i → ∃ y, ps[j]? = some y ∧ X.N[i]? = some y := fun {j i} e => by
    have q : (is.map fun i => X.N[i]?)[j]? = (ps.map some)[j]? := by rw [hat]
    rw [List.getElem?_map, List.getElem?_map, e] at q
    cases h : ps[j]? with
    | none => rw [h] at q; cases q
    | some y => rw [h] at q; exact ⟨y, rfl, Option.some.inj q⟩
  refine ⟨⟨e0.mod, L.kind, rfl, rfl, Nat.le_refl _, fun y z c e1 e2 => I.ok.inj y z c (cm e1) (cm e2), fun y hy => ?_, fun y c z _ => ?_, fun _ => hd, Around.frames_deeper e0.frames, .inr ⟨rfl, rfl⟩, fun b z => absurd z (noA b), e0.bs, e0.bsz, fun b _ _ => noA b, fun b z => absurd z (noA b), e0.funs, e0.frf⟩,
    rfl, e0.bare, Un.kept kp, ⟨_, hns, fun i y v e1 e2 e3 => ?_⟩, fun y c e => ?_, e0.hok.fresh (Nat.le_refl _), fun y c e => ?_, fun q hq => absurd (show q ∈ ([] : List (Addr × Obj)) ++ [] from hq) (by simp), e0.hok.kept kp, (setL_len is vs σ).trans I.len⟩
  · have hy : scope.names.lookup y = some .cell ∨ scope.names.lookup y = some .free := hy
    exact hy.elim (fun hy => absurd rfl (L.nocell _ (PySem.mem_of_lookup hy))) fun hy => look hy
  · have z : false = true := z
    cases z
  · have e1 : X.N[i]? = some y := e1
    rcases setL_at is vs σ i v hl e2 with ⟨j, hj, hv⟩ | ⟨hi, hv⟩
    · obtain ⟨y', hp, hn⟩ := par_at hj
      rw [e1] at hn
      cases hn
      obtain ⟨u, hu, rv⟩ := r.get hv
      exact ⟨u, rv, .inl ⟨L.par y (List.mem_of_getElem? hp), NdefX.zip_look L.nd hp hu⟩⟩
    · have e3 : Vis scope y := e3
      rcases e3 with k | k | k
      · exfalso
        obtain ⟨j, hj⟩ := List.mem_iff_getElem?.mp (L.loc _ (PySem.mem_of_lookup k) rfl)
        have q : (is.map fun i => X.N[i]?)[j]? = (ps.map some)[j]? := by rw [hat]
        rw [List.getElem?_map, List.getElem?_map, hj] at q
        cases h : is[j]? with
        | none => rw [h] at q; cases q
        | some i' =>
          rw [h] at q
          have q : X.N[i']? = some y := Option.some.inj q
          have : i' = i := by
            obtain ⟨l1, _⟩ := List.getElem?_eq_some_iff.mp q
            exact (List.getElem?_inj l1 hN).mp (q.trans e1.symm)
          exact hi (List.mem_iff_getElem?.mpr ⟨j, by rw [h, this]⟩)
      · exact absurd rfl (L.nocell _ (PySem.mem_of_lookup k))
      · obtain ⟨m, hn, hlo⟩ := I.loc
        have kx := L.free _ (PySem.mem_of_lookup k) rfl
        obtain ⟨w', rv, q⟩ := hlo i y v e1 hv (kx.elim (fun k => .inr (.inl k)) fun k => .inr (.inr k))
        obtain ⟨c2, h2⟩ := look k
        refine ⟨w', rv, .inr ⟨.inr k, c2, h2, ?_⟩⟩
        have c1 := cm h2
        rcases q with ⟨k', _⟩ | ⟨_, c3, e', z⟩
        · have k' : X.env.scope.names.lookup y = some .local := k'
          rcases kx with k2 | k2 <;> rw [show X.env.scope.names.lookup y = _ from k2] at k' <;> cases k'
        · rw [c1] at e'
          cases e'
          exact cellK (I.freeC y _ c1) z
  · obtain ⟨w', z⟩ := I.cell y c (cm e)
    exact ⟨w', cellK (I.freeC y c (cm e)) z⟩
  · obtain ⟨v, o, ho, hd⟩ := I.cell y c (cm e)
    exact un.free c o ho (I.freeC y c (cm e)) (by simp)
end
/-! ### what the def that gets it knows of it -/
/-- a(e, ..): the closure in slot i -/
def tAct (K : PySem.W.Frag) (i : Nat) (f : Addr) (H0 : Hp) (R : List Ag → PyData → Prop) (ta : TA) : TE := fun σ H Q => σ[i]? = some (some (.ref f)) ∧ ta σ H fun vs H1 => Vx.Ex H0 H1 ∧ ∃ as d, R as d ∧ AgsOk K H1 vs as ∧ ∀ v H2, Vx.Ex H1 H2 → Dr K H2 v d → Q v H2
/-- the closure at f does what R says, for the def entered at s, H from the frames outer -/
def ActP (P : Program) (w : World) (K : PySem.W.Frag) (mg : Str → Option Value) (base : Heap) (k : Nat) (A : Around) (outer : List Env) (s : Shared) (H : Hp) (f : Addr) (R : List Ag → PyData → Prop) : Prop :=
  ∀ (N : List Str) (qg : Str) (sg : Scope) (g : Addr) (cdg : Value) (E : XK) (i : Nat) (a : Str) (e : Expr) (es : List Expr) (ta : TA) (p1 p2 : Pos), Room (k + 1) (A.deeper (envOfC qg sg s.heap.objs.size g cdg)) → N[i]? = some a → Vis sg a →
    PA (cxOf (L2.CX P w) P w K mg base N qg sg g cdg A outer s H E) (e :: es) ta → (a == ("__debug__" : Str)) = false → (a == ("__classdict__" : Str)) = false →
    (∀ env, starEach (e :: es) env = (false, eval e env) :: starEach es env) → (∀ env, (backTo p2 (starEach es env)).any (·.1) = false) →
    PE (cxOf (L2.CX P w) P w K mg base N qg sg g cdg A outer s H E) (.Call (.Name a p1) (e :: es) [] p2) (tAct K i f H R ta)
/-- the lambda's body, read in its own frame, does what R says -/
def BodyOk (K : PySem.W.Frag) (tb : TE) (is : List Nat) (σ : L2.St) (H : Hp) (R : List Ag → PyData → Prop) : Prop := ∀ H1, Vx.Ex H H1 → ∀ as d vs, R as d → AgsOk K H1 vs as → vs.length = is.length ∧ ∀ Q : VK, (∀ v H2, Vx.Ex H1 H2 → Dr K H2 v d → Q v H2) → tb (setL σ is vs) H1 Q
abbrev noE : XK := fun _ _ _ => False
section
variable {X : Cx} {pins : List (Addr × Obj)} {σ : L2.St} {H H1 : Hp} {s : Shared}
theorem act_of {f c' : Addr} {pm ctv : Value} {params : Arguments} {body : Expr} {scope : Scope} {k : Nat} {tb : TE} {ps : List Str} {is : List Nat} {R : List Ag → PyData → Prop} (I : Inv X pins σ H s) (hN : X.N.Nodup) (L : LamP X.env.scope scope ps) (hat : is.map (fun i => X.N[i]?) = ps.map some)
    (hf : s.heap.get? f = some (klo X params body scope pm c' ctv)) (hfn : H f = none) (hfr : f ∉ frs X.stack) (hc : H c' = some (CodeO c' (X.env.qual ++ "<lambda>")))
    (hbind : ∀ us : List Value, us.length = ps.length → bindArgs (PySem.W.kla_fn "<lambda>" (X.env.qual ++ "<lambda>") params body scope (cloFrom X.env.cells scope.names []) pm (.ref c') ctv) ⟨us, []⟩ = pure (ps.zip us))
    (hbody : ∀ (A : Around) (outer : List Env) (s : Shared) (H : Hp), Room k (A.deeper (lamEnv X scope s.heap.objs.size f c')) → PE (lamCx X A outer s H noE scope f c') body tb) (hb : BodyOk X.K tb is σ H R) :
    ActP X.prog X.w X.K X.mg X.base k X.A X.stack s H f R := by
  intro N qg sg g cdg E i a e es ta p1 p2 hr hi hv ha hdb hcd he hpl
  refine ⟨fun pinsZ sZ σZ HZ Q IZ h => ?_⟩
  obtain ⟨hs, ht⟩ := h
  refine wpAny_Call_Name_kw (thn ((pe_var (pos := p1) (i := i) hi hv hdb hcd).run pinsZ sZ σZ HZ (fun v H1 => v = .ref f ∧ H1 = HZ) IZ ⟨.ref f, hs, rfl, rfl⟩) fun u s1 ⟨v, H1, I1, r1, q1⟩ => ?_)
  obtain ⟨rfl, eH⟩ := q1
  rw [eH] at I1
  obtain rfl : u = Value.ref f := r1
  have there : ∀ {pn : List (Addr × Obj)} {σ' : L2.St} {H' : Hp} {s' : Shared}, Inv (cxOf (L2.CX X.prog X.w) X.prog X.w X.K X.mg X.base N qg sg g cdg X.A X.stack s H E) pn σ' H' s' → s'.heap.get? f = some (klo X params body scope pm c' ctv) := fun I' =>
    I'.base.keep f _ hf hfn hfr fun z => nomatch (show f ∈ ([] : List Addr) from z)
  refine PySem.W.callWith_F (first := []) ⟨_, _, _, _, there I1⟩ (thn (ha.run p2 pinsZ s1 σZ HZ _ I1 ht) fun us s2 ⟨vs, H2, I2, r, ex, as, d, hR, ags, q⟩ => ⟨⟨_, _, _, _, there I2⟩, ?_⟩) (he _) (hpl _)
  show wpAny _ _ (call (.ref f) us) _ _ _
  obtain ⟨hl, tbq⟩ := hb H2 ex as d vs hR ags
  have hps : us.length = ps.length := by
    rw [← r.length, hl]
    have := congrArg List.length hat
    simpa using this
  have un : Un (frs X.stack) [] H H2 s.heap s2.heap := I2.base
  obtain ⟨⟨oc, ws, t, hoc, hdc, hvc⟩, _, _⟩ := I2.hok c' _ (ex.app c' _ hc (fun _ => codeO_ne _))
  have rc : codeAny (model X.prog X.w) (X.A.deeper (envOfC qg sg s.heap.objs.size g cdg)) (.call (.ref f) ⟨us, []⟩) (CR (L2.CX X.prog X.w) (envOfC qg sg s.heap.objs.size g cdg :: X.stack) X.prog X.w H2 s2 Q noE) s2 := by
    refine PySem.W.kla_callFunE hr.depth (there I2) rfl L.co L.gen rfl ⟨c', oc, ws, t, rfl, hoc, hdc, hvc⟩ ?_
    rw [hbind us hps]
    refine wpAny_pure (wpAny_newFunctionEnv L.nocell (fun ⟨n, _⟩ hy => L.par n (List.of_mem_zip hy).1) (fun h₁ hns hsb => ⟨I2.nolimit.fresh _ hsb, ?_⟩) L.kind)
    show codeAny _ _ (.expr body (lamEnv X scope s2.heap.objs.size f c')) _ _
    have kp : ∀ b o, s2.heap.get? b = some o → h₁.get? b = some o := fun b o e => hsb.extBut b o (Nat.ne_of_lt (Heap.lt_size e)) (Heap.get?_push_of_some _ e)
    have J : Inv (lamCx X (X.A.deeper (envOfC qg sg s.heap.objs.size g cdg)) (envOfC qg sg s.heap.objs.size g cdg :: X.stack) s2 H2 noE scope f c') [] (setL σ is vs) H2 { s2 with heap := h₁, toks := s2.toks + (ps.zip us).length } :=
      lam_enter I hN L hat hl r I2.env0 hr.hd un hns kp
    refine PySem.W.kla_codeExpr (wpAny_mono ((hbody _ _ s2 H2 (hr.deeper _)).run [] _ _ H2 Q J (tbq Q q)) (fun v s' hq => ?_) fun e s' hq => hq)
    obtain ⟨w', H', J', rv, q⟩ := hq
    exact ⟨w', H', J'.os, J'.bare, J'.base, J'.hok, rv, q⟩
  refine wpAny_call (codeAny_mono rc fun r s' hq => ?_)
  cases r with
  | error e =>
    obtain ⟨_, _, _, _, _, _, _, _, _, _, _, _, z⟩ := hq
    exact z.elim
  | ok fl =>
    cases fl with
    | ret u => exact I2.after hq
    | next => exact False.elim hq
    | brk => exact False.elim hq
    | cont => exact False.elim hq
/-- the def g, called with a datum and a closure that does what R says, hands back what Rg says -/
def GivesC (P : Program) (w : World) (K : PySem.W.Frag) (mg : Str → Option Value) (base : Heap) (k : Nat) (Ng : List Str) (x : Str) (sg : Scope) (g : Addr) (cdg : Value) (bg : List Stmt) (Rg : (List Ag → PyData → Prop) → Ag → Rt → Prop) : Prop :=
  ∀ (A : Around) (outer : List Env) (s : Shared) (H : Hp) (Q : VK) (E : XK) (v : V) (f : Addr) (a : Ag) (r : Rt) (R : List Ag → PyData → Prop), Room (k + 1) (A.deeper (envOfC x sg s.heap.objs.size g cdg)) → ActP P w K mg base k A outer s H f R → AgOk K H v a → Rg R a r → Tabs Tbs.l H → RtOk K H Q r →
    ∃ t, PSs (cxOf (L2.CX P w) P w K mg base Ng x sg g cdg A outer s H E) bg t ∧ t { nx := fun _ H' => Q .non H', rt := Q } (L2.start Ng [v, .ref f]) H
def tCallC (K : PySem.W.Frag) (te tb : TE) (is : List Nat) (Rg : (List Ag → PyData → Prop) → Ag → Rt → Prop) : TE := fun σ H Q => te σ H fun v H1 => Tabs Tbs.l H1 ∧ ∃ a r R, AgOk K H1 v a ∧ Rg R a r ∧ BodyOk K tb is σ H1 R ∧ RtOk K H1 Q r
/-- x(e, lambda ..: body) -/
theorem pe_callC {x : Str} {g c P : Addr} {k : Nat} {pg : Arguments} {bg : List Stmt} {sg : Scope} {dV kV doc pm cdv ct oc : Value} {an od : Option Addr} {osl : Array (Option Value)} {Ng pgs ps : List Str} {is : List Nat} {params : Arguments} {body e : Expr} {scope : Scope} {te tb : TE} {p lpos pos : Pos} {Rg : (List Ag → PyData → Prop) → Ag → Rt → Prop}
    (hN : X.N.Nodup) (hg : Gl X x) (hm : X.mg x = some (.ref g)) (hk : PySem.W.keepIn X.K (.ref g) = true) (lk : X.K.lookup g = some ⟨oc, od, .func (PySem.W.fnOf x x pg bg sg dV kV doc pm an cdv ct), osl⟩) (hcg : PySem.W.codeIn X.K cdv x = true)
    (hb : L2.Binds X.K (PySem.W.fnOf x x pg bg sg dV kV doc pm an cdv ct) pgs []) (h2 : pgs.length = 2) (Sg : FnScope Ng pgs sg) (hG : GivesC X.prog X.w X.K X.mg X.base k Ng x sg g cdv bg Rg)
    (TB : TabB X.base X.mg c P) (hcode : X.env.code = .ref c) (hmT : (P, X.env.qual ++ "<lambda>") ∈ Tbs.l) (hr : Room (k + 2) X.A) (L : LamP X.env.scope scope ps) (hat : is.map (fun i => X.N[i]?) = ps.map some) (hdef : defaultsOf params X.env = ([], []))
    (hbind : ∀ (q : Str) (cl : List (Str × Addr)) (pm cv ctv : Value) (us : List Value), us.length = ps.length → bindArgs (PySem.W.kla_fn "<lambda>" q params body scope cl pm cv ctv) ⟨us, []⟩ = pure (ps.zip us)) (he : PE X e te)
    (hbody : ∀ (A : Around) (outer : List Env) (s : Shared) (H : Hp) (f c' : Addr), Room k (A.deeper (lamEnv X scope s.heap.objs.size f c')) → PE (lamCx X A outer s H noE scope f c') body tb)
    (hst : starEach [e, .Lambda params body scope lpos] X.env = [(false, eval e X.env), (false, eval (.Lambda params body scope lpos) X.env)] := by rfl) (hdb : (x == ("__debug__" : Str)) = false := by decide) :
    PE X (.Call (.Name x p) [e, .Lambda params body scope lpos] [] pos) (tCallC X.K te tb is Rg) := by
  refine ⟨fun pins s σ H Q I h => ?_⟩
  refine wpAny_Call_Name_kw (ld_glob I hg hm ?_ hdb)
  refine PySem.W.callWith_K (h₀ := X.base) I.ok.mod.kin hk ?_ hst (by rfl)
  rw [hst]
  refine Calls.spliced_cons (thn (he.run pins s σ H _ I h) fun u s1 ⟨v, H1, I1, r1, hT, a, r, R, ha, hR, hbo, hq⟩ => ?_)
  refine Calls.spliced_cons (lam_new I1 TB hcode hmT hT hdef (L.has I1.ok) fun f c' pm' ctv H2 s2 I2 x2 hf hfn hfr hco => ?_)
  refine Calls.spliced_nil ⟨I2.kIn, ?_⟩
  have acts := act_of I2 hN L hat hf hfn hfr hco (hbind _ _ _ _ _) (fun A outer s H hr2 => hbody A outer s H f c' hr2) (fun H3 x3 as d vs => hbo H3 (x2.trans x3) as d vs)
  have rc : codeAny (model X.prog X.w) X.A (.call (.ref g) ⟨[u, .ref f], []⟩) (CR (L2.CX X.prog X.w) X.stack X.prog X.w H2 s2 Q noE) s2 := by
    refine run_ofS (N := Ng) (ps := pgs) (us := [u, .ref f]) (vs := [v, .ref f]) lk hcg Sg hr I2.env0 (by have b := hb s2 [u, .ref f] I2.kIn (by rw [h2]; rfl); rw [List.append_nil] at b; exact b) (.cons r1 (.cons rfl .nil)) (by rw [h2]; rfl) fun hr' => ?_
    refine hG X.A X.stack s2 H2 Q noE v f a r R hr' acts (AgOk.ex (K := X.K) x2 ha) hR (tabs_ex x2 hT) ?_
    cases r with
    | d d => exact fun v H' x dr => hq v H' (x2.trans x) dr
    | n ds => exact fun p vs H' hp x h1 dr => hq p vs H' (fresh_back x2 hp) (x2.trans x) h1 dr
    | k ds => exact fun p vs H' hp x h1 dr => hq p vs H' (fresh_back x2 hp) (x2.trans x) h1 dr
  refine wpAny_call (codeAny_mono rc fun r s3 hq => ?_)
  cases r with
  | error e =>
    obtain ⟨_, _, _, _, _, _, _, _, _, _, _, _, z⟩ := hq
    exact z.elim
  | ok fl =>
    cases fl with
    | ret u => exact I2.after hq
    | next => exact False.elim hq
    | brk => exact False.elim hq
    | cont => exact False.elim hq
end
section
variable {K : PySem.W.Frag} {σ : L2.St} {H H0 H' : Hp} {E : EnvD} {te tb : TE} {ta : TA} {as : List Ag} {d da : PyData} {R : List Ag → PyData → Prop} {i : Nat} {f : Addr} {is : List Nat}
/-- a call of the closure, in the def that got it -/
theorem p_act (S : Sl K H σ E) (hi : E[i]? = some (some (.raw (.ref f)))) (e0 : Vx.Ex H0 H) (h : EvG K ta σ H as) (hr : R as d) : EvP K (tAct K i f H0 R ta) σ H d := fun H1 x Q q =>
  ⟨S.raw hi, h H1 x _ fun vs H2 x2 d2 => ⟨(e0.trans (x.trans x2)), as, d, hr, d2, fun v H3 x3 dr => q v H3 (x2.trans x3) dr⟩⟩
theorem BodyOk.mono (x : Vx.Ex H H') (h : BodyOk K tb is σ H R) : BodyOk K tb is σ H' R := fun H1 y as d vs hr ha => h H1 (x.trans y) as d vs hr ha
/-- x(e, lambda ..) -/
theorem p_callC {Rg : (List Ag → PyData → Prop) → Ag → Rt → Prop} (t0 : Tabs Tbs.l H) (he : EvP K te σ H da) (hR : Rg R (.d da) (.d d)) (hb : BodyOk K tb is σ H R) : EvP K (tCallC K te tb is Rg) σ H d := fun H1 x Q q =>
  he H1 x _ fun v H2 x2 dr => ⟨tabs_ex (x.trans x2) t0, .d da, .d d, R, dr, hR, hb.mono (x.trans x2), fun v' H3 x3 d3 => q v' H3 (x2.trans x3) d3⟩
/-- what a function of one datum does -/
def R1 {α β : Type} (enc : α → PyData) (fn : α → Option β) (encb : β → PyData) : List Ag → PyData → Prop := fun as d => ∃ x z, as = [.d (enc x)] ∧ fn x = some z ∧ d = encb z
theorem b_one {α β : Type} {enc : α → PyData} {encb : β → PyData} (fn : α → Option β) (bind : α → EnvD) (S : Sl K H σ E) (hbd : ∀ x, E.set i (some (.dat (enc x))) = bind x) (h : ∀ x z, fn x = some z → ∀ σ' H', Vx.Ex H H' → Sl K H' σ' (bind x) → EvP K tb σ' H' (encb z)) : BodyOk K tb [i] σ H (R1 enc fn encb) := fun H1 x1 as d vs hr ha => by
  obtain ⟨x, z, rfl, hz, rfl⟩ := hr
  rcases ha with _ | @⟨v, vs, _, _, h1, ha⟩
  cases ha
  refine ⟨rfl, fun Q q => h x z hz (σ.set i (some v)) H1 x1 ?_ H1 (Vx.Ex.refl H1) Q q⟩
  rw [← hbd x]
  exact (S.ex x1).put i h1
end
theorem fun_okC {P : Program} {w : World} {K : PySem.W.Frag} {mg : Str → Option Value} {base : Heap} {x qual : Str} {st : Stmt} {f : Addr} {fd : FuncData} {N ps : List Str} {k : Nat} {sp : Sp} (F : Fun K x qual st f fd) (S : FnScope N ps (defScope st)) (len : ∀ vs H Q E, sp vs H Q E → vs.length = ps.length)
    (hbody : ∀ (A : Around) (outer : List Env) (s : Shared) (H : Hp) (vs : List V) (Q : VK) (E : XK), Room k (A.deeper (envOfC qual (defScope st) s.heap.objs.size f fd.code)) → sp vs H Q E →
      ∃ t, PSs (cxOf (L2.CX P w) P w K mg base N qual (defScope st) f fd.code A outer s H E) (defBody st) t ∧ t { nx := fun _ H' => Q .non H', rt := Q } (start N vs) H) : FnOk P w K mg base (L2.CX P w) (k + 1) f fd ps sp := by
  obtain ⟨oc, od, kV, doc, pm, an, cdv, ct, osl, rfl, lk, hcd⟩ := F.ex
  exact fn_of lk hcd S len fun A outer s H vs Q E hr hsp => hbody A outer s H vs Q E hr hsp
theorem pe_callCF {X : Cx} {x : Str} {st : Stmt} {g c P : Addr} {fd : FuncData} {k : Nat} {Ng pgs ps : List Str} {is : List Nat} {params : Arguments} {body e : Expr} {scope : Scope} {te tb : TE} {p lpos pos : Pos} {Rg : (List Ag → PyData → Prop) → Ag → Rt → Prop}
    (F : Fun X.K x x st g fd) (hb : L2.Binds X.K fd pgs []) (h2 : pgs.length = 2) (Sg : FnScope Ng pgs (defScope st)) (hG : ∀ cdv, GivesC X.prog X.w X.K X.mg X.base k Ng x (defScope st) g cdv (defBody st) Rg)
    (hN : X.N.Nodup) (hg : Gl X x) (hm : X.mg x = some (.ref g)) (hk : PySem.W.keepIn X.K (.ref g) = true) (TB : TabB X.base X.mg c P) (hcode : X.env.code = .ref c) (hmT : (P, X.env.qual ++ "<lambda>") ∈ Tbs.l) (hr : Room (k + 2) X.A)
    (L : LamP X.env.scope scope ps) (hat : is.map (fun i => X.N[i]?) = ps.map some) (hdef : defaultsOf params X.env = ([], []))
    (hbind : ∀ (q : Str) (cl : List (Str × Addr)) (pm cv ctv : Value) (us : List Value), us.length = ps.length → bindArgs (PySem.W.kla_fn "<lambda>" q params body scope cl pm cv ctv) ⟨us, []⟩ = pure (ps.zip us)) (he : PE X e te)
    (hbody : ∀ (A : Around) (outer : List Env) (s : Shared) (H : Hp) (f c' : Addr), Room k (A.deeper (lamEnv X scope s.heap.objs.size f c')) → PE (lamCx X A outer s H noE scope f c') body tb)
    (hst : starEach [e, .Lambda params body scope lpos] X.env = [(false, eval e X.env), (false, eval (.Lambda params body scope lpos) X.env)] := by rfl) (hdb : (x == ("__debug__" : Str)) = false := by decide) :
    PE X (.Call (.Name x p) [e, .Lambda params body scope lpos] [] pos) (tCallC X.K te tb is Rg) := by
  obtain ⟨oc, od, kV, doc, pm, an, cdv, ct, osl, rfl, lk, hcd⟩ := F.ex
  exact pe_callC hN hg hm hk lk hcd hb h2 Sg (hG cdv) TB hcode hmT hr L hat hdef hbind he hbody hst hdb
end Vx

/-! the end of a law whose defs make lambdas -/
namespace Vx
open PySem L2 PySem.Spec PyProof.Rows Evl RZ LamX PySem.W
/-- a code object whose table is P -/
def CodeOb (o : Obj) (c P : Addr) : Prop := ∃ vs file tf flags tg inF text tt, o.cls = .type "code" ∧ o.data = .fields vs ∧ vs[11]? = some (.ref P) ∧ vs.getD 11 .none = .ref P ∧ vs.getD 18 .none = .str file tf ∧ vs.getD 7 .none = .int flags tg ∧ vs.getD 9 .none = .bool inF ∧ vs.getD 10 .none = .int text tt ∧ c ≠ P
theorem CodeOb.hd {o : Obj} {c P : Addr} {h : Heap} (x : CodeOb o c P) (e : h.get? c = some o) : CodeHd h c P := by
  obtain ⟨vs, file, tf, flags, tg, inF, text, tt, a⟩ := x
  exact ⟨o, vs, file, tf, flags, tg, inF, text, tt, e, a⟩
theorem tabs_start {H : Hp} {l : List (Addr × Str)} (h : ∀ p ∈ l, H p.1 = some (.tbl #[])) : Tabs l H := fun p hp => TabS.nil (h p hp)
theorem tbs_one {l : List (Addr × Str)} (h : (l.map (·.1)).Nodup) : ∀ P q q', (P, q) ∈ l → (P, q') ∈ l → q = q' := by
  intro P q q' m m'
  induction l with
  | nil => cases m
  | cons p r ih =>
    obtain ⟨hn, hr⟩ := List.nodup_cons.mp h
    rcases List.mem_cons.mp m with e | m1 <;> rcases List.mem_cons.mp m' with e' | m2
    · exact congrArg Prod.snd (e.trans e'.symm)
    · exact (hn (List.mem_map.mpr ⟨_, m2, show P = p.1 from congrArg Prod.fst e⟩)).elim
    · exact (hn (List.mem_map.mpr ⟨_, m1, show P = p.1 from congrArg Prod.fst e'⟩)).elim
    · exact ih hr m1 m2
/-- what the end of a law wants of its code objects and their tables -/
structure CsOk (K : Frag) (h : Heap) (cs : List (Addr × Addr)) : Prop where
  tab : ∀ p ∈ cs, h.get? p.2 = some { cls := .none, data := .fields #[] }
  out : ∀ p ∈ cs, K.lookup p.2 = none
  hd : ∀ p ∈ cs, CodeHd h p.1 p.2
theorem CsOk.nil {K : Frag} {h : Heap} : CsOk K h [] := ⟨fun _ z => (nomatch z), fun _ z => (nomatch z), fun _ z => (nomatch z)⟩
theorem CsOk.cons {K : Frag} {h : Heap} {c P : Addr} {o : Obj} {cs : List (Addr × Addr)} (X : K.In h) (lc : K.lookup c = some o) (hc : CodeOb o c P) (lp : K.lookup P = none) (hp : h.get? P = some (tabObj #[])) (r : CsOk K h cs) : CsOk K h ((c, P) :: cs) :=
  ⟨fun p m => by
    rcases List.mem_cons.mp m with rfl | m
    · exact hp
    · exact r.tab p m, fun p m => by
    rcases List.mem_cons.mp m with rfl | m
    · exact lp
    · exact r.out p m, fun p m => by
    rcases List.mem_cons.mp m with rfl | m
    · exact hc.hd (X _ _ lc)
    · exact r.hd p m⟩
end Vx

/-! sum, enumerate(t, start=k), what is never reached, closures of a list and a datum -/
namespace Vx
open PySem L2 PySem.Spec PyProof.Rows Evl RZ LamX
section
variable {M : Model} {A : Around} {E : Value → Shared → Prop} {s : Shared} {env : Env}
theorem callWith_typeK {pos : Pos} {T : String} {e : Expr} {rest : List Expr} {kws : List Keyword} {Q : Value → Shared → Prop}
    (h : wpAny M A (spliced (backTo pos (starEach (e :: rest) env))) (fun vs s₁ => wpAny M A (evalAll ((backToKw pos (keywordEach kws env)).map (·.2)))
      (fun kvs s₂ => wpAny M A (call (.type T) vs (((backToKw pos (keywordEach kws env)).filterMap (·.1)).zip kvs)) Q E s₂) E s₁) E s)
    (he : backTo pos (starEach (e :: rest) env) = (false, eval e env) :: backTo pos (starEach rest env) := by rfl)
    (hplain : (backTo pos (starEach (e :: rest) env)).any (·.1) = false := by rfl)
    (hall : (backToKw pos (keywordEach kws env)).all (·.1.isSome) = true := by rfl)
    (hkw : (backToKw pos (keywordEach kws env)).any (·.1.isNone) = false := by rfl) :
    wpAny M A (callWith pos (.type T) [] (backTo pos (starEach (e :: rest) env)) (backToKw pos (keywordEach kws env))) Q E s := by
  unfold callWith
  have h2 : wpAny M A (evalArgs (.type T) true (backTo pos (starEach (e :: rest) env)) (backToKw pos (keywordEach kws env))) (fun a s₁ => wpAny M A (call (.type T) ([] ++ a.pos) a.kw) Q E s₁) E s := by
    rw [he] at h ⊢
    exact evalArgs_kwB hall h
  refine wpAny_bind (wpAny_holding (wpAny_mono h2 (fun a s₁ h₁ => wpAny_bind (wpAny_standAt ?_)) fun _ _ x => x))
  simp only [hplain, hkw, Bool.or_false]
  refine wpAny_bind (wpAny_pure ?_)
  exact wpAny_bind (wpAny_mono h₁ (fun r s₂ hr => wpAny_bind (wpAny_holding (wpAny_point (wpAny_pure hr)))) fun _ _ x => x)
end
variable [Tbs]
/-! enumerate(t, start=k) -/
def IteTS (K : PySem.W.Frag) (a : Addr) (k : Nat) : It :=
  ⟨fun i H => ∃ (xs : List V) (x : V), SqT K H a xs ∧ xs[i]? = some x, fun i H v H' => ∃ T x, v = .ref T ∧ H T = none ∧ H' = upd H T (.tup [.int ((i + k : Nat) : Int), x]) ∧ ∀ xs, SqT K H a xs → xs[i]? = some x, fun i H => ∃ xs : List V, SqT K H a xs ∧ xs.length ≤ i⟩
end Vx
namespace Vx
open PySem L2 PySem.Spec PyProof.Rows Evl RZ LamX
variable [Tbs]
theorem enumTS_end {prog : Program} {w : World} {A : Around} {E : Value → Shared → Prop} {s : Shared} {e it a : Addr} {i : Nat} {c : Int} {items : Array Value} {old : Value} {Q : Option Value → Shared → Prop} (hh : A.in1.handled = none)
    (he : IsEnum s.heap e it c old) (hit : s.heap.IsTupleIter it a i) (ht : s.heap.IsTuple a items) (hx : items[i]? = none)
    (hQ : ∀ h', Heap.ExtBut it s.heap h' → Q none { s with heap := h' }) : wpAny (model prog w) A (pyNext (.ref e)) Q E s := by
  have hT : s.TypeIs (.ref e) "enumerate" := ⟨_, he, rfl⟩
  unfold pyNext
  refine wpAny_bind (wpAny_attempt (wpAny_callSpecial?_slot (name := Str.ofString "__next__") hT F.slot_enumerate_next
    (wpAny_call_entry F.slot_enumerate_next hT F.entry_enumerate_next ?_ (F.args_enumerate_next_1 _))))
  show wpAny _ _ (field (.ref e) 2 >>= _) _ _ _
  refine wpAny_bind (wpAny_field he rfl (x := .ref it) rfl ?_)
  refine wpAny_bind (wpAny_nextOf_tuple_end hh hit ht hx fun h' x he' hx' => ?_)
  obtain ⟨o, ho, hc⟩ := hx'
  refine wpAny_bind (wpAny_isInstance (T := "StopIteration") (b := true) ⟨o, ho, hc⟩ isSubtype_stop ?_)
  exact wpAny_pure (hQ _ he')
theorem turn_enumTS {P : Program} {w : World} {K : PySem.W.Frag} {elts : List Expr} {kk : Nat} {tpos : Pos} (a e it : Addr) (k : Nat) :
    Turn P w K (.Tuple elts kk tpos) (IteTS K a k) [e, it] e (fun i h => (∃ old, IsEnum h e it ((i + k : Nat) : Int) old) ∧ h.IsTupleIter it a i ∧ e ≠ it ∧ a ≠ it ∧ a ≠ e) where
  mem := by simp
  obj := fun i h st b hb => by
    obtain ⟨⟨old, he⟩, ⟨o, ho, hc, hd⟩, _⟩ := st
    have e' : b = e ∨ b = it := by simpa using hb
    rcases e' with z | z
    · rw [z]; exact ⟨_, he, fun v q => nomatch q⟩
    · rw [z]; exact ⟨o, ho, fun v q => by rw [hd] at q; cases q⟩
  keep := fun i h h' st k => let ⟨⟨old, he⟩, hi, hne⟩ := st; ⟨⟨old, k e (by simp) _ he⟩, hi.at fun o q => k it (by simp) o q, hne⟩
  item := by
    intro X hP hw hK hc i pins s σ H E I hf st hg
    subst hP hw hK
    obtain ⟨⟨old, he⟩, hit, hne, hai, hae⟩ := st
    obtain ⟨xs, x, hq, hx⟩ := hg
    obtain ⟨its, rv, p, hz⟩ := I.tuple hq
    have p : s.heap.IsTuple a its.toArray := p
    obtain ⟨u, hu, ru⟩ := rv.get hx
    have hel : e < s.heap.objs.size := Heap.lt_size he
    have hil : it < s.heap.objs.size := by obtain ⟨_, q, _⟩ := hit; exact Heap.lt_size q
    have hin : i < its.length := by
      have := List.getElem?_eq_some_iff.mp hu
      exact this.1
    refine PySem.wpAny_pyNext_enum_itemC (Draws.tuple (prog := X.prog) (w := X.w) (A := X.A.in1) (hd_in (I.ok.hd hc)) it a hai its.toArray) he ⟨hit, p⟩ (by simpa using hin) hne (by simp [hne, Ne.symm hae]) fun x' h' tk hP ho hst hT hsz hk => ?_
    obtain ⟨hit', p'⟩ := hst
    have hxu : x' = u := by
      have hP' : its[i]? = some x' := by simpa using hP
      rw [hu] at hP'
      exact (Option.some.inj hP').symm
    subst hxu
    refine ⟨_, rfl, wpAny_letOwnedTupleGo_enum (s := { s with heap := h', toks := tk + 1 }) ho fun h'' he' sb => ?_⟩
    have hT2 : h''.get? s.heap.objs.size = some { cls := .type "tuple", data := .seq #[.int ((i + k : Nat) : Int) tk, x'] } := (sb.2 _ (Nat.ne_of_gt hel)).trans hT
    have new : ObjOk X.prog X.w (upd H s.heap.objs.size (.tup [.int ((i + k : Nat) : Int), x])) h'' s.heap.objs.size (.tup [.int ((i + k : Nat) : Int), x]) :=
      ⟨by show 2 ≤ sizeLine; decide, [.int ((i + k : Nat) : Int) tk, x'], .cons ⟨_, rfl⟩ (.cons ru .nil), ⟨_, hT2, rfl, _, rfl⟩⟩
    have I1 : Inv X pins σ (upd H s.heap.objs.size (.tup [.int ((i + k : Nat) : Int), x])) { s with heap := h'', toks := tk + 1 } :=
      I.turnedNew (ch := [e, it]) (fun b ob hb q => (sb.2 b (fun z => hb (by simp [z]))).trans (hk b ob (fun z => hb (by simp [z])) (fun z => hb (by simp [z])) q)) hf (Nat.le_refl _) new
    refine ⟨.ref s.heap.objs.size, _, I1, rfl, ⟨_, x, rfl, I.hok.fresh (Nat.le_refl _), rfl, fun ys hy => by rw [I.tuple_inj hy hq]; exact hx⟩, ⟨⟨x', ?_⟩, hit'.at fun o q => (sb.2 it (Ne.symm hne)).trans q, hne, hai, hae⟩, fun b hb => ?_⟩
    · have e1 : ((i + 1 + k : Nat) : Int) = ((i + k : Nat) : Int) + 1 := by omega
      rw [e1]; exact he'
    · have hb' : b < s.heap.objs.size := by
        have e' : b = e ∨ b = it := by simpa using hb
        rcases e' with z | z
        · rw [z]; exact hel
        · rw [z]; exact hil
      rw [upd_ne (Nat.ne_of_lt hb')]
      exact (hf b hb).1
  done := by
    intro X hP hw hK hc i pins s σ H E I hf st hg
    subst hP hw hK
    obtain ⟨⟨old, he⟩, hit, hne, hai, hae⟩ := st
    obtain ⟨xs, hq, hx⟩ := hg
    obtain ⟨its, rv, p, hz⟩ := I.tuple hq
    have p : s.heap.IsTuple a its.toArray := p
    obtain ⟨f0, f1, f2, f3, f4, f5⟩ := hf it (by simp)
    have hl := rv.length
    exact enumTS_end (hd_in (I.ok.hd hc)) he hit p (by simp; omega) fun h' eb => ⟨rfl, I.turned (t' := s.toks) (fun b o hb q => eb b o hb q) f0 f1 f3 f4 f5⟩
  self := fun A i s Q E st h => let ⟨⟨_, he⟩, _⟩ := st; wpAny_pyIter_enum he h
def iEnumTS (K : PySem.W.Frag) (k : Nat) (ta tk : TA) : TI := fun σ H R => ta σ H fun vs H1 => tk σ H1 fun zs H2 => ∃ a xs, vs = [.ref a] ∧ zs = [.int (k : Int)] ∧ SqT K H2 a xs ∧ R (IteTS K a k) H2
theorem pi_enumTS {X : Cx} {e ke : Expr} {ta tk : TA} {p pos tpos kp : Pos} {elts : List Expr} {kk : Nat} (k : Nat) (hk63 : k < 2 ^ 62) (hg : Gl X "enumerate") (hm : X.mg "enumerate" = none) (ha : PA X [e] ta) (hk : PK X [⟨some "start", ke, kp⟩] tk)
    (he : backTo pos (starEach [e] X.env) = (false, eval e X.env) :: backTo pos (starEach [] X.env) := by rfl) :
    PI X (.Tuple elts kk tpos) (.Call (.Name "enumerate" p) [e] [⟨some "start", ke, kp⟩] pos) (iEnumTS X.K k ta tk) := by
  refine ⟨fun pins s σ H R I h => ?_⟩
  refine wpAny_Call_Name_kw (ld_blt I hg hm boot_enumerate (callWith_typeK (thn (ha.run pos pins s σ H _ I h) fun us s0 ⟨vs, H0, I0, r0, q0⟩ => thn (hk.run pos pins s0 σ H0 _ I0 q0) fun ws s1 ⟨zs, H1, I1, r1, q1⟩ => ?_) he (by rw [he]; rfl)))
  obtain ⟨a, xs, rfl, rfl, hq, q⟩ := q1
  obtain ⟨w1, rfl, e1⟩ := vals1 r1
  obtain ⟨tk', rfl⟩ : ∃ tk, w1 = .int (k : Int) tk := e1
  cases r0 with
  | cons r rr =>
    cases rr
    cases r
    obtain ⟨its, rv, p', hz⟩ := I1.tuple hq
    have p' : s1.heap.IsTuple a its.toArray := p'
    have hal : a < s1.heap.objs.size := by obtain ⟨o, q, _⟩ := p'; exact Heap.lt_size q
    refine PySem.enum_begins_start (begins_tuple a its.toArray) p' (by omega) (by omega) fun h' he hit _ hk => wpAny_pyIter_enum he ?_
    have I2 : Inv X pins σ H1 { s1 with heap := h' } := I1.kept (t' := s1.toks) hk
    refine ⟨s1.heap.objs.size + 1, [s1.heap.objs.size + 1, s1.heap.objs.size], _, _, H1, rfl, I2, turn_enumTS a (s1.heap.objs.size + 1) s1.heap.objs.size k, ⟨⟨.none, by rw [Nat.zero_add]; exact he⟩, ⟨_, hit, rfl, rfl⟩, Nat.succ_ne_self _, Nat.ne_of_lt hal, Nat.ne_of_lt (Nat.lt_succ_of_lt hal)⟩, fun b hb => ?_, q⟩
    have e' : b = s1.heap.objs.size + 1 ∨ b = s1.heap.objs.size := by simpa using hb
    have hle : s1.heap.objs.size ≤ b := by
      rcases e' with z | z
      · rw [z]; exact Nat.le_add_right _ _
      · rw [z]; exact Nat.le_refl _
    exact I1.fpOk hle (I1.hok.fresh hle)
end Vx

namespace Vx
open PySem L2 PySem.Spec PyProof.Rows Evl RZ LamX
variable [Tbs]
section
variable {K : PySem.W.Frag} {σ : L2.St} {H H0 H' : Hp} {te tb tk : TE}
def enumDS (k : Nat) (ds : List PyData) : List PyData := ds.zipIdx.map fun p => prD (.int ((p.2 + k : Nat) : Int)) p.1
def enumLS {α : Type} (k : Nat) (xs : List α) : List (Int × α) := xs.zipIdx.map fun p => (((p.2 + k : Nat) : Int), p.1)
theorem walk_enumTS {a : Addr} {xs : List V} {k : Nat} : Walk (IteTS K a k) xs.length (fun H => SqT K H a xs) (YPair (fun i => some (.int ((i + k : Nat) : Int))) (fun i => xs[i]?)) := by
  refine ⟨fun i _ hi q => ⟨xs, xs[i], q, by simp [hi]⟩, fun _ q => ⟨xs, q, Nat.le_refl _⟩, fun i H v H' _ q y => ?_⟩
  obtain ⟨T, x, h1, h2, h3, h4⟩ := y
  exact ⟨T, .int ((i + k : Nat) : Int), x, h1, h2, h3, rfl, h4 xs q⟩
theorem ie_enumTS {ds : List PyData} {k : Nat} (h : EvP K te σ H (.tuple ds)) (hk : EvP K tk σ H (.int (k : Int))) : ItE K (iWf K (iEnumTS K k (tCons te tNil) (tCons tk tNil))) σ H (enumDS k ds) := fun H1 x R r => h H1 x _ fun v H2 x2 dr => hk H2 (x.trans x2) _ fun u H3 x3 d3 => by
  obtain ⟨a, vs, rfl, hs, hd⟩ := dr.of_tup
  have hl : (enumDS k ds).length = vs.length := by rw [hd.length]; simp [enumDS]
  refine ⟨a, vs, rfl, by rw [d3.of_int], ex_t x3 hs, fun w => r _ H3 (x2.trans x3) (by rw [hl]; exact w.2 _ _ (ex_t x3 hs)) (yd_pair (Hs := H3) (walk_enumTS.mono (fun Hx g => ex_t g (ex_t x3 hs)) fun _ _ _ _ _ _ y => y) hl (fun i x y e1 e2 => ?_) fun _ g => Kp.of g)⟩
  obtain ⟨d, h1, h2⟩ := hd.getV e2
  have e1' : V.int ((i + k : Nat) : Int) = x := by simpa using e1
  subst e1'
  exact ⟨_, d, by simp [enumDS, h1], .int, h2.ex x3⟩
theorem enumDS_enc {α : Type} {f : α → PyData} {xs : List α} {k : Nat} : enumDS k (xs.map f) = (enumLS k xs).map (eP eI f) := by
  unfold enumDS enumLS
  rw [List.zipIdx_map, List.map_map, List.map_map]
  rfl
theorem qe_enumTS {α : Type} {f : α → PyData} {xs : List α} {k : Nat} (ha : EvP K te σ H (eT f xs)) (hk : EvP K tk σ H (.int (k : Int))) : ItE K (iWf K (iEnumTS K k (tCons te tNil) (tCons tk tNil))) σ H ((enumLS k xs).map (eP eI f)) := enumDS_enc (f := f) ▸ ie_enumTS ha hk
/-! sum -/
theorem p_sum {ns : List Int} (ha : EvS K te σ H (ns.map .int)) : EvP K (tCB (rSum K) (tCons te tNil)) σ H (.int ns.sum) := fun H1 x Q q =>
  ha H1 x _ fun a vs H2 x2 hs hd => by
    rw [hd.ints] at hs
    exact ⟨a, ns, rfl, hs, q _ H2 x2 .int⟩
end
theorem cl_sum {X : Cx} (K : PySem.W.Frag) (hc : X.calm = true) (hK : X.K = K := by rfl) : CallR X (.builtin "sum") (rSum K) := by subst hK; exact cr_sum hc
/-! what is never reached -/
def tNever : TE := fun _ _ _ => False
theorem pe_never {X : Cx} {e : Expr} : PE X e tNever := ⟨fun _ _ _ _ _ _ h => h.elim⟩
def sNever : TS := fun _ _ _ => False
theorem ps_never {X : Cx} {st : Stmt} : PS X st sNever := ⟨fun _ _ _ _ _ _ h => h.elim⟩
/-! closures of a list that is only read, and a datum -/
section
variable {K : PySem.W.Frag} {σ : L2.St} {H H0 H' : Hp} {E : EnvD} {te tb : TE} {da : PyData} {R : List Ag → PyData → Prop} {is : List Nat}
def R2 {α β γ : Type} (enc1 : α → PyData) (enc2 : β → PyData) (fn : List α → β → Option γ) (encb : γ → PyData) : List Ag → PyData → Prop := fun as d => ∃ x y z, as = [.l (x.map enc1), .d (enc2 y)] ∧ fn x y = some z ∧ d = encb z
theorem b_two {α β γ : Type} {enc1 : α → PyData} {enc2 : β → PyData} {encb : γ → PyData} {i j : Nat} (fn : List α → β → Option γ) (bind : Addr → β → EnvD) (S : Sl K H σ E) (hbd : ∀ a y, (E.set i (some (.raw (.ref a)))).set j (some (.dat (enc2 y))) = bind a y)
    (h : ∀ x y z, fn x y = some z → ∀ σ' H' a vs, Vx.Ex H H' → SqL K H' a vs → DrA K H' vs (x.map enc1) → Sl K H' σ' (bind a y) → EvP K tb σ' H' (encb z)) : BodyOk K tb [i, j] σ H (R2 enc1 enc2 fn encb) := fun H1 x1 as d vs hr ha => by
  obtain ⟨x, y, z, rfl, hz, rfl⟩ := hr
  rcases ha with _ | @⟨v1, vs, _, _, h1, ha⟩
  rcases ha with _ | @⟨v2, vs, _, _, h2, ha⟩
  cases ha
  obtain ⟨a, ws, rfl, hs, hd⟩ := h1
  refine ⟨rfl, fun Q q => h x y z hz ((σ.set i (some (.ref a))).set j (some v2)) H1 a ws x1 hs hd ?_ H1 (Vx.Ex.refl H1) Q q⟩
  rw [← hbd a y]
  exact ((S.ex x1).putR i).put j h2
theorem n_callC {Rg : (List Ag → PyData → Prop) → Ag → Rt → Prop} {ds : List PyData} (t0 : Tabs Tbs.l H) (he : EvP K te σ H da) (hR : Rg R (.d da) (.n ds)) (hb : BodyOk K tb is σ H R) : EvN K (tCallC K te tb is Rg) σ H ds := fun H1 x Q q =>
  he H1 x _ fun v H2 x2 dr => ⟨tabs_ex (x.trans x2) t0, .d da, .n ds, R, dr, hR, hb.mono (x.trans x2), fun p ws H3 hp x3 h3 d3 => q p ws H3 (fresh_back x2 hp) (x2.trans x3) h3 d3⟩
end
end Vx
namespace Vx
open PySem L2 PySem.Spec PyProof.Rows Evl RZ LamX
variable [Tbs]
theorem pi_enumTSK {X : Cx} {e ke : Expr} {ta tk : TA} {p pos tpos kp : Pos} {elts : List Expr} {kk : Nat} (K : PySem.W.Frag) (k : Nat) (hk63 : k < 2 ^ 62) (hg : Gl X "enumerate") (hm : X.mg "enumerate" = none) (ha : PA X [e] ta) (hk : PK X [⟨some "start", ke, kp⟩] tk)
    (he : backTo pos (starEach [e] X.env) = (false, eval e X.env) :: backTo pos (starEach [] X.env) := by rfl) (hK : X.K = K := by rfl) :
    PI X (.Tuple elts kk tpos) (.Call (.Name "enumerate" p) [e] [⟨some "start", ke, kp⟩] pos) (iEnumTS K k ta tk) := by subst hK; exact pi_enumTS k hk63 hg hm ha hk he
end Vx
namespace Vx
open PySem L2 PySem.Spec PyProof.Rows Evl RZ LamX
variable [Tbs]
theorem p_nvr {K : PySem.W.Frag} {σ : L2.St} {H : Hp} {te : TE} {α : Type} {v : α} {d : PyData} (h : none = some v) : EvP K te σ H d := by cases h
end Vx

/-! tuples of a word and one or two numbers; an own list against []; in, of texts -/
namespace Vx
open PySem L2 PySem.Spec PyProof.Rows Evl RZ LamX
variable [Tbs]
abbrev Cut := Str × Int × Option Int
def eU (u : Cut) : PyData := match u.2.2 with
  | none => .tuple [.str u.1, .int u.2.1]
  | some c => .tuple [.str u.1, .int u.2.1, .int c]
def lenU (u : Cut) : Int := match u.2.2 with
  | none => 2
  | some _ => 3
section
variable {K : PySem.W.Frag} {σ : L2.St} {H : Hp} {te ta tb : TE} {u : Cut} {v : Int} {s : Str} {d : PyData}
theorem p_mkU2 (h : EvP K te σ H (.tuple [.str s, .int v])) : EvP K te σ H (eU (s, v, none)) := h
theorem p_mkU3 {c : Int} (h : EvP K te σ H (.tuple [.str s, .int v, .int c])) : EvP K te σ H (eU (s, v, some c)) := h
theorem p_lenU (h : EvP K te σ H (eU u)) : EvP K (tCB (rLen0 K) (tCons te tNil)) σ H (.int (lenU u)) := by
  obtain ⟨a, b, c⟩ := u
  cases c with
  | none => exact p_lenT (ds := [.str a, .int b]) h
  | some c => exact p_lenT (ds := [.str a, .int b, .int c]) h
theorem p_ixU0 (ha : EvP K ta σ H (eU u)) (hb : EvP K tb σ H (.int 0)) : EvP K (tOp (rIxT K) ta tb) σ H (.str u.1) := by
  obtain ⟨a, b, c⟩ := u
  cases c with
  | none => exact p_ixT (ds := [.str a, .int b]) ha hb rfl
  | some c => exact p_ixT (ds := [.str a, .int b, .int c]) ha hb rfl
theorem p_ixU1 (ha : EvP K ta σ H (eU u)) (hb : EvP K tb σ H (.int 1)) : EvP K (tOp (rIxT K) ta tb) σ H (.int u.2.1) := by
  obtain ⟨a, b, c⟩ := u
  cases c with
  | none => exact p_ixT (ds := [.str a, .int b]) ha hb rfl
  | some c => exact p_ixT (ds := [.str a, .int b, .int c]) ha hb rfl
theorem p_ixU2 (h : u.2.2 = some v) (ha : EvP K ta σ H (eU u)) (hb : EvP K tb σ H (.int 2)) : EvP K (tOp (rIxT K) ta tb) σ H (.int v) := by
  obtain ⟨a, b, c⟩ := u
  cases h
  exact p_ixT (ds := [.str a, .int b, .int v]) ha hb rfl
/-! an own list against [] -/
theorem eqv_nil {α : Type} {f : α → PyData} (xs : List α) : PyData.eqv (.list (xs.map f)) (.list []) = xs.isEmpty := by
  cases xs with
  | nil => rfl
  | cons x r => rfl
theorem p_neS0 {α : Type} {f : α → PyData} {xs : List α} (ha : EvS K ta σ H (xs.map f)) (hb : EvP K tb σ H (.list [])) (sd : SeqAt.shaped (.list (xs.map f)) = true) : EvP K (tOp (rNeD K) ta tb) σ H (.bool (!xs.isEmpty)) := fun H1 x Q q =>
  ha H1 x _ fun a vs H2 x2 hs hd => hb H2 (x.trans x2) _ fun u H3 x3 d3 => ⟨.list (xs.map f), .list [], .lst (ex_l x3 hs) ((hd.ex x3).dp (noD_sh sd)), d3.dp rfl, sd, rfl, by
    rw [eqv_nil]
    exact q _ H3 (x2.trans x3) .bl⟩
theorem p_eqS0 {α : Type} {f : α → PyData} {xs : List α} (ha : EvS K ta σ H (xs.map f)) (hb : EvP K tb σ H (.list [])) (sd : SeqAt.shaped (.list (xs.map f)) = true) : EvP K (tOp (rEqD K) ta tb) σ H (.bool (xs.isEmpty)) := fun H1 x Q q =>
  ha H1 x _ fun a vs H2 x2 hs hd => hb H2 (x.trans x2) _ fun u H3 x3 d3 => ⟨.list (xs.map f), .list [], .lst (ex_l x3 hs) ((hd.ex x3).dp (noD_sh sd)), d3.dp rfl, sd, rfl, by
    rw [eqv_nil]
    exact q _ H3 (x2.trans x3) .bl⟩
/-! in, of texts -/
theorem inV_strs (i : Str) (ns : List Str) : inV (.str i) (ns.map V.str) = ns.any fun y => y == i := by
  unfold inV
  induction ns with
  | nil => rfl
  | cons n r ih => rw [List.map_cons, List.any_cons, ih, List.any_cons]; unfold eqV; rfl
theorem flat_strs (ns : List Str) : (ns.map V.str).all flatV = true := by
  induction ns with
  | nil => rfl
  | cons n r ih => rw [List.map_cons, List.all_cons, ih]; rfl
theorem DrA.strs {H : Hp} : ∀ {vs : List V} {ns : List Str}, DrA K H vs (ns.map .str) → vs = ns.map V.str
  | vs, [], h => by cases h; rfl
  | vs, n :: ns, h => by
    cases h with
    | cons h1 h2 => rw [Dr.of_str (K := K) h1, DrA.strs h2]; rfl
theorem p_inTS {i : Str} {ns : List Str} (ha : EvP K ta σ H (.str i)) (hb : EvP K tb σ H (.tuple (ns.map .str))) : EvP K (tOp (rIn K false) ta tb) σ H (.bool (ns.any fun y => y == i)) := fun H1 x Q q =>
  ha H1 x _ fun v H2 x2 d2 => hb H2 (x.trans x2) _ fun u H3 x3 d3 => by
    obtain ⟨a, vs, rfl, hs, hd⟩ := d3.of_tup
    rw [d2.of_str]
    rw [DrA.strs hd] at hs
    refine ⟨a, _, rfl, .inr hs, rfl, flat_strs ns, ?_⟩
    show Q (.bl (inV (.str i) (ns.map V.str))) H3
    rw [inV_strs]
    exact q _ H3 (x2.trans x3) .bl
end
end Vx

/-! break; lists of two that are handed back; is not, of bools; a datum in a list of data; powers -/
namespace Vx
open PySem L2 PySem.Spec PyProof.Rows Evl RZ LamX
variable [Tbs]
def Ct.un {τ : Type} : Ct τ τ → τ
  | .go t => t
  | .ret t => t
section
variable {K : PySem.W.Frag} {σ : L2.St} {H H0 H' : Hp} {g : TG} {tu : TS} {D : Ends}
theorem s_forB {α τ : Type} {xs : List α} {enc : α → PyData} {ts : List Nat} {wi : TI} {st0 : τ} {c : Ct τ τ} (hi : ItD K H0 wi σ H (xs.map enc)) (f : τ → α → Option (Ct τ τ)) (hc : foldC f st0 xs = some c)
    (P : τ → L2.St → Hp → Prop) (hP : ∀ st σ H, P st σ H → Vx.Ex H0 H) (h0 : ∀ H1, Vx.Ex H H1 → P st0 σ H1)
    (hs : ∀ (Hk : Hp) (st : τ) (x : α) (σ' : L2.St) (H' : Hp) (c' : Ct τ τ), Vx.Ex H Hk → x ∈ xs → f st x = some c' → P st σ' H' → Kp Hk H' →
      ∀ (v : V) (Hx : Hp), Vx.Ex H' Hx → Dr K Hx v (enc x) → ∀ N B : L2.St → Hp → Prop, (∀ st' σ3 H3, c' = .go st' → P st' σ3 H3 → Kp Hk H3 → N σ3 H3) → (∀ st' σ3 H3, c' = .ret st' → P st' σ3 H3 → Kp Hk H3 → B σ3 H3) → g v σ' Hx fun σ2 H2 => tu { D with nx := N, ct := N, bk := B } σ2 H2)
    (hd : ∀ st σ' H', Ct.un c = st → P st σ' H' → Kp H H' → D.nx σ' H') : tFor wi g tu D σ H :=
  s_for (ts := ts) hi f hc P hP h0 (fun Hk st x σ' H' c' e m hf p k hret v Hx e2 dr N hN => hs Hk st x σ' H' c' e m hf p k v Hx e2 dr N D.nx hN fun st' σ3 H3 ec p3 k3 => hd st' σ3 H3 (by rw [hret st' ec]; rfl) p3 ((Kp.of e).trans k3)) fun st σ' H' ec p k => hd st σ' H' (by rw [ec]; rfl) p k
end
theorem op_isnotB {X : Cx} : OpR X (compareOp .IsNot) (fun x y H Q => ∃ a b, x = .bl a ∧ y = .bl b ∧ Q (.bl (a != b)) H) := by
  intro pins s σ H x y v u Q I rx ry h
  obtain ⟨a, b, rfl, rfl, q⟩ := h
  cases rx
  cases ry
  show wpAny _ _ ((isSame (Value.bool a) (Value.bool b)) >>= fun z => pure (Value.bool (!z))) _ _ s
  refine wpAny_bind (wpAny_isSame_plain rfl (wpAny_pure (fin_bl I q ?_)))
  cases a <;> cases b <;> rfl
section
variable {K : PySem.W.Frag} {σ : L2.St} {H : Hp} {ta tb te : TE}
theorem p_isnotB {a b : Bool} (ha : EvP K ta σ H (.bool a)) (hb : EvP K tb σ H (.bool b)) : EvP K (tOp (fun x y H Q => ∃ a b, x = .bl a ∧ y = .bl b ∧ Q (.bl (a != b)) H) ta tb) σ H (.bool (a != b)) := fun H1 x Q q =>
  ha H1 x _ fun v H2 x2 d2 => hb H2 (x.trans x2) _ fun u H3 x3 d3 => ⟨a, b, d2.of_bool, d3.of_bool, q _ H3 (x2.trans x3) .bl⟩
/-! a datum in a list of data -/
theorem any_cl {α : Type} [DecidableEq α] {f : α → PyData} [c : Cl f] (d : α) (xs : List α) : ((xs.map f).any fun z => PyData.eqv z (f d)) = decide (d ∈ xs) := by
  induction xs with
  | nil => rfl
  | cons x xs ih =>
    rw [List.map_cons, List.any_cons, ih, c.eq]
    by_cases h : x = d
    · subst h; simp
    · have h2 : ¬ d = x := fun e => h e.symm
      simp [h, h2]
theorem any_cl2 {α : Type} [DecidableEq α] {f : α → PyData} [c : Cl f] (d : α) (xs : List α) (inst : Decidable (d ∈ xs)) : ((xs.map f).any fun z => PyData.eqv z (f d)) = @decide (d ∈ xs) inst := (any_cl d xs).trans (decide_eq_decide.mpr Iff.rfl)
theorem p_inD {α : Type} [DecidableEq α] {f : α → PyData} [c : Cl f] {d : α} {xs : List α} {inst : Decidable (d ∈ xs)} (ha : EvP K ta σ H (f d)) (hb : EvS K tb σ H (xs.map f)) (sd : SeqAt.shaped (f d) = true) (se : SeqAt.shaped (.list (xs.map f)) = true) : EvP K (tOp (rInD K) ta tb) σ H (.bool (@decide (d ∈ xs) inst)) := fun H1 x Q q =>
  ha H1 x _ fun v H2 x2 d2 => hb H2 (x.trans x2) _ fun a vs H3 x3 hs hd => ⟨f d, xs.map f, (d2.ex x3).dp (noD_sh sd), .lst hs (hd.dp (noD_sh se)), sd, se, by rw [any_cl2 d xs inst]; exact q _ H3 (x2.trans x3) .bl⟩
theorem p_ninD {α : Type} [DecidableEq α] {f : α → PyData} [c : Cl f] {d : α} {xs : List α} {inst : Decidable (d ∈ xs)} (ha : EvP K ta σ H (f d)) (hb : EvS K tb σ H (xs.map f)) (sd : SeqAt.shaped (f d) = true) (se : SeqAt.shaped (.list (xs.map f)) = true) : EvP K (tOp (rNotInD K) ta tb) σ H (.bool (!@decide (d ∈ xs) inst)) := fun H1 x Q q =>
  ha H1 x _ fun v H2 x2 d2 => hb H2 (x.trans x2) _ fun a vs H3 x3 hs hd => ⟨f d, xs.map f, (d2.ex x3).dp (noD_sh sd), .lst hs (hd.dp (noD_sh se)), sd, se, by rw [any_cl2 d xs inst]; exact q _ H3 (x2.trans x3) .bl⟩
theorem p_ninTS {i : Str} {ns : List Str} (ha : EvP K ta σ H (.str i)) (hb : EvP K tb σ H (.tuple (ns.map .str))) : EvP K (tOp (rIn K true) ta tb) σ H (.bool (!(ns.any fun y => y == i))) := fun H1 x Q q =>
  ha H1 x _ fun v H2 x2 d2 => hb H2 (x.trans x2) _ fun u H3 x3 d3 => by
    obtain ⟨a, vs, rfl, hs, hd⟩ := d3.of_tup
    rw [d2.of_str]
    rw [DrA.strs hd] at hs
    refine ⟨a, _, rfl, .inr hs, rfl, flat_strs ns, ?_⟩
    show Q (.bl (!inV (.str i) (ns.map V.str))) H3
    rw [inV_strs]
    exact q _ H3 (x2.trans x3) .bl
end
theorem op_inDK {X : Cx} (K : PySem.W.Frag) (hu : X.A.units + 65 < cLine) (hK : X.K = K := by rfl) : OpR X (compareOp .In) (rInD K) := by subst hK; exact op_inD hu
theorem op_notInDK {X : Cx} (K : PySem.W.Frag) (hu : X.A.units + 65 < cLine) (hK : X.K = K := by rfl) : OpR X (compareOp .NotIn) (rNotInD K) := by subst hK; exact op_notInD hu
/-! lists of two -/
def eQ {α β : Type} (f : α → PyData) (h : β → PyData) (p : α × β) : PyData := .list [f p.1, h p.2]
theorem gd_lst {K : PySem.W.Frag} {gs : TGs} {ts : List Nat} {ds : List PyData} {E E' : EnvD} {n : Nat} (h : Gds K gs ts ds E E') (hn : ds.length = n) : Gd K (gLst K n gs) ts (.list ds) E E' := fun σ H v S dr Q q => by
  obtain ⟨a, vs, rfl, hs, _, hd⟩ := dr.of_lst
  exact ⟨a, vs, rfl, hs, hd.length.trans hn, h σ H vs S hd Q q⟩
theorem pg_lstK {X : Cx} (K : PySem.W.Frag) {es : List Expr} {k : Nat} {t : TGs} {n : Nat} {pos : Pos} (hc : X.calm = true) (h : PGs X es t) (hK : X.K = K := by rfl)
    (hn : (assignEach es X.env).length = n := by rfl) (hst : (assignEach es X.env).findIdx? (·.1) = none := by rfl) : PG X (.Tuple es k pos) (gLst K n t) := by subst hK; exact pg_lst hc h hn hst
end Vx
namespace Vx
open L2
theorem un65 {A : PySem.Around} {k : Nat} (h : Room k A) : A.units + 65 < PySem.cLine := by have := h.un; omega
end Vx

/-! defs that raise errors of own classes (by number), with a number in them or not; try, except; what leaves -/
namespace Vx
open PySem L2 PySem.Spec PyProof.Rows Evl RZ
variable [Tbs]
/-- a value, or an error of the class C (by its number), which bears m -/
inductive Rz (ρ : Type) where
  | v (r : ρ) | x (C : Nat) (m : Int)
def Rz.get {ρ : Type} : Rz ρ → Option ρ
  | .v r => some r
  | .x _ _ => none
def Rz.el {ρ γ : Type} (r : Rz ρ) (f : ρ → Option γ) (g : Nat → Int → Option γ) : Option γ := match r with
  | .v a => f a
  | .x C m => g C m
theorem get_some {ρ : Type} {m : Option (Rz ρ)} {a : ρ} (h : m.bind Rz.get = some a) : m = some (.v a) := by
  cases m with
  | none => cases h
  | some r => cases r with
    | v b => exact congrArg (fun z => some (Rz.v z)) (Option.some.inj h)
    | x C k => cases h
/-- what is wished of an error -/
def XOut (ca : Nat → Addr) (pay : Nat → Option Str) (H : Hp) (E : XK) (C : Nat) (m : Int) : Prop :=
  (pay C = none → ∀ H', Ex H H' → E (.ref (ca C)) none H') ∧ ∀ f, pay C = some f → ∀ d H', Ex H H' → H d = none → H' d = some (.xd [(f, .int m)]) → E (.ref (ca C)) (some d) H'
def SpZ (K : PySem.W.Frag) (ca : Nat → Addr) (pay : Nat → Option Str) (n : Nat) (R : List Ag → Rz Rt → Prop) : Sp := fun vs H Q E => ∃ as r, as.length = n ∧ R as r ∧ AgsOk K H vs as ∧ LamX.Tabs Tbs.l H ∧ (match r with
  | .v r => RtOk K H Q r
  | .x C m => XOut ca pay H E C m)
theorem beq_chk {C n : Nat} {u : Unit} (h : chk (decide (C = n)) = some u) : C = n := of_decide_eq_true (chk_some h)
section
variable {K : PySem.W.Frag} {σ : L2.St} {H H0 H1 : Hp} {te : TE} {ta : TA} {g : TG} {D : Ends} {as : List Ag} {ca : Nat → Addr} {pay : Nat → Option Str} {n i C : Nat} {m : Int} {R : List Ag → Rz Rt → Prop} {d : PyData} {ds : List PyData} {E : XK} {EE : L2.St → XK} {c : Value} {ts : Addr → Value → Option Addr → TS} {Wout : WX}
theorem XOut.ex (e : Ex H H1) (h : XOut ca pay H E C m) : XOut ca pay H1 E C m :=
  ⟨fun hp H' x => h.1 hp H' (e.trans x), fun f hp d H' x hd hx => h.2 f hp d H' (e.trans x) (fresh_back e hd) hx⟩
theorem p_callV {E' : XK} (t0 : LamX.Tabs Tbs.l H) (h : EvG K ta σ H as) (hn : as.length = n) (hr : R as (.v (.d d))) : EvP K (tCall (SpZ K ca pay n R) [] E' ta) σ H d := fun H1 x Q q =>
  h H1 x _ fun vs H2 x2 d2 => by
    show SpZ K ca pay n R (vs ++ []) H2 Q E'
    rw [List.append_nil]
    exact ⟨as, .v (.d d), hn, hr, d2, tabs_ex (x.trans x2) t0, fun v H3 x3 d3 => q v H3 (x2.trans x3) d3⟩
theorem n_callV {E' : XK} (t0 : LamX.Tabs Tbs.l H) (h : EvG K ta σ H as) (hn : as.length = n) (hr : R as (.v (.n ds))) : EvN K (tCall (SpZ K ca pay n R) [] E' ta) σ H ds := fun H1 x Q q =>
  h H1 x _ fun vs H2 x2 d2 => by
    show SpZ K ca pay n R (vs ++ []) H2 Q E'
    rw [List.append_nil]
    exact ⟨as, .v (.n ds), hn, hr, d2, tabs_ex (x.trans x2) t0, fun p ws H3 hp x3 h3 d3 => q p ws H3 (fresh_back x2 hp) (x2.trans x3) h3 d3⟩
theorem p_callSV (t0 : LamX.Tabs Tbs.l H) (h : EvG K ta σ H as) (hn : as.length = n) (hr : R as (.v (.d d))) : EvP K (tCallS (SpZ K ca pay n R) EE ta) σ H d := fun H1 x Q q =>
  h H1 x _ fun vs H2 x2 d2 => ⟨as, .v (.d d), hn, hr, d2, tabs_ex (x.trans x2) t0, fun v H3 x3 d3 => q v H3 (x2.trans x3) d3⟩
theorem n_callSV (t0 : LamX.Tabs Tbs.l H) (h : EvG K ta σ H as) (hn : as.length = n) (hr : R as (.v (.n ds))) : EvN K (tCallS (SpZ K ca pay n R) EE ta) σ H ds := fun H1 x Q q =>
  h H1 x _ fun vs H2 x2 d2 => ⟨as, .v (.n ds), hn, hr, d2, tabs_ex (x.trans x2) t0, fun p ws H3 hp x3 h3 d3 => q p ws H3 (fresh_back x2 hp) (x2.trans x3) h3 d3⟩
/-- it raises: whatever is wished of its value -/
theorem x_callS (t0 : LamX.Tabs Tbs.l H) (h : EvG K ta σ H as) (hn : as.length = n) (hr : R as (.x C m)) (hx : XOut ca pay H (EE σ) C m) : ∀ Q, tCallS (SpZ K ca pay n R) EE ta σ H Q := fun Q =>
  h H (Ex.refl H) _ fun vs H2 x2 d2 => ⟨as, .x C m, hn, hr, d2, tabs_ex x2 t0, hx.ex x2⟩
theorem x_cons {h : ∀ Q, te σ H Q} : ∀ Q, tCons te ta σ H Q := fun Q => h _
theorem x_callR {sp : Sp} {dvs : List V} {E' : XK} (h : ∀ Q, ta σ H Q) : ∀ Q, tCall sp dvs E' ta σ H Q := fun Q => h _
theorem s_nvA (h : ∀ Q, te σ H Q) : tAsg te g D σ H := h _
theorem s_nvD (h : ∀ Q, te σ H Q) : tDrop te D σ H := h _
theorem s_nvR (h : ∀ Q, te σ H Q) : tRet te D σ H := h _
/-! what a try wishes -/
theorem x_as (hp : pay C = none) (hb : PySem.W.exmOne K (.ref (ca C)) c = some true)
    (k : ∀ H1, Ex H H1 → ∀ a, H1 a = none → ts a (.ref (ca C)) none { nx := fun σ' H' => D.nx (σ'.set i none) H', rt := D.rt, bk := fun σ' H' => D.bk (σ'.set i none) H', ct := fun σ' H' => D.ct (σ'.set i none) H' } (σ.set i (some (.ref a))) H1) : XOut ca pay H (WE (wAs K c i ts Wout D) σ) C m :=
  ⟨fun _ H1 e => ⟨true, hb, fun _ a ha => k H1 e a ha, fun z => nomatch z⟩, fun f z => by rw [hp] at z; cases z⟩
theorem x_asP {f : Str} (hp : pay C = some f) (hb : PySem.W.exmOne K (.ref (ca C)) c = some true)
    (k : ∀ d H1, Ex H H1 → H1 d = some (.xd [(f, .int m)]) → ∀ a, H1 a = none → ts a (.ref (ca C)) (some d) { nx := fun σ' H' => D.nx (σ'.set i none) H', rt := D.rt, bk := fun σ' H' => D.bk (σ'.set i none) H', ct := fun σ' H' => D.ct (σ'.set i none) H' } (σ.set i (some (.ref a))) H1) : XOut ca pay H (WE (wAs K c i ts Wout D) σ) C m :=
  ⟨fun z => (by rw [hp] at z; cases z), fun f' z d H1 e _ hx => by
    rw [hp] at z
    cases z
    exact ⟨true, hb, fun _ a ha => k d H1 e hx a ha, fun z => nomatch z⟩⟩
theorem x_only (hp : pay C = none) (hb : PySem.W.exmOne K (.ref (ca C)) c = some true) (k : ∀ H1, Ex H H1 → ∀ a, H1 a = none → ts a (.ref (ca C)) none D σ H1) : XOut ca pay H (WE (wOnly K c ts Wout D) σ) C m :=
  ⟨fun _ H1 e => ⟨true, hb, fun _ a ha => k H1 e a ha, fun z => nomatch z⟩, fun f z => by rw [hp] at z; cases z⟩
theorem x_onlyP {f : Str} (hp : pay C = some f) (hb : PySem.W.exmOne K (.ref (ca C)) c = some true) (k : ∀ d H1, Ex H H1 → ∀ a, H1 a = none → ts a (.ref (ca C)) (some d) D σ H1) : XOut ca pay H (WE (wOnly K c ts Wout D) σ) C m :=
  ⟨fun z => (by rw [hp] at z; cases z), fun f' z d H1 e _ hx => ⟨true, hb, fun _ a ha => k d H1 e a ha, fun z => nomatch z⟩⟩
/-- the name of the error goes -/
theorem Sl.putN {E : EnvD} (S : Sl K H σ E) (j : Nat) : Sl K H (σ.set j none) (E.set j none) := S.set j trivial
theorem xo_none {E : XK} (hp : pay C = none) (q : XOut ca pay H E C m) (H' : Hp) (e : Ex H H') : E (.ref (ca C)) none H' := q.1 hp H' e
end
def tTryA (K : PySem.W.Frag) (c : Value) (i : Nat) (tb : WX → TS) (ts : Addr → Value → Option Addr → TS) (Wout : WX) : TS := fun D σ H => tb (wAs K c i ts Wout D) D σ H
def tTryO (K : PySem.W.Frag) (c : Value) (tb : WX → TS) (ts : Addr → Value → Option Addr → TS) (Wout : WX) : TS := fun D σ H => tb (wOnly K c ts Wout D) D σ H
section
variable {K : PySem.W.Frag} {σ : L2.St} {H : Hp} {D : Ends} {c : Value} {i : Nat} {tb : WX → TS} {ts : Addr → Value → Option Addr → TS} {Wout : WX}
theorem s_tryA (h : tb (wAs K c i ts Wout D) D σ H) : tTryA K c i tb ts Wout D σ H := h
theorem s_tryO (h : tb (wOnly K c ts Wout D) D σ H) : tTryO K c tb ts Wout D σ H := h
end
section
variable {X : Cx} {x n : Str} {c : Value} {i : Nat} {body suite : List Stmt} {b₀ : Stmt} {np pos pos' : Pos} {tb : WX → TS} {ts : Addr → Value → Option Addr → TS} {Wout : WX}
theorem ps_tryA (hs : X.stack = X.env :: X.outer) (hf : X.env.frame = some X.env.locals) (hN : X.N.Nodup) (hi : X.N[i]? = some n) (hln : X.env.kindOf n = some .local) (hc : Names X x c) (tk : Takes X Wout)
    (hb : ∀ (W : WX) (pn : List (Addr × Obj)) (xe : Value → Shared → Prop), Takes (X.tr pn xe) W → PassesOwn (model X.prog X.w) X.A X.env xe → PSs (X.tr pn xe) body (tb W))
    (hsu : ∀ (a : Addr) (oe : Obj) (cls : Value) (d : Option Addr) (pn : List (Addr × Obj)), Zc cls d oe → (∃ vs, oe.data = .fields vs) → PSs (X.suite a ((a, oe) :: pn)) (b₀ :: suite) (ts a cls d)) :
    PS X (.Try body [.ExceptHandler (some (.Name x np)) (some n) (b₀ :: suite) pos'] [] [] pos) (tTryA X.K c i tb ts Wout) := ps_try_as hs hf hN hi hln hc tk hb hsu
theorem ps_tryO (hs : X.stack = X.env :: X.outer) (hf : X.env.frame = some X.env.locals) (hc : Names X x c) (tk : Takes X Wout)
    (hb : ∀ (W : WX) (pn : List (Addr × Obj)) (xe : Value → Shared → Prop), Takes (X.tr pn xe) W → PassesOwn (model X.prog X.w) X.A X.env xe → PSs (X.tr pn xe) body (tb W))
    (hsu : ∀ (a : Addr) (oe : Obj) (cls : Value) (d : Option Addr) (pn : List (Addr × Obj)), Zc cls d oe → (∃ vs, oe.data = .fields vs) → PSs (X.suite a ((a, oe) :: pn)) (b₀ :: suite) (ts a cls d)) :
    PS X (.Try body [.ExceptHandler (some (.Name x np)) none (b₀ :: suite) pos'] [] [] pos) (tTryO X.K c tb ts Wout) := ps_try_only hs hf hc tk hb hsu
end
/-! isinstance(e, C), e.f in an except suite -/
def rIsX (K : PySem.W.Frag) (cls : Value) (d : Option Addr) (a : Addr) : List V → Hp → VK → Prop := fun xs H Q => ∃ (D : Addr) (c : V) (cv : Value) (b : Bool), cls = .ref D ∧ d = none ∧ ExcC K D ∧ xs = [.ref a, c] ∧ (∀ u, RelV c u → u = cv) ∧ PySem.W.kitOne K (.ref D) cv = some b ∧ Q (.bl b) H
theorem call_isX {X : Cx} (K : PySem.W.Frag) {a : Addr} {cls : Value} {d : Option Addr} {oe : Obj} {pn : List (Addr × Obj)} (hz : Zc cls d oe) (hf : ∃ vs, oe.data = .fields vs) (hK : X.K = K := by rfl) : CallR (X.suite a ((a, oe) :: pn)) (.builtin "isinstance") (rIsX K cls d a) := by
  subst hK
  intro pins s σ H xs us Q I r h
  obtain ⟨D, c, cv, b, rfl, rfl, hC, hxs, hcv, hk, q⟩ := h
  exact call_isE hC hz hf pins s σ H xs us Q I r ⟨c, cv, b, hxs, hcv, hk, q⟩
section
variable {K : PySem.W.Frag} {σ : L2.St} {H : Hp} {E : EnvD} {i : Nat} {a C : Addr} {d : Option Addr} {dx : Addr}
theorem p_isX {A : Addr} {b : Bool} (S : Sl K H σ E) (hi : E[i]? = some (some (.raw (.ref a)))) (hC : ExcC K C) (hk : PySem.W.kitOne K (.ref C) (.ref A) = some b) : EvP K (tCB (rIsX K (.ref C) none a) (tCons (tVar i) (tCons (tC (.ref A)) tNil))) σ H (.bool b) := fun H1 x Q q =>
  ⟨.ref a, S.raw hi, C, .ref A, .ref A, b, rfl, rfl, hC, rfl, fun u r => r, hk, q _ H1 (Ex.refl H1) Dr.bl⟩
theorem p_xf {f : Str} {m : Int} (S : Sl K H σ E) (hi : E[i]? = some (some (.raw (.ref a)))) (hd : H dx = some (.xd [(f, .int m)])) : EvP K (tXf a (.ref C) (some dx) C f (tVar i)) σ H (.int m) := fun H1 x Q q =>
  ⟨.ref a, S.raw hi, rfl, rfl, dx, _, .int m, rfl, x dx _ hd, by simp [List.lookup], q _ H1 (Ex.refl H1) Dr.int⟩
end
/-! an error with a number in it -/
/-- __init__(self, f): self.f = f -/
def spInit (K : PySem.W.Frag) (f : Str) : Sp := fun vs H Q _ => ∃ (a C : Addr) (v : V), vs = [.ref a, v] ∧ OexC K C ∧ PySem.W.findIn K (.ref C) f = some none ∧ H a = some (exo a C none) ∧ ∀ dx, H dx = none → dx ≠ a → Q .non (upd (upd H dx (exd dx [(f, v)])) a (exo a C (some dx)))
theorem p_init {K : PySem.W.Frag} {f : Str} {H : Hp} {vs : List V} {Q : VK} {E : XK} {N : List Str} (hN : N.length = 2) (h : spInit K f vs H Q E) : tOst K f (tVar 0) (tVar 1) { nx := fun _ H' => Q .non H', rt := Q } (L2.start N vs) H := by
  obtain ⟨a, C, v, rfl, T, hno, ha, k⟩ := h
  exact ⟨v, rfl, .ref a, rfl, a, C, rfl, T, hno, .inl ⟨ha, fun dx hd ne => k dx hd ne⟩⟩
theorem exo_code {a C q : Addr} {d : Option Addr} {x : Str} : exo a C d ≠ LamX.CodeO q x → True := fun _ => trivial
section
variable {K : PySem.W.Frag} {H H1 : Hp} {σ : L2.St} {ta : TA} {C A : Nat}
/-- what the raised error leaves -/
theorem ex_made {a dx C : Addr} {o o' : HO} {v : V} {f : Str} (na : H a = none) (nd : H dx = none) (ne : dx ≠ a) : Ex H (upd (del (upd (upd (upd H a o) dx o') a o) a) dx (.xd [(f, v)])) := by
  have e : upd (del (upd (upd (upd H a o) dx o') a o) a) dx (.xd [(f, v)]) = upd H dx (.xd [(f, v)]) := by
    funext b
    by_cases hb : b = dx
    · subst hb; rw [upd_same, upd_same]
    · rw [upd_ne hb, upd_ne hb]
      by_cases hc : b = a
      · subst hc; rw [del_same, na]
      · rw [del_ne hc, upd_ne hc, upd_ne hb, upd_ne hc]
  rw [e]
  exact Ex.new nd
end
section
variable {K : PySem.W.Frag} {H H0 : Hp} {σ : L2.St} {ta : TA} {ca : Nat → Addr} {pay : Nat → Option Str} {E : XK} {c : Nat} {C : Addr} {f : Str} {m : Int} {Q : XK}
theorem s_raiseP (T : OexC K C) (hno : PySem.W.findIn K (.ref C) f = some none) (hp : pay c = some f) (hc : ca c = C) (h : EvG K ta σ H [.d (.int m)]) (hq : Q = E) (q : XOut ca pay H E c m) : tMkO C (spInit K f) [] ta σ H Q := by
  subst hc
  subst hq
  refine h H (Ex.refl H) _ fun vs H1 e1 ok => ?_
  rcases ok with _ | @⟨v, _, _, _, ov, ok⟩
  cases ok
  have ov : Dr K H1 v (.int m) := ov
  have ev := ov.of_int
  subst ev
  refine ⟨by show 1 ≤ 1000; decide, fun a ha => ⟨a, ca c, .int m, rfl, T, hno, upd_same, fun dx hd ne => ⟨rfl, dx, [(f, .int m)], upd_same, ?_, ?_, ?_⟩⟩⟩
  · rw [upd_ne ne, upd_same]
  · rw [upd_ne ne] at hd; exact hd
  · rw [upd_ne ne] at hd
    have hd0 := fresh_back e1 hd
    have eq : upd (del (upd (upd (upd H1 a (exo a (ca c) none)) dx (exd dx [(f, V.int m)])) a (exo a (ca c) (some dx))) a) dx (.xd [(f, V.int m)]) = upd H1 dx (.xd [(f, V.int m)]) := by
      funext b
      by_cases hb : b = dx
      · subst hb; rw [upd_same, upd_same]
      · rw [upd_ne hb, upd_ne hb]
        by_cases hc : b = a
        · subst hc; rw [del_same, ha]
        · rw [del_ne hc, upd_ne hc, upd_ne hb, upd_ne hc]
    rw [eq]
    exact q.2 f hp dx _ (e1.trans (Ex.new hd)) hd0 upd_same
end
end Vx

/-! dicts with tuples of numbers as keys: read, popped, deleted from; handed to a def that changes them; stars in displays -/
namespace Vx
open PySem L2 PySem.Spec PyProof.Rows Evl RZ
variable [Tbs]
/-- what stands at a key -/
def getA {κ ω : Type} [DecidableEq κ] (kvs : List (κ × ω)) (k : κ) : Option ω := (kvs.find? fun kv => decide (kv.1 = k)).map (·.2)
/-- without a key -/
def delA {κ ω : Type} [DecidableEq κ] (kvs : List (κ × ω)) (k : κ) : List (κ × ω) := kvs.filter fun kv => decide (kv.1 ≠ k)
theorem getA_cons {κ ω : Type} [DecidableEq κ] (p : κ × ω) (r : List (κ × ω)) (k : κ) : getA (p :: r) k = if p.1 = k then some p.2 else getA r k := by
  unfold getA
  rw [List.find?_cons]
  by_cases h : p.1 = k
  · rw [decide_eq_true h, if_pos h]; rfl
  · rw [decide_eq_false h, if_neg h]
theorem getA_map {κ ω θ : Type} [DecidableEq κ] (f : ω → θ) (kvs : List (κ × ω)) (k : κ) : getA (kvs.map fun p => (p.1, f p.2)) k = (getA kvs k).map f := by
  induction kvs with
  | nil => rfl
  | cons p r ih =>
    rw [List.map_cons, getA_cons, getA_cons, ih]
    split <;> rfl
theorem hasA_get {κ ω : Type} [DecidableEq κ] (kvs : List (κ × ω)) (k : κ) : (getA kvs k).isSome = hasA kvs k := isSome_find kvs k
theorem delA_map {κ ω θ : Type} [DecidableEq κ] (f : ω → θ) (kvs : List (κ × ω)) (k : κ) : delA (kvs.map fun p => (p.1, f p.2)) k = (delA kvs k).map fun p => (p.1, f p.2) := by
  unfold delA
  rw [List.filter_map]
  rfl
theorem hasA_mapf {κ ω θ : Type} [DecidableEq κ] (f : ω → θ) (kvs : List (κ × ω)) (k : κ) : hasA (kvs.map fun p => (p.1, f p.2)) k = hasA kvs k := by
  unfold hasA
  rw [List.any_map]
  rfl
theorem inlMap_inj : ∀ {a b : List Int}, a.map (Sum.inl : Int → Key) = b.map Sum.inl → a = b
  | [], [], _ => rfl
  | [], _ :: _, e => nomatch e
  | _ :: _, [], e => nomatch e
  | x :: a, y :: b, e => by
    rw [List.map_cons, List.map_cons] at e
    injection e with e1 e2
    rw [inl_one e1, inlMap_inj e2]
section
variable {K : PySem.W.Frag} {σ : L2.St} {H H0 H' : Hp} {te ta tb : TE} {E : EnvD} {D : Ends} {l : Addr} {kvs : List (List Int × PyData)} {ks : List (List Key × V)} {n : List Int} {i : Nat} {d : PyData}
theorem dct_val (c : DcT K H ks kvs) (n : List Int) : match getA kvs n with
    | some x => ∃ v, valV ks (n.map Sum.inl) = some v ∧ Dr K H v x
    | none => valV ks (n.map Sum.inl) = none := by
  unfold DcT at c
  induction c with
  | nil => rfl
  | @cons p q _ _ h _ ih =>
    rw [getA_cons]
    by_cases e : q.1 = n
    · rw [if_pos e]
      exact ⟨p.2, valV_pos (by rw [h.1, e]), h.2⟩
    · rw [if_neg e, valV_neg fun z => e (inlMap_inj (h.1.symm.trans z))]
      exact ih
theorem dct_drop (c : DcT K H ks kvs) (n : List Int) : DcT K H (dropK ks (n.map Sum.inl)) (delA kvs n) := by
  unfold DcT at c ⊢
  induction c with
  | nil => exact .nil
  | @cons p q ps qs h t ih =>
    unfold dropK delA at ih ⊢
    by_cases e : q.1 = n
    · have e2 : p.1 = n.map Sum.inl := by rw [h.1, e]
      rw [List.filter_cons_of_neg (by simpa using e2), List.filter_cons_of_neg (by simpa using e)]
      exact ih
    · have e2 : ¬ p.1 = n.map Sum.inl := fun z => e (inlMap_inj (h.1.symm.trans z))
      rw [List.filter_cons_of_pos (by simpa using e2), List.filter_cons_of_pos (by simpa using e)]
      exact .cons h ih
/-- a key's address -/
theorem key_tup {v : V} (dk : Dr K H v (eT eI n)) : ∃ q, v = .ref q ∧ H q = some (.tup ((n.map (Sum.inl : Int → Key)).map kV)) := by
  obtain ⟨q, ws, rfl, hq, hd⟩ := dk.of_tupE
  rw [hd.ints] at hq
  exact ⟨q, rfl, by rw [kV_ints]; exact hq⟩
theorem dget_t {v : V} (o : OwT K H0 H l kvs) (dk : Dr K H v (eT eI n)) : ∃ r, DGet H l v r ∧ (match getA kvs n with
    | some x => ∃ u, r = some u ∧ Dr K H u x
    | none => r = none) := by
  obtain ⟨_, ks, b, c⟩ := o
  obtain ⟨q, rfl, hq⟩ := key_tup dk
  exact ⟨_, DGet.t b hq, dct_val c n⟩
theorem opt_some {r : Option V} {o : Option PyData} (h : match o with
    | some x => ∃ u, r = some u ∧ Dr K H u x
    | none => r = none) : r.isSome = o.isSome := by
  cases o with
  | none => rw [show r = none from h]; rfl
  | some x => obtain ⟨u, rfl, _⟩ := h; rfl
theorem p_dinT (S : Sl K H σ E) (hi : E[i]? = some (some (.raw (.ref l)))) (o : OwT K H0 H l kvs) (ha : EvP K ta σ H (eT eI n)) : EvP K (tDIn ta (tVar i)) σ H (.bool (hasA kvs n)) := fun H1 x Q q => ha H1 x _ fun v H2 x2 dr => by
  obtain ⟨r, g, e⟩ := dget_t (o.ex (x.trans x2)) dr
  refine ⟨.ref l, S.raw hi, l, r, rfl, g, ?_⟩
  rw [opt_some e, hasA_get]
  exact q _ H2 x2 .bl
theorem p_dninT (S : Sl K H σ E) (hi : E[i]? = some (some (.raw (.ref l)))) (o : OwT K H0 H l kvs) (ha : EvP K ta σ H (eT eI n)) : EvP K (tDNotIn ta (tVar i)) σ H (.bool (!hasA kvs n)) := fun H1 x Q q => ha H1 x _ fun v H2 x2 dr => by
  obtain ⟨r, g, e⟩ := dget_t (o.ex (x.trans x2)) dr
  refine ⟨.ref l, S.raw hi, l, r, rfl, g, ?_⟩
  rw [opt_some e, hasA_get]
  exact q _ H2 x2 .bl
theorem p_dgetT (h : getA kvs n = some d) (S : Sl K H σ E) (hi : E[i]? = some (some (.raw (.ref l)))) (o : OwT K H0 H l kvs) (ha : EvP K ta σ H (eT eI n)) : EvP K (tDGet (tVar i) ta) σ H d := fun H1 x Q q => ⟨.ref l, S.raw hi, ha H1 x _ fun v H2 x2 dr => by
  obtain ⟨r, g, e⟩ := dget_t (o.ex (x.trans x2)) dr
  rw [h] at e
  obtain ⟨u, rfl, du⟩ := e
  exact ⟨l, u, rfl, g, q u H2 x2 du⟩⟩
theorem p_dget2T (S : Sl K H σ E) (hi : E[i]? = some (some (.raw (.ref l)))) (o : OwT K H0 H l kvs) (ha : EvP K ta σ H (eT eI n)) (hb : EvP K tb σ H d) : EvP K (tDGet2 (tVar i) ta tb) σ H ((getA kvs n).getD d) := fun H1 x Q q => ⟨.ref l, S.raw hi, l, rfl, by
    obtain ⟨_, ks, b, _⟩ := o.ex x
    exact .inr ⟨ks, .inl b⟩, ha H1 x _ fun v H2 x2 dr => hb H2 (x.trans x2) _ fun w H3 x3 dw => by
  obtain ⟨r, g, e⟩ := dget_t (o.ex ((x.trans x2).trans x3)) (dr.ex x3)
  refine ⟨r, g, ?_⟩
  cases hk : getA kvs n with
  | none =>
    rw [hk] at e
    rw [show r = none from e]
    exact q w H3 (x2.trans x3) (by rw [hk]; exact dw)
  | some y =>
    rw [hk] at e
    obtain ⟨u, rfl, du⟩ := e
    exact q u H3 (x2.trans x3) (by rw [hk]; exact du)⟩
/-! whole numbers as keys -/
theorem dck_val {kvs : List (Int × PyData)} {ks : List (Key × V)} (c : DcK K H ks kvs) (n : Int) : match getA kvs n with
    | some x => ∃ v, valV ks (Sum.inl n) = some v ∧ Dr K H v x
    | none => valV ks (Sum.inl n) = none := by
  unfold DcK at c
  induction c with
  | nil => rfl
  | @cons p q _ _ h _ ih =>
    rw [getA_cons]
    by_cases e : q.1 = n
    · rw [if_pos e]
      exact ⟨p.2, valV_pos (by rw [h.1, e]), h.2⟩
    · rw [if_neg e, valV_neg fun z => e (inl_one (h.1.symm.trans z))]
      exact ih
theorem p_dgetK {kvs : List (Int × PyData)} {n : Int} (h : getA kvs n = some d) (S : Sl K H σ E) (hi : E[i]? = some (some (.raw (.ref l)))) (o : OwK K H0 H l kvs) (ha : EvP K ta σ H (.int n)) : EvP K (tDGet (tVar i) ta) σ H d := fun H1 x Q q => ⟨.ref l, S.raw hi, ha H1 x _ fun v H2 x2 dr => by
  obtain ⟨_, ks, b, c⟩ := o.ex (x.trans x2)
  have e := dck_val c n
  rw [h] at e
  obtain ⟨u, eu, du⟩ := e
  refine ⟨l, u, rfl, ?_, q u H2 x2 du⟩
  rw [dr.of_int, ← eu]
  exact DGet.k (k := Sum.inl n) b⟩
end
/-! pop and del -/
def tDPopT (td ty : TE) : TE := fun σ H Q => td σ H fun x H1 => ∃ a, x = .ref a ∧ IsD H1 a ∧ ty σ H1 fun y H2 => ∃ kvs k b v, y = .ref b ∧ H2 a = some (.dT kvs) ∧ H2 b = some (.tup (k.map kV)) ∧ valV kvs k = some v ∧ Q v (upd H2 a (.dT (dropK kvs k)))
def sDDelT (td ty : TE) : TS := fun D σ H => td σ H fun x H1 => ty σ H1 fun y H2 => ∃ a kvs k b v, x = .ref a ∧ y = .ref b ∧ H2 a = some (.dT kvs) ∧ H2 b = some (.tup (k.map kV)) ∧ valV kvs k = some v ∧ D.nx σ (upd H2 a (.dT (dropK kvs k)))
section
variable {X : Cx} {o e : Expr} {apos cpos pos tpos : Pos} {td ty : TE}
/-- what a key's going leaves -/
theorem gone_key {pins : List (Addr × Obj)} {σ : L2.St} {H : Hp} {s : Shared} {a : Addr} {kvs : List (List Key × V)} {xs : List (List Key × Addr × Value)} {k : List Key} {h' : Heap} {tk : Nat} (I : Inv X pins σ H s) (ha : H a = some (.dT kvs)) (z : kvs.length ≤ sizeLine) (hd : (a == sysModules) = false) (rel : KT H kvs xs)
    (dd : h'.DictOfH (tupleKind (mixKind X.prog X.w)) a (withoutH xs k)) (hs : Heap.SameBut a s.heap h') : Inv X pins σ (upd H a (.dT (dropK kvs k))) { s with heap := h', toks := tk } := by
  obtain ⟨o, es, ep, hq, h2, h3, h4, h5, h6⟩ := dd
  have rel2 : KT H (dropK kvs k) (withoutH xs k) := L2.DX.KT_drop k rel
  exact d_write I (by rw [ha]; exact True.intro) hs ⟨o, hq⟩ ⟨Nat.le_trans (dropK_le kvs k) z, hd, _, rel2.keeps (fun c ys ec => (by rw [upd_ne (ne_of ec ha (fun z => nomatch z))]; exact ec)), o, es, ep, hq, h2, h3, h4, h6⟩
theorem at_val {H : Hp} {kvs : List (List Key × V)} {xs : List (List Key × Addr × Value)} {k : List Key} {v : V} (rel : KT H kvs xs) (l : valV kvs k = some v) : ∃ p, atKey xs k = some p ∧ RelV v p.2 := by
  have r := rel.val k
  rw [l] at r
  cases h : atKey xs k with
  | none => rw [h] at r; exact r.elim
  | some p => rw [h] at r; exact ⟨p, rfl, r⟩
theorem pe_dpopT (hu : X.A.units + 1 < cLine) (ho : PE X o td) (he : PE X e ty) (m : M1 X o "pop" apos e cpos) : PE X (.Call (.Attribute o "pop" apos) [e] [] cpos) (tDPopT td ty) := by
  refine ⟨fun pins s σ H Q I h => ?_⟩
  refine wpAny_Call_method m.base m.few m.line PySem.F.plainAttrs_dict PySem.F.slot_dict_pop PySem.F.type_dict_pop (thn (ho.run pins s σ H _ I h) fun u s1 hh => ?_)
  obtain ⟨x, H1, I1, rx, a, ex, d, q1⟩ := hh
  subst ex
  have eu : u = Value.ref a := rx
  subst eu
  obtain ⟨t1, t2, _⟩ := isD_at I1 d
  refine ⟨t1, t2, ?_⟩
  rw [m.trees]
  refine Calls.callWith_builtin rfl (Calls.evalArgs_plain (Calls.spliced_cons (thn (he.run pins s1 σ H1 _ I1 q1) fun iv s2 hh2 => Calls.spliced_nil ?_)))
  obtain ⟨y, H2, I2, ry, kvs, k, b, v, ey, ea, eb, l, q2⟩ := hh2
  subst ey
  have ei : iv = Value.ref b := ry
  subst ei
  obtain ⟨z, hd, xs, rel, dd⟩ := dt_of I2.hok ea
  obtain ⟨p, hp, rp⟩ := at_val rel l
  exact call_pop_heap (.inl rfl) (PySem.F.args_dict_pop_2 _ _) (tupleKind_room_in1 hu) (key_of I2.hok eb) hd dd hp (fun h' dd' hs => ⟨v, _, gone_key I2 ea z hd rel dd' hs, rp, q2⟩) (by rw [← Paired.length rel]; exact z)
theorem ps_ddelT (hu : X.A.units + 1 < cLine) (ho : PE X o td) (hi : PE X e ty) : PS X (.Delete [.Subscript o e tpos] pos) (sDDelT td ty) := by
  refine ⟨fun pins s σ H D I h => ?_⟩
  refine wpAny_Delete (wpAny_deleteEach_cons (wpAny_delete_Subscript (thn (ho.run pins s σ H _ I h) fun u s1 hh => ?_)))
  obtain ⟨x, H1, I1, rx, q1⟩ := hh
  refine thn (hi.run pins s1 σ H1 _ I1 q1) fun iv s2 hh2 => ?_
  obtain ⟨y, H2, I2, ry, a, kvs, k, b, v, ex, ey, ea, eb, l, q2⟩ := hh2
  subst ex ey
  have eu : u = Value.ref a := rx
  subst eu
  have ei : iv = Value.ref b := ry
  subst ei
  obtain ⟨z, hd, xs, rel, dd⟩ := dt_of I2.hok ea
  obtain ⟨p, hp, rp⟩ := at_val rel l
  exact wpAny_delItem_heap (tupleKind_room_in1 hu) (key_of I2.hok eb) hd dd hp (fun h' dd' hs => wpAny_deleteEach_nil ⟨σ, _, gone_key I2 ea z hd rel dd' hs, q2⟩) (by rw [← Paired.length rel]; exact z)
end
section
variable {K : PySem.W.Frag} {σ : L2.St} {H H0 H' : Hp} {te ta tb : TE} {E : EnvD} {D : Ends} {l : Addr} {kvs : List (List Int × PyData)} {n : List Int} {i : Nat} {d : PyData}
theorem drop_ok {H2 : Hp} {ks : List (List Key × V)} (a : H0 l = none) (hl : H2 l = some (.dT ks)) (c : DcT K H2 ks kvs) : Kp H2 (upd H2 l (.dT (dropK ks (n.map Sum.inl)))) ∧ OwT K H0 (upd H2 l (.dT (dropK ks (n.map Sum.inl)))) l (delA kvs n) := by
  have kp : Kp H2 (upd H2 l (.dT (dropK ks (n.map Sum.inl)))) := Kp.put (im_none hl (fun _ z => nomatch z) fun _ _ z => nomatch z)
  exact ⟨kp, a, _, upd_same, (dct_drop c n).kp kp⟩
theorem s_dpopT (S : Sl K H σ E) (hi : E[i]? = some (some (.raw (.ref l)))) (o : OwT K H0 H l kvs) (ha : EvP K ta σ H (eT eI n)) (hh : hasA kvs n = true)
    (k : ∀ H1, Kp H H1 → Xb l H H1 → OwT K H0 H1 l (delA kvs n) → D.nx σ H1) : tDrop (tDPopT (tVar i) ta) D σ H := by
  refine ⟨.ref l, S.raw hi, l, rfl, ?_, ha H (Ex.refl H) _ fun v H2 e2 dk => ?_⟩
  · obtain ⟨_, ks, b, _⟩ := o
    exact .inr ⟨ks, .inl b⟩
  · obtain ⟨a, ks, b, c⟩ := o.ex e2
    obtain ⟨q, rfl, hq⟩ := key_tup dk
    have hv := dct_val c n
    have hs : (getA kvs n).isSome = true := by rw [hasA_get]; exact hh
    obtain ⟨x, hx⟩ := Option.isSome_iff_exists.mp hs
    rw [hx] at hv
    obtain ⟨u, hu, _⟩ := hv
    obtain ⟨kp, ow⟩ := drop_ok (n := n) a b c
    exact ⟨ks, n.map Sum.inl, q, u, rfl, b, hq, hu, k _ ((Kp.of e2).trans kp) (Xb.mut e2 (nc_of b fun _ z => nomatch z)) ow⟩
theorem s_ddelT (S : Sl K H σ E) (hi : E[i]? = some (some (.raw (.ref l)))) (o : OwT K H0 H l kvs) (ha : EvP K ta σ H (eT eI n)) (hh : hasA kvs n = true)
    (k : ∀ H1, Kp H H1 → Xb l H H1 → OwT K H0 H1 l (delA kvs n) → D.nx σ H1) : sDDelT (tVar i) ta D σ H := by
  refine ⟨.ref l, S.raw hi, ha H (Ex.refl H) _ fun v H2 e2 dk => ?_⟩
  obtain ⟨a, ks, b, c⟩ := o.ex e2
  obtain ⟨q, rfl, hq⟩ := key_tup dk
  have hv := dct_val c n
  have hs : (getA kvs n).isSome = true := by rw [hasA_get]; exact hh
  obtain ⟨x, hx⟩ := Option.isSome_iff_exists.mp hs
  rw [hx] at hv
  obtain ⟨u, hu, _⟩ := hv
  obtain ⟨kp, ow⟩ := drop_ok (n := n) a b c
  exact ⟨l, ks, n.map Sum.inl, q, u, rfl, rfl, b, hq, hu, k _ ((Kp.of e2).trans kp) (Xb.mut e2 (nc_of b fun _ z => nomatch z)) ow⟩
end
/-! a dict that is handed to a def, which changes it -/
def delH' (H : Hp) (l : Addr) : Hp := fun b => if b = l then none else H b
theorem delH'_ne {H : Hp} {l b : Addr} (h : b ≠ l) : delH' H l b = H b := if_neg h
theorem delH'_self {H : Hp} {l : Addr} : delH' H l l = none := if_pos rfl
/-- handed l (a dict that holds kvs) and as, it leaves kvs' there; nothing is handed back -/
def SpM (K : PySem.W.Frag) (n : Nat) (R : List (List Int × PyData) → List Ag → List (List Int × PyData) → Prop) : Sp := fun vs H Q _ => ∃ (l : Addr) (ws : List V) (kvs kvs' : List (List Int × PyData)) (as : List Ag) (ks : List (List Key × V)),
  vs = .ref l :: ws ∧ as.length = n ∧ R kvs as kvs' ∧ AgsOk K H ws as ∧ LamX.Tabs Tbs.l H ∧ H l = some (.dT ks) ∧ DcT K H ks kvs ∧ ∀ H' ks', Kp H H' → Xb l H H' → H' l = some (.dT ks') → DcT K H' ks' kvs' → Q .non H'
section
variable {K : PySem.W.Frag} {σ : L2.St} {H H0 H' : Hp} {ta : TA} {E : EnvD} {D : Ends} {l : Addr} {kvs kvs' : List (List Int × PyData)} {i n : Nat} {as : List Ag} {R : List (List Int × PyData) → List Ag → List (List Int × PyData) → Prop} {E' : XK}
theorem s_callM (t0 : LamX.Tabs Tbs.l H) (S : Sl K H σ E) (hi : E[i]? = some (some (.raw (.ref l)))) (o : OwT K H0 H l kvs) (h : EvG K ta σ H as) (hn : as.length = n) (hr : R kvs as kvs')
    (k : ∀ H1, Kp H H1 → Xb l H H1 → OwT K H0 H1 l kvs' → D.nx σ H1) : tDrop (tCall (SpM K n R) [] E' (tCons (tVar i) ta)) D σ H := by
  refine ⟨.ref l, S.raw hi, h H (Ex.refl H) _ fun vs H2 e2 ok => ?_⟩
  show SpM K n R ((V.ref l :: vs) ++ []) H2 _ E'
  rw [List.append_nil]
  obtain ⟨a, ks, b, c⟩ := o.ex e2
  refine ⟨l, vs, kvs, kvs', as, ks, rfl, hn, hr, ok, tabs_ex e2 t0, b, c, fun H3 ks' kp bt hl hc => ?_⟩
  exact k H3 ((Kp.of e2).trans kp) ((Xb.of e2).trans (nc_of b fun _ z => nomatch z) bt) ⟨a, ks', hl, hc⟩
/-- at the def's entry: the heap without the dict is what stays -/
theorem ex_del (nt : ∀ ps, H l ≠ some (.tbl ps)) : Ex (delH' H l) H := ⟨fun a o h _ => by
    by_cases e : a = l
    · subst e; rw [delH'_self] at h; cases h
    · rwa [delH'_ne e] at h, fun a ps h => by
    by_cases e : a = l
    · subst e; rw [delH'_self] at h; cases h
    · exact ⟨ps, by rwa [delH'_ne e] at h⟩, fun P q m t => by
    obtain ⟨ps, h1, h2, h3⟩ := t
    have e : P ≠ l := fun e => by subst e; rw [delH'_self] at h1; cases h1
    rw [delH'_ne e] at h1
    refine ⟨ps, h1, h2, fun pos cv hc => ?_⟩
    obtain ⟨c, e1, e2⟩ := h3 pos cv hc
    refine ⟨c, e1, ?_⟩
    by_cases ec : c = l
    · subst ec; rw [delH'_self] at e2; cases e2
    · rwa [delH'_ne ec] at e2⟩
theorem kp_del (m : im H l = none) : Kp H (delH' H l) := fun a o h => by
  have ne : a ≠ l := fun e => by
    subst e
    rw [m] at h
    cases h
  obtain ⟨h', k⟩ := of_im h
  exact im_some (by rw [delH'_ne ne]; exact h') k
theorem tabs_del {ks : List (List Key × V)} (hl : H l = some (.dT ks)) (t : LamX.Tabs Tbs.l H) : LamX.Tabs Tbs.l (delH' H l) := fun p hp => by
  obtain ⟨ps, h1, h2, h3⟩ := t p hp
  have ne : p.1 ≠ l := fun e => by
    rw [e, hl] at h1
    cases h1
  refine ⟨ps, by rw [delH'_ne ne]; exact h1, h2, fun pos cv hc => ?_⟩
  obtain ⟨c, e1, e2⟩ := h3 pos cv hc
  refine ⟨c, e1, ?_⟩
  rw [delH'_ne]
  · exact e2
  · intro z
    subst z
    exact nc_of hl (fun _ z => nomatch z) _ e2
theorem sq_del {a : Addr} {xs : List V} {ks : List (List Key × V)} (hl : H l = some (.dT ks)) (h : SqL K H a xs) : SqL K (delH' H l) a xs := h.elim (fun z => .inl (by
    have ne : a ≠ l := fun e => by
      subst e
      rcases z with z | ⟨o, z⟩ <;> rw [hl] at z <;> cases z
    rcases z with z | ⟨o, z⟩
    · exact .inl (by rw [delH'_ne ne]; exact z)
    · exact .inr ⟨o, by rw [delH'_ne ne]; exact z⟩)) .inr
theorem xb_of_del {H1 : Hp} {ks : List (List Key × V)} (hl : H l = some (.dT ks)) (e : Ex (delH' H l) H1) : Xb l H H1 := ⟨fun a n u h k => e.app a u (by rw [delH'_ne n]; exact h) k, fun a n ps h => e.tbl a ps (by rw [delH'_ne n]; exact h), fun nc P q m n t => e.tab P q m (by
    obtain ⟨ps, h1, h2, h3⟩ := t
    refine ⟨ps, by rw [delH'_ne n]; exact h1, h2, fun pos cv hc => ?_⟩
    obtain ⟨c, e1, e2⟩ := h3 pos cv hc
    refine ⟨c, e1, ?_⟩
    rw [delH'_ne]
    · exact e2
    · intro z
      subst z
      exact nc _ e2)⟩
theorem kp_back {H1 : Hp} {ks : List (List Key × V)} (hl : H l = some (.dT ks)) (e : Ex (delH' H l) H1) : Kp H H1 := (kp_del (im_none hl (fun _ z => nomatch z) fun _ _ z => nomatch z)).trans (Kp.of e)
theorem dr_del {v : V} {d : PyData} {ks : List (List Key × V)} (hl : H l = some (.dT ks)) (h : Dr K H v d) : Dr K (delH' H l) v d := h.kp (kp_del (im_none hl (fun _ z => nomatch z) fun _ _ z => nomatch z))
theorem dra_del {vs : List V} {ds : List PyData} {ks : List (List Key × V)} (hl : H l = some (.dT ks)) (h : DrA K H vs ds) : DrA K (delH' H l) vs ds := h.kp (kp_del (im_none hl (fun _ z => nomatch z) fun _ _ z => nomatch z))
/-- where the changed dict stands at the def's entry -/
theorem owt_at {ks : List (List Key × V)} (hl : H l = some (.dT ks)) (c : DcT K H ks kvs) : OwT K (delH' H l) H l kvs := ⟨delH'_self, ks, hl, c⟩
theorem nt_of {ks : List (List Key × V)} (hl : H l = some (.dT ks)) : ∀ ps, H l ≠ some (.tbl ps) := fun ps z => by rw [hl] at z; cases z
end
/-! stars in displays -/
section
variable {K : PySem.W.Frag} {σ : L2.St} {H : Hp} {te ta : TE} {tr : TA} {ds es : List PyData}
theorem a_starT (h : EvP K te σ H (.tuple ds)) (hr : EvAs K tr σ H es) : EvAs K (StX.tStar K te tr) σ H (ds ++ es) := fun H1 x Q q =>
  h H1 x _ fun v H2 x2 d2 => by
    obtain ⟨a, vs, rfl, hs, hd⟩ := d2.of_tup
    exact ⟨a, vs, rfl, .inl hs, hr H2 (x.trans x2) _ fun ws H3 x3 d3 => q _ H3 (x2.trans x3) ((hd.ex x3).append d3)⟩
theorem a_starL (h : EvS K te σ H ds) (hr : EvAs K tr σ H es) : EvAs K (StX.tStar K te tr) σ H (ds ++ es) := fun H1 x Q q =>
  h H1 x _ fun a vs H2 x2 hs hd => ⟨a, vs, rfl, .inr hs, hr H2 (x.trans x2) _ fun ws H3 x3 d3 => q _ H3 (x2.trans x3) ((hd.ex x3).append d3)⟩
theorem n_lstB (h : EvAs K tr σ H ds) (hl : ds.length ≤ 16777216) : EvN K (tLst tr) σ H ds := fun H1 x Q q =>
  h H1 x _ fun vs H2 x2 d2 => ⟨by rw [d2.length, sizeLine_eq]; exact hl, fun p hp => q p vs _ (fresh_back x2 hp) (x2.trans (Ex.new hp)) upd_same (d2.ex (Ex.new hp))⟩
theorem p_tupB (h : EvAs K tr σ H ds) (hl : ds.length ≤ 16777216) : EvP K (tTup tr) σ H (.tuple ds) := fun H1 x Q q =>
  h H1 x _ fun vs H2 x2 d2 => ⟨by rw [d2.length, sizeLine_eq]; exact hl, fun p hp => q _ _ (x2.trans (Ex.new hp)) (Dr.tup upd_same (d2.ex (Ex.new hp)))⟩
end
theorem pa_starK {X : Cx} (K : PySem.W.Frag) {e : Expr} {es : List Expr} {te : TE} {t : TA} {p : Pos} (he : PE X e te) (hr : PA X es t) (hK : X.K = K := by rfl) (hs : starEach (.Starred e p :: es) X.env = (true, eval e X.env) :: starEach es X.env := by rfl) : PA X (.Starred e p :: es) (StX.tStar K te t) := by
  subst hK
  exact StX.pa_star he hr hs
instance : Cl eB := ⟨fun a b => by simp only [PyData.eqv]; cases a <;> cases b <;> rfl⟩
/-! set(t), t a tuple of ints -/
section
variable {P : Program} {w : World} {A : Around} {E : Value → Shared → Prop} {s : Shared}
theorem fill_ints {l : Addr} {xs : Array Value} {ns : List Int} (hh : A.in1.handled = none) (hl : s.heap.IsTuple l xs) (hi : IntsAre xs.toList ns) (hb : ns.length + 1 < scanBound) :
    wpAny (model P w) A (Builtin.«set.__init__» ⟨[.ref s.heap.objs.size, .ref l], []⟩) (fun f s2 => f = .done (.ret .none) ∧ Filled w s ns s2) E { s with heap := emH w s.heap } := by
  obtain ⟨⟨cl, dct, dat, slo⟩, g1, g2, m, g3⟩ := hl
  cases g2
  cases g3
  have len : xs.size = ns.length := by rw [← Array.length_toList]; exact IntsAre.length hi
  have below : l < s.heap.objs.size := Heap.lt_size g1
  have up : (emH w s.heap).objs.size = s.heap.objs.size + 1 := Heap.size_push ..
  have here : (emH w s.heap).get? s.heap.objs.size = some (emO w) := Heap.get?_push_size _ rfl
  have isSet : Shared.TypeIs { s with heap := emH w s.heap } (.ref s.heap.objs.size) "set" := ⟨_, here, rfl⟩
  have g1' : (emH w s.heap).get? l = some { cls := .type "tuple", dict := dct, data := .seq xs m, slots := slo } := Heap.get?_push_of_some _ g1
  have isL : (emH w s.heap).IsTuple l xs := ⟨_, g1', rfl, m, rfl⟩
  have n1 := F.sub_tuple_set
  have n2 := F.sub_tuple_frozenset
  have n3 : (Value.type "tuple" == Value.type "dict") = false := by decide
  unfold Builtin.«set.__init__» noKeywords Builtin.Frozenset.updateFrom
  generalize it : pyIter = J
  wp_walk
  subst it
  refine wpAny_pyIter_tuple isL (wpAny_bind (wpAny_runValue ?_))
  have num : ∀ (i : Nat) (v : Value), xs[i]? = some v → ∃ k t, ns[i]? = some k ∧ v = .int k t := fun i v hv => by
    obtain ⟨t, e⟩ := PyProof.Rows.IntsAre.int_at hi i v (by rw [Array.getElem?_toList]; exact hv)
    have lt : i < ns.length := len ▸ (Array.getElem?_eq_some_iff.mp hv).1
    exact ⟨ns[i], t, List.getElem?_eq_getElem lt, by rw [e, List.getD_eq_getElem?_getD, List.getElem?_eq_getElem lt]; rfl⟩
  refine set_update_ints ((Walks.tuple hh _ l (by show l ≠ (emH w s.heap).objs.size; rw [up]; exact Nat.ne_of_lt (Nat.lt_succ_of_lt below)) xs).toS) s.heap.objs.size (by show s.heap.objs.size ∉ [(emH w s.heap).objs.size, l]; simp only [List.mem_cons, List.not_mem_nil, or_false]; rw [up]; exact fun z => z.elim (Nat.ne_of_lt (Nat.lt_succ_self _)) (Nat.ne_of_gt below)) ns len hb num (xs.size - 0) 0 _ (by omega) (Nat.zero_le _) ⟨⟨_, Heap.get?_push_size _ rfl, rfl, rfl⟩, isL.push _⟩ ?_ ?_
  · exact ⟨0, Nat.le_refl 0, setR_new_at (show ((emH w s.heap).push (tiO l)).get? s.heap.objs.size = some (emO w) from Heap.get?_push_of_some _ here)⟩
  · intro ⟨h2, gs, dr, k, os⟩ c mv hc r
    have e1 : gs = s.gens := mv.gens
    have e2 : dr = s.drawn := mv.drawn
    have e3 : os = s.os := mv.os
    subst e1 e2 e3
    refine wpAny_pure (wpAny_pure ⟨rfl, h2, k, c, rfl, r, by omega, fun b o e => ?_⟩)
    have lt := Heap.lt_size e
    exact mv.heap b o (by show b ∉ [s.heap.objs.size, (emH w s.heap).objs.size]; simp only [List.mem_cons, List.not_mem_nil, or_false]; rw [up]; exact fun z => z.elim (Nat.ne_of_lt lt) (Nat.ne_of_lt (Nat.lt_succ_of_lt lt))) (Heap.get?_push_of_some _ (Heap.get?_push_of_some _ e))
theorem call_set_intsT {l : Addr} {xs : Array Value} {ns : List Int} {Q : Value → Shared → Prop} (hh : A.handled = none) (hl : s.heap.IsTuple l xs) (hi : IntsAre xs.toList ns) (hb : ns.length + 1 < scanBound)
    (q : ∀ s2, Filled w s ns s2 → Q (.ref s.heap.objs.size) s2) : wpAny (model P w) A (call (.type "set") [.ref l]) Q E s := by
  obtain ⟨c, tl, x1⟩ := F.called_set.mro
  have x2 := F.called_set.made
  have x3 := F.called_set.sub
  have x4 := F.called_set.notType
  have x5 := F.called_set.canCreate
  have x6 := F.typeCall_set_1 (.ref l)
  have x7 := F.called_set.init.lookup
  have x8 := F.called_set.init.bind (.ref s.heap.objs.size)
  refine wpAny_call (codeAny_of_tree (show wpAny _ _ (callAny (.type "set") _) _ _ _ from wpAny_pure ⟨Code.quiet_builtin _ (by decide +kernel), codeAny_builtin F.entry_type_call ?_⟩))
  rw [Around.under_plain (weight_type_call_type "set" [.ref l] []) rfl]
  repeat (any_goals (first | assumption | wp_step))
  refine codeAny_mono (code_set_led1 (.ref l) (E := E) (Q₁ := fun v t => v = .ref s.heap.objs.size ∧ t = { s with heap := emH w s.heap }) ⟨rfl, rfl⟩) fun r t hr => ?_
  rcases r with e | f
  · exact hr
  rcases f with _ | _ | _ | v
  all_goals first | exact hr.elim | skip
  obtain ⟨rfl, rfl⟩ := hr
  repeat (any_goals (first | assumption | wp_step))
  have isSet : Shared.TypeIs { s with heap := emH w s.heap } (.ref s.heap.objs.size) "set" := ⟨_, Heap.get?_push_size _ rfl, rfl⟩
  refine codeAny_mono (codeAny_call_builtin (R := wants (fun r t => r = .none ∧ Filled w s ns t) E) F.called_set.init.plain F.entry_set_init (check_set_init_1 isSet (wpAny_mono (fill_ints hh hl hi hb) (fun f t x => ?_) fun _ _ x => x))) fun r t hr => ?_
  · obtain ⟨rfl, x⟩ := x
    exact ⟨rfl, x⟩
  · rcases r with e | f
    · exact hr
    rcases f with _ | _ | _ | v
    all_goals first | exact hr.elim | skip
    obtain ⟨rfl, x⟩ := hr
    repeat (any_goals (first | assumption | wp_step))
    exact q _ x
end
def rSetIT (K : PySem.W.Frag) (w : World) : List V → Hp → VK → Prop := fun xs H Q => ∃ (l : Addr) (ns : List Int), xs = [V.ref l] ∧ SqT K H l (ns.map V.int) ∧ ns.length + 1 < scanBound ∧
  ∀ a c, H a = none → c ≤ ns.length → Q (.ref a) (upd H a (SetO w a (fun j => decide (j ∈ ns)) c))
theorem cr_setIT {X : Cx} (hc : X.calm = true) : CallR X (.type "set") (rSetIT X.K X.w) := by
  intro pins s σ H xs us Q I r h
  obtain ⟨l, ns, rfl, hl, hb, q⟩ := h
  rw [Vals.ref1 r]
  obtain ⟨its, rv, pl, hz⟩ := I.tuple hl
  refine call_set_intsT (I.ok.hd hc) pl (by simpa using intsAre_of rv) hb fun s2 f => ?_
  obtain ⟨h2, k, c, rfl, R, hc', kp⟩ := f
  exact ⟨.ref s.heap.objs.size, upd H s.heap.objs.size (SetO X.w s.heap.objs.size _ c), I.laid (t' := k) kp (Nat.le_refl _) (setO_new R), rfl, q _ c (I.hok.fresh (Nat.le_refl _)) hc'⟩
theorem cl_setIT {X : Cx} (K : PySem.W.Frag) (w : World) (hc : X.calm = true) (hK : X.K = K := by rfl) (hw : X.w = w := by rfl) : CallR X (.type "set") (rSetIT K w) := by subst hK hw; exact cr_setIT hc
theorem n_sortSetIT {K : PySem.W.Frag} {w : World} {σ : L2.St} {H : Hp} {te : TE} {ns : List Int} (h : EvP K te σ H (eT eI ns)) (hl : ns.length < 64) : EvN K (tCB (rSortedSet w) (tCons (tCB (rSetIT K w) (tCons te tNil)) tNil)) σ H ((setI ns).map .int) := fun H1 x Q q => h H1 x _ fun v H2 x2 dr => by
  obtain ⟨l, vs, rfl, hs, hd⟩ := dr.of_tup
  rw [hd.ints] at hs
  refine ⟨l, ns, rfl, hs, by unfold scanBound; omega, fun a c ha hc => ⟨a, _, c, rfl, upd_same, by omega, fun ms p h1 h2 h3 hp => ?_⟩⟩
  rw [setI_of h1 fun k => (h2 k).trans decide_eq_true_iff]
  have xa : Ex H2 (upd H2 a (SetO w a (fun j => decide (j ∈ ns)) c)) := Ex.new ha
  exact q p _ _ (fresh_back (x2.trans xa) hp) ((x2.trans xa).trans (Ex.new hp)) upd_same DrA.of_ints
theorem getA_enc {κ ω : Type} [DecidableEq κ] {f : ω → PyData} {kvs : List (κ × ω)} {k : κ} {x : ω} (h : getA kvs k = some x) : getA (kvs.map fun p => (p.1, f p.2)) k = some (f x) := by rw [getA_map, h]; rfl
theorem getD_enc {κ ω : Type} [DecidableEq κ] {f : ω → PyData} {kvs : List (κ × ω)} {k : κ} {x : ω} : (getA (kvs.map fun p => (p.1, f p.2)) k).getD (f x) = f ((getA kvs k).getD x) := by
  rw [getA_map]
  cases getA kvs k <;> rfl
theorem EvAs.to {K : PySem.W.Frag} {σ : L2.St} {H : Hp} {ta : TA} {ds es : List PyData} (h : EvAs K ta σ H ds) (e : es = ds) : EvAs K ta σ H es := e ▸ h
end Vx

/-! dicts with whole numbers as keys: handed to defs, handed back, copied; bits; is True -/
namespace Vx
open PySem L2 PySem.Spec PyProof.Rows Evl RZ
variable [Tbs]
abbrev nilH : Hp := fun _ => none
def rCopyK : List V → Hp → VK → Prop := fun vs H Q => ∃ a ks, vs = [V.ref a] ∧ H a = some (.dK ks) ∧ ∀ p, H p = none → Q (.ref p) (upd H p (.dK ks))
theorem cr_copyK {X : Cx} : CallR X (.type "dict") rCopyK := by
  intro pins s σ H vs us Q I r h
  obtain ⟨a, ks, rfl, ha, q⟩ := h
  rw [Vals.ref1 r]
  exact d_copyOf I (.inl ha) fun p s' hp I' => ⟨.ref p, _, I', rfl, q p hp⟩
section
variable {K : PySem.W.Frag} {σ : L2.St} {H H0 H' : Hp} {te ta tb : TE} {tr : TA} {E : EnvD} {D : Ends} {l : Addr} {kvs : List (Int × PyData)} {i n : Nat} {as : List Ag} {R : List Ag → Rt → Prop} {E' : XK}
theorem EvDK.to {kvs2 : List (Int × PyData)} (h : EvDK K te σ H kvs) (e : kvs = kvs2) : EvDK K te σ H kvs2 := e ▸ h
/-- a parameter -/
theorem par_k {ks : List (Key × V)} (hk : H l = some (.dK ks)) (hc : DcK K H ks kvs) : OwK K nilH H l kvs := ⟨rfl, ks, hk, hc⟩
theorem k_copy (S : Sl K H σ E) (hi : E[i]? = some (some (.raw (.ref l)))) (o : OwK K H0 H l kvs) : EvDK K (tCB rCopyK (tCons (tVar i) tNil)) σ H kvs := fun H1 x Q q => by
  obtain ⟨_, ks, b, c⟩ := o.ex x
  exact ⟨.ref l, S.raw hi, l, ks, rfl, b, fun p hp => q p ks _ hp (Ex.new hp) upd_same (c.kp (Kp.of (Ex.new hp)))⟩
theorem k_callR (t0 : LamX.Tabs Tbs.l H) (h : EvG K tr σ H as) (hn : as.length = n) (hr : R as (.k kvs)) : EvDK K (tCall (SpR K n R) [] E' tr) σ H kvs := fun H1 x Q q =>
  h H1 x _ fun vs H2 x2 d2 => by
    show SpR K n R (vs ++ []) H2 Q E'
    rw [List.append_nil]
    exact ⟨as, .k kvs, hn, hr, d2, tabs_ex (x.trans x2) t0, fun p ks H3 hp x3 h3 d3 => q p ks H3 (fresh_back x2 hp) (x2.trans x3) h3 d3⟩
theorem g_k (h : EvDK K te σ H kvs) (hr : EvG K tr σ H as) : EvG K (tCons te tr) σ H (.k kvs :: as) := fun H1 x Q q =>
  h H1 x _ fun p ks H2 hp x2 hk hc => hr H2 (x.trans x2) _ fun ws H3 x3 d3 => q _ H3 (x2.trans x3) (.cons (AgOk.ex (a := .k kvs) x3 ⟨p, ks, rfl, hk, hc⟩) d3)
theorem g_kv (S : Sl K H σ E) (hi : E[i]? = some (some (.raw (.ref l)))) (o : OwK K H0 H l kvs) (hr : EvG K tr σ H as) : EvG K (tCons (tVar i) tr) σ H (.k kvs :: as) := fun H1 x Q q =>
  ⟨.ref l, S.raw hi, hr H1 x _ fun ws H3 x3 d3 => by
    obtain ⟨_, ks, b, c⟩ := o.ex (x.trans x3)
    exact q _ H3 x3 (.cons ⟨l, ks, rfl, b, c⟩ d3)⟩
theorem s_retK (h : EvDK K te σ H kvs) (k : ∀ p ks H1, H p = none → Ex H H1 → H1 p = some (.dK ks) → DcK K H1 ks kvs → D.rt (.ref p) H1) : tRet te D σ H := h H (Ex.refl H) _ k
theorem s_retKO (S : Sl K H σ E) (hi : E[i]? = some (some (.raw (.ref l)))) (o : OwK K H0 H l kvs) (k : ∀ ks, H0 l = none → H l = some (.dK ks) → DcK K H ks kvs → D.rt (.ref l) H) : tRet (tVar i) D σ H := by
  obtain ⟨a, ks, b, c⟩ := o
  exact ⟨.ref l, S.raw hi, k ks a b c⟩
theorem p_bitlen {b : Int} (h : EvP K te σ H (.int b)) : EvP K (tBits te) σ H (.int (Builtin.Int.intBits b : Nat)) := fun H1 x Q q => h H1 x _ fun v H2 x2 dr => ⟨b, dr.of_int, q _ H2 x2 .int⟩
end
def powOk (i j : Int) : Bool := decide (0 ≤ j) && (decide (j ≤ 1000000) && decide (i.natAbs < 2 ^ 64))
theorem pow_ok {i j : Int} {u : Unit} (h : chk (powOk i j) = some u) : CPow i j := by
  have h := chk_some h
  unfold powOk at h
  rw [Bool.and_eq_true, Bool.and_eq_true] at h
  exact ⟨of_decide_eq_true h.1, of_decide_eq_true h.2.1, of_decide_eq_true h.2.2⟩
theorem op_isB {X : Cx} : OpR X (compareOp .Is) (fun x y H Q => ∃ a b, x = .bl a ∧ y = .bl b ∧ Q (.bl (a == b)) H) := by
  intro pins s σ H x y v u Q I rx ry h
  obtain ⟨a, b, rfl, rfl, q⟩ := h
  cases rx
  cases ry
  show wpAny _ _ ((isSame (Value.bool a) (Value.bool b)) >>= fun z => pure (Value.bool z)) _ _ s
  refine wpAny_bind (wpAny_isSame_plain rfl (wpAny_pure (fin_bl I q ?_)))
  cases a <;> cases b <;> rfl
theorem p_isB {K : PySem.W.Frag} {σ : L2.St} {H : Hp} {ta tb : TE} {a b : Bool} (ha : EvP K ta σ H (.bool a)) (hb : EvP K tb σ H (.bool b)) : EvP K (tOp (fun x y H Q => ∃ a b, x = .bl a ∧ y = .bl b ∧ Q (.bl (a == b)) H) ta tb) σ H (.bool (a == b)) := fun H1 x Q q =>
  ha H1 x _ fun v H2 x2 d2 => hb H2 (x.trans x2) _ fun u H3 x3 d3 => ⟨a, b, d2.of_bool, d3.of_bool, q _ H3 (x2.trans x3) .bl⟩
end Vx

/-! max(xs, key=f), f a def of one's own -/
namespace Vx
open PySem L2 PySem.Spec PyProof.Rows PySem.W Evl
variable [Tbs]

/-- the tuples and the frozen lists: what a key's call is told -/
def sm (H : Hp) : Hp := fun a => match H a with
  | some (.tup xs) => some (.tup xs)
  | some (.frz o (.lst xs)) => some (.frz o (.lst xs))
  | _ => none
theorem sm_tup {H : Hp} {a : Addr} {xs : List V} (h : H a = some (.tup xs)) : sm H a = some (.tup xs) := by unfold sm; rw [h]
theorem sm_frz {H : Hp} {a : Addr} {o : Obj} {xs : List V} (h : H a = some (.frz o (.lst xs))) : sm H a = some (.frz o (.lst xs)) := by unfold sm; rw [h]
theorem sm_none {H : Hp} {a : Addr} (h : H a = none) : sm H a = none := by unfold sm; rw [h]
theorem sm_of {H : Hp} {a : Addr} {o : HO} (h : sm H a = some o) : H a = some o ∧ ((∃ xs, o = .tup xs) ∨ ∃ ob xs, o = .frz ob (.lst xs)) := by
  unfold sm at h
  split at h
  · next xs e => cases h; exact ⟨e, .inl ⟨xs, rfl⟩⟩
  · next ob xs e => cases h; exact ⟨e, .inr ⟨ob, xs, rfl⟩⟩
  · cases h
theorem sm_oth {H : Hp} {a : Addr} {o : HO} (h : H a = some o) (k1 : ∀ xs, o ≠ .tup xs) (k2 : ∀ ob xs, o ≠ .frz ob (.lst xs)) : sm H a = none := by
  cases e : sm H a with
  | none => rfl
  | some p =>
    obtain ⟨h', k⟩ := sm_of e
    rw [h] at h'
    cases h'
    rcases k with ⟨xs, e2⟩ | ⟨ob, u, e2⟩
    · exact absurd e2 (k1 xs)
    · exact absurd e2 (k2 ob u)
mutual
theorem dq_sm {K : PySem.W.Frag} {H : Hp} : ∀ (d : PyData) (v : V), Dq K (im H) v d → noD d = true → Dq K (im (sm H)) v d
  | .none, _, h, _ => by cases h; exact .non
  | .bool b, _, h, _ => by cases h; exact .bl b
  | .int i, _, h, _ => by cases h; exact .int i
  | .str x, _, h, _ => by cases h; exact .str x
  | .list ds, _, h, n => by
    cases h with
    | lst hs ha => exact .lst (im_frz (sm_frz (of_im hs).1)) (dqAll_sm ds _ ha n)
  | .tuple ds, _, h, n => by
    cases h with
    | tup hs ha => exact .tup (im_tup (sm_tup (of_im hs).1)) (dqAll_sm ds _ ha n)
  | .dict _, _, h, n => by cases n
theorem dqAll_sm {K : PySem.W.Frag} {H : Hp} : ∀ (ds : List PyData) (vs : List V), DqAll K (im H) vs ds → noDs ds = true → DqAll K (im (sm H)) vs ds
  | [], _, h, _ => by cases h; exact .nil
  | d :: ds, _, h, n => by
    have n' := Bool.and_eq_true_iff.mp (show (noD d && noDs ds) = true from n)
    cases h with
    | cons h1 h2 => exact .cons (dq_sm d _ h1 n'.1) (dqAll_sm ds _ h2 n'.2)
end
mutual
/-- a datum that is known to G, or stands untracked, away from bad -/
inductive RV (G : Hp) (h : Heap) (bad : List Addr) : V → PyData → Prop
  | non : RV G h bad .non .none
  | bl (b : Bool) : RV G h bad (.bl b) (.bool b)
  | int (i : Int) : RV G h bad (.int i) (.int i)
  | str (x : Str) : RV G h bad (.str x) (.str x)
  | oldL {a : Addr} {o : Obj} {xs : List V} {ds : List PyData} : G a = some (.frz o (.lst xs)) → RVAll G h bad xs ds → RV G h bad (.ref a) (.list ds)
  | oldT {a : Addr} {xs : List V} {ds : List PyData} : G a = some (.tup xs) → RVAll G h bad xs ds → RV G h bad (.ref a) (.tuple ds)
  | newL {a : Addr} {xs : List V} {its : List Value} {n : Nat} {ds : List PyData} : G a = none → a ∉ bad → Vals xs its → h.get? a = some { cls := .type "list", data := .seq its.toArray n } → RVAll G h bad xs ds → RV G h bad (.ref a) (.list ds)
  | newT {a : Addr} {xs : List V} {its : List Value} {n : Nat} {o : Obj} {ds : List PyData} : G a = none → a ∉ bad → Vals xs its → h.get? a = some o → o.cls = .type "tuple" → o.data = .seq its.toArray n → RVAll G h bad xs ds → RV G h bad (.ref a) (.tuple ds)
inductive RVAll (G : Hp) (h : Heap) (bad : List Addr) : List V → List PyData → Prop
  | nil : RVAll G h bad [] []
  | cons {v : V} {vs : List V} {d : PyData} {ds : List PyData} : RV G h bad v d → RVAll G h bad vs ds → RVAll G h bad (v :: vs) (d :: ds)
end
section
variable {G : Hp} {h h' : Heap} {bad : List Addr}
mutual
theorem RV.kept (k : ∀ b o, G b = none → b ∉ bad → h.get? b = some o → h'.get? b = some o) : ∀ (d : PyData) (v : V), RV G h bad v d → RV G h' bad v d
  | .none, _, x => by cases x; exact .non
  | .bool b, _, x => by cases x; exact .bl b
  | .int i, _, x => by cases x; exact .int i
  | .str s, _, x => by cases x; exact .str s
  | .list ds, _, x => by
    cases x with
    | oldL e r => exact .oldL e (RV.keptAll k ds _ r)
    | newL e nb vv hg r => exact .newL e nb vv (k _ _ e nb hg) (RV.keptAll k ds _ r)
  | .tuple ds, _, x => by
    cases x with
    | oldT e r => exact .oldT e (RV.keptAll k ds _ r)
    | newT e nb vv hg hc hd r => exact .newT e nb vv (k _ _ e nb hg) hc hd (RV.keptAll k ds _ r)
  | .dict _, _, x => by cases x
theorem RV.keptAll (k : ∀ b o, G b = none → b ∉ bad → h.get? b = some o → h'.get? b = some o) : ∀ (ds : List PyData) (vs : List V), RVAll G h bad vs ds → RVAll G h' bad vs ds
  | [], _, x => by cases x; exact .nil
  | d :: ds, _, x => by
    cases x with
    | cons h1 h2 => exact .cons (RV.kept k d _ h1) (RV.keptAll k ds _ h2)
end
variable {P : Program} {w : World}
mutual
theorem RV.reads (hok : HOk P w G h) : ∀ (d : PyData) (v : V) (u : Value), RV G h bad v d → RelV v u → ∃ as, Reads h u d as
  | .none, _, _, x, r => by cases x; cases r; exact ⟨_, Reads.none⟩
  | .bool b, _, _, x, r => by cases x; cases r; exact ⟨_, Reads.bool b⟩
  | .int i, _, _, x, r => by cases x; obtain ⟨t, rfl⟩ := r; exact ⟨_, Reads.int i t⟩
  | .str s, _, _, x, r => by cases x; obtain ⟨t, rfl⟩ := r; exact ⟨_, Reads.str s t⟩
  | .list ds, _, _, x, r => by
    cases x with
    | oldL e q =>
      cases r
      obtain ⟨h1, z, its, n, vv, h2⟩ := hok _ _ e
      obtain ⟨as, q1⟩ := RV.readsAll hok ds _ _ q vv
      exact ⟨_, Reads.list h2 rfl rfl q1⟩
    | newL e nb vv hg q =>
      cases r
      obtain ⟨as, q1⟩ := RV.readsAll hok ds _ _ q vv
      exact ⟨_, Reads.list hg rfl rfl q1⟩
  | .tuple ds, _, _, x, r => by
    cases x with
    | oldT e q =>
      cases r
      obtain ⟨z, its, vv, o, h1, h2, n, h3⟩ := hok _ _ e
      obtain ⟨as, q1⟩ := RV.readsAll hok ds _ _ q vv
      exact ⟨_, Reads.tuple h1 h2 h3 q1⟩
    | newT e nb vv hg hc hd q =>
      cases r
      obtain ⟨as, q1⟩ := RV.readsAll hok ds _ _ q vv
      exact ⟨_, Reads.tuple hg hc hd q1⟩
  | .dict _, _, _, x, _ => by cases x
theorem RV.readsAll (hok : HOk P w G h) : ∀ (ds : List PyData) (vs : List V) (us : List Value), RVAll G h bad vs ds → Vals vs us → ∃ as, ReadsAll h us ds as
  | [], _, _, x, r => by cases x; cases r; exact ⟨_, ReadsAll.nil⟩
  | d :: ds, _, _, x, r => by
    cases x with
    | cons h1 h2 =>
      cases r with
      | cons r1 r2 =>
        obtain ⟨as, q1⟩ := RV.reads hok d _ _ h1 r1
        obtain ⟨bs, q2⟩ := RV.readsAll hok ds _ _ h2 r2
        exact ⟨_, ReadsAll.cons q1 q2⟩
end
variable {H2 : Hp}
mutual
theorem rv_of {K : PySem.W.Frag} (hok : HOk P w H2 h) (tups : ∀ a xs, G a = some (.tup xs) → H2 a = some (.tup xs)) (frzs : ∀ a o u, G a = some (.frz o u) → H2 a = some (.frz o u)) (hG : ∀ a o, G a = some o → (∃ xs, o = .tup xs) ∨ ∃ ob xs, o = .frz ob (.lst xs)) (hb : ∀ b ∈ bad, H2 b = none) :
    ∀ (d : PyData) (v : V), Dq K (im H2) v d → noD d = true → RV G h bad v d
  | .none, _, x, _ => by cases x; exact .non
  | .bool b, _, x, _ => by cases x; exact .bl b
  | .int i, _, x, _ => by cases x; exact .int i
  | .str s, _, x, _ => by cases x; exact .str s
  | .list ds, _, x, n => by
    cases x with
    | @lst a o xs _ hs ha =>
      have e2 := (of_im hs).1
      have r := rv_ofAll hok tups frzs hG hb ds _ ha n
      cases e : G a with
      | none =>
        obtain ⟨h1, z, its, n, vv, h2⟩ := hok _ _ e2
        exact .newL e (fun m => by have := hb _ m; rw [e2] at this; cases this) vv h2 r
      | some u =>
        rcases hG _ _ e with ⟨ys, rfl⟩ | ⟨ob, ys, rfl⟩
        · have := tups _ _ e; rw [e2] at this; cases this
        · have := frzs _ _ _ e
          rw [e2] at this
          cases this
          exact .oldL e r
  | .tuple ds, _, x, n => by
    cases x with
    | @tup a xs _ hs ha =>
      have e2 := (of_im hs).1
      have r := rv_ofAll hok tups frzs hG hb ds _ ha n
      cases e : G a with
      | none =>
        obtain ⟨z, its, vv, o, h1, h2, n, h3⟩ := hok _ _ e2
        exact .newT e (fun m => by have := hb _ m; rw [e2] at this; cases this) vv h1 h2 h3 r
      | some u =>
        rcases hG _ _ e with ⟨ys, rfl⟩ | ⟨ob, ys, rfl⟩
        · have := tups _ _ e
          rw [e2] at this
          cases this
          exact .oldT e r
        · have := frzs _ _ _ e; rw [e2] at this; cases this
  | .dict _, _, x, n => by cases n
theorem rv_ofAll {K : PySem.W.Frag} (hok : HOk P w H2 h) (tups : ∀ a xs, G a = some (.tup xs) → H2 a = some (.tup xs)) (frzs : ∀ a o u, G a = some (.frz o u) → H2 a = some (.frz o u)) (hG : ∀ a o, G a = some o → (∃ xs, o = .tup xs) ∨ ∃ ob xs, o = .frz ob (.lst xs)) (hb : ∀ b ∈ bad, H2 b = none) :
    ∀ (ds : List PyData) (vs : List V), DqAll K (im H2) vs ds → noDs ds = true → RVAll G h bad vs ds
  | [], _, x, _ => by cases x; exact .nil
  | d :: ds, _, x, n => by
    have n' := Bool.and_eq_true_iff.mp (show (noD d && noDs ds) = true from n)
    cases x with
    | cons h1 h2 => exact .cons (rv_of hok tups frzs hG hb d _ h1 n'.1) (rv_ofAll hok tups frzs hG hb ds _ h2 n'.2)
end
end
section
variable {X : Cx} {pins : List (Addr × Obj)} {σ : L2.St} {H : Hp} {s : Shared} {k : Nat} {f : Addr} {fd : FuncData} {p0 : Str} {R : List Ag → Rt → Prop}
theorem sm_ok {P : Program} {w : World} {h : Heap} (hok : HOk P w H h) : HOk P w (sm H) h := fun a o e => by
  obtain ⟨e1, k⟩ := sm_of e
  have := hok a o e1
  rcases k with ⟨xs, rfl⟩ | ⟨ob, xs, rfl⟩
  · exact this
  · exact this
/-- a key's call: what is tracked is as before -/
theorem turn_key (I : Inv X pins σ H s) (hT : ∀ H, LamX.Tabs Tbs.l H) (F : FnOk X.prog X.w X.K X.mg X.base (L2.CX X.prog X.w) k f fd [p0] (SpR X.K 1 R)) (hr : Room (k + 1) X.A) (hb : Binds X.K fd [p0] []) {x : V} {v : Value} {d e : PyData} (rv : RelV x v) (dr : Dr X.K H x d) (hR : R [.d d] (.d e)) (nd : noD d = true) (ne : noD e = true)
    {Q E : Value → Shared → Prop} (q : ∀ kv u s', Inv X pins σ H s' → RelV kv u → (∀ b o, sm H b = none → b ∉ frs X.stack → s.heap.get? b = some o → s'.heap.get? b = some o) →
      (∀ bad, (∀ b ∈ bad, sm H b = none ∧ ∃ o, s.heap.get? b = some o) → RV (sm H) s'.heap bad kv e) → Q u s') : wpAny (model X.prog X.w) X.A.in1 (call (.ref f) [v]) Q E s := by
  have e1 := I.env0
  have e0 : Env0 X.prog X.w X.K X.mg X.base X.A X.stack s (sm H) := ⟨e1.frames, e1.mod, fun b o h => ⟨(e1.bs b o h).1, sm_none (e1.bs b o h).2⟩, e1.bsz, e1.funs, fun b h => sm_none (e1.frf b h), sm_ok e1.hok, e1.bare⟩
  have r1 : Vals [x] [v] := .cons rv .nil
  have b1 := hb s [v] I.kIn rfl
  refine wpAny_call (codeAny_mono (F.run X.A.in1 X.stack s (sm H) ⟨[v], []⟩ [v] [x] (fun kv H2 => Ex (sm H) H2 ∧ Dr X.K H2 kv e) (fun _ _ _ => False) hr.in1 e0.in1 b1 r1 ?_) fun r s' hq => ?_)
  · exact ⟨[.d d], .d e, rfl, hR, .cons (show AgOk X.K (sm H) x (.d d) from dq_sm d x dr nd) .nil, hT _, fun v' H' ex dr' => ⟨ex, dr'⟩⟩
  · cases r with
    | error er =>
      obtain ⟨_, _, _, _, _, _, _, _, _, _, _, _, z⟩ := hq
      exact z.elim
    | ok fl =>
      cases fl with
      | next => exact False.elim hq
      | brk => exact False.elim hq
      | cont => exact False.elim hq
      | ret u =>
        obtain ⟨kv, H2, os, bare, un, hok2, ru, ex, dr2⟩ := hq
        have keep : ∀ b o, sm H b = none → b ∉ frs X.stack → s.heap.get? b = some o → s'.heap.get? b = some o := fun b o hn hf he => un.keep b o he hn hf (by simp)
        have hok' : HOk X.prog X.w H s'.heap := fun a o ha => by
          have main : sm H a = none → ObjOk X.prog X.w H s'.heap a o := fun hn => by
            refine (I.hok a o ha).stay (fun c v hc q => keep c v ?_ ?_ q) (fun _ q => q) fun _ _ q => q
            · rcases hc with z | z
              · rw [z]; exact hn
              · exact sm_oth z (fun xs z => by cases z) (fun ob xs z => by cases z)
            · intro hm
              have := I.stkFree c hm
              rcases hc with z | z
              · rw [z, ha] at this; cases this
              · rw [z] at this; cases this
          cases hs : sm H a with
          | none => exact main hs
          | some o2 =>
            obtain ⟨h1, k⟩ := sm_of hs
            rw [ha] at h1
            cases h1
            rcases k with ⟨xs, rfl⟩ | ⟨ob, xs, rfl⟩
            · exact hok2 a _ (un.tups a xs hs)
            · exact hok2 a _ (un.frzs a ob _ hs)
        have un' : Un (frs X.stack) [] H H s.heap s'.heap := {
          keep := fun b o he hn hf _ => keep b o (sm_none hn) hf he
          slot := fun b o he hn hf hx => un.slot b o he (sm_none hn) hf hx
          free := fun _ _ _ n _ => n
          there := un.there
          tups := fun _ _ q => q
          frzs := fun _ _ _ q => q
          tbls := fun b ps q => ⟨#[], by rw [q]; simp⟩ }
        have I' : Inv X pins σ H s' := I.call' os un' hok' bare fun b z => absurd z (by simp)
        refine q kv u s' I' ru keep fun bad hbad => rv_of hok2 un.tups un.frzs (fun a o h => (sm_of h).2) (fun b hm => ?_) e kv dr2 ne
        obtain ⟨hn, o, ho⟩ := hbad b hm
        exact un.free b o ho hn (by simp)
/-- the place of the first greatest -/
def bestI (es : List PyData) : Nat := argBest (fun i j => dataLt (es.getD j .none) (es.getD i .none)) (es.length - 1)
def rMaxK (K : PySem.W.Frag) (R : List Ag → Rt → Prop) (f : Addr) : List V → List V → Hp → VK → Prop := fun xs zs H Q => ∃ (p : Addr) (vs : List V) (ds es : List PyData), xs = [.ref p] ∧ zs = [.ref f] ∧ SqT K H p vs ∧ DrA K H vs ds ∧ es.length = ds.length ∧ 0 < ds.length ∧ noDs ds = true ∧ noDs es = true ∧
  (∀ (i : Nat) (d e : PyData), ds[i]? = some d → es[i]? = some e → R [.d d] (.d e)) ∧ AlikeAll es ∧ PyData.depthAll es ≤ 40 ∧ ∀ v, Dr K H v (ds.getD (bestI es) .none) → Q v H
def rMaxKL (K : PySem.W.Frag) (R : List Ag → Rt → Prop) (f : Addr) : List V → List V → Hp → VK → Prop := fun xs zs H Q => ∃ (p : Addr) (vs : List V) (ds es : List PyData), xs = [.ref p] ∧ zs = [.ref f] ∧ SqL K H p vs ∧ DrA K H vs ds ∧ es.length = ds.length ∧ 0 < ds.length ∧ noDs ds = true ∧ noDs es = true ∧
  (∀ (i : Nat) (d e : PyData), ds[i]? = some d → es[i]? = some e → R [.d d] (.d e)) ∧ AlikeAll es ∧ PyData.depthAll es ≤ 40 ∧ ∀ v, Dr K H v (ds.getD (bestI es) .none) → Q v H
theorem dqAll_at {K : PySem.W.Frag} {H : Hp} : ∀ {vs : List V} {ds : List PyData} {i : Nat} {v : V}, DqAll K H vs ds → vs[i]? = some v → ∃ d, ds[i]? = some d ∧ Dq K H v d
  | _, _, 0, _, .cons h _, e => by cases e; exact ⟨_, rfl, h⟩
  | _, _, i + 1, _, .cons _ t, e => dqAll_at (i := i) t (by simpa using e)
  | [], _, _, _, _, e => by simp at e
theorem dqAll_len {K : PySem.W.Frag} {H : Hp} : ∀ {vs : List V} {ds : List PyData}, DqAll K H vs ds → vs.length = ds.length
  | _, _, .nil => rfl
  | _, _, .cons _ t => by rw [List.length_cons, List.length_cons, dqAll_len t]
theorem vals_at : ∀ {xs : List V} {us : List Value} {i : Nat} {u : Value}, Vals xs us → us[i]? = some u → ∃ x, xs[i]? = some x ∧ RelV x u
  | _, _, 0, _, .cons h _, e => by cases e; exact ⟨_, rfl, h⟩
  | _, _, i + 1, _, .cons _ t, e => vals_at (i := i) t (by simpa using e)
  | _, [], _, _, _, e => by simp at e
theorem inv_moved {s' : Shared} {a b : Addr} (I : Inv X pins σ H s) (m : Moved [a, b] (fun g g' => g' = g) s s') (pa : FpOk X pins H a) (pb : FpOk X pins H b) : Inv X pins σ H s' := by
  have nf : ∀ c u, H c = some u → c ∉ [a, b] := fun c u e z => by
    rcases List.mem_cons.mp z with z | z
    · rw [z, pa.1] at e; cases e
    · rw [List.mem_singleton.mp z, pb.1] at e; cases e
  refine I.call' (ch := [a, b]) m.os { keep := fun b o he _ _ hc => m.heap b o hc he, slot := fun b o he _ _ hc => ⟨o.slots, m.heap b o hc he⟩, free := fun _ _ _ n _ => n, there := fun b o he hc => ⟨o, m.heap b o hc he⟩, tups := fun _ _ q => q, frzs := fun _ _ _ q => q, tbls := fun b ps q => ⟨#[], by rw [q]; simp⟩ } (fun c u e => ?_) (by rw [m.gens]; exact I.bare) (fun c hc => ?_)
  · refine (I.hok c u e).stay (fun c' v hc q => m.heap c' v ?_ q) (fun _ q => q) fun _ _ q => q
    rcases hc with z | z
    · rw [z]; exact nf c u e
    · exact nf c' _ z
  · rcases List.mem_cons.mp hc with z | z
    · rw [z]; exact ⟨pa.2.2.2.1, pa.2.1, pa.2.2.2.2.1, pa.2.2.2.2.2⟩
    · rw [List.mem_singleton.mp z]; exact ⟨pb.2.2.2.1, pb.2.1, pb.2.2.2.2.1, pb.2.2.2.2.2⟩
/-- the walk over a tuple that is tracked: its items as they stand at each turn -/
theorem walk_tracked {prog : Program} {w : World} {A : Around} (hh : A.handled = none) (it p : Addr) (ne : p ≠ it) (vs : List V) (its : List Value) (hv : Vals vs its) :
    WalksS prog w A it [it, p] [it] (fun g g' => g' = g) vs.length (fun i u => ∃ x, vs[i]? = some x ∧ RelV x u) (fun i s' => s'.heap.IsTupleIter it p i ∧ ∃ its : List Value, Vals vs its ∧ s'.heap.IsTuple p its.toArray) where
  sub := fun b hb => by simp at hb; simp [hb]
  grefl := fun _ => rfl
  gtrans := fun a b c h1 h2 => by rw [h2, h1]
  frame := fun i s h' tk ⟨st1, its, st2, st3⟩ _ hk => ⟨st1.at fun o e => hk it (by simp) o e, its, st2, st3.at fun o e => hk p (by simp) o e⟩
  item := fun i s Q E hi ⟨st1, its, st2, st3⟩ hQ => by
    have W0 := (Walks.tuple (prog := prog) (w := w) (A := A) hh it p ne its.toArray).toS
    have hl : its.toArray.size = vs.length := by rw [List.size_toArray]; exact st2.length.symm
    refine W0.item i s Q E (by rw [hl]; exact hi) ⟨st1, st3⟩ fun v s' hP hSt hM => hQ v s' ?_ ⟨hSt.1, its, st2, hSt.2⟩ hM
    exact vals_at st2 (by rw [← List.getElem?_toArray]; exact hP)
  done := fun s Q E ⟨st1, its, st2, st3⟩ hQ => by
    have W0 := (Walks.tuple (prog := prog) (w := w) (A := A) hh it p ne its.toArray).toS
    have hl : its.toArray.size = vs.length := by rw [List.size_toArray]; exact st2.length.symm
    exact W0.done s Q E (by rw [hl]; exact ⟨st1, st3⟩) hQ
  self := fun i s Q E ⟨st1, its, st2, st3⟩ q => (Walks.tuple (prog := prog) (w := w) (A := A) hh it p ne its.toArray).toS.self i s Q E ⟨st1, st3⟩ q
/-- the walk over a list that is tracked: its items as they stand at each turn -/
theorem walk_trackedL {prog : Program} {w : World} {A : Around} (hh : A.handled = none) (it p : Addr) (ne : p ≠ it) (vs : List V) (its : List Value) (hv : Vals vs its) :
    WalksS prog w A it [it, p] [it] (fun g g' => g' = g) vs.length (fun i u => ∃ x, vs[i]? = some x ∧ RelV x u) (fun i s' => s'.heap.IsListIter it p i ∧ ∃ its : List Value, Vals vs its ∧ s'.heap.IsList p its.toArray) where
  sub := fun b hb => by simp at hb; simp [hb]
  grefl := fun _ => rfl
  gtrans := fun a b c h1 h2 => by rw [h2, h1]
  frame := fun i s h' tk ⟨st1, its, st2, st3⟩ _ hk => ⟨st1.at fun o e => hk it (by simp) o e, its, st2, st3.at fun o e => hk p (by simp) o e⟩
  item := fun i s Q E hi ⟨st1, its, st2, st3⟩ hQ => by
    have W0 := (Walks.list (prog := prog) (w := w) (A := A) hh it p ne its.toArray).toS
    have hl : its.toArray.size = vs.length := by rw [List.size_toArray]; exact st2.length.symm
    refine W0.item i s Q E (by rw [hl]; exact hi) ⟨st1, st3⟩ fun v s' hP hSt hM => hQ v s' ?_ ⟨hSt.1, its, st2, hSt.2⟩ hM
    exact vals_at st2 (by rw [← List.getElem?_toArray]; exact hP)
  done := fun s Q E ⟨st1, its, st2, st3⟩ hQ => by
    have W0 := (Walks.list (prog := prog) (w := w) (A := A) hh it p ne its.toArray).toS
    have hl : its.toArray.size = vs.length := by rw [List.size_toArray]; exact st2.length.symm
    exact W0.done s Q E (by rw [hl]; exact ⟨st1, st3⟩) hQ
  self := fun i s Q E ⟨st1, its, st2, st3⟩ q => (Walks.list (prog := prog) (w := w) (A := A) hh it p ne its.toArray).toS.self i s Q E ⟨st1, st3⟩ q
theorem argBest_le (bt : Nat → Nat → Bool) : ∀ k, argBest bt k ≤ k
  | 0 => Nat.le_refl _
  | k + 1 => by
    have := argBest_le bt k
    unfold argBest
    split <;> omega
theorem depth_le_all {d : PyData} : ∀ {es : List PyData}, d ∈ es → d.depth ≤ PyData.depthAll es
  | e :: es, h => by
    rw [PyData.depthAll]
    rcases List.mem_cons.mp h with z | z
    · rw [z]; omega
    · have := depth_le_all z
      omega
theorem crk_maxT (hc : X.calm = true) (hu : X.A.units + 64 < cLine) (hT : ∀ H, LamX.Tabs Tbs.l H) (F : FnOk X.prog X.w X.K X.mg X.base (L2.CX X.prog X.w) k f fd [p0] (SpR X.K 1 R)) (hr : Room (k + 1) X.A) (hb : Binds X.K fd [p0] []) : CallRK X (.builtin "max") [Str.ofString "key"] (rMaxK X.K R f) := by
  intro pins s σ H xs zs us ws Q I r rz h
  obtain ⟨p, vs, ds, es, rfl, rfl, hs, hd, hlen, hpos, nds, nes, hR, ha, hdep, q⟩ := h
  obtain rfl := Vals.ref1 r
  obtain rfl := Vals.ref1 rz
  obtain ⟨its, hv, hl, hz⟩ := I.tuple hs
  have hl : s.heap.IsTuple p its.toArray := hl
  have lv : vs.length = ds.length := dqAll_len hd
  refine call_max_walkK (A := X.A) (q := f) ?_
  refine iter_tupleW (A := X.A.in1) (I.ok.hd hc) hl fun s₂ e2 W st hfp hw hk => ?_
  have I2 : Inv X pins σ H s₂ := by
    rw [e2]
    exact I.kept (t' := s.toks) fun b o e => Heap.get?_push_of_some _ e
  have hne : p ≠ s.heap.objs.size := by
    obtain ⟨_, e, _⟩ := hl
    exact Nat.ne_of_lt (Heap.lt_size e)
  have fit : FpOk X pins H s.heap.objs.size := I.fpOk (Nat.le_refl _) (I.hok.fresh (Nat.le_refl _))
  have fS : FpOk X pins H s₂.heap.objs.size := I2.fpOk (Nat.le_refl _) (I2.hok.fresh (Nat.le_refl _))
  have elen : vs.length = es.length := by omega
  refine ⟨s.heap.objs.size, [s.heap.objs.size, p], [s.heap.objs.size], _, vs.length, _, _, Inv X pins σ H, fun i u t => i < es.length ∧ ∃ kv, RelV kv u ∧ RV (sm H) t.heap (s₂.heap.objs.size :: s.heap.objs.size :: frs X.stack) kv (es.getD i .none), fun i j => dataLt (es.getD j .none) (es.getD i .none), rfl, walk_tracked (A := X.A.in1) (I.ok.hd hc) s.heap.objs.size p hne vs its hv, ⟨st.1, its, hv, st.2⟩, hfp, by omega, ?_, I2, fun v s' hP hJ => ?_⟩
  · refine { keep := fun _ _ I m => inv_moved I m fS fit, keepV := fun i k _ _ ⟨hi, kv, rk, rv⟩ m => ⟨hi, kv, rk, RV.kept (fun b o hb hbad e => m.heap b o (fun z => hbad ?_) e) _ _ rv⟩, turn := fun i v s' o Q' E' hi ⟨x, hx, rx⟩ hJ hSt hS cont => ?_, cmp := fun i j ki kj s' Q' E' hJ ⟨hi, kvi, ri, vi⟩ ⟨hj, kvj, rj, vj⟩ hq => ?_ }
    · rcases List.mem_cons.mp z with z | z
      · rw [z]; exact List.mem_cons_self
      · rw [List.mem_singleton.mp z]; exact List.mem_cons_of_mem _ List.mem_cons_self
    · obtain ⟨d, hd1, hd2⟩ := dqAll_at hd hx
      have hie : i < es.length := by omega
      have he := List.getElem?_eq_getElem hie
      obtain ⟨it1, its', hv', ht'⟩ := hSt
      obtain ⟨oit, eit, cit, dit⟩ := it1
      refine turn_key hJ hT F hr hb rx hd2 (hR i d _ hd1 he) (noDs_all.mp nds d (List.mem_of_getElem? hd1)) (noDs_all.mp nes _ (List.mem_of_getElem? he)) fun kv u s3 I3 ru kept rv => ?_
      have nS : s₂.heap.objs.size ∉ frs X.stack := fun z => (List.mem_cons.mp (hJ.stkSub _ z)).elim fS.2.1 fS.2.2.1
      have nI : s.heap.objs.size ∉ frs X.stack := fun z => (List.mem_cons.mp (hJ.stkSub _ z)).elim fit.2.1 fit.2.2.1
      obtain ⟨its3, hv3, hl3, _⟩ := I3.tuple hs
      refine cont u s3 I3 ⟨⟨oit, kept _ _ (sm_none fit.1) nI eit, cit, dit⟩, its3, hv3, hl3⟩ (kept _ _ (sm_none fS.1) nS hS) ⟨hie, kv, ru, ?_⟩ fun j k' ⟨hj, kv', r', v'⟩ => ⟨hj, kv', r', RV.kept (fun b o hb hbad e => kept b o hb (fun z => hbad (List.mem_cons_of_mem _ (List.mem_cons_of_mem _ z))) e) _ _ v'⟩
      rw [List.getD_eq_getElem?_getD, he]
      refine rv _ fun b hb => ?_
      rcases List.mem_cons.mp hb with z | hb
      · rw [z]; exact ⟨sm_none fS.1, _, hS⟩
      · rcases List.mem_cons.mp hb with z | hb
        · rw [z]; exact ⟨sm_none fit.1, _, eit⟩
        · obtain ⟨_, o', ho', _⟩ := hJ.stack.mem hb
          exact ⟨sm_none (hJ.stkFree b hb), o', ho'⟩
    · obtain ⟨as, r1⟩ := RV.reads (sm_ok hJ.hok) _ _ _ vi ri
      obtain ⟨bs, r2⟩ := RV.reads (sm_ok hJ.hok) _ _ _ vj rj
      have mi : es.getD i .none ∈ es := by rw [List.getD_eq_getElem?_getD, List.getElem?_eq_getElem hi]; exact List.getElem_mem hi
      have mj : es.getD j .none ∈ es := by rw [List.getD_eq_getElem?_getD, List.getElem?_eq_getElem hj]; exact List.getElem_mem hj
      refine rcGt_alike (es.getD i .none) (es.getD j .none) X.A.in1 s' ki kj as bs r1 r2 (ha.1 _ mi _ mj) (ha.2 _ mi) ?_ X.prog X.w E' Q' hq
      have d1 := depth_le_all mi
      show X.A.units + 1 + _ < _
      have := Nat.min_le_left (es.getD i .none).depth (es.getD j .none).depth
      omega
  · obtain ⟨x, hx, rx⟩ := hP
    obtain ⟨d, hd1, hd2⟩ := dqAll_at hd hx
    refine ⟨x, H, hJ, rx, q x ?_⟩
    unfold bestI
    rw [← elen, List.getD_eq_getElem?_getD, hd1]
    exact hd2
theorem crk_maxL (hc : X.calm = true) (hu : X.A.units + 64 < cLine) (hT : ∀ H, LamX.Tabs Tbs.l H) (F : FnOk X.prog X.w X.K X.mg X.base (L2.CX X.prog X.w) k f fd [p0] (SpR X.K 1 R)) (hr : Room (k + 1) X.A) (hb : Binds X.K fd [p0] []) : CallRK X (.builtin "max") [Str.ofString "key"] (rMaxKL X.K R f) := by
  intro pins s σ H xs zs us ws Q I r rz h
  obtain ⟨p, vs, ds, es, rfl, rfl, hs, hd, hlen, hpos, nds, nes, hR, ha, hdep, q⟩ := h
  obtain rfl := Vals.ref1 r
  obtain rfl := Vals.ref1 rz
  obtain ⟨its, hv, hl, hz⟩ := I.list hs
  have hl : s.heap.IsList p its.toArray := hl.isList
  have lv : vs.length = ds.length := dqAll_len hd
  refine call_max_walkK (A := X.A) (q := f) ?_
  refine iter_listW (A := X.A.in1) (I.ok.hd hc) hl fun s₂ e2 W st hfp hw hk => ?_
  have I2 : Inv X pins σ H s₂ := by
    rw [e2]
    exact I.kept (t' := s.toks) fun b o e => Heap.get?_push_of_some _ e
  have hne : p ≠ s.heap.objs.size := by
    obtain ⟨_, e, _⟩ := hl
    exact Nat.ne_of_lt (Heap.lt_size e)
  have fit : FpOk X pins H s.heap.objs.size := I.fpOk (Nat.le_refl _) (I.hok.fresh (Nat.le_refl _))
  have fS : FpOk X pins H s₂.heap.objs.size := I2.fpOk (Nat.le_refl _) (I2.hok.fresh (Nat.le_refl _))
  have elen : vs.length = es.length := by omega
  refine ⟨s.heap.objs.size, [s.heap.objs.size, p], [s.heap.objs.size], _, vs.length, _, _, Inv X pins σ H, fun i u t => i < es.length ∧ ∃ kv, RelV kv u ∧ RV (sm H) t.heap (s₂.heap.objs.size :: s.heap.objs.size :: frs X.stack) kv (es.getD i .none), fun i j => dataLt (es.getD j .none) (es.getD i .none), rfl, walk_trackedL (A := X.A.in1) (I.ok.hd hc) s.heap.objs.size p hne vs its hv, ⟨st.1, its, hv, st.2⟩, hfp, by omega, ?_, I2, fun v s' hP hJ => ?_⟩
  · refine { keep := fun _ _ I m => inv_moved I m fS fit, keepV := fun i k _ _ ⟨hi, kv, rk, rv⟩ m => ⟨hi, kv, rk, RV.kept (fun b o hb hbad e => m.heap b o (fun z => hbad ?_) e) _ _ rv⟩, turn := fun i v s' o Q' E' hi ⟨x, hx, rx⟩ hJ hSt hS cont => ?_, cmp := fun i j ki kj s' Q' E' hJ ⟨hi, kvi, ri, vi⟩ ⟨hj, kvj, rj, vj⟩ hq => ?_ }
    · rcases List.mem_cons.mp z with z | z
      · rw [z]; exact List.mem_cons_self
      · rw [List.mem_singleton.mp z]; exact List.mem_cons_of_mem _ List.mem_cons_self
    · obtain ⟨d, hd1, hd2⟩ := dqAll_at hd hx
      have hie : i < es.length := by omega
      have he := List.getElem?_eq_getElem hie
      obtain ⟨it1, its', hv', ht'⟩ := hSt
      obtain ⟨oit, eit, cit, dit⟩ := it1
      refine turn_key hJ hT F hr hb rx hd2 (hR i d _ hd1 he) (noDs_all.mp nds d (List.mem_of_getElem? hd1)) (noDs_all.mp nes _ (List.mem_of_getElem? he)) fun kv u s3 I3 ru kept rv => ?_
      have nS : s₂.heap.objs.size ∉ frs X.stack := fun z => (List.mem_cons.mp (hJ.stkSub _ z)).elim fS.2.1 fS.2.2.1
      have nI : s.heap.objs.size ∉ frs X.stack := fun z => (List.mem_cons.mp (hJ.stkSub _ z)).elim fit.2.1 fit.2.2.1
      obtain ⟨its3, hv3, hl3, _⟩ := I3.list hs
      refine cont u s3 I3 ⟨⟨oit, kept _ _ (sm_none fit.1) nI eit, cit, dit⟩, its3, hv3, hl3.isList⟩ (kept _ _ (sm_none fS.1) nS hS) ⟨hie, kv, ru, ?_⟩ fun j k' ⟨hj, kv', r', v'⟩ => ⟨hj, kv', r', RV.kept (fun b o hb hbad e => kept b o hb (fun z => hbad (List.mem_cons_of_mem _ (List.mem_cons_of_mem _ z))) e) _ _ v'⟩
      rw [List.getD_eq_getElem?_getD, he]
      refine rv _ fun b hb => ?_
      rcases List.mem_cons.mp hb with z | hb
      · rw [z]; exact ⟨sm_none fS.1, _, hS⟩
      · rcases List.mem_cons.mp hb with z | hb
        · rw [z]; exact ⟨sm_none fit.1, _, eit⟩
        · obtain ⟨_, o', ho', _⟩ := hJ.stack.mem hb
          exact ⟨sm_none (hJ.stkFree b hb), o', ho'⟩
    · obtain ⟨as, r1⟩ := RV.reads (sm_ok hJ.hok) _ _ _ vi ri
      obtain ⟨bs, r2⟩ := RV.reads (sm_ok hJ.hok) _ _ _ vj rj
      have mi : es.getD i .none ∈ es := by rw [List.getD_eq_getElem?_getD, List.getElem?_eq_getElem hi]; exact List.getElem_mem hi
      have mj : es.getD j .none ∈ es := by rw [List.getD_eq_getElem?_getD, List.getElem?_eq_getElem hj]; exact List.getElem_mem hj
      refine rcGt_alike (es.getD i .none) (es.getD j .none) X.A.in1 s' ki kj as bs r1 r2 (ha.1 _ mi _ mj) (ha.2 _ mi) ?_ X.prog X.w E' Q' hq
      have d1 := depth_le_all mi
      show X.A.units + 1 + _ < _
      have := Nat.min_le_left (es.getD i .none).depth (es.getD j .none).depth
      omega
  · obtain ⟨x, hx, rx⟩ := hP
    obtain ⟨d, hd1, hd2⟩ := dqAll_at hd hx
    refine ⟨x, H, hJ, rx, q x ?_⟩
    unfold bestI
    rw [← elen, List.getD_eq_getElem?_getD, hd1]
    exact hd2
/-- max(xs), xs a list of data that are alike -/
def rMaxD (K : PySem.W.Frag) : List V → Hp → VK → Prop := fun xs H Q => ∃ (p : Addr) (vs : List V) (ds : List PyData), xs = [.ref p] ∧ SqL K H p vs ∧ DrA K H vs ds ∧ noDs ds = true ∧ 0 < ds.length ∧ AlikeAll ds ∧ PyData.depthAll ds ≤ 40 ∧ ∀ v, Dr K H v (ds.getD (bestI ds) .none) → Q v H
theorem cr_maxD (hc : X.calm = true) (hu : X.A.units + 64 < cLine) : CallR X (.builtin "max") (rMaxD X.K) := by
  intro pins s σ H xs us Q I r h
  obtain ⟨p, vs, ds, rfl, hs, hd, nds, hpos, ha, hdep, q⟩ := h
  obtain rfl := Vals.ref1 r
  obtain ⟨its, hv, hl, hz⟩ := I.list hs
  obtain ⟨as, hr⟩ := Dp.readsAll I _ _ _ (DrA.dp (K := X.K) hd nds) hv
  have lv : vs.length = ds.length := dqAll_len hd
  have li : its.toArray.size = ds.length := by rw [List.size_toArray, ← lv]; exact hv.length.symm
  refine call_max_walkH (iter_listW (A := X.A.in1) (I.ok.hd hc) hl.isList fun s₂ e W st hfp hw hk => ?_)
  refine ⟨_, _, _, _, _, _, _, s.heap, fun i j => dataLt (ds.getD j .none) (ds.getD i .none), rfl, W, st, hfp, by omega, hw, hk, cmpIn_gt (A := X.A.in1) (by simpa using hr) ha (by show X.A.units + 1 + _ < _; omega), fun v s' hP m => ?_⟩
  obtain ⟨h', tk, rfl, hk'⟩ := moved_old e rfl m
  obtain ⟨x, hx, rx⟩ := vals_at hv (by rw [← List.getElem?_toArray]; exact hP)
  obtain ⟨d, hd1, hd2⟩ := dqAll_at hd hx
  refine ⟨x, H, I.kept (t' := tk) hk', rx, q x ?_⟩
  unfold bestI
  rw [li] at hd1
  rw [List.getD_eq_getElem?_getD, hd1]
  exact hd2
end
/-! typed -/
/-- no dict is in such a datum -/
class Nd {β : Type} (gb : β → PyData) : Prop where
  nd : ∀ a, noD (gb a) = true
theorem Nd.all {β : Type} {gb : β → PyData} (C : Nd gb) : ∀ bs : List β, noDs (bs.map gb) = true
  | [] => rfl
  | b :: bs => by rw [List.map_cons, noDs, C.nd b, Nd.all C bs]; rfl
instance : Nd eI := ⟨fun _ => rfl⟩
instance : Nd eB := ⟨fun _ => rfl⟩
instance : Nd eS := ⟨fun _ => rfl⟩
instance {β : Type} {f : β → PyData} [C : Nd f] : Nd (eT f) := ⟨fun a => C.all a⟩
instance {β : Type} {f : β → PyData} [C : Nd f] : Nd (eL f) := ⟨fun a => C.all a⟩
instance {α β : Type} {f : α → PyData} {g : β → PyData} [C : Nd f] [D : Nd g] : Nd (eP f g) := ⟨fun a => by
  show (noD (f a.1) && (noD (g a.2) && true)) = true
  rw [C.nd, D.nd]; rfl⟩
/-- data that can be compared, all with all -/
class Al {β : Type} (gb : β → PyData) : Prop where
  nd : Nd gb
  al : ∀ a b, alike (gb a) (gb b) = true
  ne : ∀ a, gb a ≠ .none
  dp : ∀ a, (gb a).depth ≤ 40
theorem Al.all {β : Type} {gb : β → PyData} (C : Al gb) (bs : List β) : AlikeAll (bs.map gb) := ⟨fun x hx y hy => by
  obtain ⟨a, _, rfl⟩ := List.mem_map.mp hx
  obtain ⟨b, _, rfl⟩ := List.mem_map.mp hy
  exact C.al a b, fun x hx => by
  obtain ⟨a, _, rfl⟩ := List.mem_map.mp hx
  exact C.ne a⟩
theorem Al.dpAll {β : Type} {gb : β → PyData} (C : Al gb) : ∀ (bs : List β), PyData.depthAll (bs.map gb) ≤ 40
  | [] => by simp [PyData.depthAll]
  | b :: bs => by
    rw [List.map_cons, PyData.depthAll]
    have := C.dp b
    have := Al.dpAll C bs
    omega
theorem tupI_alike (a b : List Int) : alike (eT eI a) (eT eI b) = true := by
  show alike (.tuple (a.map .int)) (.tuple (b.map .int)) = true
  rw [alike]
  exact alike_ints a b
instance : Al eI := ⟨inferInstance, fun _ _ => rfl, fun _ h => (by cases h), fun _ => by simp [PyData.depth]⟩
instance : Al (eT eI) := ⟨inferInstance, tupI_alike, fun _ h => (by cases h), fun a => depth_tup a⟩
instance : Al (eP eI (eT eI)) := ⟨inferInstance, fun a b => by
  show alike (.tuple [eI a.1, eT eI a.2]) (.tuple [eI b.1, eT eI b.2]) = true
  rw [alike, alikeAll, alikeAll, alikeAll, tupI_alike]
  (first | rfl | simp [alike]), fun _ h => (by cases h), fun a => by
  show (PyData.tuple [eI a.1, eT eI a.2]).depth ≤ 40
  rw [PyData.depth, PyData.depthAll, PyData.depthAll, PyData.depthAll]
  have h : (eT eI a.2).depth ≤ 1 := by
    show (PyData.tuple (a.2.map .int)).depth ≤ 1
    rw [PyData.depth, depth_ints]
    decide
  have h2 : (eI a.1).depth = 0 := by simp [PyData.depth]
  omega⟩
def maxKO {α β : Type} (key : α → Option β) (gb : β → PyData) (xs : List α) : Option α := (lcO (fun x => (key x).map some) xs).bind fun ks => xs[bestI (ks.map gb)]?
def maxDO {β : Type} (gb : β → PyData) (xs : List β) : Option β := xs[bestI (xs.map gb)]?
theorem lcO_total {α β : Type} {key : α → Option β} : ∀ {xs : List α} {ks : List β}, lcO (fun x => (key x).map some) xs = some ks → ks.length = xs.length ∧ ∀ (i : Nat) a b, xs[i]? = some a → ks[i]? = some b → key a = some b
  | [], ks, h => by
    cases h
    exact ⟨rfl, fun i a b h => by simp at h⟩
  | x :: xs, ks, h => by
    unfold lcO at h
    cases e : key x with
    | none => rw [e] at h; cases h
    | some b0 =>
      rw [e] at h
      cases e2 : lcO (fun x => (key x).map some) xs with
      | none => rw [e2] at h; cases h
      | some ks2 =>
        rw [e2] at h
        cases h
        obtain ⟨h1, h2⟩ := lcO_total e2
        refine ⟨by show ks2.length + 1 = xs.length + 1; omega, fun i a b ha hb => ?_⟩
        cases i with
        | zero => cases ha; cases hb; exact e
        | succ i => exact h2 i a b (by simpa using ha) (show (b0 :: ks2)[i + 1]? = some b from hb)
theorem maxKO_some {α β : Type} {key : α → Option β} {gb : β → PyData} {xs : List α} {x : α} (hm : maxKO key gb xs = some x) : ∃ ks : List β, ks.length = xs.length ∧ (∀ (i : Nat) a b, xs[i]? = some a → ks[i]? = some b → key a = some b) ∧ xs[bestI (ks.map gb)]? = some x := by
  unfold maxKO at hm
  cases e : lcO (fun x => (key x).map some) xs with
  | none => rw [e] at hm; cases hm
  | some ks =>
    rw [e] at hm
    obtain ⟨h1, h2⟩ := lcO_total e
    exact ⟨ks, h1, h2, hm⟩
section
variable {K : PySem.W.Frag} {σ : L2.St} {H : Hp} {te : TE} {R : List Ag → Rt → Prop} {fa : Addr} {α β : Type} {f : α → PyData} {gb : β → PyData} {key : α → Option β} {xs : List α} {x : α}
theorem rMaxK_go [C : Al gb] [Nd f] (hm : maxKO key gb xs = some x) (hR : ∀ a b, key a = some b → R [.d (f a)] (.d (gb b))) : ∃ es : List PyData, es.length = (xs.map f).length ∧ 0 < (xs.map f).length ∧ noDs (xs.map f) = true ∧ noDs es = true ∧ (∀ (i : Nat) (d e : PyData), (xs.map f)[i]? = some d → es[i]? = some e → R [.d d] (.d e)) ∧ AlikeAll es ∧ PyData.depthAll es ≤ 40 ∧ (xs.map f).getD (bestI es) .none = f x := by
  obtain ⟨ks, h1, h2, h3⟩ := maxKO_some hm
  refine ⟨ks.map gb, by rw [List.length_map, List.length_map, h1], ?_, Nd.all inferInstance _, C.nd.all _, fun i d e hd he => ?_, C.all ks, C.dpAll ks, ?_⟩
  · rw [List.length_map]
    have := (List.getElem?_eq_some_iff.mp h3).1
    omega
  · rw [List.getElem?_map] at hd he
    cases ea : xs[i]? with
    | none => rw [ea] at hd; cases hd
    | some a =>
      cases eb : ks[i]? with
      | none => rw [eb] at he; cases he
      | some b =>
        rw [ea] at hd
        rw [eb] at he
        cases hd
        cases he
        exact hR a b (h2 i a b ea eb)
  · rw [List.getD_eq_getElem?_getD, List.getElem?_map, h3]
    rfl
theorem p_maxKT [C : Al gb] [Nd f] (h : EvP K te σ H (eT f xs)) (hm : maxKO key gb xs = some x) (hR : ∀ a b, key a = some b → R [.d (f a)] (.d (gb b))) : EvP K (tCKw (rMaxK K R fa) (tCons te tNil) (tCons (tC (.ref fa)) tNil)) σ H (f x) := fun H1 x1 Q q =>
  h H1 x1 _ fun v H2 x2 d2 => by
    obtain ⟨es, h1, h2, n1, n2, h3, h4, h5, h6⟩ := rMaxK_go (f := f) hm hR
    have d2 : Dq K (im H2) v (.tuple (xs.map f)) := d2
    cases d2 with
    | tup hs ha =>
      refine ⟨_, _, _, es, rfl, rfl, .inl (.inl (of_im hs).1), ha, h1, h2, n1, n2, h3, h4, h5, fun v dv => q v H2 x2 ?_⟩
      rw [h6] at dv
      exact dv
theorem p_maxKL [C : Al gb] [Nd f] (h : EvS K te σ H (xs.map f)) (hm : maxKO key gb xs = some x) (hR : ∀ a b, key a = some b → R [.d (f a)] (.d (gb b))) : EvP K (tCKw (rMaxKL K R fa) (tCons te tNil) (tCons (tC (.ref fa)) tNil)) σ H (f x) := fun H1 x1 Q q =>
  h H1 x1 _ fun a vs H2 x2 hs hd => by
    obtain ⟨es, h1, h2, n1, n2, h3, h4, h5, h6⟩ := rMaxK_go (f := f) hm hR
    refine ⟨_, _, _, es, rfl, rfl, hs, hd, h1, h2, n1, n2, h3, h4, h5, fun v dv => q v H2 x2 ?_⟩
    rw [h6] at dv
    exact dv
theorem p_maxD [C : Al gb] {ys : List β} {y : β} (h : EvS K te σ H (ys.map gb)) (hm : maxDO gb ys = some y) : EvP K (tCB (rMaxD K) (tCons te tNil)) σ H (gb y) := fun H1 x1 Q q =>
  h H1 x1 _ fun a vs H2 x2 hs hd => by
    refine ⟨_, _, _, rfl, hs, hd, C.nd.all ys, ?_, C.all ys, C.dpAll ys, fun v dv => q v H2 x2 ?_⟩
    · rw [List.length_map]
      have := (List.getElem?_eq_some_iff.mp hm).1
      omega
    · have hm : ys[bestI (ys.map gb)]? = some y := hm
      rw [List.getD_eq_getElem?_getD, List.getElem?_map, hm] at dv
      exact dv
end
section
variable {X : Cx} {k : Nat} {f : Addr} {fd : FuncData} {p0 : Str} {R : List Ag → Rt → Prop}
theorem cl_maxKT (K : PySem.W.Frag) (hT : ∀ H, LamX.Tabs Tbs.l H) (F : FnOk X.prog X.w X.K X.mg X.base (L2.CX X.prog X.w) k f fd [p0] (SpR K 1 R)) (hr : Room (k + 1) X.A) (hb : Binds X.K fd [p0] []) (hc : X.calm = true) (hu : X.A.units + 64 < cLine) (hK : X.K = K := by rfl) : CallRK X (.builtin "max") [Str.ofString "key"] (rMaxK K R f) := by subst hK; exact crk_maxT hc hu hT F hr hb
theorem cl_maxKL (K : PySem.W.Frag) (hT : ∀ H, LamX.Tabs Tbs.l H) (F : FnOk X.prog X.w X.K X.mg X.base (L2.CX X.prog X.w) k f fd [p0] (SpR K 1 R)) (hr : Room (k + 1) X.A) (hb : Binds X.K fd [p0] []) (hc : X.calm = true) (hu : X.A.units + 64 < cLine) (hK : X.K = K := by rfl) : CallRK X (.builtin "max") [Str.ofString "key"] (rMaxKL K R f) := by subst hK; exact crk_maxL hc hu hT F hr hb
theorem cl_maxD (K : PySem.W.Frag) (hc : X.calm = true) (hu : X.A.units + 64 < cLine) (hK : X.K = K := by rfl) : CallR X (.builtin "max") (rMaxD K) := by subst hK; exact cr_maxD hc hu
end
end Vx

/-! an own list of own lists of whole numbers -/
namespace Vx
open PySem L2 PySem.Spec PyProof.Rows PySem.W Evl
variable [Tbs]

def OwL (K : PySem.W.Frag) (H0 H : Hp) (l : Addr) (bad : List Addr) (xss : List (List Int)) : Prop :=
  H0 l = none ∧ ∃ as : List Addr, H l = some (.lst (as.map V.ref)) ∧ as.Nodup ∧ l ∉ as ∧ (∀ b ∈ bad, b ∉ as) ∧ as.length = xss.length ∧ ∀ (i : Nat) (a : Addr) (xs : List Int), as[i]? = some a → xss[i]? = some xs → H0 a = none ∧ H a = some (.lst (xs.map V.int))
def AllNe : List Addr → Addr → Prop
  | [], _ => True
  | b :: bs, p => b ≠ p ∧ AllNe bs p
theorem AllNe.at : ∀ {bs : List Addr} {p b : Addr}, AllNe bs p → b ∈ bs → b ≠ p
  | _ :: _, _, _, h, m => by
    rcases List.mem_cons.mp m with z | z
    · rw [z]; exact h.1
    · exact h.2.at z
section
variable {K : PySem.W.Frag} {σ : L2.St} {H H0 H' : Hp} {E : EnvD} {D : Ends} {l p r : Addr} {bad : List Addr} {xss yss : List (List Int)} {xs : List Int} {t1 t2 : TE} {n m : Int}
theorem OwL.ex (e : Ex H H') (o : OwL K H0 H l bad xss) : OwL K H0 H' l bad xss := by
  obtain ⟨a, as, b, c, d, f, g, h⟩ := o
  exact ⟨a, as, e l _ b, c, d, f, g, fun i x xs hx hxs => ⟨(h i x xs hx hxs).1, e x _ (h i x xs hx hxs).2⟩⟩
theorem OwL.of_nil (o : Ow K H0 H l ([] : List PyData)) : OwL K H0 H l bad [] := by
  obtain ⟨a, vs, b, c⟩ := o
  cases (show DqAll K (im H) vs [] from c)
  exact ⟨a, [], b, List.nodup_nil, by simp, by simp, rfl, fun i x xs h => by simp at h⟩
theorem OwL.tys (o : OwL K H0 H l bad xss) : ∃ ys, SqL K H l ys ∧ ys.length = xss.length := by
  obtain ⟨a, as, b, _, _, _, g, _⟩ := o
  exact ⟨_, .inl (.inl b), by rw [List.length_map, g]⟩
theorem OwL.ne (o : OwL K H0 H l bad xss) (n : H p = none) : l ≠ p := by
  obtain ⟨a, as, b, _⟩ := o
  exact ne_of_none b n
theorem OwL.nc (o : OwL K H0 H l bad xss) : ∀ q, H l ≠ some (LamX.CodeO l q) := by
  obtain ⟨a, as, b, _⟩ := o
  exact nc_of b fun _ z => nomatch z
theorem OwL.item {as : List Addr} (o : ∀ (i : Nat) (a : Addr) (xs : List Int), as[i]? = some a → xss[i]? = some xs → H0 a = none ∧ H a = some (.lst (xs.map V.int))) (g : as.length = xss.length) {a : Addr} (ha : a ∈ as) : ∃ xs : List Int, H0 a = none ∧ H a = some (.lst (xs.map V.int)) := by
  obtain ⟨i, hi⟩ := List.mem_iff_getElem?.mp ha
  have hlt := (List.getElem?_eq_some_iff.mp hi).1
  exact ⟨_, o i a _ hi (List.getElem?_eq_getElem (by omega))⟩
theorem OwL.sep (o : OwL K H0 H l bad xss) (n : H p = none) : OwL K H0 H l (p :: bad) xss := by
  obtain ⟨a, as, b, c, d, f, g, h⟩ := o
  refine ⟨a, as, b, c, d, fun x hx => ?_, g, h⟩
  rcases List.mem_cons.mp hx with z | z
  · rw [z]
    intro hp
    obtain ⟨xs, _, h2⟩ := OwL.item h g hp
    rw [n] at h2
    cases h2
  · exact f x z
theorem OwL.but (hb : p ∈ bad) (ne : l ≠ p) (q : Xb p H H') (o : OwL K H0 H l bad xss) : OwL K H0 H' l bad xss := by
  obtain ⟨a, as, b, c, d, f, g, h⟩ := o
  refine ⟨a, as, q.at ne b, c, d, f, g, fun i x xs hx hxs => ⟨(h i x xs hx hxs).1, q.at (fun z => f p hb ?_) (h i x xs hx hxs).2⟩⟩
  rw [← z]
  exact List.mem_of_getElem? hx
theorem s_appLL {i j : Nat} (S : Sl K H σ E) (hi : E[i]? = some (some (.raw (.ref l)))) (hj : E[j]? = some (some (.raw (.ref r)))) (o : OwL K H0 H l (r :: bad) xss) (orow : Ow K H0 H r (xs.map eI)) (hb : AllNe bad r) (ner : l ≠ r) (hz : xss.length < 16777216)
    (k : ∀ H1, Kp H H1 → Xb l H H1 → OwL K H0 H1 l bad (xss ++ [xs]) → D.nx σ H1) : tDrop (tBM K "list" rAppend (tVar i) (tCons (tVar j) tNil)) D σ H := by
  obtain ⟨a, as, b, c, d, f, g, h⟩ := o
  obtain ⟨a2, vs, b2, c2⟩ := orow
  have c2 := DrA.ints (K := K) (H := H) c2
  subst c2
  have rn : r ∉ as := f r List.mem_cons_self
  refine ⟨.ref l, S.raw hi, .inl ⟨rfl, _, sq_of b⟩, .ref r, S.raw hj, l, as.map V.ref, .ref r, rfl, rfl, b, by rw [List.length_map, g, sizeLine_eq]; exact hz, ?_⟩
  have kp : Kp H (upd H l (.lst (as.map V.ref ++ [.ref r]))) := Kp.put (im_none b (fun _ z => nomatch z) fun _ _ z => nomatch z)
  refine k _ kp (Xb.put (nc_of b fun _ z => nomatch z)) ⟨a, as ++ [r], by rw [upd_same, List.map_append]; rfl, ?_, ?_, fun x hx => ?_, by rw [List.length_append, List.length_append, g]; rfl, fun i x ys hx hys => ?_⟩
  · rw [List.nodup_append]
    refine ⟨c, by simp, fun x hx y hy e => ?_⟩
    rw [List.mem_singleton.mp hy] at e
    exact rn (e ▸ hx)
  · intro hm
    rcases List.mem_append.mp hm with hm | hm
    · exact d hm
    · exact ner (List.mem_singleton.mp hm)
  · intro hm
    rcases List.mem_append.mp hm with hm | hm
    · exact f x (List.mem_cons_of_mem _ hx) hm
    · exact hb.at hx (List.mem_singleton.mp hm)
  · by_cases hlt : i < as.length
    · rw [List.getElem?_append_left hlt] at hx
      rw [List.getElem?_append_left (by omega)] at hys
      obtain ⟨h1, h2⟩ := h i x ys hx hys
      have nxl : x ≠ l := fun z => d (by rw [← z]; exact List.mem_of_getElem? hx)
      exact ⟨h1, by rw [upd_ne nxl]; exact h2⟩
    · have hi2 : i = as.length := by
        have := (List.getElem?_eq_some_iff.mp hx).1
        rw [List.length_append] at this
        simp only [List.length_cons, List.length_nil] at this
        omega
      subst hi2
      rw [List.getElem?_append_right (Nat.le_refl _), Nat.sub_self] at hx
      rw [List.getElem?_append_right (by omega), show as.length - xss.length = 0 by omega] at hys
      cases hx
      cases hys
      exact ⟨a2, by rw [upd_ne ner.symm]; exact b2⟩
/-- xss[n].append(m) -/
def appAt (xss : List (List Int)) (n m : Int) : Option (List (List Int)) := (atI xss n).bind fun xs => if xs.length < 16777216 ∧ 0 ≤ n then some (xss.set n.toNat (xs ++ [m])) else none
theorem appAt_some (h : appAt xss n m = some yss) : ∃ xs, 0 ≤ n ∧ xss[n.toNat]? = some xs ∧ xs.length < 16777216 ∧ yss = xss.set n.toNat (xs ++ [m]) := by
  unfold appAt at h
  cases e : atI xss n with
  | none => rw [e] at h; cases h
  | some xs =>
    rw [e, Option.bind_some] at h
    by_cases hc : xs.length < 16777216 ∧ 0 ≤ n
    · rw [if_pos hc] at h
      cases h
      refine ⟨xs, hc.2, ?_, hc.1, rfl⟩
      by_cases hn : n < (xss.length : Int)
      · obtain ⟨y, y1, y2⟩ := atI_ok hc.2 hn
        rw [e] at y1
        rw [y2, y1]
      · unfold atI ixN at e
        rw [if_pos hc.2] at e
        simp only [show ¬ (n < (xss.length : Int)) from hn, if_false] at e
        cases e
    · rw [if_neg hc] at h
      cases h
theorem s_appIx {i : Nat} (S : Sl K H σ E) (hi : E[i]? = some (some (.raw (.ref l)))) (o : OwL K H0 H l bad xss) (h1 : EvP K t1 σ H (.int n)) (h2 : EvP K t2 σ H (.int m)) (e : appAt xss n m = some yss)
    (k : ∀ H1 a, Kp H H1 → Xb a H H1 → H0 a = none → (∀ q, H a ≠ some (LamX.CodeO a q)) → l ≠ a → (∀ b ∈ bad, b ≠ a) → OwL K H0 H1 l bad yss → D.nx σ H1) : tDrop (tBM K "list" rAppend (tOp (rIxL K) (tVar i) t1) (tCons t2 tNil)) D σ H := by
  obtain ⟨a, as, b, c, d, f, g, h⟩ := o
  obtain ⟨xs, n0, hx, hlen, rfl⟩ := appAt_some e
  have hlt : n.toNat < as.length := by have := (List.getElem?_eq_some_iff.mp hx).1; omega
  have hat := List.getElem?_eq_getElem hlt
  generalize as[n.toNat] = q at hat
  obtain ⟨q0, q1⟩ := h _ _ _ hat hx
  have hqm : q ∈ as := List.mem_of_getElem? hat
  refine ⟨.ref l, S.raw hi, h1 H (Ex.refl H) _ fun v H2 x2 d2 => ⟨l, as.map V.ref, n, .ref q, rfl, d2.of_int, .inl (.inl (x2 l _ b)), ?_, ?_⟩⟩
  · obtain ⟨y, y1, y2⟩ := atI_ok (xs := as.map V.ref) (i := n) n0 (by rw [List.length_map]; omega)
    rw [List.getElem?_map, hat] at y2
    rw [y1, ← y2]
    rfl
  · refine ⟨.inl ⟨rfl, _, sq_of (x2 q _ q1)⟩, h2 H2 x2 _ fun w H3 x3 d3 => ⟨q, xs.map V.int, w, rfl, rfl, x3 q _ (x2 q _ q1), by rw [List.length_map, sizeLine_eq]; exact hlen, ?_⟩⟩
    have e3 := x2.trans x3
    have q3 := e3 q _ q1
    have b3 := e3 l _ b
    rw [d3.of_int]
    have kp : Kp H3 (upd H3 q (.lst (xs.map V.int ++ [.int m]))) := Kp.put (im_none q3 (fun _ z => nomatch z) fun _ _ z => nomatch z)
    have nlq : l ≠ q := fun z => d (z ▸ hqm)
    refine k _ q ((Kp.of e3).trans kp) (Xb.mut e3 (nc_of q3 fun _ z => nomatch z)) q0 (nc_of q1 fun _ z => nomatch z) nlq (fun x hxb z => f x hxb (z ▸ hqm)) ⟨a, as, by rw [upd_ne nlq]; exact b3, c, d, f, by rw [List.length_set]; exact g, fun j y ys hy hys => ?_⟩
    by_cases hj : n.toNat = j
    · subst hj
      rw [hat] at hy
      cases hy
      rw [List.getElem?_set_self (by omega)] at hys
      cases hys
      exact ⟨q0, by rw [upd_same, List.map_append]; rfl⟩
    · rw [List.getElem?_set_ne hj] at hys
      obtain ⟨y0, y1⟩ := h j y ys hy hys
      have : y ≠ q := fun z => hj (by
        rw [z] at hy
        exact (List.getElem?_inj hlt c).mp (hat.trans hy.symm))
      exact ⟨y0, by rw [upd_ne this]; exact e3 y _ y1⟩
theorem p_lenLL {i : Nat} (S : Sl K H σ E) (hi : E[i]? = some (some (.raw (.ref l)))) (o : OwL K H0 H l bad xss) : EvP K (tCB (rLen0 K) (tCons (tVar i) tNil)) σ H (.int (xss.length : Int)) := fun H1 x Q q => by
  obtain ⟨a, as, b, c, d, f, g, h⟩ := o
  refine ⟨.ref l, (S.raw hi), l, _, rfl, .inl (sq_of (x l _ b)), ?_⟩
  rw [List.length_map, g]
  exact q _ H1 (Ex.refl H1) .int
theorem dpAll_lls : ∀ {as : List Addr} {xss : List (List Int)}, as.length = xss.length → (∀ (i : Nat) (a : Addr) (xs : List Int), as[i]? = some a → xss[i]? = some xs → H0 a = none ∧ H a = some (.lst (xs.map V.int))) → DpAll K H (as.map V.ref) (xss.map (eL eI))
  | [], [], _, _ => .nil
  | a :: as, xs :: xss, g, h => by
    refine .cons (.lst (.inl (.inl (h 0 a xs rfl rfl).2)) ((DrA.of_ints (K := K) (H := H)).dp (noDs_int xs))) (dpAll_lls (by simpa using g) fun i a xs h1 h2 => h (i + 1) a xs (by simpa using h1) (by simpa using h2))
  | [], _ :: _, g, _ => by cases g
  | _ :: _, [], g, _ => by cases g
theorem p_neLL0 {i : Nat} {tb : TE} (S : Sl K H σ E) (hi : E[i]? = some (some (.raw (.ref l)))) (o : OwL K H0 H l bad xss) (hb : EvP K tb σ H (.list [])) (sd : SeqAt.shaped (eL (eL eI) xss) = true) : EvP K (tOp (rNeD K) (tVar i) tb) σ H (.bool (!xss.isEmpty)) := fun H1 x Q q => by
  refine ⟨.ref l, S.raw hi, hb H1 x _ fun u H3 x3 d3 => ?_⟩
  have o := (o.ex x).ex x3
  obtain ⟨a, as, b, c, d, f, g, h⟩ := o
  refine ⟨.list (xss.map (eL eI)), .list [], .lst (.inl (.inl b)) (dpAll_lls g h), d3.dp rfl, sd, rfl, ?_⟩
  rw [eqv_nil]
  exact q _ H3 x3 .bl
/-- all of these lists are frozen -/
inductive FzAll : List Addr → Hp → Hp → Prop
  | nil {H : Hp} : FzAll [] H H
  | cons {a : Addr} {as : List Addr} {H H1 : Hp} {o : Obj} {xs : List V} : H a = some (.lst xs) → FzAll as (upd H a (.frz o (.lst xs))) H1 → FzAll (a :: as) H H1
def tFzI (i : Nat) (t : TS) : TS := fun D σ H => ∃ (a : Addr) (as : List Addr), σ[i]? = some (some (.ref a)) ∧ H a = some (.lst (as.map V.ref)) ∧ as.Nodup ∧ (∀ x ∈ as, ∃ xs, H x = some (.lst xs)) ∧ ∀ H1, FzAll as H H1 → t D σ H1
theorem fz_all {X : Cx} {pins : List (Addr × Obj)} {σ : L2.St} {s : Shared} : ∀ {as : List Addr} {H : Hp}, as.Nodup → (∀ x ∈ as, ∃ xs, H x = some (.lst xs)) → Inv X pins σ H s → ∃ H1, FzAll as H H1 ∧ Inv X pins σ H1 s
  | [], H, _, _, I => ⟨H, .nil, I⟩
  | a :: as, H, nd, h, I => by
    obtain ⟨n1, n2⟩ := List.nodup_cons.mp nd
    obtain ⟨xs, hx⟩ := h a List.mem_cons_self
    obtain ⟨o, I2⟩ := inv_freeze I hx
    obtain ⟨H1, f, I3⟩ := fz_all n2 (fun x hm => by
      obtain ⟨ys, hy⟩ := h x (List.mem_cons_of_mem _ hm)
      have hne : x ≠ a := fun z => n1 (by rw [← z]; exact hm)
      exact ⟨ys, by rw [upd_ne hne]; exact hy⟩) I2
    exact ⟨H1, .cons hx f, I3⟩
theorem pss_fzI {X : Cx} {st : List Stmt} {t : TS} (i : Nat) (h : PSs X st t) : PSs X st (tFzI i t) := by
  refine ⟨fun pins s σ H D I hq => ?_⟩
  obtain ⟨a, as, _, _, nd, hx, q⟩ := hq
  obtain ⟨H1, f, I2⟩ := fz_all nd hx I
  exact h.run pins s σ _ D I2 (q H1 f)
theorem FzAll.same : ∀ {as : List Addr} {H H1 : Hp}, FzAll as H H1 → ∀ a, a ∉ as → H1 a = H a
  | _, _, _, .nil, _, _ => rfl
  | _, _, _, .cons h f, a, n => by
    have hne := fun z => n (List.mem_cons.mpr (.inl z))
    rw [f.same a fun z => n (List.mem_cons_of_mem _ z), upd_ne hne]
theorem FzAll.kp : ∀ {as : List Addr} {H H1 : Hp}, FzAll as H H1 → Kp H H1
  | _, _, _, .nil => Kp.refl _
  | _, _, _, .cons h f => (Kp.put (im_none h (fun _ z => nomatch z) fun _ _ z => nomatch z)).trans f.kp
theorem FzAll.ex : ∀ {as : List Addr} {H H1 : Hp}, FzAll as H H1 → (∀ a ∈ as, H0 a = none) → Ex H0 H → Ex H0 H1
  | _, _, _, .nil, _, e => e
  | _, _, _, .cons h f, n, e => f.ex (fun a ha => n a (List.mem_cons_of_mem _ ha)) (Xb.ex (Xb.put (nc_of h fun _ z => nomatch z)) (nc_of h fun _ z => nomatch z) e (n _ List.mem_cons_self))
theorem FzAll.got : ∀ {as : List Addr} {H H1 : Hp}, FzAll as H H1 → as.Nodup → ∀ a ∈ as, ∀ xs, H a = some (.lst xs) → ∃ o, H1 a = some (.frz o (.lst xs))
  | _, _, _, .cons (a := a0) (o := o) (xs := ys) h f, nd, a, ha, xs, hx => by
    obtain ⟨n1, n2⟩ := List.nodup_cons.mp nd
    rcases List.mem_cons.mp ha with z | z
    · subst z
      rw [h] at hx
      cases hx
      exact ⟨o, by rw [f.same _ n1, upd_same]⟩
    · have hne : a ≠ a0 := fun e => n1 (by rw [← e]; exact z)
      exact f.got n2 a z xs (by rw [upd_ne hne]; exact hx)
theorem drA_lls {H1 : Hp} : ∀ {as : List Addr} {xss : List (List Int)}, as.length = xss.length → (∀ (i : Nat) (a : Addr) (xs : List Int), as[i]? = some a → xss[i]? = some xs → ∃ o, H1 a = some (.frz o (.lst (xs.map V.int)))) → DrA K H1 (as.map V.ref) (xss.map (eL eI))
  | [], [], _, _ => .nil
  | a :: as, xs :: xss, g, h => by
    obtain ⟨o, ho⟩ := h 0 a xs rfl rfl
    exact DrA.cons (Dr.frz ho (DrA.of_ints (K := K) (H := H1))) (drA_lls (by simpa using g) fun i a xs h1 h2 => h (i + 1) a xs (by simpa using h1) (by simpa using h2))
  | [], _ :: _, g, _ => by cases g
  | _ :: _, [], g, _ => by cases g
theorem s_fzI {i : Nat} {tu : TS} (S : Sl K H σ E) (hi : E[i]? = some (some (.raw (.ref l)))) (o : OwL K H0 H l bad xss) (e0 : Ex H0 H)
    (k : ∀ H1, Kp H H1 → Ex H0 H1 → Ow K H0 H1 l (xss.map (eL eI)) → tu D σ H1) : tFzI i tu D σ H := by
  obtain ⟨a, as, b, c, d, f, g, h⟩ := o
  refine ⟨l, as, S.raw hi, b, c, fun x hx => ?_, fun H1 fz => ?_⟩
  · obtain ⟨xs, _, h2⟩ := OwL.item h g hx
    exact ⟨_, h2⟩
  · refine k H1 fz.kp (fz.ex (fun x hx => by obtain ⟨xs, h1, _⟩ := OwL.item h g hx; exact h1) e0) ⟨a, as.map V.ref, by rw [fz.same l d]; exact b, drA_lls g fun j x xs h1 h2 => ?_⟩
    exact fz.got c x (List.mem_of_getElem? h1) _ (h j x xs h1 h2).2
end
end Vx

/-! defs called within an except suite that let nothing out -/
namespace Vx
open PySem L2 PySem.Spec PyProof.Rows PySem.W Evl L2H
variable [Tbs]
theorem refs_cons {a : Addr} {r : List Value} (h : PySem.HandSPX.refsVE r = true) : PySem.HandSPX.refsVE (.ref a :: r) = true := h
/-- what a def promises while an exception is handled: p is that exception's object, or any other that stands out of reach -/
structure FnQ (P : Program) (w : World) (K : PySem.W.Frag) (mg : Str → Option Value) (base : Heap) (k : Nat) (f : Addr) (fd : FuncData) (ps : List Str) (sp : Sp) : Prop where
  len : ∀ vs H Q E, sp vs H Q E → vs.length = ps.length
  run : ∀ (A : Around) (outer : List Env) (s : Shared) (H : Hp) (args : Args) (us : List Value) (vs : List V) (Q : VK) (pq : Addr × Obj), RoomH k A → PinOk outer H s pq → Env0 P w K mg base A outer s H → BindsTo s fd args (ps.zip us) → Vals vs us → sp vs H Q noE →
    codeAny (model P w) A (.call (.ref f) args) (CR (L2.CX P w) outer P w H s Q noE) s
theorem fun_okQ {P : Program} {w : World} {K : PySem.W.Frag} {mg : Str → Option Value} {base : Heap} {x qual : Str} {st : Stmt} {f : Addr} {fd : FuncData} {N ps : List Str} {k : Nat} {sp : Sp} (F : Fun K x qual st f fd) (S : FnScope N ps (defScope st)) (len : ∀ vs H Q E, sp vs H Q E → vs.length = ps.length)
    (hbody : ∀ (A : Around) (outer : List Env) (s : Shared) (H : Hp) (vs : List V) (Q : VK) (pq : Addr × Obj), RoomH k (A.deeper (envOfC qual (defScope st) s.heap.objs.size f fd.code)) → sp vs H Q noE →
      ∃ t, PSs (cxH (L2.CX P w) P w K mg base N qual (defScope st) f fd.code A outer s H noE pq) (defBody st) t ∧ t { nx := fun _ H' => Q .non H', rt := Q } (start N vs) H) : FnQ P w K mg base (k + 1) f fd ps sp := by
  obtain ⟨oc, od, kV, doc, pm, an, cdv, ct, osl, rfl, lk, hcd⟩ := F.ex
  constructor
  · exact len
  intro A outer s H args us vs Q pq hr hpin e0 hb r hsp
  have KX : K.In s.heap := e0.mod.kin.keeps fun b o e => (e0.bs b o e).1
  have lim : s.heap.NoLimit := e0.mod.nolimit.keeps fun b o e => (e0.bs b o e).1
  obtain ⟨t, ht, hq⟩ := hbody A outer s H vs Q pq (hr.deeper _) hsp
  refine codeAny_call_function hr.depth (KX _ _ lk) rfl S.co S.gen rfl (PySem.W.codeRec_of KX hcd) (hb _ _ _ _ ?_)
  refine wpAny_newFunctionEnv_cells S.kind (fun y hy => (S.par y.1 (List.of_mem_zip hy).1).imp id fun q => ⟨q, PySem.W.cellsFrom_some _ _ _ (.inl q)⟩) fun env he s1 x => ?_
  subst he
  refine ⟨lim.keeps x.toInCall.keep, codeAny_func (wpAny_mono (ht.run [] s1 (L2.start N vs) H _ (inv_startH S hpin e0 (len _ _ _ _ hsp) r x) hq) (fun fl s' hs => ?_) fun e s' hs => hs)⟩
  cases fl with
  | ret u =>
    obtain ⟨v, σ', H', J, rv, q⟩ := hs
    exact ⟨v, H', J.os, J.bare, J.base, J.hok, rv, q⟩
  | next =>
    obtain ⟨σ', H', J, q⟩ := hs
    exact ⟨.non, H', J.os, J.bare, J.base, J.hok, rfl, q⟩
  | brk =>
    obtain ⟨_, _, _, q⟩ := hs
    exact q.elim
  | cont =>
    obtain ⟨_, _, _, q⟩ := hs
    exact q.elim
theorem roomQ {k : Nat} {A : Around} (r : Room k A) (h : Option Value) : RoomH k (A.mark h) := ⟨r.dp, r.un⟩
theorem pe_callQ {X : Cx} {k : Nat} {f : Addr} {fd : FuncData} {ps : List Str} {sp : Sp} {x : Str} {q pos : Pos} {e : Expr} {es : List Expr} {t : TA} {pq : Addr × Obj} (hp : pq ∈ X.pn) (F : FnQ X.prog X.w X.K X.mg X.base k f fd ps sp) (hr : RoomH k X.A) (hg : Gl X x) (hm : X.mg x = some (.ref f)) (hk : PySem.W.keepIn X.K (.ref f) = true) (hb : Binds X.K fd ps [])
    (ha : PA X (e :: es) t) (hdb : (x == ("__debug__" : Str)) = false := by decide) (he : starEach (e :: es) X.env = (false, eval e X.env) :: starEach es X.env := by rfl) (hpl : (backTo pos (starEach es X.env)).any (·.1) = false := by rfl) :
    PE X (.Call (.Name x q) (e :: es) [] pos) (tCall sp [] noE t) := by
  constructor
  intro pins s σ H Q I h
  refine wpAny_Call_Name_kw (ld_glob I hg hm ?_ hdb)
  refine PySem.W.callWith_K (h₀ := X.base) I.ok.mod.kin hk (thn (ha.run pos pins s σ H _ I h) fun us s1 ⟨vs, H1, I1, r, hsp⟩ => ⟨I1.kIn, ?_⟩) he hpl
  have hsp : sp (vs ++ []) H1 Q noE := hsp
  rw [List.append_nil] at hsp
  have hl : us.length = ps.length := by rw [← r.length]; exact F.len _ _ _ _ hsp
  have b := hb s1 us I1.kIn (by rw [List.append_nil]; exact hl)
  rw [List.append_nil] at b
  have P1 := I1.pin pq (List.mem_append_left _ hp)
  refine wpAny_call (codeAny_mono (F.run X.A X.stack s1 H1 ⟨us, []⟩ us vs Q pq hr ⟨P1.1, P1.2.1, fun hm => (List.mem_cons.mp (I1.stkSub pq.1 hm)).elim P1.2.2.1 P1.2.2.2.1, P1.2.2.2.2⟩ I1.env0 b r hsp) fun rr s' hq => ?_)
  cases rr with
  | error er =>
    obtain ⟨_, _, _, _, _, _, _, _, _, _, _, _, z⟩ := hq
    exact z.elim
  | ok fl =>
    cases fl with
    | ret u => exact I1.after hq
    | next => exact False.elim hq
    | brk => exact False.elim hq
    | cont => exact False.elim hq
end Vx

/-! trees of questions as data -/
namespace Vx
open PySem L2 PySem.Spec PyProof.Rows PySem.W Evl
variable [Tbs]
inductive Tr where
  | leaf (k : Int)
  | ask (v : Int) (lo hi : Tr)
  deriving DecidableEq
def eX : Tr → PyData
  | .leaf k => .tuple [.str (Str.ofString "leaf"), .int k]
  | .ask v lo hi => .tuple [.str (Str.ofString "ask"), .int v, eX lo, eX hi]
def Tr.word : Tr → Str
  | .leaf _ => Str.ofString "leaf"
  | .ask _ _ _ => Str.ofString "ask"
def Tr.num : Tr → Int
  | .leaf k => k
  | .ask v _ _ => v
def Tr.lo? : Tr → Option Tr
  | .leaf _ => none
  | .ask _ lo _ => some lo
def Tr.hi? : Tr → Option Tr
  | .leaf _ => none
  | .ask _ _ hi => some hi
def lenX : Tr → Int
  | .leaf _ => 2
  | .ask _ _ _ => 4
section
variable {K : PySem.W.Frag} {σ : L2.St} {H : Hp} {ta tb : TE} {t u : Tr}
theorem p_ixX0 (ha : EvP K ta σ H (eX t)) (hb : EvP K tb σ H (.int 0)) : EvP K (tOp (rIxT K) ta tb) σ H (.str t.word) := by
  cases t <;> exact p_ixT ha hb rfl
theorem p_ixX1 (ha : EvP K ta σ H (eX t)) (hb : EvP K tb σ H (.int 1)) : EvP K (tOp (rIxT K) ta tb) σ H (.int t.num) := by
  cases t <;> exact p_ixT ha hb rfl
theorem p_ixX2 (h : t.lo? = some u) (ha : EvP K ta σ H (eX t)) (hb : EvP K tb σ H (.int 2)) : EvP K (tOp (rIxT K) ta tb) σ H (eX u) := by
  cases t with
  | leaf k => cases h
  | ask v lo hi =>
    have h := Option.some.inj h
    subst h
    exact p_ixT (ds := [.str (Str.ofString "ask"), .int v, eX lo, eX hi]) ha hb rfl
theorem p_ixX3 (h : t.hi? = some u) (ha : EvP K ta σ H (eX t)) (hb : EvP K tb σ H (.int 3)) : EvP K (tOp (rIxT K) ta tb) σ H (eX u) := by
  cases t with
  | leaf k => cases h
  | ask v lo hi =>
    have h := Option.some.inj h
    subst h
    exact p_ixT (ds := [.str (Str.ofString "ask"), .int v, eX lo, eX hi]) ha hb rfl
theorem p_lenX (ha : EvP K ta σ H (eX t)) : EvP K (tCB (rLen0 K) (tCons ta tNil)) σ H (.int (lenX t)) := by
  cases t with
  | leaf k => exact (p_lenT (ds := [.str (Str.ofString "leaf"), .int k]) ha).to rfl
  | ask v lo hi => exact (p_lenT (ds := [.str (Str.ofString "ask"), .int v, eX lo, eX hi]) ha).to rfl
end
end Vx

/-! data of any kind: read as what they are; {} among data; insert; n * tuple; str(n) -/
namespace Vx
open PySem L2 PySem.Spec PyProof.Rows Evl RZ
variable [Tbs]

/-! ### a datum read as what it is -/
class De {α : Type} (g : PyData → Option α) (f : outParam (α → PyData)) : Prop where
  ok : ∀ d v, g d = some v → d = f v
def deI : PyData → Option Int
  | .int i => some i
  | _ => none
def deB : PyData → Option Bool
  | .bool i => some i
  | _ => none
def deS : PyData → Option Str
  | .str i => some i
  | _ => none
def deA : PyData → Option PyData := fun d => some d
def deT {α : Type} (g : PyData → Option α) : PyData → Option (List α)
  | .tuple ds => ds.mapM g
  | _ => none
def deL {α : Type} (g : PyData → Option α) : PyData → Option (List α)
  | .list ds => ds.mapM g
  | _ => none
def deP {α β : Type} (g : PyData → Option α) (h : PyData → Option β) : PyData → Option (α × β)
  | .tuple [x, y] => (g x).bind fun a => (h y).map fun b => (a, b)
  | _ => none
theorem mapM_de {α : Type} {g : PyData → Option α} {f : α → PyData} [C : De g f] : ∀ {ds : List PyData} {vs : List α}, ds.mapM g = some vs → ds = vs.map f
  | [], vs, h => by
    rw [List.mapM_nil] at h
    cases h
    rfl
  | d :: ds, vs, h => by
    rw [List.mapM_cons] at h
    cases e : g d with
    | none => rw [e] at h; cases h
    | some v =>
      cases e2 : ds.mapM g with
      | none => rw [e, e2] at h; cases h
      | some ws =>
        rw [e, e2] at h
        cases h
        rw [List.map_cons, C.ok d v e, mapM_de e2]
instance : De deI eI := ⟨fun d v h => by
  cases d with
  | int i => cases h; rfl
  | _ => cases h⟩
instance : De deB eB := ⟨fun d v h => by
  cases d with
  | bool i => cases h; rfl
  | _ => cases h⟩
instance : De deS eS := ⟨fun d v h => by
  cases d with
  | str i => cases h; rfl
  | _ => cases h⟩
instance : De deA eA := ⟨fun d v h => by cases h; rfl⟩
instance {α : Type} {g : PyData → Option α} {f : α → PyData} [De g f] : De (deT g) (eT f) := ⟨fun d v h => by
  cases d with
  | tuple ds => exact congrArg PyData.tuple (mapM_de h)
  | _ => cases h⟩
instance {α : Type} {g : PyData → Option α} {f : α → PyData} [De g f] : De (deL g) (eL f) := ⟨fun d v h => by
  cases d with
  | list ds => exact congrArg PyData.list (mapM_de h)
  | _ => cases h⟩
instance {α β : Type} {g : PyData → Option α} {f : α → PyData} {h : PyData → Option β} {k : β → PyData} [C : De g f] [D : De h k] : De (deP g h) (eP f k) := ⟨fun d v e => by
  unfold deP at e
  split at e
  · next x y =>
    cases e1 : g x with
    | none => rw [e1] at e; cases e
    | some a =>
      cases e2 : h y with
      | none => rw [e1, e2] at e; cases e
      | some b =>
        rw [e1, e2] at e
        cases e
        rw [C.ok _ _ e1, D.ok _ _ e2]
  · cases e⟩
section
variable {K : PySem.W.Frag} {σ : L2.St} {H H0 H' : Hp} {te ta tb : TE} {E : EnvD} {d : PyData} {ds : List PyData} {D : Ends} {α : Type} {f : α → PyData} {g : PyData → Option α}
theorem p_as [C : De g f] {v : α} (h : g d = some v) (p : EvP K te σ H d) : EvP K te σ H (f v) := p.to (C.ok d v h)
theorem map_eA (xs : List PyData) : xs.map eA = xs := List.map_id' xs
theorem deT_map [C : De g f] (hg : ∀ v, g (f v) = some v) (vs : List α) : deT g (eT f vs) = some vs := by
  show (vs.map f).mapM g = some vs
  induction vs with
  | nil => rfl
  | cons v r ih => rw [List.map_cons, List.mapM_cons, hg, ih]; rfl
theorem deT_any (ds : List PyData) : deT deA (.tuple ds) = some ds := by
  show ds.mapM deA = some ds
  induction ds with
  | nil => rfl
  | cons v r ih => rw [List.mapM_cons, ih]; rfl

/-! ### {} among data -/
theorem inv_freezeD {X : Cx} {pins : List (Addr × Obj)} {σ : L2.St} {H : Hp} {s : Shared} {a : Addr} (I : Inv X pins σ H s) (h : H a = some (.dK [])) : ∃ o, Inv X pins σ (upd H a (.frz o (.dK []))) s := by
  have hb : ObjOk X.prog X.w H s.heap a (.dK []) := I.hok a _ h
  obtain ⟨_, _, vs, _, o, _, _, e, _⟩ := id hb
  have hne : ∀ b u, H b = some u → u ≠ .dK [] → b ≠ a := fun b u q nq z => by
    subst z
    rw [h] at q
    cases q
    exact nq rfl
  refine ⟨o, I.un (h' := s.heap) (t' := s.toks) (H' := upd H a (HO.frz o (.dK []))) ?_ ?_⟩
  · refine ⟨fun b o q _ _ _ => q, fun b o q _ _ _ => ⟨o.slots, q⟩, fun b o q n _ => ?_, fun b o q _ => ⟨o, q⟩, fun b ys q => ?_, fun b o u q => ?_, fun b ps q => ⟨#[], ?_⟩⟩
    · rw [upd_ne (fun z => by subst z; rw [h] at n; cases n)]
      exact n
    · rw [upd_ne (hne b _ q fun z => nomatch z)]
      exact q
    · rw [upd_ne (hne b _ q fun z => nomatch z)]
      exact q
    · rw [upd_ne (hne b _ q fun z => nomatch z), q]
      simp
  · intro b u q
    have st : ∀ c w, H c = some w → w ≠ .dK [] → upd H a (HO.frz o (.dK [])) c = some w := fun c w q n => by
      rw [upd_ne (hne c _ q n)]
      exact q
    by_cases hb2 : b = a
    · subst hb2
      rw [upd_same] at q
      cases q
      exact ⟨e, hb.stay (fun c v _ q => q) (fun c q => st c _ q fun z => nomatch z) fun c ys q => st c _ q fun z => nomatch z⟩
    · rw [upd_ne hb2] at q
      exact (I.hok b u q).stay (fun c v _ q => q) (fun c q => st c _ q fun z => nomatch z) fun c ys q => st c _ q fun z => nomatch z
/-- a fresh empty dict is frozen -/
def tFzE (te : TE) : TE := fun σ H Q => te σ H fun v H1 => ∃ a, v = .ref a ∧ H1 a = some (.dK []) ∧ ∀ o, Q v (upd H1 a (.frz o (.dK [])))
theorem pe_fzE {X : Cx} {e : Expr} {te : TE} (h : PE X e te) : PE X e (tFzE te) := by
  refine ⟨fun pins s σ H Q I hq => ?_⟩
  refine thn (h.run pins s σ H _ I hq) fun v s1 ⟨x, H1, I1, r1, q1⟩ => ?_
  obtain ⟨a, rfl, ha, q⟩ := q1
  obtain ⟨o, I2⟩ := inv_freezeD I1 ha
  exact ⟨_, _, I2, r1, q o⟩
theorem p_dnew : EvP K (tFzE tDNewK) σ H (.dict []) := fun H1 x Q q => by
  show ∀ p, H1 p = none → _
  intro p hp
  refine ⟨p, rfl, upd_same, fun o => ?_⟩
  refine q _ _ ?_ (Dq.dic (im_frz upd_same))
  rw [upd_upd]
  exact Ex.new hp

/-! ### xs.insert(i, x) -/
def rIns : V → List V → Hp → VK → Prop := fun x vs H Q => ∃ (l : Addr) (xs : List V) (i : Int) (y : V), x = .ref l ∧ vs = [.int i, y] ∧ H l = some (.lst xs) ∧ xs.length < sizeLine ∧ 0 ≤ i ∧ i < 2 ^ 63 ∧ Q .non (upd H l (.lst (xs.take i.toNat ++ [y] ++ xs.drop i.toNat)))
theorem mt_ins {X : Cx} : MtR X "list.insert" rIns := mt_insert
def insL {α : Type} (xs : List α) (i : Int) (x : α) : List α := xs.take i.toNat ++ [x] ++ xs.drop i.toNat
theorem insL_map {α β : Type} (e : α → β) (xs : List α) (i : Int) (x : α) : (insL xs i x).map e = insL (xs.map e) i (e x) := by
  unfold insL
  rw [List.map_append, List.map_append, List.map_take, List.map_drop]
  rfl
theorem drA_take {vs : List V} : ∀ (n : Nat) {ds : List PyData}, DrA K H vs ds → DrA K H (vs.take n) (ds.take n) := by
  induction vs with
  | nil =>
    intro n ds h
    cases h
    cases n <;> exact DrA.nil
  | cons v r ih =>
    intro n ds h
    cases h with
    | cons a b =>
      cases n with
      | zero => exact DrA.nil
      | succ n => exact DrA.cons a (ih n b)
theorem drA_drop {vs : List V} : ∀ (n : Nat) {ds : List PyData}, DrA K H vs ds → DrA K H (vs.drop n) (ds.drop n) := by
  induction vs with
  | nil =>
    intro n ds h
    cases h
    cases n <;> exact DrA.nil
  | cons v r ih =>
    intro n ds h
    cases h with
    | cons a b =>
      cases n with
      | zero => exact DrA.cons a b
      | succ n => exact ih n b
theorem s_ins {i : Nat} {l : Addr} {n : Int} {ti : TE} (S : Sl K H σ E) (hi : E[i]? = some (some (.raw (.ref l)))) (o : Ow K H0 H l ds) (hn : EvP K ti σ H (.int n)) (h : EvP K te σ H d) (hz : ds.length < 16777216) (h0 : 0 ≤ n) (h1 : n < 2 ^ 63)
    (k : ∀ H1, Kp H H1 → Xb l H H1 → Ow K H0 H1 l (insL ds n d) → D.nx σ H1) :
    tDrop (tBM K "list" rIns (tVar i) (tCons ti (tCons te tNil))) D σ H := by
  obtain ⟨a, vs, b, c⟩ := o
  refine ⟨.ref l, S.raw hi, .inl ⟨rfl, vs, sq_of b⟩, hn H (Ex.refl H) _ fun u H1 e1 du => ?_⟩
  refine h H1 e1 _ fun v H2 e2 dr => ?_
  have hb := e2 l _ (e1 l _ b)
  have e := e1.trans e2
  refine ⟨l, vs, n, v, rfl, by rw [du.of_int], hb, by rw [c.length, sizeLine_eq]; exact hz, h0, h1, ?_⟩
  have kp : Kp H2 (upd H2 l (.lst (vs.take n.toNat ++ [v] ++ vs.drop n.toNat))) := Kp.put (im_none hb (fun _ z => nomatch z) fun _ _ z => nomatch z)
  have c2 := (c.ex e).kp kp
  exact k _ ((Kp.of e).trans kp) (Xb.mut e (nc_of hb fun _ z => nomatch z)) ⟨a, _, upd_same, ((drA_take n.toNat c2).append (.cons (dr.kp kp) .nil)).append (drA_drop n.toNat c2)⟩

/-! ### n * tuple -/
theorem int_mul_tup (a : Int) (t : Tok) (l : Addr) (items : Array Value) (n : Nat) (dd : Option Addr) (sl : Array (Option Value)) :
    Meets (Builtin.«int.__mul__» ⟨[.int a t, .ref l], []⟩) (fun _ R s => s.heap.get? l = some { cls := .type "tuple", dict := dd, data := .seq items n, slots := sl } ∧ R (.ok (.ret Value.notImplemented)) s) :=
  .of_wp fun prog w A R s h => by
    obtain ⟨hp, g, d, tk, os⟩ := s
    obtain ⟨hl, h⟩ := h
    wp_walk using wpAny_loadPart' hl
    exact ⟨_, rfl, h⟩
def rRepI (K : PySem.W.Frag) : L2.R2 := fun y x H Q => ∃ l k xs, x = .ref l ∧ y = .int k ∧ SqT K H l xs ∧ xs ≠ [] ∧ 2 ≤ k ∧ k ≤ 1000 ∧ xs.length ≤ 1000 ∧ ∀ p, H p = none → Q (.ref p) (upd H p (.tup (List.replicate k.toNat xs).flatten))
end
theorem op_repI {X : Cx} : OpR X (binaryOp .Mult) (rRepI X.K) := by
  intro pins s σ H y x v u Q I ry rx h
  obtain ⟨l, k, xs, rfl, rfl, hT, hne, h1, h2, hz, q⟩ := h
  cases rx
  obtain ⟨t, rfl⟩ := ry
  obtain ⟨its, r, ⟨⟨cls, dd, data, sl⟩, ho, hc, n, hd⟩, hs⟩ := I.tuple hT
  simp only at hc hd
  subst hc hd
  have lx : its.length = xs.length := r.length.symm
  have hi : its.toArray.isEmpty = false := by
    cases its with
    | nil => exact absurd (List.eq_nil_of_length_eq_zero (show xs.length = 0 from lx.symm)) hne
    | cons a b => rfl
  have big : xs.length * k.toNat ≤ 1000000 := Nat.mul_le_mul hz (show k.toNat ≤ 1000 by omega)
  have sz : its.toArray.size = xs.length := by rw [List.size_toArray, lx]
  have hm : ((its.toArray.size : Nat) : Int) * k ≤ 1000000 := by
    rw [sz]
    have e : ((xs.length : Nat) : Int) * k = ((xs.length * k.toNat : Nat) : Int) := by
      rw [Int.natCast_mul]
      congr 1
      omega
    rw [e]
    exact Int.ofNat_le.mpr big
  have ln : ∀ {α : Type} (ys : List α), ys.length = xs.length → (List.replicate k.toNat ys).flatten.length ≤ sizeLine := fun ys e => by
    rw [PyProof.Rows.lm_len_rep_flat, e, sizeLine_eq, Nat.mul_comm]
    omega
  have big1 : (decide (k < -(2 ^ 63)) || decide (k ≥ 2 ^ 63)) = false := by
    simp only [Bool.or_eq_false_iff, decide_eq_false_iff_not]
    omega
  have big2 : (its.toArray.isEmpty || k == 1) = false := by
    rw [hi]
    exact beq_eq_false_iff_ne.mpr (fun z => by omega)
  have big3 : (decide (k ≤ 0) || its.toArray.isEmpty) = false := by
    rw [hi, Bool.or_false, decide_eq_false_iff_not]
    omega
  have big4 : Builtin.Tuple.tupleTooMany (((its.toArray.size : Nat) : Int) * k) = false := by
    unfold Builtin.Tuple.tupleTooMany
    rw [sizeLine_eq, decide_eq_false_iff_not]
    omega
  refine lm_binaryOp_repeat_right (T := "tuple") (U := "int") (by decide) (fun s' => typeIs_int s' k t) ⟨_, ho, rfl⟩ F.fills_int_mul noFill_tuple_mul F.slot_int_mul lm_noRepeat_int repeat_tuple F.slot_int_index.lookup ?_
  refine call_meets F.slot_int_mul (typeIs_int s k t) F.entry_int_mul (F.args_int_mul_2 _ _) (int_mul_tup k t l its.toArray n dd sl) ⟨ho, rfl, ⟨_, ho, rfl⟩, ?_⟩
  refine call_meets F.slot_tuple_mul ⟨_, ho, rfl⟩ F.entry_tuple_mul (F.args_tuple_mul_2 _ _) (tuple_mulW l its.toArray n dd sl k t big1 big2 big3 (by omega) big4 ?_) ⟨ho, ?_⟩
  · rw [size_rep, List.size_toArray]
    exact ln its lx
  rw [size_rep]
  refine ⟨.ref s.heap.objs.size, _, I.laid (t' := s.toks) (o := .tup (List.replicate k.toNat xs).flatten) (fun b ob q => Heap.get?_push_of_some _ q) (Nat.le_refl _) ⟨ln xs rfl, _, r.rep k.toNat, IsTup.new _ _⟩, rfl, q _ (I.hok.fresh (Nat.le_refl _))⟩
theorem op_repIK (K : PySem.W.Frag) {X : Cx} (hK : X.K = K := by rfl) : OpR X (binaryOp .Mult) (rRepI K) := by subst hK; exact op_repI
section
variable {K : PySem.W.Frag} {σ : L2.St} {H : Hp} {ta tb te : TE} {α : Type} {f : α → PyData}
def repL {α : Type} (k : Nat) (xs : List α) : List α := (List.replicate k xs).flatten
theorem drA_rep {vs : List V} {ds : List PyData} (h : DrA K H vs ds) : ∀ k : Nat, DrA K H (List.replicate k vs).flatten (List.replicate k ds).flatten
  | 0 => DrA.nil
  | k + 1 => by
    rw [List.replicate_succ, List.replicate_succ, List.flatten_cons, List.flatten_cons]
    exact h.append (drA_rep h k)
theorem repL_map {β : Type} (e : α → β) (k : Nat) (xs : List α) : (repL k xs).map e = repL k (xs.map e) := by
  unfold repL
  rw [List.map_flatten, List.map_replicate]
theorem p_repI {k : Nat} {xs : List α} (ha : EvP K ta σ H (.int (k : Int))) (hb : EvP K tb σ H (eT f xs)) (h1 : 2 ≤ k ∧ k ≤ 1000) (h2 : 0 < xs.length ∧ xs.length ≤ 1000) : EvP K (tOp (rRepI K) ta tb) σ H (eT f (repL k xs)) := fun H1 x Q q =>
  ha H1 x _ fun v H2 x2 d2 => hb H2 (x.trans x2) _ fun u H3 x3 d3 => by
    obtain ⟨a, vs, rfl, hs, hd⟩ := d3.of_tup
    have lv : vs.length = xs.length := by rw [hd.length, List.length_map]
    refine ⟨a, (k : Int), vs, rfl, d2.of_int, hs, ?_, by omega, by omega, by omega, fun p hp => ?_⟩
    · intro e
      rw [e] at lv
      simp at lv
      omega
    · refine q _ _ ((x2.trans x3).trans (Ex.new hp)) (Dr.tup upd_same ?_)
      rw [repL_map]
      exact (drA_rep hd k).ex (Ex.new hp)
/-! ### str(n) -/
def rStrI : List V → Hp → VK → Prop := fun xs H Q => ∃ i : Int, xs = [.int i] ∧ i.natAbs.log2 < 1920 ∧ Q (.str (toString i)) H
theorem cl_strI {X : Cx} : CallR X (.type "str") rStrI := call_str_int
theorem p_strI {i : Int} (h : EvP K te σ H (.int i)) (hz : i.natAbs.log2 < 1920) : EvP K (tCB rStrI (tCons te tNil)) σ H (.str (toString i)) := fun H1 x Q q =>
  h H1 x _ fun v H2 x2 d2 => ⟨i, by rw [d2.of_int], hz, q _ H2 x2 .str⟩
end
end Vx

/-! tuples of the module's own: a tuple that may be one, and what reads it -/
namespace Vx
open PySem L2 PySem.Spec PyProof.Rows Evl RZ
variable [Tbs]
/-- a tuple, and whether it is the module's own -/
def eZ {α : Type} (g : α → PyData) : Bool × α → PyData := fun p => bif p.1 then .dict [(.none, g p.2)] else g p.2
/-- a tuple that is read -/
def EvQ (K : PySem.W.Frag) (te : TE) (σ : L2.St) (H : Hp) (ds : List PyData) : Prop := ∀ H1, Ex H H1 → ∀ Q : VK, (∀ a vs H2, Ex H1 H2 → SqT K (im H2) a vs → DrA K H2 vs ds → Q (.ref a) H2) → te σ H1 Q
section
variable {K : PySem.W.Frag} {σ : L2.St} {H H0 H' : Hp} {te ta tb : TE} {E : EnvD} {d : PyData} {ds : List PyData} {D : Ends} {α : Type} {f : α → PyData} {w : World}
theorem sqT_im {a : Addr} {vs : List V} (h : SqT K (im H) a vs) : SqT K H a vs := Evl.ex_t (ex_im H) h
theorem p_cst {v : V} {ds : List PyData} (c : DqC K v (.tuple ds)) : EvP K (tC v) σ H (.dict [(.none, .tuple ds)]) := fun H1 _ Q q => q _ H1 (Ex.refl H1) (Dq.cst c)
theorem dqCA_int : ∀ {vs : List V} {ns : List Int}, DqCA K vs (ns.map .int) → DrA K H vs (ns.map .int)
  | [], [], _ => DrA.nil
  | _ :: _, _ :: _, h => by
    cases h with
    | cons a b =>
      cases a
      exact DrA.cons Dr.int (dqCA_int b)
  | [], _ :: _, h => nomatch h
  | _ :: _, [], h => nomatch h
theorem dqCA_tup {f : α → List PyData} : ∀ {vs : List V} {xs : List α}, DqCA K vs (xs.map fun x => .tuple (f x)) → DrA K H vs (xs.map fun x => .dict [(.none, .tuple (f x))])
  | [], [], _ => DrA.nil
  | _ :: _, _ :: _, h => by
    cases h with
    | cons a b => exact DrA.cons (Dq.cst a) (dqCA_tup b)
  | [], _ :: _, h => nomatch h
  | _ :: _, [], h => nomatch h
theorem Dr.of_zI {v : V} : ∀ {b : Bool} {xs : List Int}, Dr K H v (eZ (eT eI) (b, xs)) → ∃ a vs, v = .ref a ∧ SqT K (im H) a vs ∧ DrA K H vs (xs.map eI)
  | false, xs, h => Dr.of_tup' h
  | true, xs, h => by
    have h : Dq K (im H) v (.dict [(.none, .tuple (xs.map eI))]) := h
    cases h with
    | fdt _ e => exact nomatch (Prod.mk.inj (List.cons.inj e).1).1
    | cst c =>
      obtain ⟨a, vs, rfl, hs, hd⟩ := dqC_sqT (H := im H) c
      exact ⟨a, vs, rfl, hs, dqCA_int hd⟩
theorem Dr.of_zT {v : V} : ∀ {b : Bool} {xs : List (List Int)}, Dr K H v (eZ (eT (eT eI)) (b, xs)) → ∃ a vs, v = .ref a ∧ SqT K (im H) a vs ∧ DrA K H vs ((xs.map fun x => (b, x)).map (eZ (eT eI)))
  | false, xs, h => by
    obtain ⟨a, vs, h1, h2, h3⟩ := Dr.of_tup' (show Dr K H v (.tuple (xs.map (eT eI))) from h)
    refine ⟨a, vs, h1, h2, ?_⟩
    rw [List.map_map]
    exact h3
  | true, xs, h => by
    have h : Dq K (im H) v (.dict [(.none, .tuple (xs.map (eT eI)))]) := h
    cases h with
    | fdt _ e => exact nomatch (Prod.mk.inj (List.cons.inj e).1).1
    | cst c =>
      obtain ⟨a, vs, rfl, hs, hd⟩ := dqC_sqT (H := im H) c
      refine ⟨a, vs, rfl, hs, ?_⟩
      rw [List.map_map]
      exact dqCA_tup (f := fun x : List Int => x.map eI) hd
theorem z_I {b : Bool} {xs : List Int} (h : EvP K te σ H (eZ (eT eI) (b, xs))) : EvQ K te σ H (xs.map eI) := fun H1 x Q q => h H1 x Q fun v H2 x2 dr => by
  obtain ⟨a, vs, rfl, hs, hd⟩ := dr.of_zI
  exact q a vs H2 x2 hs hd
theorem z_T {b : Bool} {xs : List (List Int)} (h : EvP K te σ H (eZ (eT (eT eI)) (b, xs))) : EvQ K te σ H ((xs.map fun x => (b, x)).map (eZ (eT eI))) := fun H1 x Q q => h H1 x Q fun v H2 x2 dr => by
  obtain ⟨a, vs, rfl, hs, hd⟩ := dr.of_zT
  exact q a vs H2 x2 hs hd
theorem it_q (h : EvQ K te σ H ds) : ItD K H0 (iTup K te) σ H ds := fun H1 x R r => h H1 x _ fun a vs H2 x2 hs hd =>
  ⟨a, rfl, ⟨vs, sqT_im hs⟩, r _ H2 x2 (yd_at (walk_tup.mono (fun Hx g => SqT.kp hs g.1) fun _ _ _ _ _ _ y => y) hd fun _ g => g.1)⟩
theorem ie_q (h : EvQ K te σ H ds) : ItE K (iWf K (iTup K te)) σ H ds := fun H1 x R r => h H1 x _ fun a vs H2 x2 hs hd =>
  have hs := sqT_im hs
  ⟨a, rfl, ⟨vs, hs⟩, fun w => r _ H2 x2 (by rw [← hd.length]; exact w.2 _ _ hs) (yd_at (walk_tup.mono (fun Hx g => ex_t g hs) fun _ _ _ _ _ _ y => y) hd fun _ g => Kp.of g)⟩
theorem p_lenQ (h : EvQ K te σ H ds) : EvP K (tCB (rLen0 K) (tCons te tNil)) σ H (.int (ds.length : Int)) := fun H1 x Q q => h H1 x _ fun a vs H2 x2 hs hd => by
  refine ⟨a, vs, rfl, .inr (sqT_im hs), ?_⟩
  rw [hd.length]
  exact q _ H2 x2 .int
theorem n_sortSetQ {ns : List Int} (h : EvQ K te σ H (ns.map eI)) (hl : ns.length < 64) : EvN K (tCB (rSortedSet w) (tCons (tCB (rSetIT K w) (tCons te tNil)) tNil)) σ H ((setI ns).map .int) := fun H1 x Q q => h H1 x _ fun l vs H2 x2 hs hd => by
  have hs := sqT_im hs
  rw [hd.ints] at hs
  refine ⟨l, ns, rfl, hs, by unfold scanBound; omega, fun a c ha hc => ⟨a, _, c, rfl, upd_same, by omega, fun ms p h1 h2 h3 hp => ?_⟩⟩
  rw [setI_of h1 fun k => (h2 k).trans decide_eq_true_iff]
  have xa : Ex H2 (upd H2 a (SetO w a (fun j => decide (j ∈ ns)) c)) := Ex.new ha
  exact q p _ _ (fresh_back (x2.trans xa) hp) ((x2.trans xa).trans (Ex.new hp)) upd_same DrA.of_ints
def catZ (b : Bool) (xs ys : List Int) : Bool × List Int := (b && (!xs.isEmpty && ys.isEmpty), xs ++ ys)
theorem p_catZ {b : Bool} {xs ys : List Int} (ha : EvP K ta σ H (eZ (eT eI) (b, xs))) (hb : EvP K tb σ H (eT eI ys)) (hl : xs.length + ys.length ≤ 16777216) : EvP K (tOp (rCatA K) ta tb) σ H (eZ (eT eI) (catZ b xs ys)) := fun H1 x Q q =>
  ha H1 x _ fun v H2 x2 d2 => hb H2 (x.trans x2) _ fun u H3 x3 d3 => by
    obtain ⟨a, vs, rfl, hs, hd⟩ := (d2.ex x3).of_zI
    obtain ⟨c, ws, rfl, hs', hd'⟩ := d3.of_tup
    have l1 : vs.length = xs.length := by rw [hd.length, List.length_map]
    have l2 : ws.length = ys.length := by rw [hd'.length, List.length_map]
    refine ⟨a, c, vs, ws, rfl, rfl, sqT_im hs, hs', by rw [l1, l2, sizeLine_eq]; exact hl, fun e => ?_, fun n e => ?_, fun n m p hp => ?_⟩
    · have e1 : xs = [] := List.eq_nil_of_length_eq_zero (by rw [← l1, e]; rfl)
      subst e1
      have e2 : eZ (eT eI) (catZ b [] ys) = eT eI ys := by unfold catZ eZ; simp
      rw [e2] at q
      exact q _ H3 (x2.trans x3) d3
    · have e1 : ys = [] := List.eq_nil_of_length_eq_zero (by rw [← l2, e]; rfl)
      subst e1
      have e2 : catZ b xs [] = (b, xs) := by
        unfold catZ
        cases xs with
        | nil => exact absurd (List.eq_nil_of_length_eq_zero (by rw [l1]; rfl)) n
        | cons _ _ => simp
      rw [e2] at q
      exact q _ H3 (x2.trans x3) (d2.ex x3)
    · have e2 : eZ (eT eI) (catZ b xs ys) = .tuple (xs.map eI ++ ys.map eI) := by
        have : ys.isEmpty = false := by
          cases ys with
          | nil => exact absurd (List.eq_nil_of_length_eq_zero (by rw [l2]; rfl)) m
          | cons _ _ => rfl
        unfold catZ eZ
        rw [this, Bool.and_false, Bool.and_false]
        show PyData.tuple _ = _
        rw [List.map_append]
      rw [e2] at q
      exact q _ _ ((x2.trans x3).trans (Ex.new hp)) (Dr.tup upd_same ((hd.append hd').ex (Ex.new hp)))
theorem Dr.dpZ {g : α → List PyData} {v : V} {b : Bool} {x : α} (h : Dr K H v (eZ (fun x => .tuple (g x)) (b, x))) (n : noD (.tuple (g x)) = true) : Dp K H v (.tuple (g x)) := by
  cases b with
  | false => exact Dr.dp (K := K) h n
  | true =>
    have h : Dq K (im H) v (.dict [(.none, .tuple (g x))]) := h
    cases h with
    | fdt _ e => exact nomatch (Prod.mk.inj (List.cons.inj e).1).1
    | cst c => exact dqC_dp _ _ c
theorem p_neZ [DecidableEq α] [c : Cl (eT f)] {b : Bool} {xs ys : List α} (ha : EvP K ta σ H (eZ (eT f) (b, xs))) (hb : EvP K tb σ H (eT f ys)) (h1 : SeqAt.shaped (eT f xs) = true) (h2 : SeqAt.shaped (eT f ys) = true) : EvP K (tOp (rNeD K) ta tb) σ H (.bool (!decide (xs = ys))) := fun H1 x Q q =>
  ha H1 x _ fun v H2 x2 d2 => hb H2 (x.trans x2) _ fun u H3 x3 d3 => ⟨eT f xs, eT f ys, Dr.dpZ (g := fun xs : List α => xs.map f) (d2.ex x3) (noD_sh h1), d3.dp (noD_sh h2), h1, h2, by rw [c.eq]; exact q _ H3 (x2.trans x3) .bl⟩
theorem p_eqZ [DecidableEq α] [c : Cl (eT f)] {b : Bool} {xs ys : List α} (ha : EvP K ta σ H (eZ (eT f) (b, xs))) (hb : EvP K tb σ H (eT f ys)) (h1 : SeqAt.shaped (eT f xs) = true) (h2 : SeqAt.shaped (eT f ys) = true) : EvP K (tOp (rEqD K) ta tb) σ H (.bool (decide (xs = ys))) := fun H1 x Q q =>
  ha H1 x _ fun v H2 x2 d2 => hb H2 (x.trans x2) _ fun u H3 x3 d3 => ⟨eT f xs, eT f ys, Dr.dpZ (g := fun xs : List α => xs.map f) (d2.ex x3) (noD_sh h1), d3.dp (noD_sh h2), h1, h2, by rw [c.eq]; exact q _ H3 (x2.trans x3) .bl⟩
end
end Vx

/-! texts -/
namespace Vx
open PySem L2 PySem.Spec PyProof.Rows Evl RZ
variable [Tbs]
def rAddS : L2.R2 := fun x y H Q => ∃ i j, x = .str i ∧ y = .str j ∧ i.length + j.length ≤ sizeLine ∧ Q (.str (i ++ j)) H
theorem op_addS {X : Cx} : OpR X (binaryOp .Add) rAddS := op_add_str
def inS (i j : Str) : Bool := !(Builtin.Str.occurrences j i 0 j.length 1).isEmpty
def rInS : L2.R2 := fun x y H Q => ∃ i j, x = .str i ∧ y = .str j ∧ Q (.bl (inS i j)) H
theorem op_inS {X : Cx} : OpR X (compareOp .In) rInS := op_in_str
def rLenS1 : List V → Hp → VK → Prop := fun xs H Q => ∃ z : Str, xs = [.str z] ∧ z.length ≤ sizeLine ∧ Q (.int z.length) H
theorem cl_lenS {X : Cx} : CallR X (.builtin "len") rLenS1 := call_len_str
def rIntS : List V → Hp → VK → Prop := fun xs H Q => ∃ (a : Str) (n : Int), xs = [.str a] ∧ PySem.intText? a = some n ∧ a.length ≤ 640 ∧ Q (.int n) H
theorem cl_intS {X : Cx} : CallR X (.type "int") rIntS := call_int_str
def rSplitS : V → List V → Hp → VK → Prop := fun x xs H Q => ∃ a b, x = .str a ∧ xs = [.str b] ∧ (b.length == 0) = false ∧ a.length + 2 ≤ sizeLine ∧ rNewStrs (Txt.split a b) H Q
theorem mt_splitS {X : Cx} : MtR X "str.split" rSplitS := mt_split
def rJoinS (K : PySem.W.Frag) : V → List V → Hp → VK → Prop := fun x xs H Q => ∃ a p, ∃ ys : List Str, x = .str a ∧ xs = [.ref p] ∧ (SqL K H p (ys.map V.str) ∨ SqT K H p (ys.map V.str)) ∧ (ys.map (·.length)).sum + ys.length * a.length ≤ 16777216 ∧ Q (.str (Txt.join a ys)) H
theorem mt_joinS {X : Cx} (K : PySem.W.Frag) (hK : X.K = K := by rfl) : MtR X "str.join" (rJoinS K) := by subst hK; exact mt_join
def rStartS : V → List V → Hp → VK → Prop := fun x xs H Q => ∃ a b, x = .str a ∧ xs = [.str b] ∧ Q (.bl (Txt.startswith a b)) H
theorem mt_startS {X : Cx} : MtR X "str.startswith" rStartS := mt_startswith
/-- the signsT of a text, each as a text -/
def signsT (z : Str) : List Str := z.cps.toList.map fun c => ⟨#[c]⟩
section
variable {K : PySem.W.Frag} {σ : L2.St} {H H0 H' : Hp} {te ta tb : TE} {E : EnvD} {d : PyData} {ds : List PyData} {D : Ends} {tu tw : TS} {t u : TT}
theorem p_addS {a b : Str} (ha : EvP K ta σ H (.str a)) (hb : EvP K tb σ H (.str b)) (hl : a.length + b.length ≤ 16777216) : EvP K (tOp rAddS ta tb) σ H (.str (a ++ b)) := fun H1 x Q q =>
  ha H1 x _ fun v H2 x2 d2 => hb H2 (x.trans x2) _ fun w H3 x3 d3 => ⟨a, b, d2.of_str, d3.of_str, by rw [sizeLine_eq]; exact hl, q _ H3 (x2.trans x3) .str⟩
theorem p_inS {a b : Str} (ha : EvP K ta σ H (.str a)) (hb : EvP K tb σ H (.str b)) : EvP K (tOp rInS ta tb) σ H (.bool (inS a b)) := fun H1 x Q q =>
  ha H1 x _ fun v H2 x2 d2 => hb H2 (x.trans x2) _ fun w H3 x3 d3 => ⟨a, b, d2.of_str, d3.of_str, q _ H3 (x2.trans x3) .bl⟩
theorem p_neStr {i j : Str} (ha : EvP K ta σ H (.str i)) (hb : EvP K tb σ H (.str j)) : EvP K (tOp rNe ta tb) σ H (.bool (!decide (i = j))) := fun H1 x Q q =>
  ha H1 x _ fun v H2 x2 d2 => hb H2 (x.trans x2) _ fun u H3 x3 d3 => by
    rw [d2.of_str, d3.of_str]
    refine ⟨rfl, ?_⟩
    have e : decide (V.str i = V.str j) = decide (i = j) := by simp
    rw [e]
    exact q _ H3 (x2.trans x3) .bl
theorem p_lenS {a : Str} (h : EvP K te σ H (.str a)) (hz : a.length ≤ 16777216) : EvP K (tCB rLenS1 (tCons te tNil)) σ H (.int (a.length : Int)) := fun H1 x Q q =>
  h H1 x _ fun v H2 x2 d2 => ⟨a, by rw [d2.of_str], by rw [sizeLine_eq]; exact hz, q _ H2 x2 .int⟩
theorem p_intS {a : Str} {n : Int} (hn : PySem.intText? a = some n) (h : EvP K te σ H (.str a)) (hz : a.length ≤ 640) : EvP K (tCB rIntS (tCons te tNil)) σ H (.int n) := fun H1 x Q q =>
  h H1 x _ fun v H2 x2 d2 => ⟨a, n, by rw [d2.of_str], hn, hz, q _ H2 x2 .int⟩
theorem p_startS {a b : Str} (ha : EvP K ta σ H (.str a)) (hb : EvP K tb σ H (.str b)) : EvP K (tM1 rStartS ta tb) σ H (.bool (Txt.startswith a b)) := fun H1 x Q q =>
  ha H1 x _ fun v H2 x2 d2 => ⟨⟨a, d2.of_str⟩, hb H2 (x.trans x2) _ fun w H3 x3 d3 => ⟨a, b, d2.of_str, by rw [d3.of_str], q _ H3 (x2.trans x3) .bl⟩⟩
theorem drA_strs : ∀ {ys : List Str}, DrA K H (ys.map V.str) (ys.map .str)
  | [] => DrA.nil
  | _ :: _ => DrA.cons Dr.str drA_strs
theorem n_splitS {a b : Str} (ha : EvP K ta σ H (.str a)) (hb : EvP K tb σ H (.str b)) (h1 : (b.length == 0) = false) (h2 : a.length + 2 ≤ 16777216) : EvN K (tM1 rSplitS ta tb) σ H ((Txt.split a b).map eS) := fun H1 x Q q =>
  ha H1 x _ fun v H2 x2 d2 => ⟨⟨a, d2.of_str⟩, hb H2 (x.trans x2) _ fun w H3 x3 d3 => ⟨a, b, d2.of_str, by rw [d3.of_str], h1, by rw [sizeLine_eq]; exact h2, fun p hp => q p _ _ (fresh_back (x2.trans x3) hp) ((x2.trans x3).trans (Ex.new hp)) upd_same drA_strs⟩⟩
theorem p_joinS {a : Str} {ys : List Str} (ha : EvP K ta σ H (.str a)) (hb : EvS K tb σ H (ys.map eS)) (hz : (ys.map (·.length)).sum + ys.length * a.length ≤ 16777216) : EvP K (tM1 (rJoinS K) ta tb) σ H (.str (Txt.join a ys)) := fun H1 x Q q =>
  ha H1 x _ fun v H2 x2 d2 => ⟨⟨a, d2.of_str⟩, hb H2 (x.trans x2) _ fun p vs H3 x3 hs hd => by
    rw [DrA.strs hd] at hs
    exact ⟨a, p, ys, d2.of_str, rfl, .inl hs, hz, q _ H3 (x2.trans x3) .str⟩⟩
theorem p_slS {tl th : TO} {lo hi : Option Int} {z : Str} (h : EvP K te σ H (.str z)) (h1 : EvO tl σ H lo) (h2 : EvO th σ H hi) (hz : z.length ≤ 16777216) : EvP K (tSl rSlS te tl th) σ H (.str (cutS z lo hi)) := fun H1 x Q q =>
  h H1 x _ fun v H2 x2 d2 => h1 H2 (x.trans x2) _ fun H3 x3 => h2 H3 ((x.trans x2).trans x3) _ fun H4 x4 => ⟨z, d2.of_str, by rw [sizeLine_eq]; exact hz, q _ H4 ((x2.trans x3).trans x4) .str⟩
theorem p_ixS {z : Str} {i : Int} {c : Nat} (ha : EvP K ta σ H (.str z)) (hb : EvP K tb σ H (.int i)) (hi : atI z.cps.toList i = some c) (hz : z.length ≤ 16777216) : EvP K (tOp rIxS ta tb) σ H (.str ⟨#[c]⟩) := fun H1 x Q q =>
  ha H1 x _ fun v H2 x2 d2 => hb H2 (x.trans x2) _ fun w H3 x3 d3 => ⟨z, i, c, d2.of_str, d3.of_int, by rw [sizeLine_eq]; exact hz, hi, q _ H3 (x2.trans x3) .str⟩
theorem ie_str {z : Str} (h : EvP K te σ H (.str z)) (hz : z.length ≤ 16777216) : ItE K (iStr te) σ H ((signsT z).map eS) := fun H1 x R r => h H1 x _ fun v H2 x2 d2 => by
  have hl : ((signsT z).map eS).length = z.cps.size := by unfold signsT; rw [List.length_map, List.length_map, Array.length_toList]
  refine ⟨z, d2.of_str, r _ H2 x2 (by rw [hl, sizeLine_eq]; exact hz) ?_⟩
  rw [hl]
  refine walk_str.mono (fun _ _ => trivial) fun i Ha y Hb hi g yy => ?_
  obtain ⟨rfl, c, hc, rfl⟩ := yy
  refine ⟨Ex.refl _, _, ?_, Dr.str⟩
  unfold signsT
  rw [List.getElem?_map, List.getElem?_map, Array.getElem?_toList, hc]
  rfl
/-! ### f-strings -/
def EvJ (K : PySem.W.Frag) (ts : List TE) (σ : L2.St) (H : Hp) (acc out : Str) : Prop := ∀ H1, Ex H H1 → ∀ Q : Str → Hp → Prop, (∀ H2, Ex H1 H2 → Q out H2) → tJs ts acc σ H1 Q
theorem j_nil {acc : Str} : EvJ K [] σ H acc acc := fun H1 _ Q q => q H1 (Ex.refl H1)
theorem j_cons {ts : List TE} {acc y out : Str} (h : EvP K te σ H (.str y)) (hz : (acc ++ y).length ≤ 16777216) (r : EvJ K ts σ H (acc ++ y) out) : EvJ K (te :: ts) σ H acc out := fun H1 x Q q =>
  h H1 x _ fun v H2 x2 d2 => ⟨y, d2.of_str, by rw [sizeLine_eq]; exact hz, r H2 (x.trans x2) Q fun H3 x3 => q H3 (x2.trans x3)⟩
theorem p_fmtI {i : Int} (h : EvP K te σ H (.int i)) (hz : i.natAbs.log2 < 1920) : EvP K (tFmt te) σ H (.str (toString i)) := fun H1 x Q q =>
  h H1 x _ fun v H2 x2 d2 => .inr ⟨i, d2.of_int, hz, q _ H2 x2 .str⟩
theorem p_fmtS {y : Str} (h : EvP K te σ H (.str y)) (hz : y.length ≤ 16777216) : EvP K (tFmt te) σ H (.str y) := fun H1 x Q q =>
  h H1 x _ fun v H2 x2 d2 => .inl ⟨y, d2.of_str, by rw [sizeLine_eq]; exact hz, q _ H2 x2 .str⟩
theorem p_joined {ts : List TE} {out : Str} (h : EvJ K ts σ H Str.empty out) : EvP K (fun σ H Q => tJs ts Str.empty σ H fun out H1 => Q (.str out) H1) σ H (.str out) := fun H1 x Q q => h H1 x _ fun H2 x2 => q _ H2 x2 .str
/-! ### None in a list of numbers and None -/
def oV : Option Int → V
  | some i => .int i
  | none => .non
theorem DrA.opts : ∀ {vs : List V} {ys : List (Option Int)}, DrA K H vs (ys.map (eO eI)) → vs = ys.map oV
  | [], [], _ => rfl
  | _ :: vs, some y :: ys, h => by
    cases h with
    | cons a b => rw [Dr.of_int (K := K) (H := H) a, DrA.opts b]; rfl
  | _ :: vs, none :: ys, h => by
    cases h with
    | cons a b => rw [Dr.of_none (K := K) (H := H) a, DrA.opts b]; rfl
  | [], _ :: _, h => by cases h
  | _ :: _, [], h => by cases h
theorem inV_opts : ∀ ys : List (Option Int), inV .non (ys.map oV) = ys.any Option.isNone
  | [] => rfl
  | some y :: ys => by
    have := inV_opts ys
    unfold inV at this ⊢
    rw [List.map_cons, List.any_cons, List.any_cons, this]
    rfl
  | none :: ys => by
    have := inV_opts ys
    unfold inV at this ⊢
    rw [List.map_cons, List.any_cons, List.any_cons, this]
    rfl
theorem flat_opts : ∀ ys : List (Option Int), (ys.map oV).all flatV = true
  | [] => rfl
  | some y :: ys => by rw [List.map_cons, List.all_cons, flat_opts ys]; rfl
  | none :: ys => by rw [List.map_cons, List.all_cons, flat_opts ys]; rfl
theorem p_noneIn {ys : List (Option Int)} (ha : EvP K ta σ H .none) (hb : EvS K tb σ H (ys.map (eO eI))) : EvP K (tOp (rIn K false) ta tb) σ H (.bool (ys.any Option.isNone)) := fun H1 x Q q =>
  ha H1 x _ fun v H2 x2 d2 => hb H2 (x.trans x2) _ fun a vs H3 x3 hs hd => by
    rw [d2.of_none]
    rw [DrA.opts hd] at hs
    refine ⟨a, _, rfl, .inl hs, rfl, flat_opts ys, ?_⟩
    show Q (.bl (inV .non (ys.map oV))) H3
    rw [inV_opts]
    exact q _ H3 (x2.trans x3) .bl
/-- all are there -/
def allO : List (Option Int) → Option (List Int)
  | [] => some []
  | some x :: r => (allO r).map (x :: ·)
  | none :: _ => none
theorem allO_ok : ∀ {xs : List (Option Int)} {ys : List Int}, allO xs = some ys → xs = ys.map some
  | [], ys, h => by cases h; rfl
  | some x :: r, ys, h => by
    unfold allO at h
    cases e : allO r with
    | none => rw [e] at h; cases h
    | some zs =>
      rw [e] at h
      cases h
      rw [allO_ok e]
      rfl
  | none :: _, ys, h => by cases h
theorem p_allO {xs : List (Option Int)} {ys : List Int} (h : allO xs = some ys) (p : EvP K te σ H (eT (eO eI) xs)) : EvP K te σ H (eT eI ys) := p.to (by
  rw [allO_ok h]
  show PyData.tuple _ = PyData.tuple _
  rw [List.map_map]
  rfl)
/-! ### xs.pop() in a test -/
def popL {α : Type} (xs : List α) : Option (List α × α) := xs.getLast?.map fun x => (xs.dropLast, x)
theorem popL_ok {α : Type} {xs ys : List α} {x : α} (h : popL xs = some (ys, x)) : xs = ys ++ [x] := by
  unfold popL at h
  cases e : xs.getLast? with
  | none => rw [e] at h; cases h
  | some z =>
    rw [e] at h
    cases h
    obtain ⟨ws, rfl⟩ := List.getLast?_eq_some_iff.mp e
    simp
def tPopNe (K : PySem.W.Frag) (i : Nat) (c : Str) : TT := tTest (tOp rNe (tBM0 K "list" rPop (tVar i)) (tC (.str c)))
theorem t_popNe {i : Nat} {l : Addr} {xs : List Str} {x c : Str} (S : Sl K H σ E) (hi : E[i]? = some (some (.raw (.ref l)))) (o : Ow K H0 H l ((xs ++ [x]).map eS)) {Q : Bool → Hp → Prop}
    (k : ∀ H1, Kp H H1 → Xb l H H1 → Ow K H0 H1 l (xs.map eS) → Q (!decide (x = c)) H1) : tPopNe K i c σ H Q := by
  obtain ⟨a, vs, b, d⟩ := o
  have ev := DrA.strs d
  subst ev
  have kp : Kp H (upd H l (.lst (xs.map V.str))) := Kp.put (im_none b (fun _ z => nomatch z) fun _ _ z => nomatch z)
  refine ⟨.ref l, S.raw hi, .inl ⟨rfl, _, sq_of b⟩, l, (xs ++ [x]).map V.str, .str x, rfl, rfl, b, ?_, ?_⟩
  · rw [List.length_map, List.length_append, List.map_append]
    simp
  · have e : ((xs ++ [x]).map V.str).dropLast = xs.map V.str := by rw [List.map_append]; simp
    rw [e]
    refine ⟨rfl, !decide (x = c), ?_, ?_⟩
    · show V.bl (!decide (V.str x = V.str c)) = _
      simp
    · exact k _ kp (Xb.put (nc_of b fun _ z => nomatch z)) ⟨a, xs.map V.str, upd_same, drA_strs⟩
theorem s_ifPop {i : Nat} {l : Addr} {xs : List Str} {x c : Str} (S : Sl K H σ E) (hi : E[i]? = some (some (.raw (.ref l)))) (o : Ow K H0 H l ((xs ++ [x]).map eS))
    (h1 : (!decide (x = c)) = true → ∀ H1, Kp H H1 → Xb l H H1 → Ow K H0 H1 l (xs.map eS) → tu D σ H1) (h2 : (!decide (x = c)) = false → ∀ H1, Kp H H1 → Xb l H H1 → Ow K H0 H1 l (xs.map eS) → tw D σ H1) : tIfS (tPopNe K i c) tu tw D σ H := by
  refine t_popNe S hi o fun H1 kp xb o2 => ?_
  cases e : (!decide (x = c)) with
  | true => exact h1 e H1 kp xb o2
  | false => exact h2 e H1 kp xb o2
theorem s_ifPopOr {i : Nat} {l : Addr} {xs : List Str} {x c : Str} {b2 : Bool} (S : Sl K H σ E) (hi : E[i]? = some (some (.raw (.ref l)))) (o : Ow K H0 H l ((xs ++ [x]).map eS))
    (h1 : (!decide (x = c)) = true → ∀ H1, Kp H H1 → Xb l H H1 → Ow K H0 H1 l (xs.map eS) → tu D σ H1)
    (h2 : (!decide (x = c)) = false → ∀ H1, Kp H H1 → Xb l H H1 → Ow K H0 H1 l (xs.map eS) → EvT u σ H1 b2 ∧ (b2 = true → ∀ H2, Ex H1 H2 → tu D σ H2) ∧ (b2 = false → ∀ H2, Ex H1 H2 → tw D σ H2)) : tIfS (tOr (tPopNe K i c) u) tu tw D σ H := by
  refine t_popNe S hi o fun H1 kp xb o2 => ?_
  cases e : (!decide (x = c)) with
  | true => exact h1 e H1 kp xb o2
  | false =>
    obtain ⟨a1, a2, a3⟩ := h2 e H1 kp xb o2
    refine a1 H1 (Ex.refl H1) _ fun H2 e2 => ?_
    cases b2 with
    | true => exact a2 rfl H2 e2
    | false => exact a3 rfl H2 e2
end

theorem chk_not {b : Bool} {u : Unit} (h : chk (!b) = some u) : b = false := by
  have := chk_some h
  cases b with
  | true => cases this
  | false => rfl
end Vx

/-! an item of an own list is put; xs[::-1]; what raises within an expression; str.replace by an item of a written list -/
namespace Vx
open PySem L2 PySem.Spec PyProof.Rows Evl RZ
variable [Tbs]
section
variable {K : PySem.W.Frag} {σ : L2.St} {H H0 H1 : Hp} {te ta tb : TE} {tas : TA} {E : EnvD} {d : PyData} {ds : List PyData} {D : Ends} {r : L2.R2}
/-! ### xs[i] = e -/
def putL {α : Type} (xs : List α) (i : Int) (x : α) : Option (List α) := (L2.ixN xs.length i).map fun j => xs.set j x
theorem DrA.set {v : V} {d : PyData} : ∀ {vs : List V} {ds : List PyData} {j : Nat}, DrA K H vs ds → Dr K H v d → DrA K H (vs.set j v) (ds.set j d)
  | [], [], _, _, _ => DrA.nil
  | _ :: _, _ :: _, 0, h, g => by
    cases h with
    | cons a b => exact DrA.cons g b
  | _ :: _, _ :: _, j + 1, h, g => by
    cases h with
    | cons a b => exact DrA.cons a (DrA.set b g)
  | [], _ :: _, _, h, _ => by cases h
  | _ :: _, [], _, h, _ => by cases h
theorem s_setO {α : Type} {f : α → PyData} {xs ys : List α} {x : α} {i : Nat} {l : Addr} {n : Int} (S : Sl K H σ E) (hi : E[i]? = some (some (.raw (.ref l)))) (o : Ow K H0 H l (xs.map f)) (h : EvP K te σ H (f x)) (hb : EvP K tb σ H (.int n)) (e : putL xs n x = some ys)
    (k : ∀ H1, Kp H H1 → Xb l H H1 → Ow K H0 H1 l (ys.map f) → D.nx σ H1) : tAsg te (gSub (tVar i) tb rSetL) D σ H := by
  obtain ⟨a, vs, b, c⟩ := o
  unfold putL at e
  cases hj : L2.ixN xs.length n with
  | none => rw [hj] at e; cases e
  | some j =>
    rw [hj] at e
    cases e
    refine h H (Ex.refl H) _ fun v H1 e1 d1 => ⟨.ref l, S.raw hi, hb H1 e1 _ fun w H2 e2 d2 => ?_⟩
    have e3 := e1.trans e2
    have hb2 := e3 l _ b
    have hl : vs.length = xs.length := by rw [c.length, List.length_map]
    have kp : Kp H2 (upd H2 l (.lst (vs.set j v))) := Kp.put (im_none hb2 (fun _ z => nomatch z) fun _ _ z => nomatch z)
    refine ⟨l, vs, n, j, rfl, d2.of_int, hb2, by rw [hl]; exact hj, k _ ((Kp.of e3).trans kp) (Xb.mut e3 (nc_of hb2 fun _ z => nomatch z)) ⟨a, vs.set j v, upd_same, ?_⟩⟩
    rw [List.map_set]
    exact DrA.set ((c.ex e3).kp kp) ((d1.ex e2).kp kp)
/-! ### xs[::-1] -/
theorem n_revL {α : Type} {f : α → PyData} {xs : List α} (h : EvS K te σ H (xs.map f)) : EvN K (tRevL K te) σ H (xs.reverse.map f) := fun H1 x Q q =>
  h H1 x _ fun a vs H2 x2 hs hd => ⟨a, vs, rfl, hs, fun p hp => q p _ _ (fresh_back x2 hp) (x2.trans (Ex.new hp)) upd_same (by rw [List.map_reverse]; exact hd.reverse.ex (Ex.new hp))⟩
/-! ### it raises within -/
theorem x_op (h : ∀ Q, ta σ H Q) : ∀ Q, tOp r ta tb σ H Q := fun Q => h _
theorem x_tup (h : ∀ Q, tas σ H Q) : ∀ Q, tTup tas σ H Q := fun Q => h _
theorem x_app {i : Nat} {l : Addr} (S : Sl K H σ E) (hi : E[i]? = some (some (.raw (.ref l)))) (o : Ow K H0 H l ds) (h : ∀ Q, te σ H Q) : tDrop (tBM K "list" rAppend (tVar i) (tCons te tNil)) D σ H := by
  obtain ⟨a, vs, b, c⟩ := o
  exact ⟨.ref l, S.raw hi, .inl ⟨rfl, vs, sq_of b⟩, h _⟩
end
/-! ### a token is out -/
/-- behind it a token is out -/
def PSU (X : Cx) (st : Stmt) (t : TS) : Prop :=
  ∀ (pins : List (Addr × Obj)) (s : Shared) (σ : L2.St) (H : Hp) (D : Ends), Inv X pins σ H s → t D σ H → wpAny (model X.prog X.w) X.A (exec st X.env) (fun f s' => 1 ≤ s'.toks ∧ SP X pins D f s') X.xe s
def PEU (X : Cx) (e : Expr) (t : TE) : Prop :=
  ∀ (pins : List (Addr × Obj)) (s : Shared) (σ : L2.St) (H : Hp) (Q : VK), Inv X pins σ H s → t σ H Q → wpAny (model X.prog X.w) X.A (eval e X.env) (fun v s' => 1 ≤ s'.toks ∧ EP X pins σ Q v s') X.xe s
section
variable {X : Cx} {st : Stmt} {rest : List Stmt} {t u : TS} {o e : Expr} {to te : TE}
theorem pss_consU (h1 : PSU X st t) (h2 : PSsT X rest u) : PSs X (st :: rest) (tSeq t u) := by
  refine ⟨fun pins s σ H D I h => ?_⟩
  refine wpAny_execs_cons (wpAny_mono (h1 pins s σ H { D with nx := u D } I h) (fun f s1 q => ?_) fun _ _ x => x)
  obtain ⟨hk, q⟩ := q
  cases f with
  | next =>
    obtain ⟨σ', H', I', q⟩ := q
    exact h2 pins s1 σ' H' D hk I' q
  | ret v => exact q
  | brk => exact q
  | cont => exact q
theorem psu_set {i : Nat} {x : Str} {pos pos' : Pos} (hN : X.N.Nodup) (hi : X.N[i]? = some x) (hx : Loc X.env.scope x) (he : PEU X e te) (hs : swapsWith e (some (.Name x pos')) pos.line X.env = pure false := by rfl) (hf : X.fn x = true ∨ X.env.scope.names.lookup x = some .local := by first | exact .inl rfl | exact .inr rfl | assumption) :
    PSU X (.Assign [.Name x pos'] e pos) (tAsg te (gName i)) := by
  intro pins s σ H D I h
  refine wpAny_Assign_Name (thn (he pins s σ H _ I h) fun v s1 ⟨hk, y, H1, I1, r1, q1⟩ => ?_) hs
  refine wpAny_mono (PySem.wpAny_toks (store_ok (Q := fun _ s2 => Inv X pins (σ.set i (some y)) H1 s2) I1 hN hi hx r1 (fun s2 I2 => I2) hf)) (fun _ s2 q => ?_) fun _ _ z => z.2
  exact ⟨Nat.le_trans hk q.1, _, H1, q.2, q1⟩
theorem peu_m1 {id : String} {name c : Str} {k : Nat} {cp apos pos : Pos} {r : V → List V → Hp → VK → Prop} (slot : Slot "str" name id) (ty : typeOf (.builtin id) = pure (.type "method_descriptor")) (rule : MtR X id r) (ho : PE X o to)
    (hs : starEach [.Constant (.str c) k cp] X.env = [(false, eval (.Constant (.str c) k cp) X.env)] := by rfl) (hbase : attributeBase o name X.env (eval o X.env) = eval o X.env := by rfl) (hline : (apos.endLine == pos.line) = true := by rfl) :
    PEU X (.Call (.Attribute o name apos) [.Constant (.str c) k cp] [] pos) (tM1 r to (tC (.str c))) := by
  intro pins s σ H Q I h
  refine PySem.Call_method1 hbase hs hline (thn (ho.run pins s σ H _ I h) fun v s1 ⟨x, H1, I1, r1, q1⟩ => ?_)
  obtain ⟨⟨a, rfl⟩, q1⟩ := q1
  obtain ⟨t, rfl⟩ := _root_.id r1
  refine ⟨"str", _, PySem.F.plainAttrs_str, slot, ty, typeIs_str _ _ _, (fun _ e => nomatch e), Calls.callWith_builtin rfl (Calls.evalArgs_plain (Calls.spliced_cons ?_))⟩
  refine Calls.Constant_str (Calls.spliced_nil ?_)
  refine wpAny_mono (PySem.wpAny_toks (rule pins { s1 with toks := s1.toks + 1 } σ H1 _ [.str c] _ [.str c s1.toks] Q (I1.tok _) r1 (.cons ⟨_, rfl⟩ .nil) q1)) (fun _ s2 q => ?_) fun _ _ z => z.2
  have hk : s1.toks + 1 ≤ s2.toks := q.1
  exact ⟨by omega, q.2⟩
theorem pst_asg {tg : Expr} {g : TG} {pos : Pos} (he : PET X e te) (hg : PG X tg g) (hs : swapsWithSole [tg] e pos.line X.env = pure false := by rfl) (hw : swappedStores [tg] e X.env = pure none := by rfl)
    (h1 : (assignEach [tg] X.env).map (·.2) = [assign tg X.env] := by rfl) : PST X (.Assign [tg] e pos) (tAsg te g) := by
  intro pins s σ H D h0 I h
  refine wpAny_Assign_stores (thn (he pins s σ H _ h0 I h) fun v s1 ⟨x, H1, I1, r1, q1⟩ => ?_) hs hw
  rw [h1]
  exact thn (hg.run pins s1 σ H1 x v _ I1 r1 q1) fun _ s2 q => q
end
/-! ### written texts -/
inductive Wr : List Expr → List Str → Prop
  | nil : Wr [] []
  | cons {z : Str} {j : Nat} {c : Pos} {es : List Expr} {zs : List Str} : Wr es zs → Wr (.Constant (.str z) j c :: es) (z :: zs)
def raws : List Str → Nat → List Value
  | [], _ => []
  | z :: zs, t => .str z t :: raws zs (t + 1)
theorem raws_get : ∀ {zs : List Str} {t i : Nat} {z : Str}, zs[i]? = some z → (raws zs t)[i]? = some (.str z (t + i))
  | [], _, _, _, h => by simp at h
  | z :: zs, t, 0, z', h => by
    have : z = z' := by simpa using h
    rw [this]; rfl
  | z :: zs, t, i + 1, z', h => by
    have h2 : zs[i]? = some z' := by simpa using h
    show (raws zs (t + 1))[i]? = _
    rw [raws_get h2]
    congr 2
    exact (Nat.add_assoc t 1 i).trans (congrArg (t + ·) (Nat.add_comm 1 i))
theorem raws_len : ∀ (zs : List Str) (t : Nat), (raws zs t).length = zs.length
  | [], _ => rfl
  | z :: zs, t => by show (raws zs (t + 1)).length + 1 = _; rw [raws_len zs]; rfl
section
variable {X : Cx}
theorem wr_eval {es : List Expr} {zs : List Str} (h : Wr es zs) : ∀ (pos : Pos) (s : Shared) (Q : List Value → Shared → Prop), Q (raws zs s.toks) { s with toks := s.toks + zs.length } → wpAny (model X.prog X.w) X.A (spliced (backTo pos (starEach es X.env))) Q X.xe s := by
  induction h with
  | nil => intro pos s Q q; exact Calls.spliced_nil q
  | @cons z j c es zs h ih =>
    intro pos s Q q
    show wpAny _ _ (spliced ((false, eval (.Constant (.str z) j c) X.env) :: backTo pos (starEach es X.env))) _ _ s
    refine Calls.spliced_cons (Calls.Constant_str ?_)
    refine ih pos _ _ ?_
    have e : s.toks + 1 + zs.length = s.toks + (z :: zs).length := by rw [List.length_cons]; omega
    show Q (raws (z :: zs) s.toks) { s with toks := s.toks + 1 + zs.length }
    rw [e]
    exact q
/-- e.replace(y, [z0, z1, ..][name]) -/
def tReplI (to : TE) (y : Str) (zs : List Str) (ip : Nat) : TE := fun σ H Q => to σ H fun v H1 => ∃ x i z, v = .str x ∧ σ[ip]? = some (some (.int i)) ∧ 0 ≤ i ∧ i < 2 ^ 63 ∧ zs[i.toNat]? = some z ∧ x.length + (x.length + 1) * z.length ≤ 16777216 ∧ Q (.str (Txt.replace x y z)) H1
theorem pet_replI {o : Expr} {to : TE} {y px : Str} {es : List Expr} {zs : List Str} {ip j : Nat} {c0 lp pp sp apos pos : Pos} (ho : PE X o to) (hw : Wr es zs) (hz : zs.length ≤ 1000) (hy : zs.all (fun z => !(y == z)) = true) (hNp : X.N[ip]? = some px) (hvp : Vis X.env.scope px)
    (hdp : (px == ("__debug__" : Str)) = false := by decide) (hcp : (px == ("__classdict__" : Str)) = false := by decide)
    (hst : starEach [.Constant (.str y) j c0, .Subscript (.List es lp) (.Name px pp) sp] X.env = [(false, eval (.Constant (.str y) j c0) X.env), (false, eval (.Subscript (.List es lp) (.Name px pp) sp) X.env)] := by rfl)
    (hbase : attributeBase o "replace" X.env (eval o X.env) = eval o X.env := by rfl) (hline : (apos.endLine == pos.line) = true := by rfl) :
    PET X (.Call (.Attribute o "replace" apos) [.Constant (.str y) j c0, .Subscript (.List es lp) (.Name px pp) sp] [] pos) (tReplI to y zs ip) := by
  intro pins s σ H Q h0 I h
  refine PySem.Call_method2 hbase hst hline (wpAny_mono (PySem.wpAny_toks (ho.run pins s σ H _ I h)) (fun v s1 q => ?_) fun _ _ z => z.2)
  obtain ⟨hk, v', H1, I1, r1, x, i, z, e1, hi, i0, i1, hzi, hb, q⟩ := q
  subst e1
  obtain ⟨tx, e2⟩ := r1
  subst e2
  have hyz : (y == z) = false := by
    have := List.all_eq_true.mp hy z (List.mem_of_getElem? hzi)
    simpa using this
  refine ⟨"str", _, PySem.F.plainAttrs_str, PySem.F.slot_str_replace, PySem.F.type_str_replace, typeIs_str _ _ _, (fun _ e => nomatch e), Calls.callWith_builtin rfl (Calls.evalArgs_plain (Calls.spliced_cons ?_))⟩
  refine Calls.Constant_str (Calls.spliced_cons ?_)
  refine Subscript_ (wpAny_List_spliced (wr_eval hw _ _ _ ⟨?_, ?_⟩))
  · rw [raws_len]
    have : (1000 : Nat) ≤ sizeLine := by decide
    omega
  have I2 : Inv X pins σ H1 { s1 with heap := s1.heap.push { cls := .type "list", data := .seq (raws zs (s1.toks + 1)).toArray }, toks := s1.toks + 1 + zs.length } := I1.kept (t' := s1.toks + 1 + zs.length) fun b o e => Heap.get?_push_of_some _ e
  refine raw_name hNp hvp I2 hi (fun u r => ?_) hdp hcp
  obtain ⟨tu, e3⟩ := r
  subst e3
  refine item_listR (x := .str z (s1.toks + 1 + i.toNat)) (items := (raws zs (s1.toks + 1)).toArray) ⟨_, Heap.get?_push_size _ rfl, rfl, _, rfl⟩ i0 i1 (by rw [List.getElem?_toArray]; exact raws_get hzi) ?_ rfl
  refine Calls.spliced_nil ?_
  exact PySem.SC.replace (by show s1.toks ≠ 0; omega) (by show s1.toks + 1 + i.toNat ≠ 0; omega) (by show s1.toks ≠ s1.toks + 1 + i.toNat; omega) hyz hb fun t' k => ⟨.str (Txt.replace x y z), H1, I2.tok k, ⟨t', rfl⟩, q⟩
end
section
variable {K : PySem.W.Frag} {σ : L2.St} {H : Hp} {te : TE} {E : EnvD}
theorem atI_pos {α : Type} {xs : List α} {i : Int} {x : α} (h0 : 0 ≤ i) (h : atI xs i = some x) : xs[i.toNat]? = some x := by
  by_cases hn : i < xs.length
  · obtain ⟨y, e1, e2⟩ := atI_ok h0 hn
    rw [e1] at h
    cases h
    exact e2
  · unfold atI ixN at h
    rw [if_pos h0, if_neg hn] at h
    cases h
theorem p_replI {x y z : Str} {zs : List Str} {ip : Nat} {i : Int} (S : Sl K H σ E) (hi : E[ip]? = some (some (.dat (.int i)))) (h : EvP K te σ H (.str x)) (i0 : 0 ≤ i) (i1 : i < 9223372036854775808) (hz : atI zs i = some z) (hb : x.length + (x.length + 1) * z.length ≤ 16777216) : EvP K (tReplI te y zs ip) σ H (.str (Txt.replace x y z)) := fun H1 e Q q =>
  h H1 e _ fun v H2 e2 d2 => by
    obtain ⟨w, h1, h2⟩ := S.dat hi
    rw [h2.of_int] at h1
    refine ⟨x, i, z, d2.of_str, h1, i0, by omega, atI_pos i0 hz, hb, q _ H2 e2 .str⟩
end
end Vx

/-! objects of own classes, whose fields are data and lists of their own, bound once -/
namespace Vx
open PySem L2 PySem.Spec PyProof.Rows Evl RZ
variable [Tbs]
/-- all but the ls stays -/
structure XbS (ls : List Addr) (H H' : Hp) : Prop where
  app : ∀ a, a ∉ ls → ∀ u, H a = some u → (∀ ps, u ≠ .tbl ps) → H' a = some u
  tbl : ∀ a, a ∉ ls → ∀ ps, H a = some (.tbl ps) → ∃ qs, H' a = some (.tbl qs)
  tab : ∀ P q, (P, q) ∈ Tbs.l → P ∉ ls → LamX.TabS H P q → LamX.TabS H' P q
/-- the fields of an object whose lists may change -/
def FoV (K : PySem.W.Frag) (H : Hp) (v : V) : Fv → Prop
  | .d x => Dr K H v x
  | .l xs => ∃ l vs, v = .ref l ∧ H l = some (.lst vs) ∧ DrA K H vs xs
def FoOk (K : PySem.W.Frag) (H : Hp) : List (Str × V) → List (Str × Fv) → Prop
  | [], [] => True
  | (n, v) :: fs, (m, x) :: st => n = m ∧ FoV K H v x ∧ FoOk K H fs st
  | _, _ => False
def lsOf : List (Str × V) → List (Str × Fv) → List Addr
  | (_, v) :: fs, (_, .l _) :: st => match v with
    | .ref l => l :: lsOf fs st
    | _ => lsOf fs st
  | _ :: fs, (_, .d _) :: st => lsOf fs st
  | _, _ => []
/-- new fields: the lists are new -/
def FwV (K : PySem.W.Frag) (H0 H : Hp) (v : V) : Fv → Prop
  | .d x => Dr K H v x
  | .l xs => ∃ l vs, v = .ref l ∧ H0 l = none ∧ H l = some (.lst vs) ∧ DrA K H vs xs
def FwOk (K : PySem.W.Frag) (H0 H : Hp) : List (Str × V) → List (Str × Fv) → Prop
  | [], [] => True
  | (n, v) :: fs, (m, x) :: st => n = m ∧ FwV K H0 H v x ∧ FwOk K H0 H fs st
  | _, _ => False
def RtN (K : PySem.W.Frag) (H H' : Hp) (Q : VK) : Rt → Prop
  | .d x => ∀ v, Dr K H' v x → Q v H'
  | .n xs => ∀ p vs, H p = none → H' p = some (.lst vs) → DrA K H' vs xs → Q (.ref p) H'
  | .k _ => True
/-- a method that may change the object's lists -/
def SpO (K : PySem.W.Frag) (C : Addr) (n : Nat) (R : List (Str × Fv) → List Ag → List (Str × Fv) → Rt → Prop) : Sp := fun vs H Q _ => ∃ (a dx : Addr) (fs : List (Str × V)) (ws : List V) (st st' : List (Str × Fv)) (as : List Ag) (r : Rt),
  vs = .ref a :: ws ∧ as.length = n ∧ R st as st' r ∧ H a = some (.ins C dx fs) ∧ FoOk K H fs st ∧ (lsOf fs st).Nodup ∧ AgsOk K H ws as ∧ LamX.Tabs Tbs.l H ∧ ∀ H', Kp H H' → XbS (lsOf fs st) H H' → FoOk K H' fs st' → RtN K H H' Q r
/-- __init__ -/
def SpI (K : PySem.W.Frag) (C : Addr) (n : Nat) (R : List Ag → List (Str × Fv) → Prop) : Sp := fun vs H Q _ => ∃ (x dx : Addr) (ws : List V) (st : List (Str × Fv)) (as : List Ag),
  vs = .ref x :: ws ∧ as.length = n ∧ R as st ∧ H x = some (.ins C dx []) ∧ AgsOk K H ws as ∧ LamX.Tabs Tbs.l H ∧ ∀ H' fs, Kp H H' → Xb x H H' → H' x = some (.ins C dx fs) → FwOk K H H' fs st → (lsOf fs st).Nodup → Q .non H'
section
variable {K : PySem.W.Frag} {σ : L2.St} {H H0 H1 H' : Hp} {te ta tb te0 : TE} {tas : TA} {E : EnvD} {d : PyData} {ds : List PyData} {D : Ends} {a dx C l x : Addr} {fs : List (Str × V)} {st st' : List (Str × Fv)} {f m : Str} {v : V} {i j n : Nat} {as : List Ag} {E' : XK}
theorem ins_ex (e : Ex H H') (h : H a = some (.ins C dx fs)) : H' a = some (.ins C dx fs) := e.app a _ h fun _ z => nomatch z
theorem ins_ne (h : H a = some (.ins C dx fs)) (o : Ow K H0 H l ds) : a ≠ l := fun e => by
  obtain ⟨_, vs, b, _⟩ := o
  rw [e, b] at h
  cases h
theorem ins_but (h : H a = some (.ins C dx fs)) (o : Ow K H0 H l ds) (bt : Xb l H H') : H' a = some (.ins C dx fs) := bt.at (ins_ne h o) h
/-- an address, as it is -/
def EvV (te : TE) (σ : L2.St) (H : Hp) (v : V) : Prop := ∀ H1, Ex H H1 → ∀ Q : VK, (∀ H2, Ex H1 H2 → Q v H2) → te σ H1 Q
theorem v_fld (S : Sl K H σ E) (hi : E[i]? = some (some (.raw (.ref a)))) (ho : H a = some (.ins C dx fs)) (c : L2.Cls K C) (n : L2.NoAttr K C f) (hl : fs.lookup f = some v) : EvV (tFld K (tVar i) f) σ H v := fun H1 e Q q =>
  ⟨.ref a, S.raw hi, a, C, dx, fs, v, rfl, ins_ex e ho, c, n, hl, q H1 (Ex.refl H1)⟩
theorem EvV.p (h : EvV te σ H v) (dr : Dr K H v d) : EvP K te σ H d := fun H1 e Q q => h H1 e _ fun H2 e2 => q v H2 e2 (Dr.ex (K := K) dr (e.trans e2))
theorem EvV.s (h : EvV te σ H (.ref l)) (o : Ow K H0 H l ds) : EvS K te σ H ds := fun H1 e Q q => h H1 e _ fun H2 e2 => by
  obtain ⟨_, vs, b, c⟩ := o.ex (e.trans e2)
  exact q l vs H2 e2 (sq_of b) c
theorem EvV.r (h : EvV te σ H (.ref l)) (o : Ow K H0 H l ds) : EvR K te σ H ds := fun H1 e Q q => h H1 e _ fun H2 e2 => by
  obtain ⟨_, vs, b, c⟩ := o.ex (e.trans e2)
  exact q l vs H2 e2 (.inl b) c
theorem EvV.sr {vs : List V} (h : EvV te σ H (.ref l)) (hs : SqL K H l vs) (hd : DrA K H vs ds) : EvS K te σ H ds := fun H1 e Q q => h H1 e _ fun H2 e2 => q l vs H2 e2 (ex_l (e.trans e2) hs) (hd.ex (e.trans e2))
/-- append, pop -/
theorem s_appV (hv : EvV te0 σ H (.ref l)) (o : Ow K H0 H l ds) (h : EvP K te σ H d) (hz : ds.length < 16777216)
    (k : ∀ H1, Kp H H1 → Xb l H H1 → Ow K H0 H1 l (ds ++ [d]) → D.nx σ H1) : tDrop (tBM K "list" rAppend te0 (tCons te tNil)) D σ H := by
  refine hv H (Ex.refl H) _ fun H0' e0' => ?_
  obtain ⟨a, vs, b, c⟩ := o.ex e0'
  refine ⟨.inl ⟨rfl, vs, sq_of b⟩, h H0' e0' _ fun v H1 e dr => ⟨l, vs, v, rfl, rfl, e l _ b, by rw [c.length, sizeLine_eq]; exact hz, ?_⟩⟩
  have hb := e l _ b
  have kp : Kp H1 (upd H1 l (.lst (vs ++ [v]))) := Kp.put (im_none hb (fun _ z => nomatch z) fun _ _ z => nomatch z)
  exact k _ ((Kp.of (e0'.trans e)).trans kp) (Xb.mut (e0'.trans e) (nc_of hb fun _ z => nomatch z)) ⟨a, vs ++ [v], upd_same, ((c.ex e).kp kp).append (.cons (dr.kp kp) .nil)⟩
theorem s_popV {α : Type} {g : α → PyData} {xs ys : List α} {z : α} (hv : EvV te0 σ H (.ref l)) (o : Ow K H0 H l (xs.map g)) (hp : popL xs = some (ys, z)) (hz : xs.length ≤ 16777216)
    (k : ∀ H1, Kp H H1 → Xb l H H1 → Ow K H0 H1 l (ys.map g) → D.nx σ H1) : tDrop (tBM0 K "list" rPop te0) D σ H := by
  have hx := popL_ok hp
  subst hx
  refine hv H (Ex.refl H) _ fun H1 e1 => ?_
  obtain ⟨a, vs, b, c⟩ := o.ex e1
  rw [List.map_append] at c
  have hne : vs ≠ [] := fun e => by
    rw [e] at c
    have := c.length
    simp at this
  obtain ⟨us, u, rfl⟩ : ∃ us u, vs = us ++ [u] := ⟨vs.dropLast, vs.getLast hne, (List.dropLast_concat_getLast hne).symm⟩
  have kp : Kp H1 (upd H1 l (.lst us)) := Kp.put (im_none b (fun _ z => nomatch z) fun _ _ z => nomatch z)
  have c2 : DrA K H1 us (ys.map g) := by
    have := DrA.take (ys.map g).length c
    have e3 : us.length = (ys.map g).length := by
      have := c.length
      simpa using this
    rw [List.take_left, ← e3, List.take_left] at this
    exact this
  refine ⟨.inl ⟨rfl, _, sq_of b⟩, l, us ++ [u], u, rfl, rfl, b, by simp, ?_⟩
  rw [List.dropLast_concat]
  exact k _ ((Kp.of e1).trans kp) (Xb.mut e1 (nc_of b fun _ z => nomatch z)) ⟨a, us, upd_same, c2.kp kp⟩
/-! ### methods that change nothing -/
theorem p_methR {R : List Ag → Rt → Prop} (t0 : LamX.Tabs Tbs.l H) (S : Sl K H σ E) (hi : E[i]? = some (some (.raw (.ref a)))) (ho : H a = some (.ins C dx fs)) (hl : fs.lookup m = none) (hf : FrOk K H fs st) (h : EvG K tas σ H as) (hn : as.length + 1 = n) (hr : R (.o C st :: as) (.d d)) :
    EvP K (tMeth C m (SpR K n R) [] E' (tVar i) tas) σ H d := fun H1 e Q q =>
  ⟨.ref a, S.raw hi, a, dx, fs, rfl, ins_ex e ho, hl, h H1 e _ fun vs H2 e2 d2 => by
    show SpR K n R (.ref a :: (vs ++ [])) H2 Q E'
    rw [List.append_nil]
    exact ⟨.o C st :: as, .d d, hn, hr, .cons (AgOk.ex (a := .o C st) (e.trans e2) ⟨a, dx, fs, rfl, ho, hf⟩) d2, tabs_ex (e.trans e2) t0, fun v H3 x3 d3 => q v H3 (e2.trans x3) d3⟩⟩
theorem n_methR {R : List Ag → Rt → Prop} (t0 : LamX.Tabs Tbs.l H) (S : Sl K H σ E) (hi : E[i]? = some (some (.raw (.ref a)))) (ho : H a = some (.ins C dx fs)) (hl : fs.lookup m = none) (hf : FrOk K H fs st) (h : EvG K tas σ H as) (hn : as.length + 1 = n) (hr : R (.o C st :: as) (.n ds)) :
    EvN K (tMeth C m (SpR K n R) [] E' (tVar i) tas) σ H ds := fun H1 e Q q =>
  ⟨.ref a, S.raw hi, a, dx, fs, rfl, ins_ex e ho, hl, h H1 e _ fun vs H2 e2 d2 => by
    show SpR K n R (.ref a :: (vs ++ [])) H2 Q E'
    rw [List.append_nil]
    exact ⟨.o C st :: as, .n ds, hn, hr, .cons (AgOk.ex (a := .o C st) (e.trans e2) ⟨a, dx, fs, rfl, ho, hf⟩) d2, tabs_ex (e.trans e2) t0, fun p ws H3 hp x3 h3 d3 => q p ws H3 (fresh_back e2 hp) (e2.trans x3) h3 d3⟩⟩
end
section
variable {K : PySem.W.Frag} {σ : L2.St} {H H0 H1 H2 H' : Hp} {te ta tb te0 : TE} {tas : TA} {E : EnvD} {d : PyData} {ds : List PyData} {D : Ends} {a dx C l x : Addr} {fs : List (Str × V)} {st st' : List (Str × Fv)} {f m : Str} {v : V} {i j n : Nat} {as : List Ag} {E' : XK} {ls : List Addr} {vs : List V}
theorem AgsOk.ex' (e : Ex H H') : ∀ {vs : List V} {as : List Ag}, AgsOk K H vs as → AgsOk K H' vs as
  | _, _, .nil => .nil
  | _, _, .cons a b => .cons (AgOk.ex e a) (AgsOk.ex' e b)
theorem nc_ins (h : H a = some (.ins C dx fs)) : ∀ q, H a ≠ some (LamX.CodeO a q) := nc_of h fun _ z => nomatch z
theorem kp_ins (h : H a = some (.ins C dx fs)) {o : HO} : Kp H (upd H a o) := Kp.put (im_none h (fun _ z => nomatch z) fun _ _ z => nomatch z)
/-! ### __init__ -/
theorem s_fldD (S : Sl K H σ E) (hi : E[i]? = some (some (.raw (.ref a)))) (ho : H a = some (.ins C dx fs)) (c : L2.Cls K C) (n : L2.NoAttr K C f) (hz : fs.length < 1000) (h : EvP K te σ H d)
    (k : ∀ H1 v, Kp H H1 → Xb a H H1 → H1 a = some (.ins C dx (L2.putF f v fs)) → Dr K H1 v d → D.nx σ H1) : sFld K (tVar i) te f D σ H :=
  h H (Ex.refl H) _ fun y H1 e1 d1 => ⟨.ref a, S.raw hi, a, C, dx, fs, rfl, ins_ex e1 ho, c, n, hz,
    k _ y ((Kp.of e1).trans (kp_ins (ins_ex e1 ho))) (Xb.mut e1 (nc_ins (ins_ex e1 ho))) upd_same (d1.kp (kp_ins (ins_ex e1 ho)))⟩
theorem s_fldN (S : Sl K H σ E) (hi : E[i]? = some (some (.raw (.ref a)))) (ho : H a = some (.ins C dx fs)) (c : L2.Cls K C) (n : L2.NoAttr K C f) (hz : fs.length < 1000) (h : EvN K te σ H ds)
    (k : ∀ H1 l vs, Kp H H1 → Xb a H H1 → H1 a = some (.ins C dx (L2.putF f (.ref l) fs)) → H l = none → H1 l = some (.lst vs) → DrA K H1 vs ds → D.nx σ H1) : sFld K (tVar i) te f D σ H :=
  h H (Ex.refl H) _ fun p vs H1 hp e1 h1 d1 => ⟨.ref a, S.raw hi, a, C, dx, fs, rfl, ins_ex e1 ho, c, n, hz,
    k _ p vs ((Kp.of e1).trans (kp_ins (ins_ex e1 ho))) (Xb.mut e1 (nc_ins (ins_ex e1 ho))) upd_same hp (by rw [upd_ne (ne_of_none ho hp).symm]; exact h1) (d1.kp (kp_ins (ins_ex e1 ho)))⟩
theorem FwOk.back (e : Ex H H2) : ∀ {fs : List (Str × V)} {st : List (Str × Fv)}, FwOk K H2 H' fs st → FwOk K H H' fs st
  | [], [], _ => trivial
  | (_, v) :: _, (_, .d _) :: _, h => ⟨h.1, h.2.1, FwOk.back e h.2.2⟩
  | (_, v) :: _, (_, .l _) :: _, h => by
    obtain ⟨h1, ⟨l, vs, e1, e2, e3, e4⟩, h3⟩ := h
    exact ⟨h1, ⟨l, vs, e1, fresh_back e e2, e3, e4⟩, FwOk.back e h3⟩
  | [], _ :: _, h => h.elim
  | _ :: _, [], h => h.elim
theorem s_makeO {R : List Ag → List (Str × Fv) → Prop} (t0 : LamX.Tabs Tbs.l H) (h : EvG K tas σ H as) (hn : as.length = n) (hr : R as st)
    (k : ∀ H1 x dx fs, Ex H H1 → H x = none → H1 x = some (.ins C dx fs) → FwOk K H H1 fs st → (lsOf fs st).Nodup → D.nx (σ.set i (some (.ref x))) H1) : tAsg (tMake C (SpI K C n R) [] E' tas) (gName i) D σ H :=
  h H (Ex.refl H) _ fun vs H1 e1 ok => fun x dx hx hdx ne => by
    show SpI K C n R (.ref x :: (vs ++ [])) _ _ E'
    rw [List.append_nil]
    have e2 : Ex H1 (upd (upd H1 dx (.own x)) x (.ins C dx [])) := (Ex.new hdx).trans (Ex.new (by rw [upd_ne ne.symm]; exact hx))
    have e3 := e1.trans e2
    refine ⟨x, dx, vs, st, as, rfl, hn, hr, upd_same, AgsOk.ex' e2 ok, tabs_ex e3 t0, fun H' fs kp bt hx' hf nd => ⟨rfl, ?_⟩⟩
    exact k H' x dx fs (bt.ex (nc_ins upd_same) e3 (fresh_back e1 hx)) (fresh_back e1 hx) hx' (hf.back e3) nd
/-! ### methods that change the object's lists -/
theorem FoOk.ex (e : Ex H H') : ∀ {fs : List (Str × V)} {st : List (Str × Fv)}, FoOk K H fs st → FoOk K H' fs st
  | [], [], _ => trivial
  | (_, _) :: _, (_, .d _) :: _, h => ⟨h.1, Dr.ex (K := K) h.2.1 e, FoOk.ex e h.2.2⟩
  | (_, _) :: _, (_, .l _) :: _, h => by
    obtain ⟨h1, ⟨l, vs, e1, e3, e4⟩, h3⟩ := h
    exact ⟨h1, ⟨l, vs, e1, e l _ e3, e4.ex e⟩, FoOk.ex e h3⟩
  | [], _ :: _, h => h.elim
  | _ :: _, [], h => h.elim
theorem ls_lst : ∀ {fs : List (Str × V)} {st : List (Str × Fv)}, FoOk K H fs st → ∀ l ∈ lsOf fs st, ∃ vs, H l = some (.lst vs)
  | [], [], _, _, hl => nomatch hl
  | (f, v) :: fs, (g, .d x) :: st, h, l, hl => by
    have : lsOf ((f, v) :: fs) ((g, .d x) :: st) = lsOf fs st := rfl
    rw [this] at hl
    exact ls_lst h.2.2 l hl
  | (_, v) :: fs, (_, .l _) :: st, h, l, hl => by
    obtain ⟨h1, ⟨l', vs, rfl, e3, e4⟩, h3⟩ := h
    rcases List.mem_cons.mp hl with rfl | hl
    · exact ⟨vs, e3⟩
    · exact ls_lst h3 l hl
  | [], _ :: _, h, _, _ => h.elim
  | _ :: _, [], h, _, _ => h.elim
theorem XbS.pre (e : Ex H H1) (b : XbS ls H1 H') : XbS ls H H' := ⟨fun a n u h k => b.app a n u (e.app a u h k) k, fun a n ps h => by
  obtain ⟨qs, z⟩ := e.tbl a ps h
  exact b.tbl a n qs z, fun P q m n t => b.tab P q m n (e.tab P q m t)⟩
theorem XbS.ex (b : XbS ls H H') (e : Ex H0 H) (hl : ∀ l ∈ ls, H0 l = none) : Ex H0 H' := by
  have nm : ∀ {a : Addr} {o : HO}, H0 a = some o → a ∉ ls := fun h z => by rw [hl _ z] at h; cases h
  refine ⟨fun a u h n => b.app a (nm h) u (e.app a u h n) n, fun a ps h => ?_, fun P q m t => ?_⟩
  · obtain ⟨qs, z⟩ := e.tbl a ps h
    exact b.tbl a (nm h) qs z
  · obtain ⟨ps, h1, _⟩ := id t
    exact b.tab P q m (nm h1) (e.tab P q m t)
theorem XbS.ins (b : XbS (lsOf fs st) H H') (h : H a = some (.ins C dx fs)) (hf : FoOk K H fs st) : H' a = some (.ins C dx fs) := b.app a (fun z => by
  obtain ⟨vs, e⟩ := ls_lst hf a z
  rw [e] at h
  cases h) _ h fun _ z => nomatch z
theorem XbS.ow (b : XbS ls H H') (kp : Kp H H') (n : l ∉ ls) (o : Ow K H0 H l ds) : Ow K H0 H' l ds := by
  obtain ⟨a, vs, h1, h2⟩ := o
  exact ⟨a, vs, b.app l n _ h1 (fun _ z => nomatch z), h2.kp kp⟩
theorem s_callO {R : List (Str × Fv) → List Ag → List (Str × Fv) → Rt → Prop} (t0 : LamX.Tabs Tbs.l H) (S : Sl K H σ E) (hj : E[j]? = some (some (.raw (.ref a)))) (ho : H a = some (.ins C dx fs)) (hl : fs.lookup m = none) (hf : FoOk K H fs st) (nd : (lsOf fs st).Nodup)
    (h : EvG K tas σ H as) (hn : as.length = n) (hr : R st as st' (.d d)) (k : ∀ H1 v, Kp H H1 → XbS (lsOf fs st) H H1 → FoOk K H1 fs st' → Dr K H1 v d → D.nx (σ.set i (some v)) H1) :
    tAsg (tMeth C m (SpO K C n R) [] E' (tVar j) tas) (gName i) D σ H :=
  ⟨.ref a, S.raw hj, a, dx, fs, rfl, ho, hl, h H (Ex.refl H) _ fun vs H1 e1 ok => by
    show SpO K C n R (.ref a :: (vs ++ [])) H1 _ E'
    rw [List.append_nil]
    refine ⟨a, dx, fs, vs, st, st', as, .d d, rfl, hn, hr, ins_ex e1 ho, FoOk.ex e1 hf, nd, ok, tabs_ex e1 t0, fun H' kp bt hf' v dr => ?_⟩
    exact k H' v ((Kp.of e1).trans kp) (bt.pre e1) hf' dr⟩
theorem s_callOD {R : List (Str × Fv) → List Ag → List (Str × Fv) → Rt → Prop} (t0 : LamX.Tabs Tbs.l H) (S : Sl K H σ E) (hj : E[j]? = some (some (.raw (.ref a)))) (ho : H a = some (.ins C dx fs)) (hl : fs.lookup m = none) (hf : FoOk K H fs st) (nd : (lsOf fs st).Nodup)
    (h : EvG K tas σ H as) (hn : as.length = n) (hr : R st as st' (.d d)) (k : ∀ H1, Kp H H1 → XbS (lsOf fs st) H H1 → FoOk K H1 fs st' → D.nx σ H1) :
    tDrop (tMeth C m (SpO K C n R) [] E' (tVar j) tas) D σ H :=
  ⟨.ref a, S.raw hj, a, dx, fs, rfl, ho, hl, h H (Ex.refl H) _ fun vs H1 e1 ok => by
    show SpO K C n R (.ref a :: (vs ++ [])) H1 _ E'
    rw [List.append_nil]
    refine ⟨a, dx, fs, vs, st, st', as, .d d, rfl, hn, hr, ins_ex e1 ho, FoOk.ex e1 hf, nd, ok, tabs_ex e1 t0, fun H' kp bt hf' v dr => ?_⟩
    exact k H' ((Kp.of e1).trans kp) (bt.pre e1) hf'⟩
/-! at the method's entry: the heap without the lists is what stays -/
def dels : List Addr → Hp → Hp
  | [], H => H
  | l :: ls, H => delH' (dels ls H) l
theorem dels_in : ∀ {ls : List Addr} {H : Hp} {b : Addr}, b ∈ ls → dels ls H b = none
  | l :: ls, H, b, h => by
    show delH' (dels ls H) l b = none
    by_cases e : b = l
    · subst e; exact delH'_self
    · rw [delH'_ne e]
      exact dels_in ((List.mem_cons.mp h).resolve_left e)
theorem dels_out : ∀ {ls : List Addr} {H : Hp} {b : Addr}, b ∉ ls → dels ls H b = H b
  | [], _, _, _ => rfl
  | l :: ls, H, b, h => by
    show delH' (dels ls H) l b = _
    rw [delH'_ne (fun e => h (by rw [e]; exact List.mem_cons_self)), dels_out fun z => h (List.mem_cons_of_mem _ z)]
def Lss (H : Hp) (ls : List Addr) : Prop := ∀ l ∈ ls, ∃ vs, H l = some (.lst vs)
theorem not_ls (hl : Lss H ls) {b : Addr} {o : HO} (h : H b = some o) (n : ∀ vs, o ≠ .lst vs) : b ∉ ls := fun z => by
  obtain ⟨vs, e⟩ := hl b z
  rw [h] at e
  exact n vs (Option.some.inj e)
theorem tabS_dels (hl : Lss H ls) {P : Addr} {q : Str} (t : LamX.TabS H P q) : LamX.TabS (dels ls H) P q := by
  obtain ⟨ps, h1, h2, h3⟩ := t
  refine ⟨ps, by rw [dels_out (not_ls hl h1 fun _ z => nomatch z)]; exact h1, h2, fun pos cv hc => ?_⟩
  obtain ⟨c, e1, e2⟩ := h3 pos cv hc
  exact ⟨c, e1, by rw [dels_out (not_ls hl e2 fun _ z => nomatch z)]; exact e2⟩
theorem tabs_dels (hl : Lss H ls) (t : LamX.Tabs Tbs.l H) : LamX.Tabs Tbs.l (dels ls H) := fun p hp => tabS_dels hl (t p hp)
theorem dels_some : ∀ {ls : List Addr} {H : Hp} {b : Addr} {o : HO}, dels ls H b = some o → H b = some o := fun {ls H b o} h => by
  by_cases z : b ∈ ls
  · rw [dels_in z] at h; cases h
  · rwa [dels_out z] at h
theorem ex_dels : Ex (dels ls H) H := ⟨fun a o h _ => dels_some h, fun a ps h => ⟨ps, dels_some h⟩, fun P q m t => by
  obtain ⟨ps, h1, h2, h3⟩ := t
  refine ⟨ps, dels_some h1, h2, fun pos cv hc => ?_⟩
  obtain ⟨c, e1, e2⟩ := h3 pos cv hc
  exact ⟨c, e1, dels_some e2⟩⟩
theorem kp_dels (hl : Lss H ls) : Kp H (dels ls H) := fun a o h => by
  obtain ⟨h', k⟩ := of_im h
  refine im_some ?_ k
  rw [dels_out (not_ls hl h' fun vs z => ?_)]
  · exact h'
  · subst z
    rcases k with ⟨_, z⟩ | ⟨_, _, z⟩ <;> cases z
theorem xbs_of_dels (hl : Lss H ls) (e : Ex (dels ls H) H1) : XbS ls H H1 := ⟨fun a n u h k => e.app a u (by rw [dels_out n]; exact h) k, fun a n ps h => e.tbl a ps (by rw [dels_out n]; exact h), fun P q m n t => e.tab P q m (tabS_dels hl t)⟩
theorem kp_backs (hl : Lss H ls) (e : Ex (dels ls H) H1) : Kp H H1 := (kp_dels hl).trans (Kp.of e)
theorem sq_dels {xs : List V} (hl : Lss H ls) (n : a ∉ ls) (h : SqL K H a xs) : SqL K (dels ls H) a xs := h.elim (fun z => .inl (by
  rcases z with z | ⟨o, z⟩
  · exact .inl (by rw [dels_out n]; exact z)
  · exact .inr ⟨o, by rw [dels_out n]; exact z⟩)) .inr
theorem ow_dels (hl : l ∈ ls) (h : H l = some (.lst vs)) (c : DrA K H vs ds) : Ow K (dels ls H) H l ds := ⟨dels_in hl, vs, h, c⟩
theorem ins_dels (hl : Lss H ls) (h : H a = some (.ins C dx fs)) : dels ls H a = some (.ins C dx fs) := by
  rw [dels_out (not_ls hl h fun _ z => nomatch z)]
  exact h
theorem Ow.fo (o : Ow K H0 H l ds) : FoV K H (.ref l) (.l ds) := by
  obtain ⟨_, vs, b, c⟩ := o
  exact ⟨l, vs, rfl, b, c⟩
theorem Ow.fr (o : Ow K H0 H l ds) : FrV K H (.ref l) (.l ds) := by
  obtain ⟨_, vs, b, c⟩ := o
  exact ⟨l, vs, rfl, sq_of b, c⟩
theorem xb_fresh (b : Xb x H H') (ne : l ≠ x) (h : H' l = none) : H l = none := by
  cases e : H l with
  | none => rfl
  | some u =>
    by_cases ht : ∃ ps, u = .tbl ps
    · obtain ⟨ps, rfl⟩ := ht
      obtain ⟨qs, z⟩ := b.tbl l ne ps e
      rw [h] at z; cases z
    · have z := b.app l ne u e fun ps z => ht ⟨ps, z⟩
      rw [h] at z; cases z
theorem ow_of (h0 : H0 l = none) (h : H l = some (.lst vs)) (c : DrA K H vs ds) : Ow K H0 H l ds := ⟨h0, vs, h, c⟩
end
/-! reversed(t), walked -/
section
variable {K : PySem.W.Frag} {σ : L2.St} {H : Hp} {te : TE} {a : Addr} {xs : List V}
theorem walk_rt : Walk (RT.ItvT K a xs.length) xs.length (fun H => SqT K H a xs) (YAt xs.reverse) :=
  ⟨fun i _ hi q => ⟨hi, xs, xs[xs.length - 1 - i], q, by simp⟩, fun _ _ => Nat.le_refl _, fun i _ _ _ hi q y => ⟨y.1, by rw [List.getElem?_reverse hi]; exact y.2 xs q⟩⟩
theorem ie_revT {ds : List PyData} (h : EvP K te σ H (.tuple ds)) : ItE K (iWf K (RT.iRevA K te)) σ H ds.reverse := fun H1 x R r => h H1 x _ fun v H2 x2 dr => by
  obtain ⟨a, vs, rfl, hs, hd⟩ := dr.of_tup
  have hl : ds.reverse.length = vs.reverse.length := by rw [List.length_reverse, List.length_reverse, hd.length]
  refine ⟨a, vs, rfl, .inr ⟨hs, fun w => r _ H2 x2 (by rw [List.length_reverse, ← hd.length]; exact w.2 _ _ hs) ?_⟩⟩
  have w0 : Walk (RT.ItvT K a vs.length) vs.reverse.length (fun Hx => Ex H2 Hx) (YAt vs.reverse) := by
    rw [List.length_reverse]
    exact walk_rt.mono (fun Hx g => ex_t g hs) fun _ _ _ _ _ _ y => y
  exact yd_at w0 hd.reverse fun _ g => Kp.of g
theorem qe_revT {α : Type} {f : α → PyData} {xs : List α} (h : EvP K te σ H (eT f xs)) : ItE K (iWf K (RT.iRevA K te)) σ H (xs.reverse.map f) := by
  rw [List.map_reverse]
  exact ie_revT h
end
theorem pi_revTK {X : Cx} {tg e : Expr} {te : TE} {p pos : Pos} (K : PySem.W.Frag) (hg : Gl X "reversed") (hm : X.mg "reversed" = none) (he : PE X e te) (hK : X.K = K := by rfl) (hs : starEach [e] X.env = (false, eval e X.env) :: starEach [] X.env := by rfl) : PI X tg (.Call (.Name "reversed" p) [e] [] pos) (RT.iRevA K te) := by
  subst hK
  exact RT.pi_revA hg hm he hs
/-! == of data and lists that are read -/
section
variable {K : PySem.W.Frag} {σ : L2.St} {H : Hp} {te ta tb : TE} {d e : PyData} {ds : List PyData}
/-- a datum to compare -/
def EvDp (K : PySem.W.Frag) (te : TE) (σ : L2.St) (H : Hp) (d : PyData) : Prop := ∀ H1, Ex H H1 → ∀ Q : VK, (∀ v H2, Ex H1 H2 → (∀ H3, Ex H2 H3 → Dp K H3 v d) → Q v H2) → te σ H1 Q
theorem EvP.q (h : EvP K te σ H d) (sd : SeqAt.shaped d = true) : EvDp K te σ H d := fun H1 x Q q => h H1 x _ fun v H2 x2 dr => q v H2 x2 fun H3 x3 => (Dr.ex (K := K) dr x3).dp (noD_sh sd)
theorem EvS.q (h : EvS K te σ H ds) (sd : SeqAt.shaped (.list ds) = true) : EvDp K te σ H (.list ds) := fun H1 x Q q => h H1 x _ fun a vs H2 x2 hs hd => q _ H2 x2 fun H3 x3 => .lst (ex_l x3 hs) ((hd.ex x3).dp (noD_sh (d := .list ds) sd))
theorem p_eqQ (ha : EvDp K ta σ H d) (hb : EvDp K tb σ H e) (sd : SeqAt.shaped d = true) (se : SeqAt.shaped e = true) : EvP K (tOp (rEqD K) ta tb) σ H (.bool (PyData.eqv d e)) := fun H1 x Q q =>
  ha H1 x _ fun v H2 x2 d2 => hb H2 (x.trans x2) _ fun u H3 x3 d3 => ⟨d, e, d2 H3 x3, d3 H3 (Ex.refl _), sd, se, q _ H3 (x2.trans x3) .bl⟩
theorem p_neQ (ha : EvDp K ta σ H d) (hb : EvDp K tb σ H e) (sd : SeqAt.shaped d = true) (se : SeqAt.shaped e = true) : EvP K (tOp (rNeD K) ta tb) σ H (.bool (!PyData.eqv d e)) := fun H1 x Q q =>
  ha H1 x _ fun v H2 x2 d2 => hb H2 (x.trans x2) _ fun u H3 x3 d3 => ⟨d, e, d2 H3 x3, d3 H3 (Ex.refl _), sd, se, q _ H3 (x2.trans x3) .bl⟩
theorem p_eqCQ {α : Type} [DecidableEq α] {f : α → PyData} [Cl f] {a b : α} (ha : EvDp K ta σ H (f a)) (hb : EvDp K tb σ H (f b)) (sa : SeqAt.shaped (f a) = true) (sb : SeqAt.shaped (f b) = true) : EvP K (tOp (rEqD K) ta tb) σ H (.bool (decide (a = b))) := by
  rw [← Cl.eq (f := f)]
  exact p_eqQ ha hb sa sb
theorem p_neCQ {α : Type} [DecidableEq α] {f : α → PyData} [Cl f] {a b : α} (ha : EvDp K ta σ H (f a)) (hb : EvDp K tb σ H (f b)) (sa : SeqAt.shaped (f a) = true) (sb : SeqAt.shaped (f b) = true) : EvP K (tOp (rNeD K) ta tb) σ H (.bool (!decide (a = b))) := by
  rw [← Cl.eq (f := f)]
  exact p_neQ ha hb sa sb
end
end Vx

/-! lists handed to a def that changes them; what is evaluated first -/
namespace Vx
open PySem L2 PySem.Spec PyProof.Rows Evl RZ
variable [Tbs]
/-- an argument: as before, or a list that may change -/
inductive Aw where
  | a (x : Ag) | w (xs : List PyData)
inductive AwsOk (K : PySem.W.Frag) (H : Hp) : List V → List Aw → List Addr → Prop
  | nil : AwsOk K H [] [] []
  | a {v : V} {vs : List V} {x : Ag} {as : List Aw} {ls : List Addr} : AgOk K H v x → AwsOk K H vs as ls → AwsOk K H (v :: vs) (.a x :: as) ls
  | w {l : Addr} {vs ys : List V} {xs : List PyData} {as : List Aw} {ls : List Addr} : H l = some (.lst ys) → DrA K H ys xs → AwsOk K H vs as ls → AwsOk K H (.ref l :: vs) (.w xs :: as) (l :: ls)
inductive OsOk (K : PySem.W.Frag) (H : Hp) : List Addr → List (List PyData) → Prop
  | nil : OsOk K H [] []
  | cons {l : Addr} {ys : List V} {xs : List PyData} {ls : List Addr} {os : List (List PyData)} : H l = some (.lst ys) → DrA K H ys xs → OsOk K H ls os → OsOk K H (l :: ls) (xs :: os)
/-- the promise of a def that may change lists handed to it -/
def SpW (K : PySem.W.Frag) (n : Nat) (R : List Aw → List (List PyData) → Rt → Prop) : Sp := fun vs H Q _ => ∃ (as : List Aw) (os : List (List PyData)) (r : Rt) (ls : List Addr),
  as.length = n ∧ R as os r ∧ AwsOk K H vs as ls ∧ ls.Nodup ∧ LamX.Tabs Tbs.l H ∧ ∀ H', Kp H H' → XbS ls H H' → OsOk K H' ls os → RtN K H H' Q r
/-- which lists: a known one, or a new one -/
inductive Lsk (H : Hp) : List (Option Addr) → List Addr → Prop
  | nil : Lsk H [] []
  | some {l : Addr} {ks : List (Option Addr)} {ls : List Addr} : Lsk H ks ls → Lsk H (some l :: ks) (l :: ls)
  | none {l : Addr} {ks : List (Option Addr)} {ls : List Addr} : H l = none → Lsk H ks ls → Lsk H (none :: ks) (l :: ls)
def EvW (K : PySem.W.Frag) (ta : TA) (σ : L2.St) (H : Hp) (as : List Aw) (ks : List (Option Addr)) : Prop := ∀ H1, Ex H H1 → ∀ Q : List V → Hp → Prop, (∀ vs ls H2, Ex H1 H2 → AwsOk K H2 vs as ls → Lsk H1 ks ls → Q vs H2) → ta σ H1 Q
section
variable {K : PySem.W.Frag} {σ : L2.St} {H H0 H1 H2 H' : Hp} {te ta tb tc : TE} {tas : TA} {E : EnvD} {d : PyData} {ds : List PyData} {D : Ends} {a l : Addr} {v : V} {i n : Nat} {as : List Aw} {ks : List (Option Addr)} {E' : XK} {ls : List Addr} {vs : List V}
theorem AwsOk.len : ∀ {vs : List V} {as : List Aw} {ls : List Addr}, AwsOk K H vs as ls → vs.length = as.length
  | _, _, _, .nil => rfl
  | _, _, _, .a _ t => by rw [List.length_cons, List.length_cons, AwsOk.len t]
  | _, _, _, .w _ _ t => by rw [List.length_cons, List.length_cons, AwsOk.len t]
theorem Lsk.pre (e : Ex H H1) : ∀ {ks : List (Option Addr)} {ls : List Addr}, Lsk H1 ks ls → Lsk H ks ls
  | _, _, .nil => .nil
  | _, _, .some t => .some (Lsk.pre e t)
  | _, _, .none h t => .none (fresh_back e h) (Lsk.pre e t)
theorem w_nil : EvW K tNil σ H [] [] := fun H1 _ Q q => q [] [] H1 (Ex.refl H1) .nil .nil
theorem w_d (h : EvP K te σ H d) (hr : EvW K tas σ H as ks) : EvW K (tCons te tas) σ H (.a (.d d) :: as) ks := fun H1 x Q q =>
  h H1 x _ fun v H2 x2 d2 => hr H2 (x.trans x2) _ fun vs ls H3 x3 d3 k3 => q _ ls H3 (x2.trans x3) (.a (AgOk.ex (a := .d d) x3 d2) d3) (k3.pre x2)
theorem w_l (h : EvS K te σ H ds) (hr : EvW K tas σ H as ks) : EvW K (tCons te tas) σ H (.a (.l ds) :: as) ks := fun H1 x Q q =>
  h H1 x _ fun b vs H2 x2 hs d2 => hr H2 (x.trans x2) _ fun ws ls H3 x3 d3 k3 => q _ ls H3 (x2.trans x3) (.a (AgOk.ex (a := .l ds) x3 ⟨b, vs, rfl, hs, d2⟩) d3) (k3.pre x2)
/-- an own list -/
theorem w_o (S : Sl K H σ E) (hi : E[i]? = some (some (.raw (.ref l)))) (o : Ow K H0 H l ds) (hr : EvW K tas σ H as ks) : EvW K (tCons (tVar i) tas) σ H (.w ds :: as) (some l :: ks) := fun H1 x Q q =>
  ⟨.ref l, S.raw hi, hr H1 x _ fun ws ls H3 x3 d3 k3 => by
    obtain ⟨_, ys, b, c⟩ := (o.ex x).ex x3
    exact q _ (l :: ls) H3 x3 (.w b c d3) (.some k3)⟩
/-- a new list -/
theorem w_n (h : EvN K te σ H ds) (hr : EvW K tas σ H as ks) : EvW K (tCons te tas) σ H (.w ds :: as) (none :: ks) := fun H1 x Q q =>
  h H1 x _ fun p ys H2 hp x2 h2 d2 => hr H2 (x.trans x2) _ fun ws ls H3 x3 d3 k3 => q _ (p :: ls) H3 (x2.trans x3) (.w (x3 p _ h2) (d2.ex x3) d3) (.none hp (k3.pre x2))
/-- what is known of the known ones -/
def knA : List (Option Addr) → List Addr
  | [] => []
  | some l :: ks => l :: knA ks
  | none :: ks => knA ks
def knO : List (Option Addr) → List (List PyData) → List (List PyData)
  | some _ :: ks, x :: os => x :: knO ks os
  | none :: ks, _ :: os => knO ks os
  | _, _ => []
def nnA : List (Option Addr) → Nat
  | [] => 0
  | some _ :: ks => nnA ks
  | none :: ks => nnA ks + 1
theorem lsk_in : ∀ {ks : List (Option Addr)} {ls : List Addr}, Lsk H ks ls → ∀ l ∈ ls, l ∈ knA ks ∨ H l = none
  | _, _, .nil, _, h => nomatch h
  | _, _, .some t, l, h => by
    rcases List.mem_cons.mp h with rfl | h
    · exact .inl List.mem_cons_self
    · exact (lsk_in t l h).imp (List.mem_cons_of_mem _) id
  | _, _, .none hn t, l, h => by
    rcases List.mem_cons.mp h with rfl | h
    · exact .inr hn
    · exact lsk_in t l h
theorem lsk_nodup : ∀ {ks : List (Option Addr)} {ls : List Addr}, Lsk H ks ls → (knA ks).Nodup → (∀ l ∈ knA ks, H l ≠ none) → nnA ks ≤ 1 → ls.Nodup
  | _, _, .nil, _, _, _ => List.nodup_nil
  | _, _, .some (l := l) t, nd, hk, h1 => by
    obtain ⟨a, b⟩ := List.nodup_cons.mp nd
    refine List.nodup_cons.mpr ⟨fun z => ?_, lsk_nodup t b (fun l' h => hk l' (List.mem_cons_of_mem _ h)) h1⟩
    rcases lsk_in t l z with z | z
    · exact a z
    · exact hk l List.mem_cons_self z
  | _, _, .none (l := l) (ks := ks) hn t, nd, hk, h1 => by
    have h0 : nnA ks = 0 := by have : nnA ks + 1 ≤ 1 := h1; omega
    refine List.nodup_cons.mpr ⟨fun z => ?_, lsk_nodup t nd hk (by omega)⟩
    have all : ∀ {ks : List (Option Addr)} {ls : List Addr}, Lsk H ks ls → nnA ks = 0 → ∀ l ∈ ls, l ∈ knA ks := by
      intro ks ls t
      induction t with
      | nil => intro _ l h; cases h
      | some t ih =>
        intro h0 l h
        rcases List.mem_cons.mp h with rfl | h
        · exact List.mem_cons_self
        · exact List.mem_cons_of_mem _ (ih h0 l h)
      | none hn t ih =>
        intro h0
        exact absurd h0 (Nat.succ_ne_zero _)
    exact hk l (all t h0 l z) hn
theorem XbS.kn (k : Lsk H ks ls) (b : XbS ls H H') : XbS (knA ks) H H' := by
  have nm : ∀ {a : Addr} {o : HO}, H a = some o → a ∉ knA ks → a ∉ ls := fun h n z => by
    rcases lsk_in k _ z with z | z
    · exact n z
    · rw [h] at z; cases z
  refine ⟨fun a n u h k => b.app a (nm h n) u h k, fun a n ps h => b.tbl a (nm h n) ps h, fun P q m n t => ?_⟩
  obtain ⟨ps, h1, _⟩ := id t
  exact b.tab P q m (nm h1 n) t
theorem OsOk.kn : ∀ {ks : List (Option Addr)} {ls : List Addr} {os : List (List PyData)}, Lsk H ks ls → OsOk K H' ls os → OsOk K H' (knA ks) (knO ks os)
  | _, _, _, .nil, .nil => .nil
  | _, _, _, .some t, .cons a b c => .cons a b (OsOk.kn t c)
  | _, _, _, .none _ t, .cons a b c => by
    have z := OsOk.kn t c
    exact z
/-- the call: what is known behind it -/
theorem c_callW {Q : VK} {os : List (List PyData)} {r : Rt} {R : List Aw → List (List PyData) → Rt → Prop} (t0 : LamX.Tabs Tbs.l H) (h : EvW K tas σ H as ks) (nd : (knA ks).Nodup) (hk : ∀ l ∈ knA ks, H l ≠ none) (h1 : nnA ks ≤ 1) (hn : as.length = n) (hr : R as os r)
    (k : ∀ H1, Kp H H1 → XbS (knA ks) H H1 → OsOk K H1 (knA ks) (knO ks os) → RtN K H H1 Q r) : tCall (SpW K n R) [] E' tas σ H Q := h H (Ex.refl H) _ fun vs ls H1 e1 ok lk => by
  show SpW K n R (vs ++ []) H1 _ E'
  rw [List.append_nil]
  have hk1 : ∀ l ∈ knA ks, H l ≠ none := hk
  refine ⟨as, os, r, ls, hn, hr, ok, lsk_nodup lk nd hk h1, tabs_ex e1 t0, fun H' kp bt oo => ?_⟩
  have z := k H' ((Kp.of e1).trans kp) ((bt.pre e1).kn lk) (oo.kn lk)
  cases r with
  | d x => exact z
  | n xs => exact fun p vs hp => z p vs (fresh_back e1 hp)
  | k _ => trivial
theorem s_callW {os : List (List PyData)} {R : List Aw → List (List PyData) → Rt → Prop} (t0 : LamX.Tabs Tbs.l H) (h : EvW K tas σ H as ks) (nd : (knA ks).Nodup) (hk : ∀ l ∈ knA ks, H l ≠ none) (h1 : nnA ks ≤ 1) (hn : as.length = n) (hr : R as os (.d d))
    (k : ∀ H1 v, Kp H H1 → XbS (knA ks) H H1 → OsOk K H1 (knA ks) (knO ks os) → Dr K H1 v d → D.nx (σ.set i (some v)) H1) : tAsg (tCall (SpW K n R) [] E' tas) (gName i) D σ H :=
  c_callW t0 h nd hk h1 hn hr fun H1 kp bt oo v dr => k H1 v kp bt oo dr
theorem s_callWD {os : List (List PyData)} {R : List Aw → List (List PyData) → Rt → Prop} (t0 : LamX.Tabs Tbs.l H) (h : EvW K tas σ H as ks) (nd : (knA ks).Nodup) (hk : ∀ l ∈ knA ks, H l ≠ none) (h1 : nnA ks ≤ 1) (hn : as.length = n) (hr : R as os (.d d))
    (k : ∀ H1, Kp H H1 → XbS (knA ks) H H1 → OsOk K H1 (knA ks) (knO ks os) → D.nx σ H1) : tDrop (tCall (SpW K n R) [] E' tas) D σ H :=
  c_callW t0 h nd hk h1 hn hr fun H1 kp bt oo v dr => k H1 kp bt oo
theorem Ow.nn (o : Ow K H0 H l ds) : H l ≠ none := fun z => by
  obtain ⟨_, vs, b, _⟩ := o
  rw [z] at b
  cases b
theorem OsOk.hd {xs : List PyData} {os : List (List PyData)} (o : OsOk K H (l :: ls) (xs :: os)) (h0 : H0 l = none) : Ow K H0 H l xs := by
  cases o with
  | cons a b c => exact ⟨h0, _, a, b⟩
theorem OsOk.tl {xs : List PyData} {os : List (List PyData)} (o : OsOk K H (l :: ls) (xs :: os)) : OsOk K H ls os := by
  cases o with
  | cons a b c => exact c
end

/-! ### what is evaluated first -/
def Fst (te : TE) (k : V → TE) (c : TE) : Prop := ∀ (σ : L2.St) (H : Hp) (Q : VK), c σ H (fun v H' => k v σ H' Q) → te σ H Q
def FstA (ta : TA) (k : V → TA) (c : TE) : Prop := ∀ (σ : L2.St) (H : Hp) (Q : List V → Hp → Prop), c σ H (fun v H' => k v σ H' Q) → ta σ H Q
def FstT (tt : TT) (k : V → TT) (c : TE) : Prop := ∀ (σ : L2.St) (H : Hp) (Q : Bool → Hp → Prop), c σ H (fun v H' => k v σ H' Q) → tt σ H Q
def FstI (wi : TI) (k : V → TI) (c : TE) : Prop := ∀ (σ : L2.St) (H : Hp) (Q : It → Hp → Prop), c σ H (fun v H' => k v σ H' Q) → wi σ H Q
def FstO (to : TO) (k : V → TO) (c : TE) : Prop := ∀ (σ : L2.St) (H : Hp) (Q : Option Int → Hp → Prop), c σ H (fun v H' => k v σ H' Q) → to σ H Q
def FstS (ts : TS) (k : V → TS) (c : TE) : Prop := ∀ (D : Ends) (σ : L2.St) (H : Hp), c σ H (fun v H' => k v D σ H') → ts D σ H
section
variable {K : PySem.W.Frag} {σ : L2.St} {H H0 H1 H' : Hp} {te ta tb tc c : TE} {tas : TA} {tt tu : TT} {ts tw tz : TS} {wi : TI} {tl th : TO} {g : TG} {E : EnvD} {d : PyData} {ds : List PyData} {D : Ends} {v x : V} {i : Nat} {k : V → TE} {kA : V → TA} {kT : V → TT} {kI : V → TI} {kO : V → TO} {kS : V → TS} {r : L2.R2} {l : Addr}
theorem fst_here : Fst c tC c := fun _ _ _ h => h
theorem fst_opL (f : Fst ta k c) : Fst (tOp r ta tb) (fun v => tOp r (k v) tb) c := fun σ H Q h => f σ H _ h
theorem fst_opR (f : Fst tb k c) : Fst (tOp r (tC x) tb) (fun v => tOp r (tC x) (k v)) c := fun σ H Q h => f σ H _ h
theorem fst_un {r : V → Hp → VK → Prop} (f : Fst ta k c) : Fst (tUn r ta) (fun v => tUn r (k v)) c := fun σ H Q h => f σ H _ h
theorem fst_not (f : Fst ta k c) : Fst (tNotV ta) (fun v => tNotV (k v)) c := fun σ H Q h => f σ H _ h
theorem fst_andL (f : Fst ta k c) : Fst (tAndV ta tb) (fun v => tAndV (k v) tb) c := fun σ H Q h => f σ H _ h
theorem fst_orL (f : Fst ta k c) : Fst (tOrV ta tb) (fun v => tOrV (k v) tb) c := fun σ H Q h => f σ H _ h
theorem fst_if (f : FstT tt kT c) : Fst (tIf tt ta tb) (fun v => tIf (kT v) ta tb) c := fun σ H Q h => f σ H _ h
theorem fst_tup (f : FstA tas kA c) : Fst (tTup tas) (fun v => tTup (kA v)) c := fun σ H Q h => f σ H _ h
theorem fst_lst (f : FstA tas kA c) : Fst (tLst tas) (fun v => tLst (kA v)) c := fun σ H Q h => f σ H _ h
theorem fst_cb {r : List V → Hp → VK → Prop} (f : FstA tas kA c) : Fst (tCB r tas) (fun v => tCB r (kA v)) c := fun σ H Q h => f σ H _ h
theorem fst_call {sp : Sp} {dvs : List V} {E' : XK} (f : FstA tas kA c) : Fst (tCall sp dvs E' tas) (fun v => tCall sp dvs E' (kA v)) c := fun σ H Q h => f σ H _ h
theorem fst_fz (f : Fst te k c) : Fst (tFz te) (fun v => tFz (k v)) c := fun σ H Q h => f σ H _ h
theorem fst_sl {r : V → Option Int → Option Int → Hp → VK → Prop} (f : Fst te k c) : Fst (tSl r te tl th) (fun v => tSl r (k v) tl th) c := fun σ H Q h => f σ H _ h
theorem fst_slL {r : V → Option Int → Option Int → Hp → VK → Prop} (f : FstO tl kO c) : Fst (tSl r (tC x) tl th) (fun v => tSl r (tC x) (kO v) th) c := fun σ H Q h => f σ H _ h
theorem fst_slH {r : V → Option Int → Option Int → Hp → VK → Prop} (f : FstO th kO c) : Fst (tSl r (tC x) tNoPart th) (fun v => tSl r (tC x) tNoPart (kO v)) c := fun σ H Q h => f σ H _ h
theorem fo_part (f : Fst te k c) : FstO (tPart te) (fun v => tPart (k v)) c := fun σ H Q h => f σ H _ h
theorem fa_hd (f : Fst te k c) : FstA (tCons te tas) (fun v => tCons (k v) tas) c := fun σ H Q h => f σ H _ h
theorem fa_tl (f : FstA tas kA c) : FstA (tCons (tC x) tas) (fun v => tCons (tC x) (kA v)) c := fun σ H Q h => f σ H _ h
theorem ft_test (f : Fst te k c) : FstT (tTest te) (fun v => tTest (k v)) c := fun σ H Q h => f σ H _ h
theorem ft_b (f : Fst te k c) : FstT (tB te) (fun v => tB (k v)) c := fun σ H Q h => f σ H _ h
theorem ft_and (f : FstT tt kT c) : FstT (tAnd tt tu) (fun v => tAnd (kT v) tu) c := fun σ H Q h => f σ H _ h
theorem ft_or (f : FstT tt kT c) : FstT (tOr tt tu) (fun v => tOr (kT v) tu) c := fun σ H Q h => f σ H _ h
theorem ft_not (f : FstT tt kT c) : FstT (tNot tt) (fun v => tNot (kT v)) c := fun σ H Q h => f σ H _ h
theorem fi_rng1 (f : FstA tas kA c) : FstI (iRng1 tas) (fun v => iRng1 (kA v)) c := fun σ H Q h => f σ H _ h
theorem fi_rng2 (f : FstA tas kA c) : FstI (iRng2 tas) (fun v => iRng2 (kA v)) c := fun σ H Q h => f σ H _ h
theorem fs_asg (f : Fst te k c) : FstS (tAsg te g) (fun v => tAsg (k v) g) c := fun D σ H h => f σ H _ h
theorem fs_ret (f : Fst te k c) : FstS (tRet te) (fun v => tRet (k v)) c := fun D σ H h => f σ H _ h
theorem fs_drop (f : Fst te k c) : FstS (tDrop te) (fun v => tDrop (k v)) c := fun D σ H h => f σ H _ h
theorem fs_if (f : FstT tt kT c) : FstS (tIfS tt tw tz) (fun v => tIfS (kT v) tw tz) c := fun D σ H h => f σ H _ h
theorem fs_for (f : FstI wi kI c) : FstS (tFor wi g tw) (fun v => tFor (kI v) g tw) c := fun D σ H h => f σ H _ h
theorem fs_seq (f : FstS ts kS c) : FstS (tSeq ts tw) (fun v => tSeq (kS v) tw) c := fun D σ H h => f _ σ H h
theorem fs_go (f : FstS ts kS c) (h : c σ H (fun v H' => kS v D σ H')) : ts D σ H := f D σ H h
theorem fe_go {Q : VK} (f : Fst te k c) (h : c σ H (fun v H' => k v σ H' Q)) : te σ H Q := f σ H Q h
theorem ft_go {Q : Bool → Hp → Prop} (f : FstT tt kT c) (h : c σ H (fun v H' => kT v σ H' Q)) : tt σ H Q := f σ H Q h
/-- an expression that changes nothing, evaluated -/
theorem h_p {Q : VK} (h : EvP K te σ H d) (k : ∀ v H1, Ex H H1 → Dr K H1 v d → Q v H1) : te σ H Q := h H (Ex.refl H) Q k
theorem h_raw {Q : VK} (h : σ[i]? = some (some v)) (k : Q v H) : tVar i σ H Q := ⟨v, h, k⟩
theorem h_b {b : Bool} {Q : Bool → Hp → Prop} (h : EvT tt σ H b) (k : ∀ H1, Ex H H1 → Q b H1) : tt σ H Q := h H (Ex.refl H) Q k
theorem p_k (dr : Dr K H v d) : EvP K (tC v) σ H d := fun H1 x Q q => q v H1 (Ex.refl H1) (Dr.ex (K := K) dr x)
theorem ks (o : Ow K H0 H l ds) : EvS K (tC (.ref l)) σ H ds := fun H1 x Q q => by
  obtain ⟨_, vs, b, e⟩ := o
  exact q l vs H1 (Ex.refl H1) (sq_of (x l _ b)) (e.ex x)
theorem kr (o : Ow K H0 H l ds) : EvR K (tC (.ref l)) σ H ds := fun H1 x Q q => by
  obtain ⟨_, vs, b, e⟩ := o
  exact q l vs H1 (Ex.refl H1) (.inl (x l _ b)) (e.ex x)
/-- xs.append(e): e, then the list changes -/
def AppG (l : Addr) (D : Ends) (σ : L2.St) : VK := fun v H => rAppend (.ref l) [v] H fun _ H' => D.nx σ H'
theorem s_appE (S : Sl K H σ E) (hi : E[i]? = some (some (.raw (.ref l)))) (o : Ow K H0 H l ds) (h : te σ H (AppG l D σ)) : tDrop (tBM K "list" rAppend (tVar i) (tCons te tNil)) D σ H := by
  obtain ⟨a, vs, b, _⟩ := o
  exact ⟨.ref l, S.raw hi, .inl ⟨rfl, vs, sq_of b⟩, h⟩
theorem s_appG (o : Ow K H0 H l ds) (dr : Dr K H v d) (hz : ds.length < 16777216) (k : ∀ H1, Kp H H1 → Xb l H H1 → Ow K H0 H1 l (ds ++ [d]) → D.nx σ H1) : AppG l D σ v H := by
  obtain ⟨a, vs, b, e⟩ := o
  have kp : Kp H (upd H l (.lst (vs ++ [v]))) := Kp.put (im_none b (fun _ z => nomatch z) fun _ _ z => nomatch z)
  exact ⟨l, vs, v, rfl, rfl, b, by rw [e.length, sizeLine_eq]; exact hz, k _ kp (Xb.put (nc_of b fun _ z => nomatch z)) ⟨a, vs ++ [v], upd_same, (e.kp kp).append (.cons (dr.kp kp) .nil)⟩⟩
theorem c_callWd {n : Nat} {as : List Aw} {ks : List (Option Addr)} {E' : XK} {Q : VK} {os : List (List PyData)} {R : List Aw → List (List PyData) → Rt → Prop} (t0 : LamX.Tabs Tbs.l H) (h : EvW K tas σ H as ks) (nd : (knA ks).Nodup) (hk : ∀ l ∈ knA ks, H l ≠ none) (h1 : nnA ks ≤ 1) (hn : as.length = n) (hr : R as os (.d d))
    (k : ∀ H1 v, Kp H H1 → XbS (knA ks) H H1 → OsOk K H1 (knA ks) (knO ks os) → Dr K H1 v d → Q v H1) : tCall (SpW K n R) [] E' tas σ H Q :=
  c_callW t0 h nd hk h1 hn hr fun H1 kp bt oo v dr => k H1 v kp bt oo dr
end

/-! ### i in range(..) -/
theorem cr_rngO {X : Cx} : CallR X (.type "range") (fun vs H Q => ∃ j, vs = [V.int j] ∧ ∀ p, H p = none → Q (.ref p) (upd H p (.rng 0 j))) := by
  intro pins s σ H vs us Q I r h
  obtain ⟨j, rfl, q⟩ := h
  obtain ⟨u, rfl, ru⟩ := vals1 r
  obtain ⟨t, rfl⟩ := ru
  refine call_range_1 ⟨.ref s.heap.objs.size, upd H s.heap.objs.size (.rng 0 j), I.laid (t' := s.toks + 2) (fun b o e => Heap.get?_push_of_some _ e) (by omega) ?_, rfl, q _ (I.hok.fresh (Nat.le_refl _))⟩
  exact ⟨_, _, _, Heap.get?_push_size _ rfl⟩
section
variable {K : PySem.W.Frag} {σ : L2.St} {H : Hp} {ta tb tc : TE}
def rInRng : L2.R2 := fun x y H Q => ∃ i a lo hi, x = V.int i ∧ y = V.ref a ∧ H a = some (.rng lo hi) ∧ Q (.bl (decide (lo ≤ i ∧ i < hi))) H
theorem p_inRng1 {i j : Int} (ha : EvP K ta σ H (.int i)) (hb : EvP K tb σ H (.int j)) : EvP K (tOp rInRng ta (tCB (fun vs H Q => ∃ j, vs = [V.int j] ∧ ∀ p, H p = none → Q (.ref p) (upd H p (.rng 0 j))) (tCons tb tNil))) σ H (.bool (decide (0 ≤ i ∧ i < j))) := fun H1 x Q q =>
  ha H1 x _ fun v H2 x2 d2 => hb H2 (x.trans x2) _ fun u H3 x3 d3 => ⟨j, by rw [d3.of_int], fun p hp => ⟨i, p, 0, j, d2.of_int, rfl, upd_same, q _ _ ((x2.trans x3).trans (Ex.new hp)) .bl⟩⟩
end

/-! ### a datum in a tuple -/
def rInDT (K : PySem.W.Frag) : L2.R2 := fun x y H Q => ∃ d ds, Dp K H x d ∧ Dp K H y (.tuple ds) ∧ SeqAt.shaped d = true ∧ SeqAt.shaped (.tuple ds) = true ∧ Q (.bl (ds.any fun z => PyData.eqv z d)) H
def rNotInDT (K : PySem.W.Frag) : L2.R2 := fun x y H Q => ∃ d ds, Dp K H x d ∧ Dp K H y (.tuple ds) ∧ SeqAt.shaped d = true ∧ SeqAt.shaped (.tuple ds) = true ∧ Q (.bl (!ds.any fun z => PyData.eqv z d)) H
theorem op_inDT {X : Cx} (K : PySem.W.Frag) (hu : X.A.units + 65 < cLine) (hK : X.K = K := by rfl) : OpR X (compareOp .In) (rInDT K) := by
  subst hK
  intro pins s σ H x y v u Q I rx ry h
  obtain ⟨d, ds, hd, he, sd, se, q⟩ := h
  obtain ⟨as, r1⟩ := Dp.reads I d x v hd rx
  obtain ⟨bs, r2⟩ := Dp.reads I (.tuple ds) y u he ry
  exact SeqAt.in_tuple_reads r2 r1 (SeqAt.canLay_of_shaped se) (SeqAt.canLay_of_shaped sd) (room_in_shaped sd hu) ⟨.bl _, H, I, rfl, q⟩
theorem op_notInDT {X : Cx} (K : PySem.W.Frag) (hu : X.A.units + 65 < cLine) (hK : X.K = K := by rfl) : OpR X (compareOp .NotIn) (rNotInDT K) := by
  subst hK
  intro pins s σ H x y v u Q I rx ry h
  obtain ⟨d, ds, hd, he, sd, se, q⟩ := h
  obtain ⟨as, r1⟩ := Dp.reads I d x v hd rx
  obtain ⟨bs, r2⟩ := Dp.reads I (.tuple ds) y u he ry
  exact SeqAt.notIn_tuple_reads r2 r1 (SeqAt.canLay_of_shaped se) (SeqAt.canLay_of_shaped sd) (room_in_shaped sd hu) ⟨.bl _, H, I, rfl, q⟩
section
variable {K : PySem.W.Frag} {σ : L2.St} {H : Hp} {ta tb tc : TE}
theorem p_inDT {α : Type} [DecidableEq α] {f : α → PyData} [c : Cl f] {d : α} {xs : List α} {inst : Decidable (d ∈ xs)} (ha : EvP K ta σ H (f d)) (hb : EvP K tb σ H (.tuple (xs.map f))) (sd : SeqAt.shaped (f d) = true) (se : SeqAt.shaped (.tuple (xs.map f)) = true) : EvP K (tOp (rInDT K) ta tb) σ H (.bool (@decide (d ∈ xs) inst)) := fun H1 x Q q =>
  ha H1 x _ fun v H2 x2 d2 => hb H2 (x.trans x2) _ fun u H3 x3 d3 => ⟨f d, xs.map f, (d2.ex x3).dp (noD_sh sd), d3.dp (noD_sh se), sd, se, by rw [any_cl2 d xs inst]; exact q _ H3 (x2.trans x3) .bl⟩
theorem p_ninDT {α : Type} [DecidableEq α] {f : α → PyData} [c : Cl f] {d : α} {xs : List α} {inst : Decidable (d ∈ xs)} (ha : EvP K ta σ H (f d)) (hb : EvP K tb σ H (.tuple (xs.map f))) (sd : SeqAt.shaped (f d) = true) (se : SeqAt.shaped (.tuple (xs.map f)) = true) : EvP K (tOp (rNotInDT K) ta tb) σ H (.bool (!@decide (d ∈ xs) inst)) := fun H1 x Q q =>
  ha H1 x _ fun v H2 x2 d2 => hb H2 (x.trans x2) _ fun u H3 x3 d3 => ⟨f d, xs.map f, (d2.ex x3).dp (noD_sh sd), d3.dp (noD_sh se), sd, se, by rw [any_cl2 d xs inst]; exact q _ H3 (x2.trans x3) .bl⟩
end

section
variable {K : PySem.W.Frag} {σ : L2.St} {H : Hp} {ta tb tc : TE} {ds : List PyData}
theorem p_inA {d : PyData} {xs : List PyData} (ha : EvP K ta σ H d) (hb : EvS K tb σ H (xs.map eA)) (sd : SeqAt.shaped d = true) (se : SeqAt.shaped (.list (xs.map eA)) = true) : EvP K (tOp (rInD K) ta tb) σ H (.bool (xs.any fun z => PyData.eqv z d)) := fun H1 x Q q =>
  ha H1 x _ fun v H2 x2 d2 => hb H2 (x.trans x2) _ fun a vs H3 x3 hs hd => ⟨d, xs.map eA, (d2.ex x3).dp (noD_sh sd), .lst hs (hd.dp (noD_sh se)), sd, se, by rw [List.any_map]; exact q _ H3 (x2.trans x3) .bl⟩
theorem p_ninA {d : PyData} {xs : List PyData} (ha : EvP K ta σ H d) (hb : EvS K tb σ H (xs.map eA)) (sd : SeqAt.shaped d = true) (se : SeqAt.shaped (.list (xs.map eA)) = true) : EvP K (tOp (rNotInD K) ta tb) σ H (.bool (!(xs.any fun z => PyData.eqv z d))) := fun H1 x Q q =>
  ha H1 x _ fun v H2 x2 d2 => hb H2 (x.trans x2) _ fun a vs H3 x3 hs hd => ⟨d, xs.map eA, (d2.ex x3).dp (noD_sh sd), .lst hs (hd.dp (noD_sh se)), sd, se, by rw [List.any_map]; exact q _ H3 (x2.trans x3) .bl⟩
theorem p_isNS (ha : EvS K ta σ H ds) : EvP K (tOp (fun x y H Q => y = .non ∧ Q (.bl (decide (x = .non))) H) ta (tC .non)) σ H (.bool false) := fun H1 x Q q =>
  ha H1 x _ fun a vs H2 x2 hs hd => ⟨rfl, by rw [show decide (V.ref a = V.non) = false from rfl]; exact q _ H2 x2 .bl⟩
theorem p_notNS (ha : EvS K ta σ H ds) : EvP K (tOp (fun x y H Q => y = .non ∧ Q (.bl (!decide (x = .non))) H) ta (tC .non)) σ H (.bool true) := fun H1 x Q q =>
  ha H1 x _ fun a vs H2 x2 hs hd => ⟨rfl, by rw [show decide (V.ref a = V.non) = false from rfl]; exact q _ H2 x2 .bl⟩
end

abbrev eP4 {α β γ δ : Type} (f : α → PyData) (g : β → PyData) (h : γ → PyData) (k : δ → PyData) : α × β × γ × δ → PyData := fun p => PyData.tuple [f p.1, g p.2.1, h p.2.2.1, k p.2.2.2]
def deP4 {α β γ δ : Type} (f : PyData → Option α) (g : PyData → Option β) (h : PyData → Option γ) (k : PyData → Option δ) : PyData → Option (α × β × γ × δ)
  | .tuple [x, y, z, w] => (f x).bind fun a => (g y).bind fun b => (h z).bind fun c => (k w).map fun d => (a, b, c, d)
  | _ => none
instance {α β γ δ : Type} {f : PyData → Option α} {f' : α → PyData} {g : PyData → Option β} {g' : β → PyData} {h : PyData → Option γ} {h' : γ → PyData} {k : PyData → Option δ} {k' : δ → PyData} [A : De f f'] [B : De g g'] [C : De h h'] [D : De k k'] : De (deP4 f g h k) (eP4 f' g' h' k') := ⟨fun d v e => by
  unfold deP4 at e
  split at e
  · next x y z w =>
    obtain ⟨a, e1, e⟩ := bind_some e
    obtain ⟨b, e2, e⟩ := bind_some e
    obtain ⟨c, e3, e⟩ := bind_some e
    obtain ⟨d, e4, e⟩ := Option.map_eq_some_iff.mp e
    subst e
    show PyData.tuple [x, y, z, w] = PyData.tuple [f' a, g' b, h' c, k' d]
    rw [A.ok _ _ e1, B.ok _ _ e2, C.ok _ _ e3, D.ok _ _ e4]
  · cases e⟩

theorem pt_truthK {X : Cx} {a : Expr} {ta : TE} (K : PySem.W.Frag) (ha : PE X a ta) (he : ∀ whole, isTrue a X.env whole = (do let v ← whole; standAt a.pos; holding [v] (truthy v))) (hK : X.K = K := by rfl) :
    PT X a (fun σ H Q => ta σ H fun x H' => ∃ k, TruV K x H' k ∧ Q k H') := by
  subst hK
  exact pt_truth ha he
/-! a constant, then what raises -/
theorem x_consC {v : V} {ta : TA} {σ : L2.St} {H : Hp} {h : ∀ Q, ta σ H Q} : ∀ Q, tCons (tC v) ta σ H Q := fun Q => h _
/-- any data in a list of data of one kind -/
theorem p_inAf {α : Type} {f : α → PyData} {K : PySem.W.Frag} {ta tb : TE} {σ : L2.St} {H : Hp} {d : PyData} {xs : List α} (ha : EvP K ta σ H d) (hb : EvS K tb σ H (xs.map f)) (sd : SeqAt.shaped d = true) (se : SeqAt.shaped (.list (xs.map f)) = true) : EvP K (tOp (rInD K) ta tb) σ H (.bool ((xs.map f).any fun z => PyData.eqv z d)) := fun H1 x Q q =>
  ha H1 x _ fun v H2 x2 d2 => hb H2 (x.trans x2) _ fun a vs H3 x3 hs hd => ⟨d, xs.map f, (d2.ex x3).dp (noD_sh sd), .lst hs (hd.dp (noD_sh se)), sd, se, by exact q _ H3 (x2.trans x3) .bl⟩
theorem p_ninAf {α : Type} {f : α → PyData} {K : PySem.W.Frag} {ta tb : TE} {σ : L2.St} {H : Hp} {d : PyData} {xs : List α} (ha : EvP K ta σ H d) (hb : EvS K tb σ H (xs.map f)) (sd : SeqAt.shaped d = true) (se : SeqAt.shaped (.list (xs.map f)) = true) : EvP K (tOp (rNotInD K) ta tb) σ H (.bool (!((xs.map f).any fun z => PyData.eqv z d))) := fun H1 x Q q =>
  ha H1 x _ fun v H2 x2 d2 => hb H2 (x.trans x2) _ fun a vs H3 x3 hs hd => ⟨d, xs.map f, (d2.ex x3).dp (noD_sh sd), .lst hs (hd.dp (noD_sh se)), sd, se, by exact q _ H3 (x2.trans x3) .bl⟩
/-! xs.extend(new list), new lists by cases, a tree taken apart -/
section
variable {K : PySem.W.Frag} {σ : L2.St} {H H0 : Hp} {te ta tb : TE} {t : TT} {E : EnvD} {ds es : List PyData} {D : Ends}
theorem s_ext {i : Nat} {l : Addr} (S : Sl K H σ E) (hi : E[i]? = some (some (.raw (.ref l)))) (o : Ow K H0 H l ds) (h : EvN K te σ H es) (hz : ds.length + es.length ≤ 16777216)
    (k : ∀ H1, Kp H H1 → Xb l H H1 → Ow K H0 H1 l (ds ++ es) → D.nx σ H1) :
    tDrop (tBM K "list" rExtend (tVar i) (tCons te tNil)) D σ H := by
  obtain ⟨a, vs, b, c⟩ := o
  refine ⟨.ref l, S.raw hi, .inl ⟨rfl, vs, sq_of b⟩, h H (Ex.refl H) _ fun p us H1 hp e bu du => ⟨l, p, vs, us, rfl, rfl, e l _ b, bu, by rw [c.length, du.length, sizeLine_eq]; exact hz, ?_⟩⟩
  have hb := e l _ b
  have kp : Kp H1 (upd H1 l (.lst (vs ++ us))) := Kp.put (im_none hb (fun _ z => nomatch z) fun _ _ z => nomatch z)
  exact k _ ((Kp.of e).trans kp) (Xb.mut e (nc_of hb fun _ z => nomatch z)) ⟨a, vs ++ us, upd_same, ((c.ex e).kp kp).append (du.kp kp)⟩
theorem n_if {b : Bool} (h : EvT t σ H b) (h1 : b = true → EvN K ta σ H ds) (h2 : b = false → EvN K tb σ H ds) : EvN K (tIf t ta tb) σ H ds := fun H1 x Q q => h H1 x _ fun H2 x2 => by
  cases b with
  | true =>
    show ta σ H2 Q
    exact h1 rfl H2 (x.trans x2) Q fun p vs H3 hp x3 hl hd => q p vs H3 (fresh_back x2 hp) (x2.trans x3) hl hd
  | false =>
    show tb σ H2 Q
    exact h2 rfl H2 (x.trans x2) Q fun p vs H3 hp x3 hl hd => q p vs H3 (fresh_back x2 hp) (x2.trans x3) hl hd
theorem n_ifO {α : Type} {f : α → PyData} {b : Bool} {ma mb : Option (List α)} {r : List α} (h : (bif b then ma else mb) = some r) (h0 : EvT t σ H b) (h1 : b = true → ∀ a, ma = some a → EvN K ta σ H (a.map f)) (h2 : b = false → ∀ a, mb = some a → EvN K tb σ H (a.map f)) : EvN K (tIf t ta tb) σ H (r.map f) :=
  n_if h0 (fun e => h1 e r (cnd_t e h)) fun e => h2 e r (cnd_f e h)
def asks : Tr → Option (Str × Int × Tr × Tr)
  | .leaf _ => none
  | .ask v lo hi => some (Str.ofString "ask", v, lo, hi)
theorem p_asks {x : Tr} {r : Str × Int × Tr × Tr} (h : asks x = some r) (ha : EvP K te σ H (eX x)) : EvP K te σ H (eP4 eS eI eX eX r) := by
  cases x with
  | leaf k => cases h
  | ask v lo hi => cases h; exact ha
end
/-! {} handed to a def -/
theorem k_new {K : PySem.W.Frag} {σ : L2.St} {H : Hp} : EvDK K tDNewK σ H [] := fun H1 x Q q => fun p hp => q p [] _ hp (Ex.new hp) upd_same .nil
end Vx

namespace Vx
open PySem L2 PySem.Spec PyProof.Rows PySem.W Evl
variable [Tbs]
/-! ranges that go down -/
def downL (lo : Int) (n : Nat) : List Int := (List.range n).map fun (i : Nat) => lo - (i : Int)
theorem downL_length (lo : Int) (n : Nat) : (downL lo n).length = n := by simp [downL]
theorem downL_get {lo : Int} {n i : Nat} (h : i < n) : (downL lo n)[i]? = some (lo - i) := by
  unfold downL
  rw [List.getElem?_map, List.getElem?_range h]
  rfl
section
variable {K : PySem.W.Frag} {σ : L2.St} {H H0 : Hp} {te ta tb : TE} {tas : TA}
theorem walk_down {lo : Int} {n : Nat} {G : Hp → Prop} : Walk (Itc lo (-1) n) ((downL lo n).map PyData.int).length G (Yd K ((downL lo n).map .int)) := by
  rw [List.length_map, downL_length]
  refine walk_rangeC.mono (fun _ _ => trivial) fun i Ha x Hb hi g y => ?_
  obtain ⟨rfl, rfl⟩ := y
  refine ⟨Ex.refl _, _, by rw [List.getElem?_map, downL_get hi]; rfl, ?_⟩
  show Dr K _ (V.int (lo + (i : Int) * (-1))) (PyData.int (lo - (i : Int)))
  rw [show lo + (i : Int) * (-1) = lo - (i : Int) by omega]
  exact .int
theorem it_down {lo : Int} (h : EvAs K tas σ H [.int lo, .int (-1), .int (-1)]) (hn : rangeOk 0 (lo + 1) = true) : ItD K H0 (iRng3 tas) σ H ((downL lo (lo + 1).toNat).map .int) := fun H1 x R r => h H1 x _ fun vs H2 x2 da => by
  have hb := rangeOk_all hn
  cases vs with
  | nil => cases da
  | cons v vs =>
    cases da with
    | cons a b =>
      cases vs with
      | nil => cases b
      | cons w ws =>
        cases b with
        | cons a2 b2 =>
          cases ws with
          | nil => cases b2
          | cons u us =>
            cases b2 with
            | cons a3 b3 =>
              cases us with
              | cons _ _ => cases b3
              | nil =>
                have g := RgC.neg (i := lo) (j := -1) (by omega) (by omega) (by decide) (by decide)
                rw [show (lo - -1).toNat = (lo + 1).toNat by omega] at g
                exact ⟨lo, -1, -1, _, by rw [Dr.of_int (K := K) (H := H2) a, Dr.of_int (K := K) (H := H2) a2, Dr.of_int (K := K) (H := H2) a3], g, r _ H2 x2 walk_down⟩
theorem down_line {lo : Int} (h : rangeOk 0 (lo + 1) = true) : ((downL lo (lo + 1).toNat).map PyData.int).length ≤ sizeLine := by
  have hb := rangeOk_all h
  rw [List.length_map, downL_length, sizeLine_eq]
  omega
theorem ie_down {lo : Int} (h : EvAs K tas σ H [.int lo, .int (-1), .int (-1)]) (hn : rangeOk 0 (lo + 1) = true) (e0 : Ex H0 H) : ItE K (iRng3 tas) σ H ((downL lo (lo + 1).toNat).map .int) := (it_down (H0 := H0) h hn).e e0 (down_line hn)
/-- reversed(range(n)) -/
theorem it_revR {n : Int} (h : EvP K ta σ H (.int n)) (hn : rangeOk 0 n = true) : ItD K H0 (iRevR (tRg1 ta)) σ H ((downL (n - 1) n.toNat).map .int) := fun H1 x R r => h H1 x _ fun v H2 x2 d2 => by
  have hb := rangeOk_all hn
  refine ⟨n, d2.of_int, by decide, by decide, by omega, by omega, ?_⟩
  have e1 : (0 : Int) + (((n - 0).toNat : Nat) : Int) - 1 = if 0 ≤ n then n - 1 else -1 := by split <;> omega
  rw [show (n - 0).toNat = n.toNat by omega]
  by_cases h0 : 0 ≤ n
  · rw [show (0 : Int) + ((n.toNat : Nat) : Int) - 1 = n - 1 by omega]
    exact r _ H2 x2 walk_down
  · have z : n.toNat = 0 := by omega
    have e : downL (n - 1) n.toNat = downL (0 + ((0 : Nat) : Int) - 1) 0 := by rw [z]; rfl
    rw [e] at r
    rw [z]
    exact r _ H2 x2 walk_down
theorem ie_revR {n : Int} (h : EvP K ta σ H (.int n)) (hn : rangeOk 0 n = true) (e0 : Ex H0 H) : ItE K (iRevR (tRg1 ta)) σ H ((downL (n - 1) n.toNat).map .int) := (it_revR (H0 := H0) h hn).e e0 (by
  have hb := rangeOk_all hn
  rw [List.length_map, downL_length, sizeLine_eq]
  omega)
end
/-! [x] * n, xs.index(x) -/
section
variable {K : PySem.W.Frag} {σ : L2.St} {H H0 : Hp} {te ta tb : TE} {α : Type} {f : α → PyData} {xs : List α}
theorem DrA.rep {H : Hp} {vs : List V} {ds : List PyData} (h : DrA K H vs ds) : ∀ k : Nat, DrA K H (List.replicate k vs).flatten (List.replicate k ds).flatten
  | 0 => .nil
  | k + 1 => by
    rw [List.replicate_succ, List.replicate_succ, List.flatten_cons, List.flatten_cons]
    exact DrA.append h (DrA.rep h k)
def timesL {α : Type} (xs : List α) (k : Int) : List α := (List.replicate k.toNat xs).flatten
theorem n_rep {k : Int} (ha : EvN K ta σ H (xs.map f)) (hb : EvP K tb σ H (.int k)) (hk : (0 ≤ k ∧ k ≤ 16777216) ∧ xs.length * k.toNat ≤ 16777216) : EvN K (tOp rRep ta tb) σ H ((timesL xs k).map f) := fun H1 x Q q =>
  ha H1 x _ fun a vs H2 f2 x2 h2 d2 => hb H2 (x.trans x2) _ fun v H3 x3 d3 =>
    ⟨a, k, vs, rfl, d3.of_int, x3 a _ h2, by omega, by omega, by
      have := d2.length
      rw [List.length_map] at this
      rw [this, sizeLine_eq]; exact hk.2, fun p hp => q p _ _ (fresh_back (x2.trans x3) hp) ((x2.trans x3).trans (Ex.new hp)) upd_same (by
      have e : (timesL xs k).map f = (List.replicate k.toNat (xs.map f)).flatten := by
        unfold timesL
        rw [List.map_flatten, List.map_replicate]
      rw [e]
      exact ((d2.ex x3).rep k.toNat).ex (Ex.new hp))⟩
def idxA (ds : List PyData) (d : PyData) : Option Int := (ds.findIdx? fun z => PyData.eqv z d).map Int.ofNat
theorem p_index {d : PyData} {j : Int} (h : idxA (xs.map f) d = some j) (ha : EvS K ta σ H (xs.map f)) (hb : EvP K tb σ H d) (sd : SeqAt.shaped d = true) (se : SeqAt.shaped (.list (xs.map f)) = true) : EvP K (tBM K "list" (rIndexD K) ta (tCons tb tNil)) σ H (.int j) := fun H1 x Q q =>
  ha H1 x _ fun a vs H2 x2 hs hd => ⟨.inl ⟨rfl, vs, hs⟩, hb H2 (x.trans x2) _ fun v H3 x3 d3 => by
    obtain ⟨i, hi, rfl⟩ := Option.map_eq_some_iff.mp h
    obtain ⟨hlt, h1, h2⟩ := List.findIdx?_eq_some_iff_getElem.mp hi
    refine ⟨a, v, d, xs.map f, i, (xs.map f)[i], rfl, rfl, .lst (ex_l x3 hs) ((hd.ex x3).dp (noD_sh se)), d3.dp (noD_sh sd), se, sd, List.getElem?_eq_getElem hlt, h1, fun m z' hm hz => ?_, q _ H3 (x2.trans x3) .int⟩
    obtain ⟨hml, e⟩ := List.getElem?_eq_some_iff.mp hz
    have := h2 m hm
    rw [e] at this
    exact Bool.eq_false_iff.mpr this⟩
end
theorem mt_indexDK {X : Cx} (K : PySem.W.Frag) (hu : X.A.units + 65 < cLine) (hK : X.K = K := by rfl) : MtR X "list.index" (rIndexD K) := by subst hK; exact mt_indexD hu
/-! zip of a tuple and a list -/
def ItzM (K : PySem.W.Frag) (a b : Addr) : It where
  go i H := ∃ (xs ys : List V) (x y : V), SqT K H a xs ∧ SqL K H b ys ∧ xs[i]? = some x ∧ ys[i]? = some y
  yld i H v H' := ∃ T x y, v = .ref T ∧ H T = none ∧ H' = upd H T (.tup [x, y]) ∧ (∀ xs, SqT K H a xs → xs[i]? = some x) ∧ ∀ ys, SqL K H b ys → ys[i]? = some y
  stop i H := ∃ xs ys : List V, SqT K H a xs ∧ SqL K H b ys ∧ i ≤ xs.length ∧ i ≤ ys.length ∧ (i = xs.length ∨ i = ys.length)
def ZmSt (z TI TO i1 i2 a b : Addr) (i : Nat) (h : Heap) : Prop := IsZip h z TI TO .none ∧ IsTupOf2 h TI (.ref i1) (.ref i2) ∧ (∃ x y, IsTupOf2 h TO x y) ∧ h.IsTupleIter i1 a i ∧ h.IsListIter i2 b i
theorem zm5 {c z TI TO i1 i2 : Addr} (h : c ∈ [z, TI, TO, i1, i2]) : c = z ∨ c = TI ∨ c = TO ∨ c = i1 ∨ c = i2 := by simpa using h
theorem zm_obj {z TI TO i1 i2 a b : Addr} {i : Nat} {h : Heap} (st : ZmSt z TI TO i1 i2 a b i h) : ∀ c ∈ [z, TI, TO, i1, i2], ∃ o, h.get? c = some o ∧ ∀ v, o.data ≠ .cell v := fun c hc => by
  obtain ⟨s1, s2, ⟨x, y, s3⟩, ⟨o1, e1, _, d1⟩, ⟨o2, e2, _, d2⟩⟩ := st
  rcases zm5 hc with rfl | rfl | rfl | rfl | rfl
  · exact ⟨_, s1, fun v q => nomatch q⟩
  · exact ⟨_, s2, fun v q => nomatch q⟩
  · exact ⟨_, s3, fun v q => nomatch q⟩
  · exact ⟨o1, e1, fun v q => by rw [d1] at q; cases q⟩
  · exact ⟨o2, e2, fun v q => by rw [d2] at q; cases q⟩
theorem turn_zipM {P : Program} {w : World} {K : PySem.W.Frag} {elts : List Expr} {kk : Nat} {tpos : Pos} {a b z TI TO i1 i2 : Addr} (S : ZipSep2 z TI TO i1 i2 [i1, a] [i2, b]) (ha : a ≠ i1) (hb : b ≠ i2) :
    Turn P w K (.Tuple elts kk tpos) (ItzM K a b) [z, TI, TO, i1, i2] z (ZmSt z TI TO i1 i2 a b) where
  mem := List.mem_cons_self
  obj := fun i h st => zm_obj st
  keep := fun i h h' st k => by
    obtain ⟨s1, s2, ⟨x, y, s3⟩, s4, s5⟩ := st
    exact ⟨k z (by simp) _ s1, k TI (by simp) _ s2, ⟨x, y, k TO (by simp) _ s3⟩, s4.at fun o q => k i1 (by simp) o q, s5.at fun o q => k i2 (by simp) o q⟩
  item := by
    intro X hP hw hK hc i pins s σ H E I hf st hg
    subst hP hw hK
    have live := zm_obj st
    obtain ⟨s1, s2, ⟨x0, y0, s3⟩, s4, s5⟩ := st
    obtain ⟨xs, ys, x, y, hqx, hqy, hx, hy⟩ := hg
    obtain ⟨its, rv, p, _⟩ := I.tuple hqx
    obtain ⟨its2, rv2, p2, _⟩ := I.list hqy
    obtain ⟨u, hu, ru⟩ := rv.get hx
    obtain ⟨u2, hu2, ru2⟩ := rv2.get hy
    have hh : X.A.handled = none := I.ok.hd hc
    have D1 := Draws.tuple (prog := X.prog) (w := X.w) (A := X.A.in1) hh i1 a ha its.toArray
    have D2 := Draws.list (prog := X.prog) (w := X.w) (A := X.A.in1) hh i2 b hb its2.toArray
    have lt1 : i < its.toArray.size := by rw [List.size_toArray]; exact (List.getElem?_eq_some_iff.mp hu).1
    have lt2 : i < its2.toArray.size := by rw [List.size_toArray]; exact (List.getElem?_eq_some_iff.mp hu2).1
    refine wpAny_pyNext_zipD2_item S D1 D2 s1 s2 s3 ⟨s4, p⟩ ⟨s5, p2.isList⟩ lt1 lt2 fun v1 v2 h' tk e1 e2 z' t' d1 d2 hT hsz hk => ?_
    have ev1 : v1 = u := by
      have e1 : its.toArray[i]? = some v1 := e1
      rw [show its.toArray[i]? = some u by simpa using hu] at e1
      exact (Option.some.inj e1).symm
    have ev2 : v2 = u2 := by
      have e2 : its2.toArray[i]? = some v2 := e2
      rw [show its2.toArray[i]? = some u2 by simpa using hu2] at e2
      exact (Option.some.inj e2).symm
    subst ev1 ev2
    have hzl : z < s.heap.objs.size := Heap.lt_size s1
    refine ⟨_, rfl, wpAny_letOwnedTupleGo_zip (s := { s with heap := h', toks := tk }) z' fun h'' z'' sb => ?_⟩
    have hT2 : h''.get? s.heap.objs.size = some { cls := .type "tuple", data := .seq #[v1, v2] } := (sb.2 _ (Nat.ne_of_gt hzl)).trans hT
    have new : ObjOk X.prog X.w (upd H s.heap.objs.size (.tup [x, y])) h'' s.heap.objs.size (.tup [x, y]) := ⟨by show 2 ≤ sizeLine; decide, [v1, v2], .cons ru (.cons ru2 .nil), ⟨_, hT2, rfl, _, rfl⟩⟩
    have keep5 : ∀ c o, c ∉ [z, TI, TO, i1, i2] → s.heap.get? c = some o → h''.get? c = some o := fun c o hc q => by
      have n1 : c ≠ z := fun e => hc (by simp [e])
      have n3 : c ≠ TO := fun e => hc (by simp [e])
      have n4 : c ≠ i1 := fun e => hc (by simp [e])
      have n5 : c ≠ i2 := fun e => hc (by simp [e])
      exact (sb.2 c n1).trans (hk c o n1 n3 n4 n5 q)
    have I1 := I.turnedNew (t' := tk) (ch := [z, TI, TO, i1, i2]) keep5 hf (Nat.le_refl _) new
    have ti2 : IsTupOf2 h'' TI (.ref i1) (.ref i2) := (sb.2 _ S.TIz).trans (hk _ _ S.TIz S.TITO S.TIi1 S.TIi2 s2)
    have to2 : IsTupOf2 h'' TO v1 v2 := (sb.2 _ S.TOz).trans t'
    refine ⟨.ref s.heap.objs.size, _, I1, rfl, ⟨_, x, y, rfl, I.hok.fresh (Nat.le_refl _), rfl, fun l hl => by rw [I.tuple_inj hl hqx]; exact hx, fun l hl => by rw [I.list_inj hl hqy]; exact hy⟩, ⟨z'', ti2, ⟨v1, v2, to2⟩, d1.1.at fun o q => (sb.2 _ (fun e => S.zi1 e.symm)).trans q, d2.1.at fun o q => (sb.2 _ (fun e => S.zi2 e.symm)).trans q⟩, fun c hcm => ?_⟩
    obtain ⟨o, ho, _⟩ := live c hcm
    rw [upd_ne (Nat.ne_of_lt (Heap.lt_size ho))]
    exact (hf c hcm).1
  done := by
    intro X hP hw hK hc i pins s σ H E I hf st hg
    subst hP hw hK
    obtain ⟨s1, s2, ⟨x0, y0, s3⟩, s4, s5⟩ := st
    obtain ⟨xs, ys, hqx, hqy, l1, l2, hend⟩ := hg
    obtain ⟨its, rv, p, _⟩ := I.tuple hqx
    obtain ⟨its2, rv2, p2, _⟩ := I.list hqy
    have q1 : its.toArray.size = xs.length := by rw [List.size_toArray]; exact rv.length.symm
    have q2 : its2.toArray.size = ys.length := by rw [List.size_toArray]; exact rv2.length.symm
    have hh : X.A.handled = none := I.ok.hd hc
    have D1 := Draws.tuple (prog := X.prog) (w := X.w) (A := X.A.in1) hh i1 a ha its.toArray
    have D2 := Draws.list (prog := X.prog) (w := X.w) (A := X.A.in1) hh i2 b hb its2.toArray
    refine wpAny_pyNext_zipD2_end S D1 D2 s1 s2 s3 ⟨s4, p⟩ ⟨s5, p2.isList⟩ (by omega) (by omega) (by omega) fun h' tk hk => ⟨rfl, I.turnedL (t' := tk) (ch := [z, TI, TO, i1, i2]) (fun c o hc q => ?_) hf⟩
    exact hk c o (fun e => hc (by simp [e])) (fun e => hc (by simp [e])) (fun e => hc (by simp [e])) (fun e => hc (by simp [e])) q
  self := fun A i s Q E st h => wpAny_pyIter_zip st.1 h
def iZipM (K : PySem.W.Frag) (ta : TA) : TI := fun σ H R => ta σ H fun vs H1 => ∃ a b xs ys, vs = [.ref a, .ref b] ∧ SqT K H1 a xs ∧ SqL K H1 b ys ∧ R (ItzM K a b) H1
theorem sep_new {n a b : Addr} (ha : a < n) (hb : b < n) : ZipSep2 (n + 4) (n + 2) (n + 3) n (n + 1) [n, a] [n + 1, b] := by
  have h1 : @LT.lt Nat instLTNat a n := ha
  have h2 : @LT.lt Nat instLTNat b n := hb
  have ne : ∀ {x y : Nat}, x ≠ y → (x : Addr) ≠ y := fun h => h
  refine ⟨ne (by omega), ne (by omega), ne (by omega), ne (by omega), by simp, ?_, ?_, ne (by omega), by simp, ?_, ?_, ?_, ?_⟩
  all_goals
    rw [List.mem_cons, List.mem_singleton]
    rintro (h | h)
    · have h : (_ : Nat) = _ := h; omega
    · have h : (_ : Nat) = _ := h; omega
theorem pi_zipM {X : Cx} {e e2 : Expr} {ta : TA} {p pos tpos : Pos} {elts : List Expr} {kk : Nat} (K : PySem.W.Frag) (hg : Gl X "zip") (hm : X.mg "zip" = none) (ha : PA X [e, e2] ta) (hK : X.K = K := by rfl)
    (hs : starEach [e, e2] X.env = (false, eval e X.env) :: starEach [e2] X.env := by rfl) (hpl : (backTo pos (starEach [e2] X.env)).any (·.1) = false := by rfl) :
    PI X (.Tuple elts kk tpos) (.Call (.Name "zip" p) [e, e2] [] pos) (iZipM K ta) := by
  subst hK
  refine ⟨fun pins s σ H R I h => ?_⟩
  refine Call_ (ld_blt I hg hm PyProof.Rows.boot_zip (PyProof.Rows.callWith_type1 (thn (ha.run pos pins s σ H _ I h) fun us s1 ⟨vs, H1, I1, r1, q1⟩ => ?_) hs hpl))
  obtain ⟨a, b, xs, ys, rfl, hqx, hqy, q⟩ := q1
  cases r1 with
  | cons r rr =>
    cases rr with
    | cons r' rr =>
      cases rr
      cases r
      cases r'
      obtain ⟨its, rv, p1, _⟩ := I1.tuple hqx
      obtain ⟨its2, rv2, p2, _⟩ := I1.list hqy
      have lta : a < s1.heap.objs.size := by obtain ⟨o, ho, _⟩ := id p1; exact Heap.lt_size ho
      have ltb : b < s1.heap.objs.size := p2.lt
      refine zip_begins2 (begins_tuple a its.toArray) (begins_list b its2.toArray) p1 p2.isList fun h' hz hTI hTO h1 h2 hsz hk => wpAny_pyIter_zip hz ?_
      have I2 : Inv X pins σ H1 { s1 with heap := h' } := I1.kept (t' := s1.toks) hk
      refine ⟨s1.heap.objs.size + 4, [s1.heap.objs.size + 4, s1.heap.objs.size + 2, s1.heap.objs.size + 3, s1.heap.objs.size, s1.heap.objs.size + 1], _, _, H1, rfl, I2, turn_zipM (sep_new lta ltb) (Nat.ne_of_lt lta) (Nat.ne_of_lt (Nat.lt_succ_of_lt ltb)), ⟨hz, hTI, ⟨_, _, hTO⟩, ⟨_, h1, rfl, rfl⟩, ⟨_, h2, rfl, rfl⟩⟩, fun c hcm => ?_, q⟩
      have hle : s1.heap.objs.size ≤ c := by
        rcases zm5 hcm with z | z | z | z | z <;> rw [z]
        · exact Nat.le_add_right _ _
        · exact Nat.le_add_right _ _
        · exact Nat.le_add_right _ _
        · exact Nat.le_refl _
        · exact Nat.le_add_right _ _
      exact I1.fpOk hle (I1.hok.fresh hle)
section
variable {K : PySem.W.Frag} {σ : L2.St} {H H0 : Hp} {te ta tb : TE} {ds es : List PyData} {a b : Addr} {xs ys : List V}
theorem walk_zipM : Walk (ItzM K a b) (min xs.length ys.length) (fun H => SqT K H a xs ∧ SqL K H b ys) (YPair (fun i => xs[i]?) fun i => ys[i]?) := by
  refine ⟨fun i H hi g => ⟨xs, ys, xs[i]'(by omega), ys[i]'(by omega), g.1, g.2, List.getElem?_eq_getElem _, List.getElem?_eq_getElem _⟩, fun H g => ⟨xs, ys, g.1, g.2, by omega, by omega, by omega⟩, fun i H x H' hi g y => ?_⟩
  obtain ⟨T, u, v, e1, e2, e3, h1, h2⟩ := y
  exact ⟨T, u, v, e1, e2, e3, h1 xs g.1, h2 ys g.2⟩
theorem ie_zipM (ha : EvP K ta σ H (.tuple ds)) (hb : EvS K tb σ H es) : ItE K (iWf K (iZipM K (tCons ta (tCons tb tNil)))) σ H (zipD ds es) := fun H1 x R r => ha H1 x _ fun v H2 x2 dr => hb H2 (x.trans x2) _ fun b ws H3 x3 hs' hd' => by
  obtain ⟨a, vs, rfl, hs, hd⟩ := (dr.ex x3).of_tup
  have hl : (zipD ds es).length = min vs.length ws.length := by rw [hd.length, hd'.length, zipD_length]
  refine ⟨a, b, vs, ws, rfl, hs, hs', fun w => r _ H3 (x2.trans x3) (by rw [hl]; have := w.2 _ _ hs; omega) (yd_pair (Hs := H3) (walk_zipM.mono (fun Hx g => ⟨ex_t g hs, ex_l g hs'⟩) fun _ _ _ _ _ _ y => y) hl (fun i x y e1 e2 => ?_) fun _ g => Kp.of g)⟩
  obtain ⟨d, h1, h2⟩ := hd.getV e1
  obtain ⟨e, h3, h4⟩ := hd'.getV e2
  exact ⟨d, e, zipD_get h1 h3, h2, h4⟩
theorem qe_zipM {α β : Type} {f : α → PyData} {h : β → PyData} {xs : List α} {ys : List β} (ha : EvP K ta σ H (eT f xs)) (hb : EvS K tb σ H (ys.map h)) : ItE K (iWf K (iZipM K (tCons ta (tCons tb tNil)))) σ H ((xs.zip ys).map (eP f h)) := zipD_enc (f := f) (h := h) ▸ ie_zipM ha hb
end
end Vx

/-! lists that change within and, or, if-expressions and comprehensions -/
namespace Vx
open PySem L2 PySem.Spec PyProof.Rows Evl RZ
variable [Tbs]
section
variable {K : PySem.W.Frag} {σ : L2.St} {H H0 H1 H2 H' : Hp} {te ta tb tc c : TE} {tt tu : TT} {wi : TI} {g : TG} {E : EnvD} {d : PyData} {ds : List PyData} {D : Ends} {a l : Addr} {v : V} {i n : Nat} {ls ms : List Addr} {os : List (List PyData)} {k : V → TE} {kT : V → TT} {kI : V → TI}
theorem XbS.sub (b : XbS ms H H') (h : ∀ l ∈ ms, l ∈ ls) : XbS ls H H' := ⟨fun a n u e k => b.app a (fun z => n (h a z)) u e k, fun a n ps e => b.tbl a (fun z => n (h a z)) ps e, fun P q m n t => b.tab P q m (fun z => n (h P z)) t⟩
theorem XbS.trans (a : XbS ls H H1) (b : XbS ls H1 H2) : XbS ls H H2 := ⟨fun x n u e k => b.app x n u (a.app x n u e k) k, fun x n ps e => by
  obtain ⟨qs, z⟩ := a.tbl x n ps e
  exact b.tbl x n qs z, fun P q m n t => b.tab P q m n (a.tab P q m n t)⟩
theorem XbS.of (e : Ex H H') : XbS ls H H' := ⟨fun a _ u h n => e.app a u h n, fun a _ ps h => e.tbl a ps h, fun P q m _ t => e.tab P q m t⟩
theorem XbS.ofB (b : Xb l H H') (nc : ∀ q, H l ≠ some (LamX.CodeO l q)) (hl : l ∈ ls) : XbS ls H H' := ⟨fun a n u h k => b.app a (fun e => n (e ▸ hl)) u h k, fun a n ps h => b.tbl a (fun e => n (e ▸ hl)) ps h, fun P q m n t => b.tab nc P q m (fun e => n (e ▸ hl)) t⟩
theorem XbS.mut {p : Addr} {o : HO} (b : XbS ls H H') (h : H p = none) (nc : ∀ q, H' p ≠ some (LamX.CodeO p q)) : XbS ls H (upd H' p o) := ⟨fun a n u ha k => by
    rw [upd_ne (ne_of_none ha h)]
    exact b.app a n u ha k, fun a n ps ha => by
    rw [upd_ne (ne_of_none ha h)]
    exact b.tbl a n ps ha, fun P q m n t => by
    have hP : P ≠ p := by
      obtain ⟨ps, h1, _⟩ := id t
      exact ne_of_none h1 h
    exact tabS_put (b.tab P q m n t) hP nc⟩
theorem OsOk.nn : ∀ {ls : List Addr} {os : List (List PyData)}, OsOk K H ls os → ∀ l ∈ ls, ∃ vs, H l = some (.lst vs)
  | _, _, .nil, _, h => nomatch h
  | _, _, .cons a b c, l, h => by
    rcases List.mem_cons.mp h with rfl | h
    · exact ⟨_, a⟩
    · exact OsOk.nn c l h
theorem OsOk.ex (e : Ex H H') : ∀ {ls : List Addr} {os : List (List PyData)}, OsOk K H ls os → OsOk K H' ls os
  | _, _, .nil => .nil
  | _, _, .cons a b c => .cons (e _ _ a) (b.ex e) (OsOk.ex e c)
theorem OsOk.put {p : Addr} {o : HO} (kp : Kp H (upd H p o)) : ∀ {ls : List Addr} {os : List (List PyData)}, p ∉ ls → OsOk K H ls os → OsOk K (upd H p o) ls os
  | _, _, _, .nil => .nil
  | _, _, n, .cons a b c => .cons (by rw [upd_ne (fun e => n (by rw [← e]; exact List.mem_cons_self))]; exact a) (b.kp kp) (OsOk.put kp (fun z => n (List.mem_cons_of_mem _ z)) c)
theorem Ow.ot (o : Ow K H0 H l ds) (t : OsOk K H ls os) : OsOk K H (l :: ls) (ds :: os) := by
  obtain ⟨_, vs, b, c⟩ := o
  exact .cons b c t
/-- an own list, evaluated before -/
theorem w_oc {as : List Aw} {ks : List (Option Addr)} {tas : TA} (o : Ow K H0 H l ds) (hr : EvW K tas σ H as ks) : EvW K (tCons (tC (.ref l)) tas) σ H (.w ds :: as) (some l :: ks) := fun H1 x Q q =>
  hr H1 x _ fun ws ls H3 x3 d3 k3 => by
    obtain ⟨_, ys, b, c⟩ := (o.ex x).ex x3
    exact q _ (l :: ls) H3 x3 (.w b c d3) (.some k3)
/-! paths -/
theorem fst_lc {ts : List Nat} (f : FstI wi kI c) : Fst (tLc wi g tt te ts) (fun v => tLc (kI v) g tt te ts) c := fun σ H Q h => f σ H _ h
theorem fi_wf (f : FstI wi kI c) : FstI (iWf K wi) (fun v => iWf K (kI v)) c := fun σ H Q h => f σ H _ h
theorem fst_tAndL {K : PySem.W.Frag} (f : Fst ta k c) : Fst (tAndT K ta tb) (fun v => tAndT K (k v) tb) c := fun σ H Q h => f σ H _ h
/-! what is evaluated by cases -/
theorem cnd_if {b : Bool} {Q : VK} (h : EvT tt σ H b) (h1 : b = true → ∀ H1, Ex H H1 → ta σ H1 Q) (h2 : b = false → ∀ H1, Ex H H1 → tb σ H1 Q) : tIf tt ta tb σ H Q := h H (Ex.refl H) _ fun H1 e => by
  cases b with
  | true => exact h1 rfl H1 e
  | false => exact h2 rfl H1 e
theorem cnd_and {b : Bool} {Q : Bool → Hp → Prop} (h : EvT tt σ H b) (h1 : b = true → ∀ H1, Ex H H1 → tu σ H1 Q) (h2 : b = false → ∀ H1, Ex H H1 → Q false H1) : tAnd tt tu σ H Q := h H (Ex.refl H) _ fun H1 e => by
  cases b with
  | true => exact h1 rfl H1 e
  | false => exact h2 rfl H1 e
theorem cnd_or {b : Bool} {Q : Bool → Hp → Prop} (h : EvT tt σ H b) (h1 : b = true → ∀ H1, Ex H H1 → Q true H1) (h2 : b = false → ∀ H1, Ex H H1 → tu σ H1 Q) : tOr tt tu σ H Q := h H (Ex.refl H) _ fun H1 e => by
  cases b with
  | true => exact h1 rfl H1 e
  | false => exact h2 rfl H1 e
/-- a value, and lists that may have changed -/
def EvF (K : PySem.W.Frag) (te : TE) (σ : L2.St) (H : Hp) (ls : List Addr) (os : List (List PyData)) (d : PyData) : Prop := ∀ Q : VK, (∀ v H1, Kp H H1 → XbS ls H H1 → OsOk K H1 ls os → Dr K H1 v d → Q v H1) → te σ H Q
def EvFT (K : PySem.W.Frag) (tt : TT) (σ : L2.St) (H : Hp) (ls : List Addr) (os : List (List PyData)) (b : Bool) : Prop := ∀ Q : Bool → Hp → Prop, (∀ H1, Kp H H1 → XbS ls H H1 → OsOk K H1 ls os → Q b H1) → tt σ H Q
theorem evf_go {Q : VK} (h : EvF K te σ H ls os d) (q : ∀ v H1, Kp H H1 → XbS ls H H1 → OsOk K H1 ls os → Dr K H1 v d → Q v H1) : te σ H Q := h Q q
theorem evft_go {Q : Bool → Hp → Prop} {b : Bool} (h : EvFT K tt σ H ls os b) (q : ∀ H1, Kp H H1 → XbS ls H H1 → OsOk K H1 ls os → Q b H1) : tt σ H Q := h Q q
theorem evf_in (h : ∀ Q : VK, Kp H H → XbS ls H H → (∀ v H1, Kp H H1 → XbS ls H H1 → OsOk K H1 ls os → Dr K H1 v d → Q v H1) → te σ H Q) : EvF K te σ H ls os d := fun Q q => h Q (Kp.refl H) (XbS.of (Ex.refl H)) q
theorem evft_in {b : Bool} (h : ∀ Q : Bool → Hp → Prop, Kp H H → XbS ls H H → (∀ H1, Kp H H1 → XbS ls H H1 → OsOk K H1 ls os → Q b H1) → tt σ H Q) : EvFT K tt σ H ls os b := fun Q q => h Q (Kp.refl H) (XbS.of (Ex.refl H)) q
/-- a test whose outcome is known -/
def tK (b : Bool) : TT := fun _ H Q => Q b H
theorem t_k {b : Bool} : EvT (tK b) σ H b := fun H1 _ Q q => q H1 (Ex.refl H1)
def FstTT (tt : TT) (k : Bool → TT) (c : TT) : Prop := ∀ (σ : L2.St) (H : Hp) (Q : Bool → Hp → Prop), c σ H (fun b H' => k b σ H' Q) → tt σ H Q
def FstET (te : TE) (k : Bool → TE) (c : TT) : Prop := ∀ (σ : L2.St) (H : Hp) (Q : VK), c σ H (fun b H' => k b σ H' Q) → te σ H Q
def FstST (ts : TS) (k : Bool → TS) (c : TT) : Prop := ∀ (D : Ends) (σ : L2.St) (H : Hp), c σ H (fun b H' => k b D σ H') → ts D σ H
theorem tt_here : FstTT tt tK tt := fun _ _ _ h => h
theorem tt_not {kT : Bool → TT} {c : TT} (f : FstTT tt kT c) : FstTT (tNot tt) (fun v => tNot (kT v)) c := fun σ H Q h => f σ H _ h
theorem tt_and {kT : Bool → TT} {c : TT} (f : FstTT tt kT c) : FstTT (tAnd tt tu) (fun v => tAnd (kT v) tu) c := fun σ H Q h => f σ H _ h
theorem tt_or {kT : Bool → TT} {c : TT} (f : FstTT tt kT c) : FstTT (tOr tt tu) (fun v => tOr (kT v) tu) c := fun σ H Q h => f σ H _ h
theorem et_ifF {kT : Bool → TT} {c : TT} (f : FstTT tt kT c) : FstET (tIf tt ta tb) (fun v => tIf (kT v) ta tb) c := fun σ H Q h => f σ H _ h
theorem st_ifF {tw tz : TS} {kT : Bool → TT} {c : TT} (f : FstTT tt kT c) : FstST (tIfS tt tw tz) (fun v => tIfS (kT v) tw tz) c := fun D σ H h => f σ H _ h
theorem st_seqF {ts tw : TS} {kS : Bool → TS} {c : TT} (f : FstST ts kS c) : FstST (tSeq ts tw) (fun v => tSeq (kS v) tw) c := fun D σ H h => f _ σ H h
theorem st_goT {ts : TS} {kS : Bool → TS} {c : TT} (f : FstST ts kS c) (h : c σ H (fun v H' => kS v D σ H')) : ts D σ H := f D σ H h
theorem tt_go {Q : Bool → Hp → Prop} {kT : Bool → TT} {c : TT} (f : FstTT tt kT c) (h : c σ H (fun v H' => kT v σ H' Q)) : tt σ H Q := f σ H Q h
theorem et_go {Q : VK} {kT : Bool → TE} {c : TT} (f : FstET te kT c) (h : c σ H (fun v H' => kT v σ H' Q)) : te σ H Q := f σ H Q h
end
theorem ite_c {b : Bool} {P R : Prop} (h1 : b = true → P) (h0 : b = false → R) : if b = true then P else R := by
  cases b with
  | true => exact h1 rfl
  | false => exact h0 rfl
theorem s_asgR {i : Nat} {v : V} {D : Ends} {σ : L2.St} {H : Hp} (h : D.nx (σ.set i (some v)) H) : tAsg (tC v) (gName i) D σ H := h
/-! comprehensions that change lists -/
def lcW {α β τ : Type} (fn : τ → α → Option (Option β × τ)) : τ → List α → Option (List β × τ)
  | s, [] => some ([], s)
  | s, x :: xs => (fn s x).bind fun p => (lcW fn p.2 xs).bind fun q => some (consO p.1 q.1, q.2)
theorem lcW_snoc {α β τ : Type} {fn : τ → α → Option (Option β × τ)} : ∀ {xs : List α} {s s' : τ} {x : α} {zs : List β}, lcW fn s (xs ++ [x]) = some (zs, s') → ∃ ys s1 r, lcW fn s xs = some (ys, s1) ∧ fn s1 x = some (r, s') ∧ zs = ys ++ r.toList
  | [], s, s', x, zs, h => by
    simp only [List.nil_append, lcW] at h
    obtain ⟨⟨r, s1⟩, h1, h⟩ := bind_some h
    simp only [Option.bind_some, Option.some.injEq, Prod.mk.injEq] at h
    obtain ⟨rfl, rfl⟩ := h
    refine ⟨[], s, r, rfl, h1, ?_⟩
    cases r <;> simp [consO]
  | a :: xs, s, s', x, zs, h => by
    simp only [List.cons_append, lcW] at h
    obtain ⟨⟨r, s1⟩, h1, h⟩ := bind_some h
    obtain ⟨⟨ws, s2⟩, h2, h⟩ := bind_some h
    obtain ⟨ys, s3, r3, k1, k2, k3⟩ := lcW_snoc h2
    obtain ⟨hz, he⟩ := Prod.mk.inj (Option.some.inj h)
    simp only at hz he
    clear h
    subst he
    refine ⟨consO r ys, s3, r3, ?_, k2, ?_⟩
    · simp only [lcW, h1, Option.bind_some, k1]
    · subst hz k3
      cases r <;> simp [consO]
theorem lcW_take {α β τ : Type} {fn : τ → α → Option (Option β × τ)} : ∀ {xs : List α} {s s' : τ} {ys : List β} (n : Nat), lcW fn s xs = some (ys, s') → ∃ zs s1, lcW fn s (xs.take n) = some (zs, s1)
  | xs, s, _, ys, 0, _ => ⟨[], s, rfl⟩
  | [], s, _, ys, n + 1, h => ⟨[], s, rfl⟩
  | a :: xs, s, s', ys, n + 1, h => by
    simp only [lcW] at h
    obtain ⟨⟨r, s1⟩, h1, h⟩ := bind_some h
    obtain ⟨⟨ws, s2⟩, h2, h⟩ := bind_some h
    obtain ⟨zs, s3, k⟩ := lcW_take n h2
    refine ⟨consO r zs, s3, ?_⟩
    simp only [List.take_succ_cons, lcW, h1, k, Option.bind_some]
theorem lcW_len {α β τ : Type} {fn : τ → α → Option (Option β × τ)} : ∀ {xs : List α} {s s' : τ} {ys : List β}, lcW fn s xs = some (ys, s') → ys.length ≤ xs.length
  | [], s, _, ys, h => by
    simp only [lcW, Option.some.injEq, Prod.mk.injEq] at h
    rw [← h.1]; simp
  | a :: xs, s, s', ys, h => by
    simp only [lcW] at h
    obtain ⟨⟨r, s1⟩, h1, h⟩ := bind_some h
    obtain ⟨⟨ws, s2⟩, h2, h⟩ := bind_some h
    have := lcW_len h2
    simp only [Option.some.injEq, Prod.mk.injEq] at h
    rw [← h.1]
    cases r <;> simp [consO] <;> omega
section
variable {K : PySem.W.Frag} {σ : L2.St} {H H0 : Hp} {te ta tb : TE} {tt : TT} {wi : TI} {g : TG} {E : EnvD}
theorem c_lcW {α β τ : Type} {ls : List Addr} {os : τ → List (List PyData)} {xs : List α} {enc : α → PyData} {ts vs : List Nat} {bind : α → EnvD} {encb : β → PyData} {ys : List β} {s0 s1 : τ} (fn : τ → α → Option (Option β × τ)) (h : lcW fn s0 xs = some (ys, s1)) (hl : xs.length ≤ 16777216)
    (S : Sl K H σ E) (e0 : Ex H0 H) (hi : ItD K H0 wi σ H (xs.map enc)) (h0 : ∀ l ∈ ls, H0 l = none) (oo : OsOk K H ls (os s0)) (hg : ∀ x, Gd K g ts (enc x) (wipE E vs) (bind x)) (hts : ∀ t ∈ ts, t ∈ vs)
    (hb : ∀ x ∈ xs, ∀ s r s', fn s x = some (r, s') → ∀ σ H', Kp H H' → XbS ls H H' → OsOk K H' ls (os s) → Sl K H' σ (bind x) → ∀ (Q0 : Hp → Prop) (Q1 : VK), (r = none → ∀ H2, Kp H' H2 → XbS ls H' H2 → OsOk K H2 ls (os s') → Q0 H2) →
      (∀ y, r = some y → ∀ v H2, Kp H' H2 → XbS ls H' H2 → OsOk K H2 ls (os s') → Dr K H2 v (encb y) → Q1 v H2) → tt σ H' fun b H2 => if b = true then te σ H2 Q1 else Q0 H2)
    {Q : VK} (q : ∀ H1 p, H p = none → Kp H H1 → XbS ls H H1 → OsOk K H1 ls (os s1) → Ow K H0 H1 p (ys.map encb) → Q (.ref p) H1) :
    tLc wi g tt te vs σ H Q := hi H (Ex.refl H) _ fun J H2 x2 w D hD => by
  have hDl : D ∉ ls := fun z => by
    obtain ⟨us, e⟩ := oo.nn D z
    rw [x2 D _ e] at hD
    cases hD
  have hHD := fresh_back x2 hD
  refine lc_it w (fun i Hc => ∃ acc zs s, lcW fn s0 (xs.take i) = some (zs, s) ∧ Kp H2 Hc ∧ XbS ls H Hc ∧ OsOk K Hc ls (os s) ∧ Hc D = some (.lst acc) ∧ DrA K Hc acc (zs.map encb))
    ⟨[], [], s0, rfl, Kp.of (Ex.new hD), (XbS.of x2).trans (XbS.of (Ex.new hD)), (oo.ex x2).ex (Ex.new hD), upd_same, .nil⟩ (fun i Hc _ p => ?_) (fun i x Hc Hc' hin p y => ?_) (fun Hc p => ?_)
  · obtain ⟨_, _, _, _, p2, p3, _⟩ := p
    exact ⟨p2, p3.ex e0 h0⟩
  · obtain ⟨acc, zs, s, p1, p2, p3, p4, p5, p6⟩ := p
    obtain ⟨y1, d, y2, y3⟩ := y
    rw [List.length_map] at hin
    have e1 : xs[i]? = some xs[i] := List.getElem?_eq_getElem hin
    rw [List.getElem?_map, e1] at y2
    cases y2
    have e3 : xs.take (i + 1) = xs.take i ++ [xs[i]] := by rw [List.take_add_one, e1]; rfl
    obtain ⟨zs', s', hz'⟩ := lcW_take (i + 1) h
    obtain ⟨zs2, s2, r, hz2, hr, hzs⟩ := lcW_snoc (e3 ▸ hz')
    rw [p1] at hz2
    cases hz2
    have kH : Kp H Hc := (Kp.of x2).trans p2
    have S3 : Sl K Hc' (wipe σ vs) (wipE E vs) := ((S.kp kH).ex y1).wipe vs
    have hacc : acc.length ≤ i := by
      have h1 := p6.length
      have h2 := lcW_len p1
      simp at h1 h2
      omega
    refine hg _ (wipe σ vs) Hc' x S3 y3 _ fun σ' sb S4 => ⟨sb.wipe hts, ?_⟩
    refine hb xs[i] (List.getElem_mem hin) _ r _ hr σ' Hc' (kH.trans (Kp.of y1)) (p3.trans (XbS.of y1)) (p4.ex y1) S4 _ _ (fun hn Hd kd bd od => ?_) (fun z hzr v H4 kd bd od d4 => ?_)
    · refine ⟨acc, zs, s', ?_, (p2.trans (Kp.of y1)).trans kd, (p3.trans (XbS.of y1)).trans bd, od, bd.app D hDl _ (y1 D _ p5) (fun _ z => nomatch z), (p6.ex y1).kp kd⟩
      rw [hz', hzs, hn]
      simp
    · have hD4 : H4 D = some (.lst acc) := bd.app D hDl _ (y1 D _ p5) fun _ z => nomatch z
      have k5 : Kp H4 (upd H4 D (.lst (acc ++ [v]))) := Kp.put (im_none hD4 (fun _ z => nomatch z) fun _ _ z => nomatch z)
      refine ⟨acc, hD4, by rw [sizeLine_eq]; omega, acc ++ [v], zs', s', hz', ((p2.trans (Kp.of y1)).trans kd).trans k5, ((p3.trans (XbS.of y1)).trans bd).mut hHD (nc_of hD4 fun _ z => nomatch z), od.put k5 hDl, upd_same, ?_⟩
      rw [hzs, hzr, List.map_append]
      exact (((p6.ex y1).kp kd).kp k5).append (.cons (d4.kp k5) .nil)
  · obtain ⟨acc, zs, s, p1, p2, p3, p4, p5, p6⟩ := p
    rw [List.length_map, List.take_length, h] at p1
    cases p1
    exact q Hc D hHD ((Kp.of x2).trans p2) p3 p4 ⟨fresh_back e0 hHD, acc, p5, p6⟩
end
end Vx

/-! a tuple or a list of any data -/
namespace Vx
open PySem L2 PySem.Spec PyProof.Rows Evl RZ
variable [Tbs]
abbrev eE : Bool × List PyData → PyData := fun p => bif p.1 then .list p.2 else .tuple p.2
def deE : PyData → Option (Bool × List PyData)
  | .tuple ds => some (false, ds)
  | .list ds => some (true, ds)
  | _ => none
instance : De deE eE := ⟨fun d v e => by
  unfold deE at e
  split at e
  · cases e; rfl
  · cases e; rfl
  · cases e⟩
def rIxE (K : PySem.W.Frag) : L2.R2 := fun x y H Q => rIxL K x y H Q ∨ rIxT K x y H Q
theorem ix_eK {X : Cx} (K : PySem.W.Frag) (hK : X.K = K := by rfl) : IxR X (rIxE K) := fun value slice pins s σ H x y v u Q I rx ry h hs => h.elim (fun h => ix_listK K hK value slice pins s σ H x y v u Q I rx ry h hs) (fun h => ix_tupK K hK value slice pins s σ H x y v u Q I rx ry h hs)
section
variable {K : PySem.W.Frag} {σ : L2.St} {H : Hp} {ta tb te : TE} {p : Bool × List PyData} {i : Int} {a : PyData}
theorem p_lenE (h : EvP K te σ H (eE p)) : EvP K (tCB (rLen0 K) (tCons te tNil)) σ H (.int (p.2.length : Int)) := by
  obtain ⟨b, ds⟩ := p
  cases b with
  | true => exact p_lenL (EvP.s h)
  | false => exact p_lenT h
theorem p_ixE (ha : EvP K ta σ H (eE p)) (hb : EvP K tb σ H (.int i)) (hi : atI p.2 i = some a) : EvP K (tOp (rIxE K) ta tb) σ H a := by
  obtain ⟨b, ds⟩ := p
  cases b with
  | true => exact fun H1 x Q q => EvP.s ha H1 x _ fun a vs H2 x2 hs hd => hb H2 (x.trans x2) _ fun u H3 x3 d3 => .inl (by
      obtain ⟨v, h1, h2⟩ := atI_dr (hd.ex x3) hi
      exact ⟨a, vs, i, v, rfl, d3.of_int, ex_l x3 hs, h1, q v H3 (x2.trans x3) h2⟩)
  | false => exact fun H1 x Q q => ha H1 x _ fun v H2 x2 d2 => hb H2 (x.trans x2) _ fun u H3 x3 d3 => .inr (by
      obtain ⟨a, vs, rfl, hs, hd⟩ := Dr.of_tup d2
      obtain ⟨v, h1, h2⟩ := atI_dr (hd.ex x3) hi
      exact ⟨a, vs, i, v, rfl, d3.of_int, ex_t x3 hs, h1, q v H3 (x2.trans x3) h2⟩)
end
/-! isinstance(e, C) of an error of that very class, with a number in it -/
def rIsS (cls : Value) (a : Addr) : List V → Hp → VK → Prop := fun xs H Q => ∃ D : Addr, cls = .ref D ∧ xs = [.ref a, .ref D] ∧ Q (.bl true) H
theorem ans_same {h : Heap} {a : Addr} {oe : Obj} {D : Addr} (hx : h.get? a = some oe) (hc : oe.cls = .ref D) : Answers (fun s => s.heap.get? a = some oe) (.ref a) (.ref D) true := by
  intro dep tk prog w A R s hs
  obtain ⟨h0, g, d, tt, os⟩ := s
  obtain ⟨p, hq⟩ := hs
  have LT : PySem.W.Looks (model prog w) h0 (typeOf (.ref a)) (.ref D) := hc ▸ (PySem.W.Looks.ld p).andThen .now
  unfold Builtin.«isinstance.nested»
  refine wpAny_bind (LT.at ?_)
  have q : (Value.ref D == Value.ref D) = true := by simp
  rw [if_pos q]
  first
    | exact wpAny_bind (wpAny_rule (hq tt))
    | exact wpAny_bind (wpAny_rule (wpAny_pure (hq tt)))
theorem call_isS {X : Cx} {a : Addr} {cls : Value} {d : Option Addr} {oe : Obj} {pn : List (Addr × Obj)} (hz : Zc cls d oe) : CallR (X.suite a ((a, oe) :: pn)) (.builtin "isinstance") (rIsS cls a) := by
  intro pins s σ H xs us Q I r h
  obtain ⟨D, rfl, rfl, q⟩ := h
  cases r with
  | cons rx rr =>
    cases rr with
    | cons rt rr =>
      cases rr
      cases rx
      cases rt
      obtain ⟨hget, _⟩ := I.pin (a, oe) (List.mem_append.mpr (.inl List.mem_cons_self))
      exact call_isinstance (S := fun _ R s => s.heap.get? a = some oe ∧ ∀ tk, R (.ok (.ret (.bool true))) { s with toks := tk })
        (fun prog w A R s hs => isinstance_outer (ans_same hget hz.1 0 _ prog w A R s hs) (fun z => nomatch z)) ⟨hget, fun tk => ⟨.bl true, H, I.kept (t' := tk) fun _ _ z => z, rfl, q⟩⟩
theorem p_isS {K : PySem.W.Frag} {σ : L2.St} {H : Hp} {E : EnvD} {i : Nat} {a C : Addr} (S : Sl K H σ E) (hi : E[i]? = some (some (.raw (.ref a)))) : EvP K (tCB (rIsS (.ref C) a) (tCons (tVar i) (tCons (tC (.ref C)) tNil))) σ H (.bool true) := fun H1 x Q q =>
  ⟨.ref a, S.raw hi, C, rfl, rfl, q _ H1 (Ex.refl H1) Dr.bl⟩
/-! a set of ints, of which few differ -/
theorem dd_leC {α : Type} [DecidableEq α] : ∀ xs : List α, (dd xs).length ≤ xs.length
  | [] => Nat.le_refl _
  | x :: r => by
    have := dd_leC r
    unfold dd
    split <;> simp <;> omega
section
variable {K : PySem.W.Frag} {σ : L2.St} {H H0 : Hp} {E : EnvD} {α β : Type} {enc : α → PyData} {xs : List α} {ys : List β} {D : Addr} {Ct : Hp → List β → Prop} {lim : Nat} {bind : α → EnvD} {ts : List Nat}
def CtD (w : World) (D : Addr) : Hp → List Int → Prop := fun H zs => ∃ S n, H D = some (SetO w D S n) ∧ (∀ k, S k = true ↔ k ∈ zs) ∧ ∃ ms : List Int, ms.Nodup ∧ (∀ k, k ∈ ms ↔ k ∈ zs) ∧ n = ms.length
theorem CtD.s {w : World} {zs : List Int} (h : CtD w D H zs) : ∃ S n, H D = some (SetO w D S n) ∧ (∀ k, S k = true ↔ k ∈ zs) ∧ n ≤ zs.length := by
  obtain ⟨S, n, h1, h2, ms, m1, m2, m3⟩ := h
  refine ⟨S, n, h1, h2, ?_⟩
  rw [m3]
  have : ms.Perm (dd zs) := (List.perm_ext_iff_of_nodup m1 (dd_nodup zs)).mpr fun k => (m2 k).trans dd_mem.symm
  rw [this.length_eq]
  exact dd_leC zs
theorem ctD_ok {w : World} : CtOk D (CtD w D) := ⟨fun H H' zs e ⟨S, n, h1, h2⟩ => ⟨S, n, e _ _ h1, h2⟩, fun H zs ⟨S, n, h1, _⟩ => nc_set h1⟩
theorem in_setD {w : World} {te : TE} {y : Int} (h : EvP K te σ H (.int y)) : InOk (emS w te D) D (CtD w D) 4000 σ H [y] := fun zs ct hl Nx k => h H (Ex.refl H) _ fun v H1 x1 dr => by
  obtain ⟨_, _, _, _, h3⟩ := ct.s
  obtain ⟨S, n, h1, h2, ms, m1, m2, m3⟩ := ct
  have hl : zs.length + 1 ≤ 4000 := hl
  have hms : ms.length ≤ zs.length := by
    obtain ⟨S', n', g1, _, g3⟩ := (show CtD w D H zs from ⟨S, n, h1, h2, ms, m1, m2, m3⟩).s
    have : ms.Perm (dd zs) := (List.perm_ext_iff_of_nodup m1 (dd_nodup zs)).mpr fun k => (m2 k).trans dd_mem.symm
    rw [this.length_eq]
    exact dd_leC zs
  have hD := x1 _ _ h1
  have nim : im H1 D = none := im_none hD (fun _ z => nomatch z) fun _ _ z => nomatch z
  refine ⟨y, S, n, dr.of_int, hD, by unfold scanBound; omega, k _ ((Bt.of x1 (nc_set hD)).trans (Bt.put nim (nc_set hD) fun _ z => codeO_set z.symm)) ⟨_, _, upd_same, fun j => ?_, if S y then ms else ms ++ [y], ?_, fun j => ?_, ?_⟩⟩
  · simp only [Bool.or_eq_true, decide_eq_true_eq, List.mem_append, List.mem_singleton, h2]
  · split
    · exact m1
    · next hy =>
      refine List.nodup_append.mpr ⟨m1, by simp, fun a ha b hb e => ?_⟩
      rw [List.mem_singleton.mp hb] at e
      subst e
      exact hy ((h2 a).mpr ((m2 a).mp ha))
  · split
    · next hy =>
      rw [List.mem_append, m2, List.mem_singleton]
      exact ⟨.inl, fun z => z.elim id fun e => e ▸ (h2 y).mp hy⟩
    · rw [List.mem_append, List.mem_append, m2]
  · split <;> simp [m3]
/-- sorted({e for .. for .. ..}) -/
theorem n_sortScD {w : World} {c : Cls} {cs : List Cls} {te : TE} {vs : List Nat} {ys : List Int} (fn : α → Option (List Int)) (h : catO fn xs = some ys) (hl : ys.length < 4000) (hl2 : (setI ys).length < 64) (S : Sl K H σ E) (hi : ItE K c.wi σ H (xs.map enc)) (hg : ∀ x, Gd K c.g ts (enc x) (wipE E vs) (bind x)) (hts : ∀ t ∈ ts, t ∈ vs)
    (hb : ∀ x ∈ xs, ∀ r, fn x = some r → ∀ D σ' H', H D = none → Bt D H H' → Sl K H' σ' (bind x) → ∃ b, EvT c.tt σ' H' b ∧ (b = false → r = []) ∧ (b = true → ∀ H'', Ex H' H'' → InOk (tIn (emS w te D) cs) D (CtD w D) 4000 σ' H'' r)) :
    EvN K (tCB (rSortedSet w) (tCons (tScG w c cs te vs) tNil)) σ H ((setI ys).map .int) := fun H1 x1 Q q => hi H1 x1 _ fun J H2 x2 _ w' D hD => by
  have x12 := x1.trans x2
  have b0 : Bt D H2 (upd H2 D (SetO w D (fun _ => false) 0)) := Bt.new hD fun _ z => codeO_set z.symm
  refine loop_ok (H1 := upd H2 D (SetO w D (fun _ => false) 0)) (zs := []) (Ct := CtD w D) (lim := 4000) ctD_ok fn h ((S.ex x12).ex (Ex.new hD)) hg hts w' (fun Hc bt => (b0.trans bt).ex (Ex.refl _) hD) ⟨_, _, upd_same, fun k => by simp, [], .nil, fun k => Iff.rfl, rfl⟩ (by simp; omega) (fun x hm r hr σ' H' bt S' => ?_) fun Hd bt cd => ?_
  · exact hb x hm r hr D σ' H' (fresh_back x12 hD) (((Bt.of x12 (nc_none hD)).trans b0).trans bt) S'
  · obtain ⟨S1, n, h1, h2, ms, m1, m2, m3⟩ := cd
    have h3 : n < 64 := by
      rw [m3, ((List.perm_ext_iff_of_nodup m1 (dd_nodup ys)).mpr fun k => (m2 k).trans (by rw [List.nil_append]; exact dd_mem.symm)).length_eq]
      unfold setI at hl2
      rwa [sortI_length] at hl2
    have xd : Ex H1 Hd := (b0.trans bt).ex x2 (fresh_back x2 hD)
    rw [List.nil_append] at h2
    refine ⟨D, S1, n, rfl, h1, by omega, fun ms p a1 a2 _ hp => ?_⟩
    rw [setI_of a1 fun k => (a2 k).trans (h2 k)]
    exact q p _ _ (fresh_back xd hp) (xd.trans (Ex.new hp)) upd_same DrA.of_ints
end
theorem n_listRg1 {K : PySem.W.Frag} {σ : L2.St} {H : Hp} {ta : TE} {hi : Int} (ha : EvP K ta σ H (.int hi)) (h : rangeOk 0 hi = true) : EvN K (tLstRg (tRg1 ta)) σ H ((rangeL 0 hi).map .int) := fun H1 x Q q =>
  ha H1 x _ fun v H2 x2 d1 => ⟨hi, d1.of_int, rgOk_of h, fun p hp => q p _ _ (fresh_back x2 hp) (x2.trans (Ex.new hp)) upd_same (by rw [rgV_is]; exact DrA.of_ints)⟩
end Vx

/-! a dict of the module's own, from texts to ints, that nobody changes -/
namespace Vx
open PySem L2 PySem.Spec PyProof.Rows Evl RZ
variable [Tbs]
/-- the module's dict at d -/
def CDict (K : PySem.W.Frag) (w : World) (d : Addr) (kvs : List (Str × Int)) : Prop := ∃ (o : Obj) (es : Array DictEntry) (ep : Nat), K.lookup d = some o ∧ o.ExactDict ∧ o.data = .dict es ep ∧
  (∀ e ∈ es, ∃ k, Value.isStrOf k e.key = true ∧ e.hash = hashStr w k) ∧ ∀ s i, getA kvs s = some i → ∃ t, findBy Value.isStrOf es s = some (.int i t)
def rIxC (K : PySem.W.Frag) (w : World) : L2.R2 := fun x y H Q => ∃ d kvs s i, x = .ref d ∧ y = .str s ∧ CDict K w d kvs ∧ getA kvs s = some i ∧ Q (.int i) H
theorem ix_cdict {X : Cx} (K : PySem.W.Frag) (w : World) (hK : X.K = K := by rfl) (hw : X.w = w := by rfl) : IxR X (rIxC K w) := by
  subst hK hw
  intro value slice pins s σ H x y v u Q I rx ry h hs
  obtain ⟨d, kvs, z, i, rfl, rfl, ⟨o, es, ep, ho, he, hd, hk, hf⟩, hg, q⟩ := h
  cases rx
  obtain ⟨t, rfl⟩ := ry
  obtain ⟨t2, e2⟩ := hf z i hg
  have hm : s.heap.MapOf (strKind X.prog X.w) d (fun k => findBy Value.isStrOf es k) := ⟨o, es, ep, I.kIn d o ho, he, hd, hk, fun k => rfl⟩
  exact tail_any hm.typeIs slot_dict_getitem.lookup (wpAny_getItem_of (knd := strKind X.prog X.w) (strKind_is X.prog X.w z t) hm e2 ⟨.int i, H, I.tok _, ⟨_, rfl⟩, q⟩) hs
theorem p_ixC {K : PySem.W.Frag} {w : World} {σ : L2.St} {H : Hp} {tb : TE} {d : Addr} {kvs : List (Str × Int)} {s : Str} {i : Int} (c : CDict K w d kvs) (hg : getA kvs s = some i) (hb : EvP K tb σ H (.str s)) : EvP K (tOp (rIxC K w) (tC (.ref d)) tb) σ H (.int i) := fun H1 x Q q =>
  hb H1 x _ fun u H2 x2 d2 => ⟨d, kvs, s, i, rfl, by cases d2; rfl, c, hg, q _ H2 x2 .int⟩
/-- the facts of such a dict -/
theorem cdict_mk {K : PySem.W.Frag} {w : World} {d : Addr} {kvs : List (Str × Int)} {es : Array DictEntry} {ep : Nat} (hl : K.lookup d = some ⟨.type "dict", none, .dict es ep, #[]⟩)
    (hk : ∀ e ∈ es.toList, ∃ k, Value.isStrOf k e.key = true ∧ e.hash = PyData.keyHash w.params k) (hf : ∀ p ∈ kvs, ∃ t, findBy Value.isStrOf es p.1 = some (.int p.2 t)) : CDict K w d kvs :=
  ⟨_, es, ep, hl, ⟨rfl, rfl, rfl⟩, rfl, fun e he => hk e (Array.mem_toList_iff.mpr he), fun s i h => by
    unfold getA at h
    obtain ⟨p, h1, h2⟩ := Option.map_eq_some_iff.mp h
    have h3 := List.find?_some h1
    have h4 := of_decide_eq_true h3
    obtain ⟨t, ht⟩ := hf p (List.mem_of_find?_eq_some h1)
    exact ⟨t, by rw [← h4, ← h2]; exact ht⟩⟩
end Vx

/-! lists backwards: reversed(list), xs.reverse() -/
namespace Vx
open PySem L2 PySem.Spec PyProof.Rows Evl RZ
variable [Tbs]
section
variable {K : PySem.W.Frag} {σ : L2.St} {H H0 : Hp} {te : TE} {ds : List PyData} {a : Addr} {xs : List V} {D : Ends} {E : EnvD}
theorem walk_rl : Walk (Itv K a xs.length) xs.length (fun H => SqL K H a xs) (YAt xs.reverse) :=
  ⟨fun i _ hi q => ⟨hi, xs, xs[xs.length - 1 - i], q, by simp⟩, fun _ _ => Nat.le_refl _, fun i _ _ _ hi q y => ⟨y.1, by rw [List.getElem?_reverse hi]; exact y.2 xs q⟩⟩
theorem it_revT (h : EvP K te σ H (.tuple ds)) : ItD K H0 (RT.iRevA K te) σ H ds.reverse := fun H1 x R r => h H1 x _ fun v H2 x2 dr => by
  obtain ⟨a, vs, rfl, hs, hd⟩ := dr.of_tup'
  refine ⟨a, vs, rfl, .inr ⟨Evl.ex_t (ex_im H2) hs, r _ H2 x2 ?_⟩⟩
  have w0 : Walk (RT.ItvT K a vs.length) vs.reverse.length (fun Hx => Kp H2 Hx ∧ Ex H0 Hx) (YAt vs.reverse) := by
    rw [List.length_reverse]
    exact walk_rt.mono (fun Hx g => SqT.kp hs g.1) fun _ _ _ _ _ _ y => y
  exact yd_at w0 hd.reverse fun _ g => g.1
theorem it_revL (h : EvP K te σ H (.list ds)) : ItD K H0 (RT.iRevA K te) σ H ds.reverse := fun H1 x R r => h H1 x _ fun v H2 x2 dr => by
  obtain ⟨a, vs, rfl, _, hs, hd⟩ := dr.of_lst
  refine ⟨a, vs, rfl, .inl ⟨Evl.ex_l (ex_im H2) hs, r _ H2 x2 ?_⟩⟩
  have w0 : Walk (Itv K a vs.length) vs.reverse.length (fun Hx => Kp H2 Hx ∧ Ex H0 Hx) (YAt vs.reverse) := by
    rw [List.length_reverse]
    exact walk_rl.mono (fun Hx g => SqL.kp hs g.1) fun _ _ _ _ _ _ y => y
  exact yd_at w0 hd.reverse fun _ g => g.1
theorem qt_revT {α : Type} {f : α → PyData} {xs : List α} (h : EvP K te σ H (eT f xs)) : ItD K H0 (RT.iRevA K te) σ H (xs.reverse.map f) := by
  rw [List.map_reverse]
  exact it_revT h
theorem qt_revL {α : Type} {f : α → PyData} {xs : List α} (h : EvP K te σ H (.list (xs.map f))) : ItD K H0 (RT.iRevA K te) σ H (xs.reverse.map f) := by
  rw [List.map_reverse]
  exact it_revL h
theorem ie_revL (h : EvS K te σ H ds) : ItE K (iWf K (RT.iRevA K te)) σ H ds.reverse := fun H1 x R r => h H1 x _ fun a vs H2 x2 hs hd => by
  refine ⟨a, vs, rfl, .inl ⟨hs, fun w => r _ H2 x2 (by rw [List.length_reverse, ← hd.length]; exact w.1 _ _ hs) ?_⟩⟩
  have w0 : Walk (Itv K a vs.length) vs.reverse.length (fun Hx => Ex H2 Hx) (YAt vs.reverse) := by
    rw [List.length_reverse]
    exact walk_rl.mono (fun Hx g => ex_l g hs) fun _ _ _ _ _ _ y => y
  exact yd_at w0 hd.reverse fun _ g => Kp.of g
theorem qe_revL {α : Type} {f : α → PyData} {xs : List α} (h : EvS K te σ H (xs.map f)) : ItE K (iWf K (RT.iRevA K te)) σ H (xs.reverse.map f) := by
  rw [List.map_reverse]
  exact ie_revL h
/-- xs.reverse() -/
theorem s_rev {i : Nat} {l : Addr} (S : Sl K H σ E) (hi : E[i]? = some (some (.raw (.ref l)))) (o : Ow K H0 H l ds)
    (k : ∀ H1, Kp H H1 → Xb l H H1 → Ow K H0 H1 l ds.reverse → D.nx σ H1) : tDrop (tBM0 K "list" rReverse (tVar i)) D σ H := by
  obtain ⟨a, vs, b, c⟩ := o
  refine ⟨.ref l, S.raw hi, .inl ⟨rfl, vs, sq_of b⟩, ?_⟩
  refine ⟨l, vs, rfl, rfl, b, ?_⟩
  have kp : Kp H (upd H l (.lst vs.reverse)) := Kp.put (im_none b (fun _ z => nomatch z) fun _ _ z => nomatch z)
  exact k _ kp (Xb.mut (Ex.refl H) (nc_of b fun _ z => nomatch z)) ⟨a, _, upd_same, (c.kp kp).reverse⟩
/-- x = xs.pop() -/
theorem s_popS {i j : Nat} {l : Addr} {α : Type} {g : α → PyData} {xs ys : List α} {z : α} (S : Sl K H σ E) (hi : E[i]? = some (some (.raw (.ref l)))) (o : Ow K H0 H l (xs.map g)) (hp : popL xs = some (ys, z))
    (k : ∀ v H1, Kp H H1 → Xb l H H1 → Ow K H0 H1 l (ys.map g) → Dr K H1 v (g z) → D.nx (σ.set j (some v)) H1) : tAsg (tBM0 K "list" rPop (tVar i)) (gName j) D σ H := by
  have hx := popL_ok hp
  subst hx
  obtain ⟨a, vs, b, c⟩ := o
  rw [List.map_append] at c
  have hne : vs ≠ [] := fun e => by
    rw [e] at c
    have := c.length
    simp at this
  obtain ⟨us, u, rfl⟩ : ∃ us u, vs = us ++ [u] := ⟨vs.dropLast, vs.getLast hne, (List.dropLast_concat_getLast hne).symm⟩
  have kp : Kp H (upd H l (.lst us)) := Kp.put (im_none b (fun _ z => nomatch z) fun _ _ z => nomatch z)
  have e3 : us.length = (ys.map g).length := by
    have := c.length
    simpa using this
  have c2 : DrA K H us (ys.map g) := by
    have := DrA.take (ys.map g).length c
    rw [List.take_left, ← e3, List.take_left] at this
    exact this
  have c3 : Dr K H u (g z) := by
    obtain ⟨d, h1, h2⟩ := c.getV (show (us ++ [u])[us.length]? = some u from List.getElem?_concat_length)
    rw [e3] at h1
    have h3 : (ys.map g ++ List.map g [z])[(ys.map g).length]? = some (g z) := List.getElem?_concat_length
    rw [h3] at h1
    cases h1
    exact h2
  refine ⟨.ref l, S.raw hi, .inl ⟨rfl, _, sq_of b⟩, l, us ++ [u], u, rfl, rfl, b, by simp, ?_⟩
  rw [List.dropLast_concat]
  exact k u _ kp (Xb.mut (Ex.refl H) (nc_of b fun _ z => nomatch z)) ⟨a, us, upd_same, c2.kp kp⟩ (c3.kp kp)
end
end Vx

/-! xs[i] += c, a list of ints -/
namespace Vx
open PySem L2 PySem.Spec PyProof.Rows Evl RZ
variable [Tbs]
def rGetN (K : PySem.W.Frag) : V → V → Hp → VK → Prop := fun o i H Q => ∃ p xs k v, o = .ref p ∧ i = .int k ∧ SqL K H p xs ∧ 0 ≤ k ∧ xs[k.toNat]? = some v ∧ Q v H
theorem get_listN {X : Cx} (K : PySem.W.Frag) (hK : X.K = K := by rfl) : PGet X (rGetN K) := by
  subst hK
  intro pins s σ H o i ov iv Q I ro ri h
  obtain ⟨p, xs, k, z, rfl, rfl, hq, h0, hv, q⟩ := h
  cases ro
  obtain ⟨t, rfl⟩ := ri
  obtain ⟨its, r, pl, hz⟩ := I.list hq
  obtain ⟨w, ew, rw'⟩ := r.get hv
  have hl := (List.getElem?_eq_some_iff.mp ew).1
  have hl2 := r.length
  have hn := line63
  exact wpAny_getItem_list pl.isList h0 (by omega) (by simpa using ew) ⟨z, H, I, rw', q⟩
section
variable {K : PySem.W.Frag} {σ : L2.St} {H H0 : Hp} {tb te : TE} {E : EnvD} {D : Ends}
theorem s_augO {xs ys : List Int} {i : Nat} {l : Addr} {n x c : Int} (S : Sl K H σ E) (hi : E[i]? = some (some (.raw (.ref l)))) (o : Ow K H0 H l (xs.map PyData.int)) (hb : EvP K tb σ H (.int n)) (he : EvP K te σ H (.int c)) (h0 : 0 ≤ n) (hx : atI xs n = some x) (e : putL xs n (x + c) = some ys)
    (k : ∀ H1, Kp H H1 → Xb l H H1 → Ow K H0 H1 l (ys.map PyData.int) → D.nx σ H1) : tAugS (tVar i) tb te (rGetN K) (ipI fun i j => i + j) rSetL D σ H := by
  obtain ⟨a, vs, b, dr⟩ := o
  unfold putL at e
  cases hj : L2.ixN xs.length n with
  | none => rw [hj] at e; cases e
  | some j =>
    rw [hj] at e
    cases e
    have hjn : j = n.toNat := by
      unfold L2.ixN at hj
      rw [if_pos h0] at hj
      split at hj
      · cases hj; rfl
      · cases hj
    have hl : vs.length = xs.length := by rw [dr.length, List.length_map]
    have hx2 : xs[n.toNat]? = some x := by
      unfold atI at hx
      rw [hj] at hx
      rw [← hjn]; exact hx
    have hlt := (List.getElem?_eq_some_iff.mp hx2).1
    refine ⟨.ref l, S.raw hi, hb H (Ex.refl H) _ fun w H1 e1 d1 => ?_⟩
    have hb1 := e1 l _ b
    obtain ⟨d, h1, h2⟩ := dr.getV (List.getElem?_eq_getElem (by omega : n.toNat < vs.length))
    rw [List.getElem?_map, hx2] at h1
    cases h1
    have hv : vs[n.toNat]'(by omega) = .int x := h2.of_int
    refine ⟨l, vs, n, .int x, rfl, d1.of_int, sq_of hb1, h0, by rw [List.getElem?_eq_getElem (by omega : n.toNat < vs.length), hv], ?_⟩
    refine he H1 e1 _ fun u H2 e2 d2 => ⟨x, c, rfl, d2.of_int, ?_⟩
    have e3 := e1.trans e2
    have hb2 := e3 l _ b
    have kp : Kp H2 (upd H2 l (.lst (vs.set j (.int (x + c))))) := Kp.put (im_none hb2 (fun _ z => nomatch z) fun _ _ z => nomatch z)
    refine ⟨l, vs, n, j, rfl, d1.of_int, hb2, by rw [hl]; exact hj, k _ ((Kp.of e3).trans kp) (Xb.mut e3 (nc_of hb2 fun _ z => nomatch z)) ⟨a, vs.set j (.int (x + c)), upd_same, ?_⟩⟩
    rw [List.map_set]
    exact DrA.set ((dr.ex e3).kp kp) .int
end
/-! len(set(xs)), a list of ints -/
theorem dd_leN {α : Type} [DecidableEq α] (xs : List α) : (dd xs).length ≤ xs.length := by
  induction xs with
  | nil => exact Nat.le_refl _
  | cons x r ih =>
    unfold dd
    split
    · exact Nat.le_succ_of_le ih
    · exact Nat.succ_le_succ ih
theorem firstMet_ok (ns : List Int) : ∀ m, m ≤ ns.length → (PyProof.Rows.firstMet (fun i => ns.getD i 0) m).Nodup ∧ ∀ x, x ∈ PyProof.Rows.firstMet (fun i => ns.getD i 0) m ↔ x ∈ ns.take m
  | 0, _ => ⟨.nil, fun x => by simp [PyProof.Rows.firstMet]⟩
  | m + 1, h => by
    obtain ⟨h1, h2⟩ := firstMet_ok ns m (by omega)
    have e1 : ns.getD m 0 = ns[m]'(by omega) := by
      rw [List.getD_eq_getElem?_getD, List.getElem?_eq_getElem (by omega)]; rfl
    have e2 : ns.take (m + 1) = ns.take m ++ [ns[m]'(by omega)] := by
      rw [List.take_add_one, List.getElem?_eq_getElem (by omega)]; rfl
    rw [PyProof.Rows.firstMet_succ, e2]
    show (if (PyProof.Rows.firstMet (fun i => ns.getD i 0) m).any (· == ns.getD m 0) then PyProof.Rows.firstMet (fun i => ns.getD i 0) m else PyProof.Rows.firstMet (fun i => ns.getD i 0) m ++ [ns.getD m 0]).Nodup ∧ ∀ x, x ∈ (if (PyProof.Rows.firstMet (fun i => ns.getD i 0) m).any (· == ns.getD m 0) then PyProof.Rows.firstMet (fun i => ns.getD i 0) m else PyProof.Rows.firstMet (fun i => ns.getD i 0) m ++ [ns.getD m 0]) ↔ _
    rw [e1]
    generalize PyProof.Rows.firstMet (fun i => ns.getD i 0) m = L at h1 h2
    generalize ns[m]'(by omega) = y
    by_cases hy : y ∈ L
    · have hp : (L.any fun x => x == y) = true := List.any_eq_true.mpr ⟨y, hy, beq_self_eq_true y⟩
      rw [if_pos hp]
      refine ⟨h1, fun x => ?_⟩
      rw [h2, List.mem_append, List.mem_singleton]
      exact ⟨.inl, fun z => z.elim id fun e => e ▸ (h2 y).mp hy⟩
    · have hn : ¬ ((L.any fun x => x == y) = true) := fun z => by
        obtain ⟨u, hu, e⟩ := List.any_eq_true.mp z
        exact hy (eq_of_beq e ▸ hu)
      rw [if_neg hn]
      refine ⟨List.nodup_append.mpr ⟨h1, .cons (fun a ha => nomatch ha) .nil, fun a ha b hb hab => hy (by rw [List.mem_singleton.mp hb] at hab; rw [← hab]; exact ha)⟩, fun x => ?_⟩
      rw [List.mem_append, List.mem_append, h2]
theorem firstMet_len (ns : List Int) : (PyProof.Rows.firstMet (fun i => ns.getD i 0) ns.length).length = (dd ns).length := by
  obtain ⟨h1, h2⟩ := firstMet_ok ns ns.length (Nat.le_refl _)
  refine ((List.perm_ext_iff_of_nodup h1 (dd_nodup ns)).mpr fun x => ?_).length_eq
  rw [h2, List.take_length, dd_mem]
def tLenSetD (K : PySem.W.Frag) (ta : TE) : TE := fun σ H Q => ta σ H fun x H1 => ∃ (l : Addr) (ns : List Int), x = .ref l ∧ SqL K H1 l (ns.map V.int) ∧ ns.length ≤ 4000 ∧ Q (.int ((dd ns).length : Nat)) H1
theorem pe_lenSetD {X : Cx} {a : Expr} {ta : TE} {p p2 q pos : Pos} (K : PySem.W.Frag) (hg : Gl X "len") (hm : X.mg "len" = none) (hg2 : Gl X "set") (hm2 : X.mg "set" = none) (ha : PE X a ta) (hc : X.calm = true := by rfl) (hK : X.K = K := by rfl)
    (na : starEach [a] X.env = (false, eval a X.env) :: starEach [] X.env := by rfl) : PE X (.Call (.Name "len" p) [.Call (.Name "set" p2) [a] [] q] [] pos) (tLenSetD K ta) := by
  subst hK
  refine ⟨fun pins s σ H Q I h => ?_⟩
  refine Call_ (ld_blt I hg hm boot_len ?_)
  refine PyProof.Rows.callWith_builtin1 (PyProof.Rows.args_cons ?_ rfl) rfl rfl
  refine Call_ (ld_blt I hg2 hm2 boot_set ?_)
  refine PyProof.Rows.callWith_type1 (PyProof.Rows.args_cons (thn (ha.run pins s σ H _ I h) fun v s1 ⟨x, H1, I1, r1, q1⟩ => PyProof.Rows.args_nil ?_) na) na rfl
  obtain ⟨l, ns, rfl, hq, hl, q1⟩ := q1
  cases r1
  obtain ⟨its, r, pl, hz⟩ := I1.list hq
  have hlen : its.toArray.size = ns.length := by rw [List.size_toArray, ← r.length, List.length_map]
  refine call_set_list (I1.ok.hd hc) pl.isList (by simpa using intsAre_vals r) (by rw [hlen]; unfold scanBound; omega) fun h' tk hS hk => ?_
  refine PyProof.Rows.args_nil ?_
  rw [hlen, firstMet_len] at hS
  have hdl : (dd ns).length ≤ ns.length := dd_leN ns
  obtain ⟨o, es, ep, t, ho, hex, hd, _, _, _, hf, hn⟩ := hS
  have I2 : Inv X pins σ H1 { s1 with heap := h', toks := tk } := I1.kept fun b o e => hk b o (Heap.lt_size e) e
  exact call_len_set ho hex hd hf (by rw [hn] <;> omega) ⟨.int (dd ns).length, H1, I2.tok _, ⟨_, by rw [hn]⟩, q1⟩
theorem p_lenSetD {K : PySem.W.Frag} {σ : L2.St} {H : Hp} {te : TE} {ns : List Int} (h : EvS K te σ H (ns.map PyData.int)) (hl : ns.length ≤ 4000) : EvP K (tLenSetD K te) σ H (.int ((dd ns).length : Int)) := fun H1 x Q q => h H1 x _ fun l vs H2 x2 hs hd => by
  rw [hd.ints] at hs
  exact ⟨l, ns, rfl, hs, hl, q _ H2 x2 .int⟩
end Vx

/-! a method that changes its object, called within an expression -/
namespace Vx
open PySem L2 PySem.Spec PyProof.Rows Evl RZ
variable [Tbs]
section
variable {K : PySem.W.Frag} {σ : L2.St} {H : Hp} {tas : TA} {E : EnvD} {a : Addr} {C : Addr} {dx : Addr} {fs : List (Str × V)} {st st' : List (Str × Fv)} {m : Str} {as : List Ag} {n : Nat} {d : PyData} {j : Nat} {E' : XK}
theorem c_callO {Q : VK} {R : List (Str × Fv) → List Ag → List (Str × Fv) → Rt → Prop} (t0 : LamX.Tabs Tbs.l H) (S : Sl K H σ E) (hj : E[j]? = some (some (.raw (.ref a)))) (ho : H a = some (.ins C dx fs)) (hl : fs.lookup m = none) (hf : FoOk K H fs st) (nd : (lsOf fs st).Nodup)
    (h : EvG K tas σ H as) (hn : as.length = n) (hr : R st as st' (.d d)) (k : ∀ H1 v, Kp H H1 → XbS (lsOf fs st) H H1 → FoOk K H1 fs st' → Dr K H1 v d → Q v H1) :
    tMeth C m (SpO K C n R) [] E' (tVar j) tas σ H Q :=
  ⟨.ref a, S.raw hj, a, dx, fs, rfl, ho, hl, h H (Ex.refl H) _ fun vs H1 e1 ok => by
    show SpO K C n R (.ref a :: (vs ++ [])) H1 _ E'
    rw [List.append_nil]
    refine ⟨a, dx, fs, vs, st, st', as, .d d, rfl, hn, hr, ins_ex e1 ho, FoOk.ex e1 hf, nd, ok, tabs_ex e1 t0, fun H' kp bt hf' v dr => ?_⟩
    exact k H' v ((Kp.of e1).trans kp) (bt.pre e1) hf' dr⟩
end
end Vx

/-! methods called within expressions, with arguments that change lists; __init__ of a base class -/
namespace Vx
open PySem L2 PySem.Spec PyProof.Rows Evl RZ
/-- what of the class at B must hold for B.m(self, ..) -/
structure BaseM (K : PySem.W.Frag) (B : Addr) (m : Str) (f : Addr) : Prop where
  rd : PySem.W.readsIn K B (.type "type") = true
  ga : PySem.W.specialIn K (.ref B) "__getattribute__" = some (some (.builtin "type.__getattribute__"))
  at_ : PySem.W.findCls K (.ref B) (.type "type") m = some (.val (.ref f))
  kp : PySem.W.keepIn K (.ref f) = true
section
variable {X : Cx} {CX : CXT} {k : Nat} {f B : Addr} {fd : FuncData} {ps : List Str} {sp : Sp} {dvs : List V} {ds : List Value} {E : XK} {b m : Str} {p pos apos : Pos} {e o : Expr} {es : List Expr} {ta : TE} {t : TA}
theorem pe_base {pl : Sem Bool} (hg : Gl X b) (hm : X.mg b = some (.ref B)) (c : BaseM X.K B m f) (F : FnOk X.prog X.w X.K X.mg X.base CX k f fd ps sp) (hr : Room k X.A) (hb : Binds X.K fd ps ds) (hd : Vals dvs ds) (hx : Passes CX X E) (ha : PA X (e :: es) t)
    (hdb : (b == ("__debug__" : Str)) = false := by decide)
    (hst : starEach (e :: es) X.env = (false, eval e X.env) :: starEach es X.env := by rfl) (hpl : (backTo pos (starEach es X.env)).any (·.1) = false := by rfl)
    (ht : eval (.Call (.Attribute (.Name b p) m apos) (e :: es) [] pos) X.env = (do
      let ov ← eval (.Name b p) X.env
      standAt apos.atName
      let (f, first) ← holding [ov] (getMethod ov m pl)
      callWith pos f first (backTo pos (starEach (e :: es) X.env)) (backToKw pos (keywordEach [] X.env))) := by rfl) :
    PE X (.Call (.Attribute (.Name b p) m apos) (e :: es) [] pos) (tCall sp dvs E t) := by
  refine ⟨fun pins s σ H Q I h => ?_⟩
  refine PySem.W.methodCall_KW (pl := pl) (ld_glob I hg hm ?_ hdb) ht
  refine PySem.W.method_cls I.kIn c.ga ?_
  refine PySem.W.cls_value I.kIn c.rd c.at_ (by rfl) ?_
  refine PySem.W.callWith_K (first := []) (h₀ := X.base) I.ok.mod.kin c.kp (thn (ha.run pos pins _ σ H _ (I.tok _) h) fun us s2 ⟨vs, H2, I2, r, q2⟩ => ⟨I2.kIn, ?_⟩) hst hpl
  exact run_fn F hr hb hd hx I2 r q2
end
variable [Tbs]
section
variable {K : PySem.W.Frag} {σ : L2.St} {H : Hp} {tas : TA} {E : EnvD} {a : Addr} {C : Addr} {dx : Addr} {fs : List (Str × V)} {st st' : List (Str × Fv)} {m : Str} {as : List Ag} {n : Nat} {d : PyData} {j : Nat} {E' : XK} {D : Ends} {i : Nat}
theorem fa_go {ta : TA} {kA : V → TA} {c : TE} {Q : List V → Hp → Prop} (f : FstA ta kA c) (h : c σ H (fun v H' => kA v σ H' Q)) : ta σ H Q := f σ H Q h
theorem m_look {sp : Sp} {Q : VK} (S : Sl K H σ E) (hj : E[j]? = some (some (.raw (.ref a)))) (ho : H a = some (.ins C dx fs)) (hl : fs.lookup m = none)
    (h : tas σ H (fun vs H2 => sp (.ref a :: (vs ++ [])) H2 Q E')) : tMeth C m sp [] E' (tVar j) tas σ H Q := ⟨.ref a, S.raw hj, a, dx, fs, rfl, ho, hl, h⟩
theorem m_callO {Q : VK} {R : List (Str × Fv) → List Ag → List (Str × Fv) → Rt → Prop} (t0 : LamX.Tabs Tbs.l H) (ho : H a = some (.ins C dx fs)) (hf : FoOk K H fs st) (nd : (lsOf fs st).Nodup)
    (h : EvG K tas σ H as) (hn : as.length = n) (hr : R st as st' (.d d)) (k : ∀ H1 v, Kp H H1 → XbS (lsOf fs st) H H1 → FoOk K H1 fs st' → Dr K H1 v d → Q v H1) :
    tas σ H (fun vs H2 => SpO K C n R (.ref a :: (vs ++ [])) H2 Q E') := h H (Ex.refl H) _ fun vs H1 e1 ok => by
    rw [List.append_nil]
    refine ⟨a, dx, fs, vs, st, st', as, .d d, rfl, hn, hr, ins_ex e1 ho, FoOk.ex e1 hf, nd, ok, tabs_ex e1 t0, fun H' kp bt hf' v dr => ?_⟩
    exact k H' v ((Kp.of e1).trans kp) (bt.pre e1) hf' dr
theorem m_callR {Q : VK} {R : List Ag → Rt → Prop} (t0 : LamX.Tabs Tbs.l H) (ho : H a = some (.ins C dx fs)) (hf : FrOk K H fs st) (h : EvG K tas σ H as) (hn : as.length + 1 = n) (hr : R (.o C st :: as) (.d d)) (k : ∀ H1 v, Ex H H1 → Dr K H1 v d → Q v H1) :
    tas σ H (fun vs H2 => SpR K n R (.ref a :: (vs ++ [])) H2 Q E') := h H (Ex.refl H) _ fun vs H2 e2 d2 => by
    rw [List.append_nil]
    exact ⟨.o C st :: as, .d d, hn, hr, .cons (AgOk.ex (a := .o C st) e2 ⟨a, dx, fs, rfl, ho, hf⟩) d2, tabs_ex e2 t0, fun v H3 x3 d3 => k H3 v (e2.trans x3) d3⟩
/-- B.__init__(self, ..) -/
theorem s_baseI {R : List Ag → List (Str × Fv) → Prop} (t0 : LamX.Tabs Tbs.l H) (S : Sl K H σ E) (hi : E[i]? = some (some (.raw (.ref a)))) (ho : H a = some (.ins C dx [])) (h : EvG K tas σ H as) (hn : as.length = n) (hr : R as st)
    (k : ∀ H1 fs, Kp H H1 → Xb a H H1 → H1 a = some (.ins C dx fs) → FwOk K H H1 fs st → (lsOf fs st).Nodup → D.nx σ H1) :
    tDrop (tCall (SpI K C n R) [] E' (tCons (tVar i) tas)) D σ H := ⟨.ref a, S.raw hi, h H (Ex.refl H) _ fun vs H1 e1 ok => by
    show SpI K C n R (.ref a :: vs ++ []) H1 _ E'
    rw [List.append_nil]
    refine ⟨a, dx, vs, st, as, rfl, hn, hr, ins_ex e1 ho, ok, tabs_ex e1 t0, fun H' fs kp bt hx' hf nd => ?_⟩
    exact k H' fs ((Kp.of e1).trans kp) ((Xb.of e1).trans (nc_ins (ins_ex e1 ho)) bt) hx' (hf.back e1) nd⟩
end
/-! a, b = x, y and a, b, c = x, y, z -/
section
variable {K : PySem.W.Frag} {σ : L2.St} {H : Hp} {tas : TA} {d e g : PyData} {D : Ends} {i j l : Nat}
theorem s_par (h : EvAs K tas σ H [d, e]) (k : ∀ H1 v w, Ex H H1 → Dr K H1 v d → Dr K H1 w e → D.nx ((σ.set i (some v)).set j (some w)) H1) : tPar i j tas D σ H := h H (Ex.refl H) _ fun vs H1 e1 dr => by
  cases dr with
  | cons a r =>
    cases r with
    | cons b r =>
      cases r
      exact ⟨_, _, rfl, k H1 _ _ e1 a b⟩
theorem s_par3 (h : EvAs K tas σ H [d, e, g]) (k : ∀ H1 v w u, Ex H H1 → Dr K H1 v d → Dr K H1 w e → Dr K H1 u g → D.nx (((σ.set i (some v)).set j (some w)).set l (some u)) H1) : tPar3 i j l tas D σ H := h H (Ex.refl H) _ fun vs H1 e1 dr => by
  cases dr with
  | cons a r =>
    cases r with
    | cons b r =>
      cases r with
      | cons c r =>
        cases r
        exact ⟨_, _, _, rfl, k H1 _ _ _ e1 a b c⟩
end
end Vx

/-! dict comprehensions whose keys are tuples of ints -/
namespace Vx
open PySem L2 PySem.Spec PyProof.Rows Evl RZ
variable [Tbs]
section
variable {X : Cx} {kx vx t i : Expr} {ifs : List Expr} {gens : List Comprehension} {scope : Scope} {pos : Pos} {it : Value} {env : Env} {k : Nat}
/-- what is done with an item: the key, the value, the store -/
def whatD (kx vx : Expr) : Value → Env → Sem Unit
  | .ref D, env => do let kv ← eval kx env; let vv ← holding [kv] (eval vx env); standAt { kx.pos with endLine := vx.pos.endLine, endCol := vx.pos.endCol }; holding [kv, vv] (dictSet D kv vv)
  | _, _ => pure ()
theorem lastD {D : Addr} (h0 : gens[k]? = some ⟨t, i, ifs, 0⟩) (h1 : gens[k + 1]? = none) : compTurn (.DictComp kx vx gens scope pos) k it (.ref D) env = turnL it t i ifs env (whatD kx vx (.ref D) env) (.compLoop (.DictComp kx vx gens scope pos) k it (.ref D) env) := by
  unfold compTurn turnL whatD
  simp only [h0, h1]
  rfl
theorem dt_put_ok {pins : List (Addr × Obj)} {σ : L2.St} {H : Hp} {s : Shared} {E : Value → Shared → Prop} {D b : Addr} {kvs : List (List Key × V)} {ks : List Key} {v : V} {r : Value} {Q : Unit → Shared → Prop} (hu : X.A.units < cLine) (I : Inv X pins σ H s) (hD : H D = some (.dT kvs)) (hb : H b = some (.tup (ks.map kV)))
    (hz : kvs.length < sizeLine) (rv : RelV v r) (h : ∀ s', Inv X pins σ (upd H D (.dT (putK kvs ks v))) s' → Q () s') : wpAny (model X.prog X.w) X.A (dictSet D (.ref b) r) Q E s := by
  obtain ⟨z, hd, xs, rel, dd⟩ := dt_of I.hok hD
  have len : xs.length ≤ sizeLine := (Paired.length rel) ▸ z
  have len2 : (putK kvs ks v).length ≤ sizeLine := Nat.le_trans (length_putK kvs ks v) hz
  refine wpAny_dictSet_heap (hsz := len) (knd := tupleKind (mixKind X.prog X.w)) hu (key_of I.hok hb) dd fun h' d2 sb => h _ ?_
  obtain ⟨o, es, ep, ho, p2, p3, p4, _, p5⟩ := d2
  have keep : ∀ (c : Addr) (ys : List V), H c = some (.tup ys) → upd H D (.dT (putK kvs ks v)) c = some (.tup ys) := fun c ys hc => by
    rw [upd_ne (fun e => by rw [e, hD] at hc; cases hc)]
    exact hc
  exact d_write I (by rw [hD]; trivial) sb ⟨o, ho⟩ ⟨len2, hd, _, (rel.put ks hb rv).keeps keep, o, es, ep, ho, p2, p3, p4, p5⟩
def emD (tk tv : TE) (D : Addr) : TIn := fun σ H Nx => tk σ H fun y H1 => tv σ H1 fun z H2 => ∃ kvs ks b, y = .ref b ∧ H2 D = some (.dT kvs) ∧ H2 b = some (.tup (ks.map kV)) ∧ kvs.length < sizeLine ∧ Nx (upd H2 D (.dT (putK kvs ks z)))
def tDcT (c : Cls) (tk tv : TE) (vs : List Nat) : TE := fun σ H Q => c.wi σ H fun J H1 => ∀ D, H1 D = none → tLoop c (emD tk tv D) J σ vs (upd H1 D (.dT [])) (Q (.ref D))
theorem emD_ok {tk tv : TE} {D : Addr} (hu : X.A.units < cLine) (hk : BlkR X scope fun Y => PE Y kx tk) (hv : BlkR X scope fun Y => PE Y vx tv) : BlkR X scope fun Y => ∀ pins σ H s Nx (F : Shared → Prop), Inv Y pins σ H s → emD tk tv D σ H Nx → (∀ s' H', Inv Y pins σ H' s' → Nx H' → F s') →
    wpAny (model Y.prog Y.w) Y.A (whatD kx vx (.ref D) Y.env) (fun _ s' => F s') (fun _ _ => False) s := fun s0 H0 C cl fp pins σ H s Nx F I h fin => by
  refine wpAny_bind (thnF ((hk s0 H0 C cl fp).run pins s σ H _ I h) fun kv s1 ⟨y, H1, I1, ry, h1⟩ => ?_)
  refine wpAny_bind (wpAny_holding (thnF ((hv s0 H0 C cl fp).run pins s1 σ H1 _ I1 h1) fun vv s2 ⟨z, H2, I2, rz, kvs, ks, b, ey, hD, hb, hz, nx⟩ => ?_))
  subst ey
  obtain rfl : kv = Value.ref b := ry
  exact wpAny_bind (wpAny_standAt (wpAny_holding (dt_put_ok (X := X.blk s0 H0 scope (compEnvC scope cl C X.env) fp) hu I2 hD hb hz rz fun s3 I3 => fin s3 _ I3 nx)))
/-- {k: v for target in iter if ..} -/
theorem pe_dcT {c : Cls} {own : List (Str × Nat)} {tk tv : TE} (hu : X.A.units + 1 < cLine) (hc : X.calm = true) (hN : X.N.Nodup) (hi : PI X c.tg c.iter c.wi) (ok : BlkOk X.N X.env.scope scope own)
    (hg : BlkR X scope fun Y => PG Y c.tg c.g) (ht : BlkR X scope fun Y => PTs Y c.ifs c.tt) (hk : BlkR X scope fun Y => PE Y kx tk) (hv : BlkR X scope fun Y => PE Y vx tv) (hs : ∀ x, foldedSetIterable c.iter X.env x = pure x := by intro _; rfl) :
    PE X (.DictComp kx vx [c.gen] scope pos) (tDcT c tk tv (own.map (·.2))) := by
  refine ⟨fun pins s σ H Q I h => ?_⟩
  rw [arm_eval_DictComp]
  have one : ∀ {n : Nat} {g g' : Comprehension}, ([c].map Cls.gen)[n]? = some g → ([c].map Cls.gen)[n + 1]? ≠ some g' := fun {n g g'} h h' => by
    have := (List.getElem?_eq_some_iff.mp h').1
    simp at this
  refine outerG (cs := []) (elt := kx) (pos := pos) (o := fun _ => .dT []) (ob := { cls := .type "dict", data := .dict #[] }) (em := emD tk tv) (what := whatD kx vx) hc hN I (.inr (.inr ⟨vx, rfl⟩)) hi ok hg ht (fun _ _ _ _ _ => trivial) trivial hs
    (fun n t i ifs it a env => lastD) (fun n t i ifs t1 i1 ifs1 it a env h0 h1 => absurd h1 (one h0)) (fun s2 Q q => wpAny_newObj_type q) (fun H' h hb => dt_empty h hb) (fun D => emD_ok (Nat.lt_of_succ_lt hu) hk hv) h fun D C s' m H' I' q hn f => ⟨m, hn, fun h'' sb => ?_⟩
  obtain ⟨f0, f1, f2, f3, f4, f5⟩ := f
  exact ⟨.ref D, H', I'.turned (t' := s'.toks) (fun b o hb e => (sb.2 b hb).trans e) f0 f1 f3 f4 f5, rfl, q⟩
end
/-! what such a comprehension makes -/
def putO {α ω : Type} (fn : α → Option (List Int × ω)) : List (List Int × ω) → List α → Option (List (List Int × ω))
  | acc, [] => some acc
  | acc, x :: xs => (fn x).bind fun p => putO fn (putA acc p.1 p.2) xs
theorem putO_snoc {α ω : Type} {fn : α → Option (List Int × ω)} : ∀ {xs : List α} {acc r : List (List Int × ω)} {x : α}, putO fn acc (xs ++ [x]) = some r → ∃ r0 p, putO fn acc xs = some r0 ∧ fn x = some p ∧ r = putA r0 p.1 p.2
  | [], acc, r, x, h => by
    obtain ⟨p, h1, h⟩ := bind_some h
    cases h
    exact ⟨acc, p, rfl, h1, rfl⟩
  | a :: xs, acc, r, x, h => by
    obtain ⟨p, h1, h⟩ := bind_some h
    obtain ⟨r0, q, h2, h3, h4⟩ := putO_snoc h
    exact ⟨r0, q, by simp only [putO, h1, Option.bind_some, h2], h3, h4⟩
theorem putO_take {α ω : Type} {fn : α → Option (List Int × ω)} : ∀ {xs : List α} {acc r : List (List Int × ω)} (n : Nat), putO fn acc xs = some r → ∃ r', putO fn acc (xs.take n) = some r'
  | xs, acc, r, 0, _ => ⟨acc, by rw [List.take_zero]; rfl⟩
  | [], acc, r, n + 1, _ => ⟨acc, rfl⟩
  | a :: xs, acc, r, n + 1, h => by
    obtain ⟨p, h1, h⟩ := bind_some h
    obtain ⟨r', h2⟩ := putO_take n h
    exact ⟨r', by simp only [List.take_succ_cons, putO, h1, Option.bind_some, h2]⟩
theorem putO_len {α ω : Type} {fn : α → Option (List Int × ω)} : ∀ {xs : List α} {acc r : List (List Int × ω)}, putO fn acc xs = some r → r.length ≤ acc.length + xs.length
  | [], acc, r, h => by cases h; simp
  | a :: xs, acc, r, h => by
    obtain ⟨p, h1, h⟩ := bind_some h
    have h2 := putO_len h
    have h3 := putA_length acc p.1 p.2
    rw [List.length_cons]
    omega
def EvDT (K : PySem.W.Frag) (te : TE) (σ : L2.St) (H : Hp) (kvs : List (List Int × PyData)) : Prop := ∀ H1, Ex H H1 → ∀ Q : VK, (∀ p ks H2, H1 p = none → Ex H1 H2 → H2 p = some (.dT ks) → DcT K H2 ks kvs → Q (.ref p) H2) → te σ H1 Q
section
variable {K : PySem.W.Frag} {σ : L2.St} {H H0 : Hp} {te tk tv : TE} {E : EnvD} {D : Ends} {kvs : List (List Int × PyData)}
theorem s_setDT {i : Nat} (h : EvDT K te σ H kvs) (e0 : Ex H0 H) (k : ∀ l H1, Ex H H1 → H l = none → OwT K H0 H1 l kvs → D.nx (σ.set i (some (.ref l))) H1) : tAsg te (gName i) D σ H :=
  h H (Ex.refl H) _ fun p ks H1 hp e h1 d => k p H1 e hp ⟨fresh_back e0 hp, ks, h1, d⟩
theorem n_dcT {α ω : Type} {c : Cls} {xs : List α} {enc : α → PyData} {encv : ω → PyData} {ts vs : List Nat} {bind : α → EnvD} {r : List (List Int × ω)} (hct : c.tt = tYes) (fn : α → Option (List Int × ω)) (hr : putO fn [] xs = some r)
    (S : Sl K H σ E) (hi : ItE K c.wi σ H (xs.map enc)) (hg : ∀ x, Gd K c.g ts (enc x) (wipE E vs) (bind x)) (hts : ∀ t ∈ ts, t ∈ vs)
    (hb : ∀ x ∈ xs, ∀ p, fn x = some p → ∀ σ' H', Ex H H' → Sl K H' σ' (bind x) → EvP K tk σ' H' (eT eI p.1) ∧ EvP K tv σ' H' (encv p.2)) :
    EvDT K (tDcT c tk tv vs) σ H (r.map fun p => (p.1, encv p.2)) := fun H1 x1 Q q => hi H1 x1 _ fun J H2 x2 hl w D hD => by
  rw [List.length_map] at hl
  have S2 := S.ex (x1.trans x2)
  refine ⟨fun i m Hc => m = (xs.map enc).length - i ∧ i ≤ (xs.map enc).length ∧ ∃ ks rr, putO fn [] (xs.take i) = some rr ∧ Ex H2 Hc ∧ Hc D = some (.dT ks) ∧ DcT K Hc ks (rr.map fun p => (p.1, encv p.2)), ⟨_, rfl, Nat.zero_le _, [], [], by rw [List.take_zero]; rfl, Ex.new hD, upd_same, .nil⟩, fun i m Hc hp => ?_⟩
  obtain ⟨rfl, hi', ks, rr, p1, p2, p3, p4⟩ := hp
  by_cases hlt : i < (xs.map enc).length
  · refine .inr ⟨w.goes i Hc hlt p2, fun H' => ∃ ks rr, putO fn [] (xs.take (i + 1)) = some rr ∧ Ex H2 H' ∧ H' D = some (.dT ks) ∧ DcT K H' ks (rr.map fun p => (p.1, encv p.2)), fun H' p' => ⟨_, by omega, rfl, hlt, p'⟩, fun x Hc' y => ?_⟩
    obtain ⟨y1, d, y2, y3⟩ := w.yields i Hc x Hc' hlt p2 y
    have hin : i < xs.length := by simpa using hlt
    have e1 : xs[i]? = some xs[i] := List.getElem?_eq_getElem hin
    rw [List.getElem?_map, e1] at y2
    cases y2
    have e3 : xs.take (i + 1) = xs.take i ++ [xs[i]] := by rw [List.take_add_one, e1]; rfl
    obtain ⟨r1, hr1⟩ := putO_take (i + 1) hr
    obtain ⟨r0, p, g1, g2, g3⟩ := putO_snoc (e3 ▸ hr1)
    rw [p1] at g1
    cases g1
    have S3 : Sl K Hc' (wipe σ vs) (wipE E vs) := (S2.ex (p2.trans y1)).wipe vs
    refine hg _ (wipe σ vs) Hc' x S3 y3 _ fun σ' sb S4 => ⟨sb.wipe hts, ?_⟩
    obtain ⟨t1, t2⟩ := hb xs[i] (List.getElem_mem hin) p g2 σ' Hc' (((x1.trans x2).trans p2).trans y1) S4
    rw [hct]
    refine t_yes Hc' (Ex.refl _) _ fun Hd x3 => ?_
    show tk σ' Hd _
    refine t1 Hd x3 _ fun vk H4 x4 dk => t2 H4 (x3.trans x4) _ fun vv H5 x5 dv => ?_
    obtain ⟨b, ws, rfl, hq, hd⟩ := dk.of_tupE
    rw [hd.ints] at hq
    have hq' : H5 b = some (.tup ((p.1.map (Sum.inl : Int → Key)).map kV)) := by rw [kV_ints]; exact x5 b _ hq
    have hD5 : H5 D = some (.dT ks) := x5 D _ (x4 D _ (x3 D _ (y1 D _ p3)))
    have hlen := putO_len p1
    rw [List.length_take, List.length_nil] at hlen
    have hls : ks.length < sizeLine := by
      rw [Paired.length p4, List.length_map]
      omega
    refine ⟨ks, p.1.map Sum.inl, b, rfl, hD5, hq', hls, _, _, hr1, Ex.mut ((((p2.trans y1).trans x3).trans x4).trans x5) hD (nc_of hD5 fun _ z => nomatch z), upd_same, ?_⟩
    have k : Kp H5 (upd H5 D (.dT (putK ks (p.1.map Sum.inl) vv))) := Kp.put (im_none hD5 (fun _ z => nomatch z) fun _ _ z => nomatch z)
    rw [g3, putA_map]
    exact (dct_put (p4.kp (Kp.of (((y1.trans x3).trans x4).trans x5))) p.1 dv).kp k
  · have e : i = (xs.map enc).length := by omega
    subst e
    refine .inl ⟨w.stops Hc p2, ?_⟩
    rw [List.length_map, List.take_length, hr] at p1
    cases p1
    exact q D ks Hc (fresh_back x2 hD) (x2.trans p2) p3 p4
end
end Vx

/-! dicts with tuples as keys, frozen: data -/
namespace Vx
open PySem L2 PySem.Spec PyProof.Rows Evl RZ
variable [Tbs]
/-- a dict that is not changed any more -/
def eFD {α : Type} (f : α → PyData) (kvs : List (List Int × α)) : PyData := .dict ((.bool true, .none) :: kvs.map fun p => (PyData.tuple (p.1.map PyData.int), f p.2))
theorem inv_freezeT {X : Cx} {pins : List (Addr × Obj)} {σ : L2.St} {H : Hp} {s : Shared} {a : Addr} {ks : List (List Key × V)} (I : Inv X pins σ H s) (h : H a = some (.dT ks)) : ∃ o, Inv X pins σ (upd H a (.frz o (.dT ks))) s := by
  have hb : ObjOk X.prog X.w H s.heap a (.dT ks) := I.hok a _ h
  obtain ⟨_, _, vs, _, o, _, _, e, _⟩ := id hb
  have hne : ∀ b u, H b = some u → u ≠ .dT ks → b ≠ a := fun b u q nq z => by
    subst z
    rw [h] at q
    cases q
    exact nq rfl
  refine ⟨o, I.un (h' := s.heap) (t' := s.toks) (H' := upd H a (HO.frz o (.dT ks))) ?_ ?_⟩
  · refine ⟨fun b o q _ _ _ => q, fun b o q _ _ _ => ⟨o.slots, q⟩, fun b o q n _ => ?_, fun b o q _ => ⟨o, q⟩, fun b ys q => ?_, fun b o u q => ?_, fun b ps q => ⟨#[], ?_⟩⟩
    · rw [upd_ne (fun z => by subst z; rw [h] at n; cases n)]
      exact n
    · rw [upd_ne (hne b _ q fun z => nomatch z)]
      exact q
    · rw [upd_ne (hne b _ q fun z => nomatch z)]
      exact q
    · rw [upd_ne (hne b _ q fun z => nomatch z), q]
      simp
  · intro b u q
    have st : ∀ c w, H c = some w → w ≠ .dT ks → upd H a (HO.frz o (.dT ks)) c = some w := fun c w q n => by
      rw [upd_ne (hne c _ q n)]
      exact q
    by_cases hb2 : b = a
    · subst hb2
      rw [upd_same] at q
      cases q
      exact ⟨e, hb.stay (fun c v _ q => q) (fun c q => st c _ q fun z => nomatch z) fun c ys q => st c _ q fun z => nomatch z⟩
    · rw [upd_ne hb2] at q
      exact (I.hok b u q).stay (fun c v _ q => q) (fun c q => st c _ q fun z => nomatch z) fun c ys q => st c _ q fun z => nomatch z
/-- a fresh dict is frozen -/
def tFzT (te : TE) : TE := fun σ H Q => te σ H fun v H1 => ∃ a ks, v = .ref a ∧ H1 a = some (.dT ks) ∧ ∀ o, Q v (upd H1 a (.frz o (.dT ks)))
theorem pe_fzT {X : Cx} {e : Expr} {te : TE} (h : PE X e te) : PE X e (tFzT te) := by
  refine ⟨fun pins s σ H Q I hq => ?_⟩
  refine thn (h.run pins s σ H _ I hq) fun v s1 ⟨x, H1, I1, r1, q1⟩ => ?_
  obtain ⟨a, ks, rfl, ha, q⟩ := q1
  obtain ⟨o, I2⟩ := inv_freezeT I1 ha
  exact ⟨_, _, I2, r1, q o⟩
/-- the dict in the slot i is frozen from here on -/
def tFzST (i : Nat) (t : TS) : TS := fun D σ H => ∃ a ks, σ[i]? = some (some (.ref a)) ∧ H a = some (.dT ks) ∧ ∀ o, t D σ (upd H a (.frz o (.dT ks)))
theorem pss_fzT {X : Cx} {st : List Stmt} {t : TS} (i : Nat) (h : PSs X st t) : PSs X st (tFzST i t) := by
  refine ⟨fun pins s σ H D I hq => ?_⟩
  obtain ⟨a, xs, _, ha, q⟩ := hq
  obtain ⟨o, I2⟩ := inv_freezeT I ha
  exact h.run pins s σ _ D I2 (q o)
theorem tup_inj {a b : List Int} (h : PyData.tuple (a.map PyData.int) = PyData.tuple (b.map PyData.int)) : a = b := by
  injection h with h
  exact List.map_inj_right (fun x y e => by injection e) |>.mp h
theorem fd_pair {K : PySem.W.Frag} {H : Hp} : ∀ {kvs : List (List Key × V)} {ks : List (List Int)} {ds : List PyData} {xs : List (List Int × PyData)}, (ks.zip ds).map (fun p => (PyData.tuple (p.1.map PyData.int), p.2)) = xs.map (fun p => (PyData.tuple (p.1.map PyData.int), p.2)) → kvs.map (·.1) = ks.map (List.map Sum.inl) → ks.length = ds.length → DqAll K H (kvs.map (·.2)) ds →
    Paired (fun p q => p.1 = q.1.map Sum.inl ∧ Dq K H p.2 q.2) kvs xs
  | [], [], [], [], _, _, _, _ => .nil
  | p :: kvs, k :: ks, d :: ds, x :: xs, h1, h2, h3, h4 => by
    rw [List.zip_cons_cons, List.map_cons, List.map_cons, List.cons.injEq, Prod.mk.injEq] at h1
    rw [List.map_cons, List.map_cons, List.cons.injEq] at h2
    have h5 := tup_inj h1.1.1
    cases h4 with
    | cons a b =>
      refine .cons ⟨by rw [h2.1, ← h5], ?_⟩ (fd_pair h1.2 h2.2 (by simpa using h3) b)
      rw [← h1.1.2]
      exact a
  | [], [], [], _ :: _, h1, _, _, _ => nomatch h1
  | [], [], _ :: _, _, _, _, h3, _ => nomatch h3
  | [], _ :: _, _, _, _, h2, _, _ => nomatch h2
  | _ :: _, [], _, _, _, h2, _, _ => nomatch h2
  | _ :: _, _ :: _, [], _, _, _, h3, _ => nomatch h3
  | _ :: _, _ :: _, _ :: _, [], h1, _, _, _ => nomatch h1
theorem pair_fd {K : PySem.W.Frag} {H : Hp} : ∀ {kvs : List (List Key × V)} {xs : List (List Int × PyData)}, Paired (fun p q => p.1 = q.1.map Sum.inl ∧ Dq K H p.2 q.2) kvs xs → kvs.map (·.1) = (xs.map (·.1)).map (List.map Sum.inl) ∧ DqAll K H (kvs.map (·.2)) (xs.map (·.2))
  | _, _, .nil => ⟨rfl, .nil⟩
  | _, _, .cons a b => by
    obtain ⟨h1, h2⟩ := pair_fd b
    exact ⟨by rw [List.map_cons, List.map_cons, List.map_cons, h1, a.1], .cons a.2 h2⟩
section
variable {K : PySem.W.Frag} {σ : L2.St} {H H0 : Hp} {te ta tb tk td : TE} {E : EnvD} {D : Ends} {α : Type} {f : α → PyData} {kvs : List (List Int × α)} {l : Addr} {n : List Int}
theorem zip_fst_snd {β γ : Type} : ∀ (xs : List (β × γ)), (xs.map (·.1)).zip (xs.map (·.2)) = xs
  | [] => rfl
  | x :: xs => by rw [List.map_cons, List.map_cons, List.zip_cons_cons, zip_fst_snd xs]
theorem dr_fd {o : Obj} {ks : List (List Key × V)} (h : H l = some (.frz o (.dT ks))) (d : DcT K H ks (kvs.map fun p => (p.1, f p.2))) : Dr K H (.ref l) (eFD f kvs) := by
  obtain ⟨h1, h2⟩ := pair_fd (K := K) (H := im H) d
  refine Dq.fdt (im_frz h) (ks := (kvs.map fun p => (p.1, f p.2)).map (·.1)) (ds := (kvs.map fun p => (p.1, f p.2)).map (·.2)) ?_ h1 (by simp) h2
  rw [zip_fst_snd, List.map_map]
  rfl
theorem Dr.of_fd {v : V} (h : Dr K H v (eFD f kvs)) : ∃ a o ks, v = .ref a ∧ H a = some (.frz o (.dT ks)) ∧ DcT K H ks (kvs.map fun p => (p.1, f p.2)) := by
  have h : Dq K (im H) v (.dict ((.bool true, .none) :: kvs.map fun p => (PyData.tuple (p.1.map PyData.int), f p.2))) := h
  cases h with
  | fdt h1 h2 h3 h4 h5 =>
    refine ⟨_, _, _, rfl, ex_im H _ _ h1, fd_pair (K := K) (H := im H) ?_ h3 h4 h5⟩
    injection h2 with _ h2
    rw [← h2, List.map_map]
    rfl
theorem EvDT.p (h : EvDT K te σ H (kvs.map fun p => (p.1, f p.2))) : EvP K (tFzT te) σ H (eFD f kvs) := fun H1 x Q q => h H1 x _ fun p ks H2 hp x2 h2 d => ⟨p, ks, rfl, h2, fun o => by
  have kp : Kp H2 (upd H2 p (.frz o (.dT ks))) := Kp.put (im_none h2 (fun _ z => nomatch z) fun _ _ z => nomatch z)
  exact q _ _ (Ex.mut x2 hp (nc_of h2 fun _ z => nomatch z)) (dr_fd upd_same (d.kp kp))⟩
theorem s_fzT {i : Nat} {tu : TS} (S : Sl K H σ E) (hi : E[i]? = some (some (.raw (.ref l)))) (o : OwT K H0 H l (kvs.map fun p => (p.1, f p.2)))
    (k : ∀ H1, Kp H H1 → Xb l H H1 → Sl K H1 σ (E.set i (some (.dat (eFD f kvs)))) → tu D σ H1) : tFzST i tu D σ H := by
  obtain ⟨_, ks, b, c⟩ := id o
  refine ⟨l, ks, S.raw hi, b, fun ob => ?_⟩
  have kp : Kp H (upd H l (.frz ob (.dT ks))) := Kp.put (im_none b (fun _ z => nomatch z) fun _ _ z => nomatch z)
  refine k _ kp (Xb.put (nc_of b fun _ z => nomatch z)) ?_
  have S2 := S.kp kp
  have hr := S.raw hi
  have e : σ.set i (some (.ref l)) = σ := by
    apply List.ext_getElem?
    intro j
    by_cases hj : i = j
    · subst hj
      obtain ⟨hlt, _⟩ := List.getElem?_eq_some_iff.mp hr
      rw [List.getElem?_set_self hlt, hr]
    · rw [List.getElem?_set_ne hj]
  have S3 := S2.put i (v := .ref l) (d := eFD f kvs) (dr_fd upd_same (c.kp kp))
  rw [e] at S3
  exact S3
theorem dget_f {v u : V} (d : Dr K H u (eFD f kvs)) (dk : Dr K H v (eT eI n)) : ∃ l r, u = .ref l ∧ DGet H l v r ∧ (match getA (kvs.map fun p => (p.1, f p.2)) n with
    | some x => ∃ u, r = some u ∧ Dr K H u x
    | none => r = none) := by
  obtain ⟨a, o, ks, rfl, b, c⟩ := d.of_fd
  obtain ⟨q, rfl, hq⟩ := key_tup dk
  exact ⟨a, _, rfl, .inr ⟨ks, _, q, .inr ⟨o, b⟩, rfl, hq, rfl⟩, dct_val c n⟩
theorem p_fdget {x : α} (h : getA kvs n = some x) (hd : EvP K td σ H (eFD f kvs)) (ha : EvP K ta σ H (eT eI n)) : EvP K (tDGet td ta) σ H (f x) := fun H1 x1 Q q => hd H1 x1 _ fun w H2 x2 dd => ha H2 (x1.trans x2) _ fun v H3 x3 dr => by
  obtain ⟨l, r, rfl, g, e⟩ := dget_f (Dr.ex (K := K) dd x3) dr
  rw [getA_enc (f := f) h] at e
  obtain ⟨u, rfl, du⟩ := e
  exact ⟨l, u, rfl, g, q u H3 (x2.trans x3) du⟩
theorem p_fdin (hd : EvP K td σ H (eFD f kvs)) (ha : EvP K ta σ H (eT eI n)) : EvP K (tDIn ta td) σ H (.bool (hasA kvs n)) := fun H1 x Q q => ha H1 x _ fun v H2 x2 dr => hd H2 (x.trans x2) _ fun w H3 x3 dd => by
  obtain ⟨l, r, rfl, g, e⟩ := dget_f dd (Dr.ex (K := K) dr x3)
  refine ⟨l, r, rfl, g, ?_⟩
  rw [opt_some e, hasA_get, hasA_mapf]
  exact q _ H3 (x2.trans x3) .bl
theorem p_fdnin (hd : EvP K td σ H (eFD f kvs)) (ha : EvP K ta σ H (eT eI n)) : EvP K (tDNotIn ta td) σ H (.bool (!hasA kvs n)) := fun H1 x Q q => ha H1 x _ fun v H2 x2 dr => hd H2 (x.trans x2) _ fun w H3 x3 dd => by
  obtain ⟨l, r, rfl, g, e⟩ := dget_f dd (Dr.ex (K := K) dr x3)
  refine ⟨l, r, rfl, g, ?_⟩
  rw [opt_some e, hasA_get, hasA_mapf]
  exact q _ H3 (x2.trans x3) .bl
theorem p_fdget2 {x : α} (hd : EvP K td σ H (eFD f kvs)) (ha : EvP K ta σ H (eT eI n)) (hb : EvP K tb σ H (f x)) : EvP K (tDGet2 td ta tb) σ H (f ((getA kvs n).getD x)) := fun H1 x1 Q q => hd H1 x1 _ fun w H2 x2 dd => by
  obtain ⟨l, o, ks, rfl, b, c⟩ := dd.of_fd
  refine ⟨l, rfl, .inr ⟨ks, .inr ⟨o, b⟩⟩, ha H2 (x1.trans x2) _ fun v H3 x3 dr => hb H3 ((x1.trans x2).trans x3) _ fun u H4 x4 du => ?_⟩
  obtain ⟨l', r, e', g, e⟩ := dget_f (Dr.ex (K := K) dd (x3.trans x4)) (Dr.ex (K := K) dr x4)
  cases e'
  refine ⟨r, g, ?_⟩
  rw [getA_map] at e
  cases hk : getA kvs n with
  | none =>
    rw [hk] at e
    rw [show r = none from e]
    exact q u H4 ((x2.trans x3).trans x4) (by rw [hk]; exact du)
  | some y =>
    rw [hk] at e
    obtain ⟨u2, rfl, d2⟩ := e
    exact q u2 H4 ((x2.trans x3).trans x4) (by rw [hk]; exact d2)
theorem it_keysF (h : EvP K td σ H (eFD f kvs)) : ItD K H0 (iKeys td) σ H ((kvs.map (·.1)).map (eT eI)) := fun H1 x R r => h H1 x _ fun v H2 x2 dr => by
  obtain ⟨a, o, ks, rfl, b, c⟩ := dr.of_fd
  refine ⟨a, o, rfl, .inr ⟨ks, b, r _ H2 x2 ?_⟩⟩
  have e := dct_keys c
  rw [show (kvs.map fun p => (p.1, f p.2)).map (·.1) = kvs.map (·.1) by rw [List.map_map]; rfl] at e
  have hl : ((kvs.map (·.1)).map (eT eI)).length = ks.length := by
    have := congrArg List.length e
    simp only [List.length_map] at this ⊢
    exact this.symm
  rw [hl]
  refine walk_keysT.mono (fun Hx g => (of_im (g.1 a _ (im_frz b))).1) fun i Hx x Hx' hi g y => ?_
  obtain ⟨rfl, k, v, q, y1, rfl, y3⟩ := y
  have e2 : (ks.map (·.1))[i]? = some k := by rw [List.getElem?_map, y1]; rfl
  rw [e, List.getElem?_map] at e2
  cases e3 : (kvs.map (·.1))[i]? with
  | none => rw [e3] at e2; cases e2
  | some n =>
    rw [e3] at e2
    cases e2
    refine ⟨Ex.refl _, eT eI n, ?_, Dr.tup y3 (by rw [kV_ints]; exact DrA.of_ints)⟩
    rw [List.getElem?_map, e3]
    rfl
theorem tabs_xb {H' : Hp} {a C dx : Addr} {fs : List (Str × V)} (h : H a = some (.ins C dx fs)) (t : LamX.Tabs Tbs.l H) (b : Xb a H H') : LamX.Tabs Tbs.l H' := fun p hp => b.tab (nc_ins h) p.1 p.2 hp (fun z => by
  obtain ⟨ps, h1, _⟩ := t p hp
  rw [z, h] at h1
  cases h1) (t p hp)
end
/-! i not in range(..) -/
def rNinRng : L2.R2 := fun x y H Q => ∃ i a lo hi, x = V.int i ∧ y = V.ref a ∧ H a = some (.rng lo hi) ∧ Q (.bl (!decide (lo ≤ i ∧ i < hi))) H
theorem op_notin_rng {X : Cx} : OpR X (compareOp .NotIn) rNinRng := by
  intro pins s σ H x y v u Q I rx ry h
  obtain ⟨i, a, lo, hi, rfl, rfl, ha, q⟩ := h
  obtain ⟨k, rfl⟩ := rx
  obtain rfl : u = Value.ref a := ry
  obtain ⟨t1, t2, t3, ho⟩ := I.hok a _ ha
  show wpAny _ _ (do return Value.bool !(← contains (Value.ref a) (Value.int i k))) _ _ s
  refine wpAny_bind (wpAny_contains_slot (T := "range") ⟨_, ho, rfl⟩ F.slot_range_contains (call_meets F.slot_range_contains ⟨_, ho, rfl⟩ F.entry_range_contains (F.args_range_contains_2 _ _) (q_contains a lo hi i t1 t2 t3 k)
    ⟨ho, wpAny_truthy_bool (wpAny_pure ⟨.bl _, H, I, rfl, ?_⟩)⟩))
  rw [place1]
  exact q
theorem p_ninRng1 {K : PySem.W.Frag} {σ : L2.St} {H : Hp} {ta tb : TE} {i j : Int} (ha : EvP K ta σ H (.int i)) (hb : EvP K tb σ H (.int j)) : EvP K (tOp rNinRng ta (tCB (fun vs H Q => ∃ j, vs = [V.int j] ∧ ∀ p, H p = none → Q (.ref p) (upd H p (.rng 0 j))) (tCons tb tNil))) σ H (.bool (!decide (0 ≤ i ∧ i < j))) := fun H1 x Q q =>
  ha H1 x _ fun v H2 x2 d2 => hb H2 (x.trans x2) _ fun u H3 x3 d3 => ⟨j, by rw [d3.of_int], fun p hp => ⟨i, p, 0, j, d2.of_int, rfl, upd_same, q _ _ ((x2.trans x3).trans (Ex.new hp)) .bl⟩⟩
/-! x = {k: v for ..}, x a local -/
section
variable {X : Cx} {kx vx : Expr} {scope : Scope} {pos : Pos}
theorem ps_setDcT {i : Nat} {y : Str} {py : Pos} {spos : Pos} {c : Cls} {own : List (Str × Nat)} {tk tv : TE} (hu : X.A.units + 1 < cLine) (hc : X.calm = true) (hN : X.N.Nodup) (hy : X.N[i]? = some y) (hyl : X.env.scope.names.lookup y = some .local)
    (hsw : swapsWith (.DictComp kx vx [c.gen] scope pos) (some (.Name y py)) spos.line X.env = pure true) (hi : PI X c.tg c.iter c.wi) (ok : BlkOk X.N X.env.scope scope own)
    (hg : BlkR X scope fun Y => PG Y c.tg c.g) (ht : BlkR X scope fun Y => PTs Y c.ifs c.tt) (hk : BlkR X scope fun Y => PE Y kx tk) (hv : BlkR X scope fun Y => PE Y vx tv) (hs : ∀ x, foldedSetIterable c.iter X.env x = pure x := by intro _; rfl) :
    PS X (.Assign [.Name y py] (.DictComp kx vx [c.gen] scope pos) spos) (tAsg (tDcT c tk tv (own.map (·.2))) (gName i)) := by
  refine ⟨fun pins s σ H D I h => ?_⟩
  rw [exec_Assign_Name_used _ _ _ _ hsw]
  refine wpAny_bind (wpAny_standAt (wpAny_bind ?_))
  show wpAny _ X.A (do let _ ← comprehension (.DictComp kx vx [c.gen] scope pos) scope X.env (firstIterPos [c.gen] pos) newDict false (eval c.iter X.env) (some (assign (.Name y py) X.env))) _ _ s
  have h : tDcT c tk tv (own.map (·.2)) σ H (fun x H1 => gName i x σ H1 D.nx) := h
  have one : ∀ {n : Nat} {g g' : Comprehension}, ([c].map Cls.gen)[n]? = some g → ([c].map Cls.gen)[n + 1]? ≠ some g' := fun {n g g'} h h' => by
    have := (List.getElem?_eq_some_iff.mp h').1
    simp at this
  refine wpAny_bind (thn (outerG (Qf := fun _ s' => SP X pins D .next s') (Q := fun x H1 => gName i x σ H1 D.nx) (cs := []) (elt := kx) (pos := pos) (o := fun _ => .dT []) (ob := { cls := .type "dict", data := .dict #[] }) (em := emD tk tv) (what := whatD kx vx) hc hN I (.inr (.inr ⟨vx, rfl⟩)) hi ok hg ht (fun _ _ _ _ _ => trivial) trivial hs
    (fun n t i ifs it a env => lastD) (fun n t i ifs t1 i1 ifs1 it a env h0 h1 => absurd h1 (one h0)) (fun s2 Q q => wpAny_newObj_type q) (fun H' h hb => dt_empty h hb) (fun D => emD_ok (Nat.lt_of_succ_lt hu) hk hv) h fun L C s' m H' I' q hn f => ?_) fun _ s' hq => wpAny_pure (wpAny_pure hq))
  show wpAny _ _ (assign (.Name y py) X.env (.ref L)) _ _ _
  refine wpAny_assign_Name (store_ok2 (v := V.ref L) I' hN hy (.inl hyl) rfl (fun s2 I2 ⟨a, sb, ha⟩ => ?_) (.inr hyl))
  obtain ⟨f0, f1, f2, f3, f4, f5⟩ := f
  have haC : C ≠ a := by
    rcases ha with z | z
    · rw [z]; exact f1
    · exact fun e => f4 y a z e.symm
  refine ⟨m, hn.sameBut sb haC, fun h3 sb3 => ?_⟩
  exact ⟨_, H', I2.turned (t' := s2.toks) (fun b o hb e => (sb3.2 b hb).trans e) f0 f1 f3 f4 f5, q⟩
theorem sw_trueD {gs : List Comprehension} {py : Pos} {y : Str} {l : Nat} {env : Env} (hk : env.scope.kind = .function) (hy : env.scope.names.lookup y = some .local) (hl : (py.line == pos.line) = true)
    (ha : (scope.names.any fun (n, k) => n == y && (k == .local || k == .cell)) = false) : swapsWith (.DictComp kx vx gs scope pos) (some (.Name y py)) l env = pure true := by
  have ky : env.kindOf y = some .local := hy
  have hb : env.blockKind = .function := by unfold Env.blockKind; rw [hk]; rfl
  unfold swapsWith
  simp only [hb, ky, ha, Expr.pos, hl]
  rfl
end
/-! a text in a tuple of the module's own -/
section
variable {K : PySem.W.Frag} {σ : L2.St} {H H0 : Hp} {te ta tb : TE}
theorem dqCA_str : ∀ {vs : List V} {ns : List Str}, DqCA K vs (ns.map .str) → DrA K H vs (ns.map .str)
  | [], [], _ => DrA.nil
  | _ :: _, _ :: _, h => by
    cases h with
    | cons a b =>
      cases a
      exact DrA.cons Dr.str (dqCA_str b)
  | [], _ :: _, h => nomatch h
  | _ :: _, [], h => nomatch h
theorem Dr.of_zS {v : V} : ∀ {b : Bool} {xs : List Str}, Dr K H v (eZ (eT eS) (b, xs)) → ∃ a vs, v = .ref a ∧ SqT K (im H) a vs ∧ DrA K H vs (xs.map eS)
  | false, xs, h => Dr.of_tup' h
  | true, xs, h => by
    have h : Dq K (im H) v (.dict [(.none, .tuple (xs.map eS))]) := h
    cases h with
    | fdt _ e => exact nomatch (Prod.mk.inj (List.cons.inj e).1).1
    | cst c =>
      obtain ⟨a, vs, rfl, hs, hd⟩ := dqC_sqT (H := im H) c
      exact ⟨a, vs, rfl, hs, dqCA_str hd⟩
theorem p_inZS {i : Str} {b : Bool} {ns : List Str} (ha : EvP K ta σ H (.str i)) (hb : EvP K tb σ H (eZ (eT eS) (b, ns))) : EvP K (tOp (rIn K false) ta tb) σ H (.bool (ns.any fun y => y == i)) := fun H1 x Q q =>
  ha H1 x _ fun v H2 x2 d2 => hb H2 (x.trans x2) _ fun u H3 x3 d3 => by
    obtain ⟨a, vs, rfl, hs, hd⟩ := d3.of_zS
    have hs := sqT_im hs
    rw [d2.of_str]
    rw [DrA.strs hd] at hs
    refine ⟨a, _, rfl, .inr hs, rfl, flat_strs ns, ?_⟩
    show Q (.bl (inV (.str i) (ns.map V.str))) H3
    rw [inV_strs]
    exact q _ H3 (x2.trans x3) .bl
theorem p_ninZS {i : Str} {b : Bool} {ns : List Str} (ha : EvP K ta σ H (.str i)) (hb : EvP K tb σ H (eZ (eT eS) (b, ns))) : EvP K (tOp (rIn K true) ta tb) σ H (.bool (!(ns.any fun y => y == i))) := fun H1 x Q q =>
  ha H1 x _ fun v H2 x2 d2 => hb H2 (x.trans x2) _ fun u H3 x3 d3 => by
    obtain ⟨a, vs, rfl, hs, hd⟩ := d3.of_zS
    have hs := sqT_im hs
    rw [d2.of_str]
    rw [DrA.strs hd] at hs
    refine ⟨a, _, rfl, .inr hs, rfl, flat_strs ns, ?_⟩
    show Q (.bl (!inV (.str i) (ns.map V.str))) H3
    rw [inV_strs]
    exact q _ H3 (x2.trans x3) .bl
end
/-! for x, y in zip(t, xs) -/
section
variable {K : PySem.W.Frag} {σ : L2.St} {H H0 : Hp} {ta tb : TE} {ds es : List PyData}
theorem it_zipM (ha : EvP K ta σ H (.tuple ds)) (hb : EvP K tb σ H (.list es)) : ItD K H0 (iZipM K (tCons ta (tCons tb tNil))) σ H (zipD ds es) := fun H1 x R r => ha H1 x _ fun v H2 x2 dr => hb H2 (x.trans x2) _ fun u H3 x3 dl => by
  obtain ⟨a, vs, rfl, hs, hd⟩ := (dr.ex x3).of_tup'
  obtain ⟨b, ws, rfl, hl1, hl2, hd'⟩ := dl.of_lst
  have hl : (zipD ds es).length = min vs.length ws.length := by rw [hd.length, hd'.length, zipD_length]
  refine ⟨a, b, vs, ws, rfl, sqT_im hs, hl1, r _ H3 (x2.trans x3) (yd_pair (Hs := H3) (walk_zipM.mono (fun Hx g => ⟨SqT.kp hs g.1, SqL.kp hl2 g.1⟩) fun _ _ _ _ _ _ y => y) hl (fun i x y e1 e2 => ?_) fun _ g => g.1)⟩
  obtain ⟨d, h1, h2⟩ := hd.getV e1
  obtain ⟨e, h3, h4⟩ := hd'.getV e2
  exact ⟨d, e, zipD_get h1 h3, h2, h4⟩
theorem qt_zipM {α β : Type} {f : α → PyData} {h : β → PyData} {xs : List α} {ys : List β} (ha : EvP K ta σ H (eT f xs)) (hb : EvP K tb σ H (eL h ys)) : ItD K H0 (iZipM K (tCons ta (tCons tb tNil))) σ H ((xs.zip ys).map (eP f h)) := zipD_enc (f := f) (h := h) ▸ it_zipM ha hb
end
end Vx

/-! a dict of one's own, walked: locked for the while -/
namespace Vx
open PySem L2 PySem.Spec PyProof.Rows Evl RZ
variable [Tbs]
section
variable {K : PySem.W.Frag} {σ : L2.St} {H H0 : Hp} {te td : TE} {E : EnvD} {l : Addr} {i : Nat} {kvs : List (List Int × PyData)} {xs : List (List Int)}
/-- tuples of ints, whatever becomes of what is no tuple -/
theorem dra_tups {H' : Hp} (h : ∀ a ys, H a = some (.tup ys) → H' a = some (.tup ys)) : ∀ {vs : List V} {xs : List (List Int)}, DrA K H vs (xs.map (eT eI)) → DrA K H' vs (xs.map (eT eI))
  | [], [], _ => DrA.nil
  | v :: vs, x :: xs, d => by
    cases d with
    | cons a b =>
      obtain ⟨p, ws, rfl, hp, hd⟩ := Dr.of_tupE (K := K) (H := H) a
      rw [hd.ints] at hp
      exact DrA.cons (Dr.tup (h _ _ hp) DrA.of_ints) (dra_tups h b)
  | [], _ :: _, d => by cases d
  | _ :: _, [], d => by cases d
theorem n_lockD (S : Sl K H σ E) (o : OwT K H0 H l kvs)
    (h : ∀ Hl od ks, Kp H Hl → Sl K Hl σ E → Hl l = some (.frz od (.dT ks)) → DcT K Hl ks kvs → EvN K te σ Hl (xs.map (eT eI))) : EvN K (tLockE te) σ H (xs.map (eT eI)) := fun H1 x Q q => by
  obtain ⟨_, ks, b, c⟩ := o.ex x
  refine ⟨l, .dT ks, b, trivial, fun od => ?_⟩
  have kp : Kp H1 (upd H1 l (.frz od (.dT ks))) := Kp.put (im_none b (fun _ z => nomatch z) fun _ _ z => nomatch z)
  refine h _ od ks ((Kp.of x).trans kp) ((S.ex x).kp kp) upd_same (c.kp kp) _ (Ex.refl _) _ fun p vs H2 hp x2 h2 d2 => ?_
  have e2 : H2 l = some (.frz od (.dT ks)) := x2 l _ upd_same
  have hpl : p ≠ l := fun e => by rw [e, upd_same] at hp; cases hp
  have hp1 : H1 p = none := by rw [upd_ne hpl] at hp; exact hp
  refine ⟨e2, q p vs _ hp1 ⟨fun a u ha n => ?_, fun a ps ha => ?_, fun P q' m t => ?_⟩ (by rw [upd_ne hpl]; exact h2) (dra_tups (fun a ys ha => ?_) d2)⟩
  · by_cases e : a = l
    · subst e
      rw [b] at ha
      cases ha
      exact upd_same
    · rw [upd_ne e]
      exact x2.app a u (by rw [upd_ne e]; exact ha) n
  · have e : a ≠ l := fun e => by rw [e, b] at ha; cases ha
    rw [upd_ne e]
    exact x2.tbl a ps (by rw [upd_ne e]; exact ha)
  · have e : P ≠ l := fun e => by
      obtain ⟨ps, h1, _⟩ := id t
      rw [e, b] at h1
      cases h1
    have t1 := (Xb.put (o := HO.frz od (.dT ks)) (nc_of b fun _ z => nomatch z)).tab (nc_of b fun _ z => nomatch z) P q' m e t
    exact (Xb.put (o := HO.dT ks) (nc_of e2 fun _ z => nomatch z)).tab (nc_of e2 fun _ z => nomatch z) P q' m e (x2.tab P q' m t1)
  · have e : a ≠ l := fun e => by rw [e, e2] at ha; cases ha
    rw [upd_ne e]
    exact ha
theorem ie_keysL {α : Type} {f : α → PyData} {kvs : List (List Int × α)} {od : Obj} {ks : List (List Key × V)} (S : Sl K H σ E) (hi : E[i]? = some (some (.raw (.ref l)))) (b : H l = some (.frz od (.dT ks))) (c : DcT K H ks (kvs.map fun p => (p.1, f p.2))) (hl : kvs.length ≤ 16777216) : ItE K (iKeys (tVar i)) σ H ((kvs.map (·.1)).map (eT eI)) := fun H1 x R r => by
  refine ⟨.ref l, S.raw hi, l, od, rfl, .inr ⟨ks, x l _ b, r _ H1 (Ex.refl H1) (by rw [List.length_map, List.length_map, sizeLine_eq]; exact hl) ?_⟩⟩
  have e := dct_keys c
  rw [show (kvs.map fun p => (p.1, f p.2)).map (·.1) = kvs.map (·.1) by rw [List.map_map]; rfl] at e
  have hl : ((kvs.map (·.1)).map (eT eI)).length = ks.length := by
    have := congrArg List.length e
    simp only [List.length_map] at this ⊢
    exact this.symm
  rw [hl]
  refine walk_keysT.mono (fun Hx g => g l _ (x l _ b)) fun j Hx y Hx' hj g yy => ?_
  obtain ⟨rfl, k, v, q, y1, rfl, y3⟩ := yy
  have e2 : (ks.map (·.1))[j]? = some k := by rw [List.getElem?_map, y1]; rfl
  rw [e, List.getElem?_map] at e2
  cases e3 : (kvs.map (·.1))[j]? with
  | none => rw [e3] at e2; cases e2
  | some n =>
    rw [e3] at e2
    cases e2
    refine ⟨Ex.refl _, eT eI n, ?_, Dr.tup y3 (by rw [kV_ints]; exact DrA.of_ints)⟩
    rw [List.getElem?_map, e3]
    rfl
end
theorem ps_lockA {X : Cx} {st : Stmt} {te : TE} {i : Nat} (h : PS X st (tAsg te (gName i))) : PS X st (tAsg (tLockE te) (gName i)) := ps_lock h
/-- a new list is frozen as soon as it is stored -/
def sFzA (i : Nat) (te : TE) : TS := fun D σ H => te σ H fun v H1 => ∃ a xs, H1 a = some (.lst xs) ∧ ∀ o, D.nx (σ.set i (some v)) (upd H1 a (.frz o (.lst xs)))
theorem ps_fzA {X : Cx} {st : Stmt} {te : TE} {i : Nat} (h : PS X st (tAsg te (gName i))) : PS X st (sFzA i te) := by
  refine ⟨fun pins s σ H D I hq => ?_⟩
  refine thn (h.run pins s σ H { D with nx := fun σ' H' => ∃ a xs, H' a = some (.lst xs) ∧ ∀ o, D.nx σ' (upd H' a (.frz o (.lst xs))) } I hq) fun f s1 q => ?_
  cases f with
  | next =>
    obtain ⟨σ', H', I2, a, xs, ha, k⟩ := q
    obtain ⟨o, I3⟩ := inv_freeze I2 ha
    exact ⟨σ', _, I3, k o⟩
  | brk => exact q
  | cont => exact q
  | ret v => exact q
theorem s_setFz {K : PySem.W.Frag} {σ : L2.St} {H : Hp} {te : TE} {i : Nat} {D : Ends} {ds : List PyData} (h : EvN K te σ H ds) (k : ∀ v H1, Ex H H1 → Dr K H1 v (.list ds) → D.nx (σ.set i (some v)) H1) : sFzA i te D σ H :=
  h H (Ex.refl H) _ fun p vs H1 hp e h1 d1 => ⟨p, vs, h1, fun o => by
    have kp : Kp H1 (upd H1 p (.frz o (.lst vs))) := Kp.put (im_none h1 (fun _ z => nomatch z) fun _ _ z => nomatch z)
    exact k _ _ (Ex.mut e hp (nc_of h1 fun _ z => nomatch z)) (Dr.frz upd_same (d1.kp kp))⟩
/-! sorted(xs), xs tuples of tuples of ints -/
section
variable {K : PySem.W.Frag} {σ : L2.St} {H : Hp} {te : TE}
theorem alike_tupsAll : ∀ a b : List (List Int), PySem.W.alikeAll (a.map (eT eI)) (b.map (eT eI)) = true
  | [], _ => by simp [PySem.W.alikeAll]
  | _ :: _, [] => by simp [PySem.W.alikeAll]
  | x :: xs, y :: ys => by
    rw [List.map_cons, List.map_cons, PySem.W.alikeAll, tupI_alike, alike_tupsAll xs ys]
    rfl
theorem alike_row (a b : List (List Int)) : PySem.W.alike (eT (eT eI) a) (eT (eT eI) b) = true := by
  show PySem.W.alike (.tuple (a.map (eT eI))) (.tuple (b.map (eT eI))) = true
  rw [PySem.W.alike]
  exact alike_tupsAll a b
theorem depth_rowAll : ∀ a : List (List Int), PyData.depthAll (a.map (eT eI)) ≤ 1
  | [] => by simp [PyData.depthAll]
  | x :: xs => by
    rw [List.map_cons, PyData.depthAll]
    have h1 := depth_rowAll xs
    have h : (eT eI x).depth ≤ 1 := by
      show (PyData.tuple (x.map .int)).depth ≤ 1
      rw [PyData.depth, PySem.W.depth_ints]
      decide
    omega
theorem depth_row (a : List (List Int)) : (eT (eT eI) a).depth ≤ 40 := by
  show (PyData.tuple (a.map (eT eI))).depth ≤ 40
  rw [PyData.depth]
  have := depth_rowAll a
  omega
theorem noD_row (a : List (List Int)) : noD (eT (eT eI) a) = true := by
  show noD (PyData.tuple (a.map (eT eI))) = true
  rw [noD]
  exact noDs_all.mpr fun d hd => by
    obtain ⟨k, _, rfl⟩ := List.mem_map.mp hd
    exact noDs_int k
theorem sortable_row (ns : List (List (List Int))) : SortableT (ns.map (eT (eT eI))) := .inl fun d hd => by
  obtain ⟨k, _, rfl⟩ := List.mem_map.mp hd
  exact ⟨_, rfl⟩
def sortR (xs : List (List (List Int))) : List (List (List Int)) := xs.mergeSort fun a b => PySem.W.dataLe false (fun d => d) (eT (eT eI) a) (eT (eT eI) b)
theorem sortR_perm (xs : List (List (List Int))) : (sortR xs).Perm xs := List.mergeSort_perm _ _
theorem sort_sndR (xs : List (List (List Int))) {bs : List (V × PyData)} (q : bs.map (·.2) = xs.map (eT (eT eI))) : (bs.mergeSort leD).map (·.2) = (sortR xs).map (eT (eT eI)) := by
  have h1 : (bs.mergeSort leD).map (·.2) = (bs.map (·.2)).mergeSort (PySem.W.dataLe false fun d => d) := PySem.W.sort_maps (fun (b : V × PyData) => b.2) fun a _ b _ => rfl
  rw [h1, q]
  have h2 : ((sortR xs).map (eT (eT eI))) = (xs.map (eT (eT eI))).mergeSort (PySem.W.dataLe false fun d => d) := PySem.W.sort_maps (eT (eT eI)) fun a _ b _ => rfl
  exact h2.symm
theorem n_sortR {xs : List (List (List Int))} (h0 : EvS K te σ H (xs.map (eT (eT eI)))) : EvN K (tCB (rSortD K) (tCons te tNil)) σ H ((sortR xs).map (eT (eT eI))) := fun H1 x Q q => h0 H1 x _ fun a vs H2 x2 hs hd => by
  obtain ⟨z1, z2, z3⟩ := drA_zip hd
  have mem : ∀ b ∈ vs.zip (xs.map (eT (eT eI))), ∃ k, b.2 = eT (eT eI) k := fun b hb => by
    obtain ⟨k, _, e⟩ := List.mem_map.mp (show b.2 ∈ xs.map (eT (eT eI)) from by rw [← z2]; exact List.mem_map.mpr ⟨b, hb, rfl⟩)
    exact ⟨k, e.symm⟩
  refine ⟨a, vs.zip (xs.map (eT (eT eI))), rfl, by rw [z1]; exact hs, fun b hb => (z3 b hb).dp (by
    obtain ⟨k, e⟩ := mem b hb
    rw [e]
    exact noD_row k), by rw [z2]; exact PySem.W.AllAlike.of (enc := eT (eT eI)) alike_row, by rw [z2]; exact sortable_row xs, fun b hb => ?_, fun p hp => ?_⟩
  · obtain ⟨k, e⟩ := mem b hb
    rw [e]
    exact depth_row k
  · have hr := drA_pairs (K := K) (H := H2) (bs := (vs.zip (xs.map (eT (eT eI)))).mergeSort leD) fun b hb => z3 b ((List.mergeSort_perm _ _).mem_iff.mp hb)
    rw [sort_sndR xs z2] at hr
    exact q p _ _ (fresh_back x2 hp) (x2.trans (Ex.new hp)) upd_same (hr.ex (Ex.new hp))
end
end Vx

namespace A_rebut_k43_reduced_polynomials
open PySem L2 PySem.Spec PyProof.Rows Evl RZ Vx
def m__law_numbers (p_script : (List Int)) (p_first : Int) (p_most : Int) : Option (List Int) :=
  (Option.bind (some ([] : List Int)) fun y2 : List Int => (Option.bind (chk (rangeOk p_first (p_script.length : Int))) fun u3 => (Option.bind (foldC (fun (st5 : (List Int)) (x4 : Int) => ((Option.bind (atI p_script x4) fun x9 => (Option.bind (some (absI x9)) fun cell_10 : Int => (Option.bind (bif (decide ((1000000000000000000 : Int) ≤ cell_10)) then (Option.bind (chk (rangeOk 0 (60 : Int))) fun u13 => (Option.bind (foldC (fun (st15 : Int × (List Int)) (x14 : Int) => ((Option.bind (bif ((decide ((0 : Int) < st15.1)) && (decide ((st15.2.length : Int) < p_most))) then (Option.bind (chk (decide (st15.2.length < 16777216))) fun u21 => (Option.bind (some (st15.2 ++ [(st15.1 % (4096 : Int))])) fun y22 : List Int => (Option.bind (some (st15.1 / (4096 : Int))) fun cell_23 : Int => some (y22, cell_23)))) else some (st15.2, st15.1)) fun st19 : (List Int) × Int => some (.go (st19.2, st19.1))) : Option (Ct (Int × (List Int)) (List Int)))) ((cell_10, st5) : Int × (List Int)) (rangeL 0 (60 : Int))) fun c16 : Ct (Int × (List Int)) (List Int) => Ct.el c16 (fun st15 => some (st15.1, st15.2)) (fun _ => none))) else (Option.bind (bif (decide ((st5.length : Int) < p_most)) then (Option.bind (some ((((cell_10 * (48271 : Int)) + (x4 * (69621 : Int))) + (12345 : Int)) % (2147483647 : Int))) fun mixed_26 : Int => (Option.bind (some (((mixed_26 * (69621 : Int)) + (mixed_26 / (1009 : Int))) % (1000003 : Int))) fun mixed_27 : Int => (Option.bind (chk (decide (st5.length < 16777216))) fun u28 => (Option.bind (some (st5 ++ [(mixed_27 % (4096 : Int))])) fun y29 : List Int => some (y29))))) else some (st5)) fun st24 : (List Int) => some (cell_10, st24))) fun st11 : Int × (List Int) => some (.go (st11.2))))) : Option (Ct ((List Int)) (List Int)))) (y2 : (List Int)) (rangeL p_first (p_script.length : Int))) fun c6 : Ct ((List Int)) (List Int) => Ct.el c6 (fun st5 => some st5) some)))
def R__law_numbers : List Ag → Rt → Prop := fun as r => ∃ (p_script : (List Int)) (p_first : Int) (p_most : Int) (z : (List Int)), as = [.l (p_script.map eI), .d (eI p_first), .d (eI p_most)] ∧ m__law_numbers p_script p_first p_most = some z ∧ r = .n (z.map eI)
def m__law_monomials (p_n : Int) : Option (List (List Int)) :=
  (Option.bind (some ([[]] : (List (List Int)))) fun found_1 : (List (List Int)) => (Option.bind (chk (rangeOk (1 : Int) (p_n + (1 : Int)))) fun u2 => (Option.bind (foldC (fun (st4 : (List (List Int))) (x3 : Int) => ((Option.bind (lcO (fun it8 : (List Int) => (Option.bind (chk (decide (it8.length + [x3].length ≤ 16777216))) fun u9 => some (some (it8 ++ [x3])))) st4) fun l10 => (Option.bind (chk (decide (st4.length + l10.length ≤ 16777216))) fun u11 => (Option.bind (some (st4 ++ l10)) fun found_12 : (List (List Int)) => some (.go (found_12))))) : Option (Ct ((List (List Int))) (List (List Int))))) (found_1 : (List (List Int))) (rangeL (1 : Int) (p_n + (1 : Int)))) fun c5 : Ct ((List (List Int))) (List (List Int)) => Ct.el c5 (fun st4 => some st4) some)))
def R__law_monomials : List Ag → Rt → Prop := fun as r => ∃ (p_n : Int) (z : (List (List Int))), as = [.d (eI p_n)] ∧ m__law_monomials p_n = some z ∧ r = .d ((eL (eT eI)) z)
def m__law_polynomial (p_number : Int) (p_n : Int) : Option (List (List Int)) :=
  (Option.bind (m__law_monomials p_n) fun r1 => (Option.bind (some (sortT r1)) fun monomials_2 : (List (List Int)) => (Option.bind (chk (rangeOk 0 (monomials_2.length : Int))) fun u3 => (Option.bind (lcO (fun it4 : Int => (Option.bind (chk (decide (0 ≤ it4))) fun u5 => (bif (decide ((Builtin.bitAnd (p_number / 2 ^ (it4).toNat) (1 : Int)) = (1 : Int))) then Option.map some ((Option.bind (atI monomials_2 it4) fun x6 => some x6)) else some none))) (rangeL 0 (monomials_2.length : Int))) fun l7 => some l7))))
def R__law_polynomial : List Ag → Rt → Prop := fun as r => ∃ (p_number : Int) (p_n : Int) (z : (List (List Int))), as = [.d (eI p_number), .d (eI p_n)] ∧ m__law_polynomial p_number p_n = some z ∧ r = .d ((eT (eT eI)) z)
def m_weight (p_monomial : (List Int)) : Option (Int × (List Int)) :=
  some ((p_monomial.length : Int), p_monomial)
def R_weight : List Ag → Rt → Prop := fun as r => ∃ (p_monomial : (List Int)) (z : (Int × (List Int))), as = [.d ((eT eI) p_monomial)] ∧ m_weight p_monomial = some z ∧ r = .d ((eP eI (eT eI)) z)
def m_reduction (p_p : (List (List Int))) (p_leaders : (List ((List Int) × (List (List Int))))) : Option ((List (List Int)) × (List (List Int))) :=
  (Option.bind (putO (fun it1 : (List Int) => some ((it1, true) : (List Int) × Bool)) [] p_p) fun y2 => (Option.bind (some ([] : List (List Int))) fun y5 : List (List Int) => (Option.bind (chk (decide (y2.length ≤ 16777216))) fun u6 => (Option.bind (whileC (fun (st9 : (List (List Int)) × (List ((List Int) × Bool)) × (List (List Int))) => some (!st9.2.2.isEmpty)) (fun (st9 : (List (List Int)) × (List ((List Int) × Bool)) × (List (List Int))) => ((Option.bind (maxKO m_weight (eP eI (eT eI)) st9.2.2) fun x12 => (Option.bind (some x12) fun top_13 : (List Int) => (Option.bind (chk (decide (st9.1.length < 16777216))) fun u14 => (Option.bind (some (st9.1 ++ [top_13])) fun y15 : List (List Int) => (Option.bind (getA p_leaders top_13) fun g16 => (Option.bind (foldC (fun (st18 : (List ((List Int) × Bool))) (x17 : (List Int)) => ((Option.bind (bif (hasA st18 x17) then (Option.bind (chk (hasA st18 x17)) fun u24 => (Option.bind (some (delA st18 x17)) fun d25 : (List ((List Int) × Bool)) => some (d25))) else (Option.bind (chk (decide (st18.length < 16777216))) fun u26 => (Option.bind (some (putA st18 x17 true)) fun d27 : (List ((List Int) × Bool)) => some (d27)))) fun st22 : (List ((List Int) × Bool)) => some (.go (st22))) : Option (Ct ((List ((List Int) × Bool))) ((List (List Int)) × (List (List Int)))))) (st9.2.1 : (List ((List Int) × Bool))) g16) fun c19 : Ct ((List ((List Int) × Bool))) ((List (List Int)) × (List (List Int))) => Ct.el c19 (fun st18 => (Option.bind (chk (decide (st18.length ≤ 16777216))) fun u28 => some (.go (y15, st18, (((st18.map (·.1)).filter (fun it29 : (List Int) => (hasA p_leaders it29))).map (fun it29 : (List Int) => it29)))))) (fun r => some (.ret r)))))))) : Option (Ct ((List (List Int)) × (List ((List Int) × Bool)) × (List (List Int))) ((List (List Int)) × (List (List Int)))))) 20 ((y5, y2, (((y2.map (·.1)).filter (fun it7 : (List Int) => (hasA p_leaders it7))).map (fun it7 : (List Int) => it7))) : (List (List Int)) × (List ((List Int) × Bool)) × (List (List Int)))) fun c10 : Ct ((List (List Int)) × (List ((List Int) × Bool)) × (List (List Int))) ((List (List Int)) × (List (List Int))) => Ct.el c10 (fun st9 => some ((sortT (st9.2.1.map (·.1))), st9.1)) some))))
def R_reduction : List Ag → Rt → Prop := fun as r => ∃ (p_p : (List (List Int))) (p_leaders : (List ((List Int) × (List (List Int))))) (z : ((List (List Int)) × (List (List Int)))), as = [.d ((eT (eT eI)) p_p), .d ((eFD (eT (eT eI))) p_leaders)] ∧ m_reduction p_p p_leaders = some z ∧ r = .d ((eP (eT (eT eI)) (eL (eT eI))) z)
def m_leading (p_p : (List (List Int))) : Option (List Int) :=
  (Option.bind (maxKO m_weight (eP eI (eT eI)) p_p) fun x1 => some x1)
def R_leading : List Ag → Rt → Prop := fun as r => ∃ (p_p : (List (List Int))) (z : (List Int)), as = [.d ((eT (eT eI)) p_p)] ∧ m_leading p_p = some z ∧ r = .d ((eT eI) z)
def m_led (p_space : (List (List (List Int)))) : Option (List ((List Int) × (List (List Int)))) :=
  (Option.bind (putO (fun it1 : (List (List Int)) => (Option.bind (m_leading it1) fun r2 => some ((r2, it1) : (List Int) × (List (List Int))))) [] p_space) fun y3 => some y3)
def R_led : List Ag → Rt → Prop := fun as r => ∃ (p_space : (List (List (List Int)))) (z : (List ((List Int) × (List (List Int))))), as = [.d ((eT (eT (eT eI))) p_space)] ∧ m_led p_space = some z ∧ r = .d ((eFD (eT (eT eI))) z)
def m_reduced (p_p : (List (List Int))) (p_space : (List (List (List Int)))) : Option (List (List Int)) :=
  (Option.bind (m_led p_space) fun r1 => (Option.bind (m_reduction p_p r1) fun r2 => some r2.1))
def R_reduced : List Ag → Rt → Prop := fun as r => ∃ (p_p : (List (List Int))) (p_space : (List (List (List Int)))) (z : (List (List Int))), as = [.d ((eT (eT eI)) p_p), .d ((eT (eT (eT eI))) p_space)] ∧ m_reduced p_p p_space = some z ∧ r = .d ((eT (eT eI)) z)
def m__law_cell (p_script : (List Int)) (p_k : Int) : Option Int :=
  (bif (decide (p_k < (p_script.length : Int))) then (Option.bind (atI p_script p_k) fun x1 => some x1) else some (0 : Int))
def R__law_cell : List Ag → Rt → Prop := fun as r => ∃ (p_script : (List Int)) (p_k : Int) (z : Int), as = [.l (p_script.map eI), .d (eI p_k)] ∧ m__law_cell p_script p_k = some z ∧ r = .d (eI z)
def m__law_toggle (p_found : (List ((List Int) × Bool))) (p_monomial : (List Int)) : Option (List ((List Int) × Bool)) :=
  (Option.bind (bif (hasA p_found p_monomial) then (Option.bind (chk (hasA p_found p_monomial)) fun u3 => (Option.bind (some (delA p_found p_monomial)) fun d4 : (List ((List Int) × Bool)) => some (d4))) else (Option.bind (chk (decide (p_found.length < 16777216))) fun u5 => (Option.bind (some (putA p_found p_monomial true)) fun d6 : (List ((List Int) × Bool)) => some (d6)))) fun st1 : (List ((List Int) × Bool)) => some st1)
def RM__law_toggle : List (List Int × PyData) → List Ag → List (List Int × PyData) → Prop := fun kv as kv2 => ∃ (p_found : (List ((List Int) × Bool))) (p_monomial : (List Int)) (z : (List ((List Int) × Bool))), kv = p_found.map (fun p => (p.1, eB p.2)) ∧ as = [.d ((eT eI) p_monomial)] ∧ m__law_toggle p_found p_monomial = some z ∧ kv2 = z.map (fun p => (p.1, eB p.2))
def m__law_sum (p_p : (List (List Int))) (p_q : (List (List Int))) : Option (List (List Int)) :=
  (Option.bind (chk (decide (p_p.length + p_q.length ≤ 16777216))) fun u2 => (Option.bind (foldC (fun (st4 : (List ((List Int) × Bool))) (x3 : (List Int)) => ((Option.bind (m__law_toggle st4 x3) fun d8 => some (.go (d8))) : Option (Ct ((List ((List Int) × Bool))) (List (List Int))))) (([] : List ((List Int) × Bool)) : (List ((List Int) × Bool))) (p_p ++ p_q)) fun c5 : Ct ((List ((List Int) × Bool))) (List (List Int)) => Ct.el c5 (fun st4 => some (sortT (st4.map (·.1)))) some))
def R__law_sum : List Ag → Rt → Prop := fun as r => ∃ (p_p : (List (List Int))) (p_q : (List (List Int))) (z : (List (List Int))), as = [.d ((eT (eT eI)) p_p), .d ((eT (eT eI)) p_q)] ∧ m__law_sum p_p p_q = some z ∧ r = .d ((eT (eT eI)) z)
def m__law_leading (p_p : (List (List Int))) : Option (List Int) :=
  (Option.bind (maxDO (eP eI (eT eI)) (p_p.map (fun it1 : (List Int) => ((it1.length : Int), it1)))) fun x2 => some x2.2)
def R__law_leading : List Ag → Rt → Prop := fun as r => ∃ (p_p : (List (List Int))) (z : (List Int)), as = [.d ((eT (eT eI)) p_p)] ∧ m__law_leading p_p = some z ∧ r = .d ((eT eI) z)
def m__law_reduced (p_p : (List (List Int))) (p_space : (List (List (List Int)))) : Option (List (List Int)) :=
  (Option.bind (foldC (fun (st3 : (List ((List Int) × (List (List Int))))) (x2 : (List (List Int))) => ((Option.bind (m__law_leading x2) fun r7 => (Option.bind (chk (decide (st3.length < 16777216))) fun u8 => (Option.bind (some (putA st3 r7 x2)) fun d9 : (List ((List Int) × (List (List Int)))) => some (.go (d9))))) : Option (Ct ((List ((List Int) × (List (List Int))))) (List (List Int))))) (([] : List ((List Int) × (List (List Int)))) : (List ((List Int) × (List (List Int))))) p_space) fun c4 : Ct ((List ((List Int) × (List (List Int))))) (List (List Int)) => Ct.el c4 (fun st3 => (Option.bind (chk (rangeOk 0 (40 : Int))) fun u10 => (Option.bind (foldC (fun (st12 : (List (List Int))) (x11 : Int) => ((Option.bind (some ((st12.filter (fun it16 : (List Int) => (hasA st3 it16))).map (fun it16 : (List Int) => ((it16.length : Int), it16)))) fun y18 : List (Int × (List Int)) => (Option.bind (chk (SeqAt.shaped ((eL (eP eI (eT eI))) y18) && SeqAt.shaped ((eL (eP eI (eT eI))) ([] : (List (Int × (List Int))))))) fun u19 => (bif (decide (y18 = ([] : (List (Int × (List Int)))))) then some (.ret st12) else (Option.bind (maxDO (eP eI (eT eI)) y18) fun x20 => (Option.bind (getA st3 x20.2) fun g21 => (Option.bind (m__law_sum st12 g21) fun r22 => (Option.bind (some r22) fun p_23 : (List (List Int)) => some (.go (p_23))))))))) : Option (Ct ((List (List Int))) (List (List Int))))) (p_p : (List (List Int))) (rangeL 0 (40 : Int))) fun c13 : Ct ((List (List Int))) (List (List Int)) => Ct.el c13 (fun st12 => some st12) some))) some)
def R__law_reduced : List Ag → Rt → Prop := fun as r => ∃ (p_p : (List (List Int))) (p_space : (List (List (List Int)))) (z : (List (List Int))), as = [.d ((eT (eT eI)) p_p), .d ((eT (eT (eT eI))) p_space)] ∧ m__law_reduced p_p p_space = some z ∧ r = .d ((eT (eT eI)) z)
def m_law (p_script : (List Int)) : Option Bool :=
  (Option.bind (m__law_cell p_script (0 : Int)) fun r1 => (Option.bind (some (absI r1)) fun digit_2 : Int => (Option.bind (some (digit_2 % (4 : Int))) fun n_3 : Int => (Option.bind (m__law_numbers p_script (1 : Int) (6 : Int)) fun r4 => (Option.bind (some r4) fun numbers_5 : (List Int) => (Option.bind (some ([] : List (List (List Int)))) fun y7 : List (List (List Int)) => (Option.bind (foldC (fun (st9 : (List (List (List Int)))) (x8 : Int) => ((Option.bind (m__law_polynomial x8 n_3) fun r13 => (Option.bind (some r13) fun q_14 : (List (List Int)) => (Option.bind (chk (SeqAt.shaped ((eT (eT eI)) q_14) && SeqAt.shaped ((eT (eT eI)) ([] : (List (List Int)))))) fun u15 => (Option.bind ((bif (!(decide (q_14 = ([] : (List (List Int)))))) then (Option.bind (m__law_leading q_14) fun r16 => (Option.bind (lcO (fun it17 : (List (List Int)) => (Option.bind (m__law_leading it17) fun r18 => some (some r18))) st9) fun l19 => (Option.bind (chk (SeqAt.shaped ((eT eI) r16) && SeqAt.shaped (PyData.list (List.map (eT eI) l19)))) fun u20 => some (!(decide (r16 ∈ l19)))))) else some false)) fun b21 => (Option.bind (bif b21 then (Option.bind (chk (decide (st9.length < 16777216))) fun u24 => (Option.bind (some (st9 ++ [q_14])) fun y25 : List (List (List Int)) => some (y25))) else some (st9)) fun st22 : (List (List (List Int))) => some (.go (st22))))))) : Option (Ct ((List (List (List Int)))) Bool))) (y7 : (List (List (List Int)))) (cutL numbers_5 none (some (5 : Int)))) fun c10 : Ct ((List (List (List Int)))) Bool => Ct.el c10 (fun st9 => (Option.bind (m__law_polynomial (digit_2 / (4 : Int)) n_3) fun r26 => (Option.bind (some r26) fun p_27 : (List (List Int)) => (Option.bind (bif (decide (((digit_2 / (2048 : Int)) % (2 : Int)) = (0 : Int))) then (Option.bind (some ([] : (List (List Int)))) fun p_49 : (List (List Int)) => (Option.bind (chk (rangeOk 0 (st9.length : Int))) fun u50 => (Option.bind (foldC (fun (st52 : (List (List Int))) (x51 : Int) => ((Option.bind (chk (decide (0 ≤ x51))) fun u56 => (Option.bind (bif (decide ((Builtin.bitAnd ((digit_2 / (4096 : Int)) / 2 ^ (x51).toNat) (1 : Int)) = (1 : Int))) then (Option.bind (atI st9 x51) fun x59 => (Option.bind (m__law_sum st52 x59) fun r60 => (Option.bind (some r60) fun p_61 : (List (List Int)) => some (p_61)))) else some (st52)) fun st57 : (List (List Int)) => some (.go (st57)))) : Option (Ct ((List (List Int))) Bool))) (p_49 : (List (List Int))) (rangeL 0 (st9.length : Int))) fun c53 : Ct ((List (List Int))) Bool => Ct.el c53 (fun st52 => some (st52)) (fun _ => none)))) else some (p_27)) fun st28 : (List (List Int)) => (Option.bind (some (sortR st9)) fun space_30 : (List (List (List Int))) => (Option.bind (m_reduced st28 space_30) fun r31 => (Option.bind (some r31) fun actual_32 : (List (List Int)) => (Option.bind ((bif (!(isI "tuple" ((eT (eT eI)) actual_32))) then some true else (Option.bind (m__law_reduced st28 space_30) fun r33 => (Option.bind (chk (SeqAt.shaped ((eT (eT eI)) actual_32) && SeqAt.shaped ((eT (eT eI)) r33))) fun u34 => some (!(decide (actual_32 = r33))))))) fun b35 => (bif b35 then some false else (Option.bind (some ([[]] : (List (List (List Int))))) fun sums_36 : (List (List (List Int))) => (Option.bind (foldC (fun (st38 : (List (List (List Int)))) (x37 : (List (List Int))) => ((Option.bind (lcO (fun it42 : (List (List Int)) => (Option.bind (m__law_sum it42 x37) fun r43 => some (some r43))) st38) fun l44 => (Option.bind (chk (decide (st38.length + l44.length ≤ 16777216))) fun u45 => (Option.bind (some (st38 ++ l44)) fun sums_46 : (List (List (List Int))) => some (.go (sums_46))))) : Option (Ct ((List (List (List Int)))) Bool))) (sums_36 : (List (List (List Int)))) space_30) fun c39 : Ct ((List (List (List Int)))) Bool => Ct.el c39 (fun st38 => (Option.bind (chk (SeqAt.shaped ((eT (eT eI)) actual_32) && SeqAt.shaped ((eT (eT eI)) ([] : (List (List Int)))))) fun u47 => (Option.bind (chk (SeqAt.shaped ((eT (eT eI)) st28) && SeqAt.shaped (PyData.list (List.map (eT (eT eI)) st38)))) fun u48 => some ((decide (actual_32 = ([] : (List (List Int))))) == (decide (st28 ∈ st38)))))) some))))))))))) some)))))))
def R_law : List Ag → Rt → Prop := fun as r => ∃ (p_script : (List Int)) (z : Bool), as = [.l (p_script.map eI)] ∧ m_law p_script = some z ∧ r = .d (eB z)
abbrev topS (i : Nat) : Stmt := (PySem.Challenge.pw_rebut_k43_reduced_polynomials).main.body.getD i (.Pass ⟨0, 0, 0, 0⟩)
abbrev s__law_numbers : Stmt := topS 8
theorem sc__law_numbers : FnScope ["script", "first", "most", "found", "at", "cell", "k", "mixed"] ["script", "first", "most"] (defScope s__law_numbers) := ⟨rfl, rfl, rfl, by decide +kernel, rfl, by decide +kernel, by decide +kernel⟩
abbrev s__law_monomials : Stmt := topS 14
theorem sc__law_monomials : FnScope ["n", "found", "v", "monomial"] ["n"] (defScope s__law_monomials) := ⟨rfl, rfl, rfl, by decide +kernel, rfl, by decide +kernel, by decide +kernel⟩
abbrev s__law_polynomial : Stmt := topS 15
theorem sc__law_polynomial : FnScope ["number", "n", "monomials", "k"] ["number", "n"] (defScope s__law_polynomial) := ⟨rfl, rfl, rfl, by decide +kernel, rfl, by decide +kernel, by decide +kernel⟩
abbrev s_weight : Stmt := topS 1
theorem sc_weight : FnScope ["monomial"] ["monomial"] (defScope s_weight) := ⟨rfl, rfl, rfl, by decide +kernel, rfl, by decide +kernel, by decide +kernel⟩
abbrev s_reduction : Stmt := topS 4
theorem sc_reduction : FnScope ["p", "leaders", "left", "added", "tops", "top", "monomial"] ["p", "leaders"] (defScope s_reduction) := ⟨rfl, rfl, rfl, by decide +kernel, rfl, by decide +kernel, by decide +kernel⟩
abbrev s_leading : Stmt := topS 2
theorem sc_leading : FnScope ["p"] ["p"] (defScope s_leading) := ⟨rfl, rfl, rfl, by decide +kernel, rfl, by decide +kernel, by decide +kernel⟩
abbrev s_led : Stmt := topS 3
theorem sc_led : FnScope ["space", "p"] ["space"] (defScope s_led) := ⟨rfl, rfl, rfl, by decide +kernel, rfl, by decide +kernel, by decide +kernel⟩
abbrev s_reduced : Stmt := topS 5
theorem sc_reduced : FnScope ["p", "space"] ["p", "space"] (defScope s_reduced) := ⟨rfl, rfl, rfl, by decide +kernel, rfl, by decide +kernel, by decide +kernel⟩
abbrev s__law_cell : Stmt := topS 7
theorem sc__law_cell : FnScope ["script", "k"] ["script", "k"] (defScope s__law_cell) := ⟨rfl, rfl, rfl, by decide +kernel, rfl, by decide +kernel, by decide +kernel⟩
abbrev s__law_toggle : Stmt := topS 9
theorem sc__law_toggle : FnScope ["found", "monomial"] ["found", "monomial"] (defScope s__law_toggle) := ⟨rfl, rfl, rfl, by decide +kernel, rfl, by decide +kernel, by decide +kernel⟩
abbrev s__law_sum : Stmt := topS 10
theorem sc__law_sum : FnScope ["p", "q", "found", "monomial"] ["p", "q"] (defScope s__law_sum) := ⟨rfl, rfl, rfl, by decide +kernel, rfl, by decide +kernel, by decide +kernel⟩
abbrev s__law_leading : Stmt := topS 16
theorem sc__law_leading : FnScope ["p", "monomial"] ["p"] (defScope s__law_leading) := ⟨rfl, rfl, rfl, by decide +kernel, rfl, by decide +kernel, by decide +kernel⟩
abbrev s__law_reduced : Stmt := topS 17
theorem sc__law_reduced : FnScope ["p", "space", "leaders", "q", "k", "found", "monomial"] ["p", "space"] (defScope s__law_reduced) := ⟨rfl, rfl, rfl, by decide +kernel, rfl, by decide +kernel, by decide +kernel⟩
abbrev s_law : Stmt := topS 18
theorem sc_law : FnScope ["script", "digit", "n", "numbers", "space", "number", "q", "p", "k", "actual", "sums", "one"] ["script"] (defScope s_law) := ⟨rfl, rfl, rfl, by decide +kernel, rfl, by decide +kernel, by decide +kernel⟩
structure Tx (K : PySem.W.Frag) (mg : Str → Option Value) where
  a__law_numbers : Addr
  d__law_numbers : FuncData
  F__law_numbers : Fun K "_law_numbers" "_law_numbers" s__law_numbers a__law_numbers d__law_numbers
  g__law_numbers : mg "_law_numbers" = some (.ref a__law_numbers)
  b__law_numbers : Binds K d__law_numbers ["script", "first", "most"] []
  a__law_monomials : Addr
  d__law_monomials : FuncData
  F__law_monomials : Fun K "_law_monomials" "_law_monomials" s__law_monomials a__law_monomials d__law_monomials
  g__law_monomials : mg "_law_monomials" = some (.ref a__law_monomials)
  b__law_monomials : Binds K d__law_monomials ["n"] []
  a__law_polynomial : Addr
  d__law_polynomial : FuncData
  F__law_polynomial : Fun K "_law_polynomial" "_law_polynomial" s__law_polynomial a__law_polynomial d__law_polynomial
  g__law_polynomial : mg "_law_polynomial" = some (.ref a__law_polynomial)
  b__law_polynomial : Binds K d__law_polynomial ["number", "n"] []
  a_weight : Addr
  d_weight : FuncData
  F_weight : Fun K "weight" "weight" s_weight a_weight d_weight
  g_weight : mg "weight" = some (.ref a_weight)
  b_weight : Binds K d_weight ["monomial"] []
  a_reduction : Addr
  d_reduction : FuncData
  F_reduction : Fun K "reduction" "reduction" s_reduction a_reduction d_reduction
  g_reduction : mg "reduction" = some (.ref a_reduction)
  b_reduction : Binds K d_reduction ["p", "leaders"] []
  a_leading : Addr
  d_leading : FuncData
  F_leading : Fun K "leading" "leading" s_leading a_leading d_leading
  g_leading : mg "leading" = some (.ref a_leading)
  b_leading : Binds K d_leading ["p"] []
  a_led : Addr
  d_led : FuncData
  F_led : Fun K "led" "led" s_led a_led d_led
  g_led : mg "led" = some (.ref a_led)
  b_led : Binds K d_led ["space"] []
  a_reduced : Addr
  d_reduced : FuncData
  F_reduced : Fun K "reduced" "reduced" s_reduced a_reduced d_reduced
  g_reduced : mg "reduced" = some (.ref a_reduced)
  b_reduced : Binds K d_reduced ["p", "space"] []
  a__law_cell : Addr
  d__law_cell : FuncData
  F__law_cell : Fun K "_law_cell" "_law_cell" s__law_cell a__law_cell d__law_cell
  g__law_cell : mg "_law_cell" = some (.ref a__law_cell)
  b__law_cell : Binds K d__law_cell ["script", "k"] []
  a__law_toggle : Addr
  d__law_toggle : FuncData
  F__law_toggle : Fun K "_law_toggle" "_law_toggle" s__law_toggle a__law_toggle d__law_toggle
  g__law_toggle : mg "_law_toggle" = some (.ref a__law_toggle)
  b__law_toggle : Binds K d__law_toggle ["found", "monomial"] []
  a__law_sum : Addr
  d__law_sum : FuncData
  F__law_sum : Fun K "_law_sum" "_law_sum" s__law_sum a__law_sum d__law_sum
  g__law_sum : mg "_law_sum" = some (.ref a__law_sum)
  b__law_sum : Binds K d__law_sum ["p", "q"] []
  a__law_leading : Addr
  d__law_leading : FuncData
  F__law_leading : Fun K "_law_leading" "_law_leading" s__law_leading a__law_leading d__law_leading
  g__law_leading : mg "_law_leading" = some (.ref a__law_leading)
  b__law_leading : Binds K d__law_leading ["p"] []
  a__law_reduced : Addr
  d__law_reduced : FuncData
  F__law_reduced : Fun K "_law_reduced" "_law_reduced" s__law_reduced a__law_reduced d__law_reduced
  g__law_reduced : mg "_law_reduced" = some (.ref a__law_reduced)
  b__law_reduced : Binds K d__law_reduced ["p", "space"] []
  a_law : Addr
  d_law : FuncData
  F_law : Fun K "law" "law" s_law a_law d_law
  g_law : mg "law" = some (.ref a_law)
  b_law : Binds K d_law ["script"] []
  m_len : mg "len" = none
  m_range : mg "range" = none
  m_abs : mg "abs" = none
  m_int : mg "int" = none
  m_sorted : mg "sorted" = none
  m_tuple : mg "tuple" = none
  m_max : mg "max" = none
  m_isinstance : mg "isinstance" = none
section
variable {P : Program} {w : World} {K : PySem.W.Frag} {mg : Str → Option Value} {base : Heap}
theorem ok__law_numbers (T : Tx K mg) : FnOk P w K mg base (L2.CX P w) 1 T.a__law_numbers T.d__law_numbers ["script", "first", "most"] (SpR K 3 R__law_numbers) := by
  refine fun_okC T.F__law_numbers sc__law_numbers (fun vs H Q E h => ?_) (fun A outer s H0 vs Q E hr h => ?_)
  · obtain ⟨as, r, hn, _, ha, _, _⟩ := h
    exact ha.len.trans hn
  · obtain ⟨as, r, hn, hR, ha, t0, q⟩ := h
    obtain ⟨p_script, p_first, p_most, z, rfl, hm, rfl⟩ := hR
    rcases ha with _ | @⟨v_script, _, _, _, h_0, ha⟩
    rcases ha with _ | @⟨v_first, _, _, _, h_1, ha⟩
    rcases ha with _ | @⟨v_most, _, _, _, h_2, ha⟩
    cases ha
    obtain ⟨a_script, vs_script, rfl, hs_script, hd_script⟩ := h_0
    have h_1 : Dr K H0 _ (eI p_first) := h_1
    have h_2 : Dr K H0 _ (eI p_most) := h_2
    refine ⟨_, (pss_cons (ps_set (i := 3) sc__law_numbers.nd rfl (by first | exact .inl rfl | exact .inr rfl) (pe_lst pa_nil)) (pss_cons (ps_for (passes_of rfl) rfl (pi_range2 (by rfl) T.m_range (pa_cons (pv 1) (pa_cons (pe_callB (cl_len K) (by rfl) T.m_len (by decide +kernel) (pa_cons (pv 0) pa_nil)) pa_nil))) (pg_name (i := 4) sc__law_numbers.nd rfl (by first | exact .inl rfl | exact .inr rfl)) (pss_cons (ps_set (i := 5) sc__law_numbers.nd rfl (by first | exact .inl rfl | exact .inr rfl) (pe_callB call_abs (by rfl) T.m_abs (by decide +kernel) (pa_cons (pe_ix (ix_listK K) (pv 0) (pv 4) (fun _ _ => rfl)) pa_nil))) (pss_one (ps_if (pt_cmpR op_ge (pv 5) pe_int (nomark _)) (pss_one (ps_for (passes_of rfl) rfl (pi_range1 (by rfl) T.m_range (pa_cons pe_int pa_nil)) (pg_name (i := 6) sc__law_numbers.nd rfl (by first | exact .inl rfl | exact .inr rfl)) (pss_one (ps_if (PW.pt (pw_and (pt_cmpR op_gt (pv 5) pe_int (nomark _)) (pw_and1 (pt_cmpR op_lt (pe_callB (cl_len K) (by rfl) T.m_len (by decide +kernel) (pa_cons (pv 3) pa_nil)) (pv 2) (nomark _))))) (pss_cons (ps_expr (pe_bm PySem.F.plainAttrs_list PySem.F.slot_list_append PySem.F.type_list_append mt_append (pv 3) (pa_cons (pe_op op_mod (pe_callTy call_int1 (by rfl) T.m_int (by decide +kernel) (pa_cons (pv 5) pa_nil)) pe_int) pa_nil))) (pss_one (ps_set (i := 5) sc__law_numbers.nd rfl (by first | exact .inl rfl | exact .inr rfl) (pe_op op_fdiv (pv 5) pe_int)))) pss_nil)))) (pss_one (ps_if (pt_cmpR op_lt (pe_callB (cl_len K) (by rfl) T.m_len (by decide +kernel) (pa_cons (pv 3) pa_nil)) (pv 2) (nomark _)) (pss_cons (ps_set (i := 7) sc__law_numbers.nd rfl (by first | exact .inl rfl | exact .inr rfl) (pe_op op_mod (pe_callTy call_int1 (by rfl) T.m_int (by decide +kernel) (pa_cons (pe_op op_add (pe_op op_add (pe_op op_mul (pv 5) pe_int) (pe_op op_mul (pv 4) pe_int)) pe_int) pa_nil)) pe_int)) (pss_cons (ps_set (i := 7) sc__law_numbers.nd rfl (by first | exact .inl rfl | exact .inr rfl) (pe_op op_mod (pe_callTy call_int1 (by rfl) T.m_int (by decide +kernel) (pa_cons (pe_op op_add (pe_op op_mul (pv 7) pe_int) (pe_op op_fdiv (pv 7) pe_int)) pa_nil)) pe_int)) (pss_one (ps_expr (pe_bm PySem.F.plainAttrs_list PySem.F.slot_list_append PySem.F.type_list_append mt_append (pv 3) (pa_cons (pe_op op_mod (pe_callTy call_int1 (by rfl) T.m_int (by decide +kernel) (pa_cons (pv 7) pa_nil)) pe_int) pa_nil)))))) pss_nil)))))) (pss_one (ps_ret (pv 3))))), ?_⟩
    have S : Sl K H0 (L2.start ["script", "first", "most", "found", "at", "cell", "k", "mixed"] [V.ref a_script, v_first, v_most]) [some (.raw (.ref a_script)), some (.dat (eI p_first)), some (.dat (eI p_most)), none, none, none, none, none] := sl_start rfl (Nat.le_of_ble_eq_true rfl) (by
      intro i v e h1 h2
      rcases i with _ | i
      · cases h1; cases h2; exact rfl
      rcases i with _ | i
      · cases h1; cases h2; exact ⟨_, rfl, h_1⟩
      rcases i with _ | i
      · cases h1; cases h2; exact ⟨_, rfl, h_2⟩
      · simp at h1) (by
      intro i e h1 h2
      rcases i with _ | i
      · exact absurd h1 (Nat.not_le_of_gt (Nat.le_of_ble_eq_true rfl))
      rcases i with _ | i
      · exact absurd h1 (Nat.not_le_of_gt (Nat.le_of_ble_eq_true rfl))
      rcases i with _ | i
      · exact absurd h1 (Nat.not_le_of_gt (Nat.le_of_ble_eq_true rfl))
      rcases i with _ | i
      · cases h2; rfl
      rcases i with _ | i
      · cases h2; rfl
      rcases i with _ | i
      · cases h2; rfl
      rcases i with _ | i
      · cases h2; rfl
      rcases i with _ | i
      · cases h2; rfl
      · simp at h2)
    have e0 : Vx.Ex H0 H0 := Vx.Ex.refl H0
    generalize L2.start ["script", "first", "most", "found", "at", "cell", "k", "mixed"] [V.ref a_script, v_first, v_most] = σ at S ⊢
    unfold m__law_numbers at hm
    obtain ⟨y2, h_y2, hm⟩ := bind_some hm
    have h_y2 := Option.some.inj h_y2
    with_reducible refine st_seq ?_
    refine s_setN (K := K) (ds := y2.map eI) (EvN.to (n_lst a_nil (by simp)) (by rw [← h_y2]; try rfl)) e0 fun l1 H e1 nl o_l1 => ?_
    have S := S.ex e1
    have e0 := e0.trans e1
    have S : Sl K H _ [some (.raw (.ref a_script)), some (.dat (eI p_first)), some (.dat (eI p_most)), some (.raw (.ref l1)), none, none, none, none] := S.putR 3
    generalize List.set _ 3 (some (V.ref l1)) = σ at S ⊢
    clear nl e1
    obtain ⟨u3, h_u3, hm⟩ := bind_some hm
    obtain ⟨c6, h_c6, hm⟩ := bind_some hm
    with_reducible refine st_seq ?_
    refine s_for (K := K) (ts := [4]) (enc := eI) (it_rng2 (a_cons (p_var (i := 1) S rfl) (a_cons (q_lenL (f := eI) (par_s (i := 0) S rfl e0 hs_script hd_script)) a_nil)) (chk_some h_u3)) (fun (st5 : (List Int)) (x4 : Int) => ((Option.bind (atI p_script x4) fun x9 => (Option.bind (some (absI x9)) fun cell_10 : Int => (Option.bind (bif (decide ((1000000000000000000 : Int) ≤ cell_10)) then (Option.bind (chk (rangeOk 0 (60 : Int))) fun u13 => (Option.bind (foldC (fun (st15 : Int × (List Int)) (x14 : Int) => ((Option.bind (bif ((decide ((0 : Int) < st15.1)) && (decide ((st15.2.length : Int) < p_most))) then (Option.bind (chk (decide (st15.2.length < 16777216))) fun u21 => (Option.bind (some (st15.2 ++ [(st15.1 % (4096 : Int))])) fun y22 : List Int => (Option.bind (some (st15.1 / (4096 : Int))) fun cell_23 : Int => some (y22, cell_23)))) else some (st15.2, st15.1)) fun st19 : (List Int) × Int => some (.go (st19.2, st19.1))) : Option (Ct (Int × (List Int)) (List Int)))) ((cell_10, st5) : Int × (List Int)) (rangeL 0 (60 : Int))) fun c16 : Ct (Int × (List Int)) (List Int) => Ct.el c16 (fun st15 => some (st15.1, st15.2)) (fun _ => none))) else (Option.bind (bif (decide ((st5.length : Int) < p_most)) then (Option.bind (some ((((cell_10 * (48271 : Int)) + (x4 * (69621 : Int))) + (12345 : Int)) % (2147483647 : Int))) fun mixed_26 : Int => (Option.bind (some (((mixed_26 * (69621 : Int)) + (mixed_26 / (1009 : Int))) % (1000003 : Int))) fun mixed_27 : Int => (Option.bind (chk (decide (st5.length < 16777216))) fun u28 => (Option.bind (some (st5 ++ [(mixed_27 % (4096 : Int))])) fun y29 : List Int => some (y29))))) else some (st5)) fun st24 : (List Int) => some (cell_10, st24))) fun st11 : Int × (List Int) => some (.go (st11.2))))) : Option (Ct ((List Int)) (List Int)))) h_c6 (fun st5 σ H => Vx.Ex H0 H ∧ Sl K H σ [some (.raw (.ref a_script)), some (.dat (eI p_first)), some (.dat (eI p_most)), some (.raw (.ref l1)), none, none, none, none] ∧ Ow K H0 H l1 (st5.map eI)) (fun st5 σ H p => p.1) (fun H e1 => ?_) (fun Hk st5 x4 σ H c1 _ _ hf p kh0 hret1 vx H e1 dx N hN => ?_) (fun st5 σ H hgo p kp1 => ?_)
    · have S := S.ex e1
      have e0 := e0.trans e1
      have o_l1 := o_l1.ex e1
      exact ⟨e0, S, o_l1⟩
    · obtain ⟨e0, S, o_l1⟩ := p
      have kh := kh0.trans (Kp.of e1)
      have S := S.ex e1
      have e0 := e0.trans e1
      have o_l1 := o_l1.ex e1
      refine (show Gd K _ _ _ [some (.raw (.ref a_script)), some (.dat (eI p_first)), some (.dat (eI p_most)), some (.raw (.ref l1)), none, none, none, none] [some (.raw (.ref a_script)), some (.dat (eI p_first)), some (.dat (eI p_most)), some (.raw (.ref l1)), some (.dat (eI x4)), none, none, none] from gd_name) σ H vx S dx _ fun σ _ S => ?_
      have hb8 : _ = some c1 := hf
      have hb8 := hb8
      obtain ⟨x9, h_x9, hb8⟩ := bind_some hb8
      obtain ⟨cell_10, h_cell_10, hb8⟩ := bind_some hb8
      have h_cell_10 := Option.some.inj h_cell_10
      with_reducible refine st_seq ?_
      refine s_set (K := K) (d := eI cell_10) (EvP.to (p_abs (q_ixL (f := eI) (xs := p_script) (par_s (i := 0) S rfl e0 hs_script hd_script) (p_var (i := 4) S rfl) h_x9)) (congrArg eI h_cell_10)) fun v H e1 d1 => ?_
      have S := S.ex e1
      have e0 := e0.trans e1
      have kh := kh.trans (Kp.of e1)
      have o_l1 := o_l1.ex e1
      have S : Sl K H _ [some (.raw (.ref a_script)), some (.dat (eI p_first)), some (.dat (eI p_most)), some (.raw (.ref l1)), some (.dat (eI x4)), some (.dat (eI cell_10)), none, none] := S.put 5 d1
      generalize List.set _ 5 (some v) = σ at S ⊢
      try (with_reducible show L2.Ends.nx _ _ _; with_reducible refine nx_go ?_)
      obtain ⟨st11, hif12, hb8⟩ := bind_some hb8
      refine s_ifJ (fun σ H => Vx.Ex H0 H ∧ Sl K H σ [some (.raw (.ref a_script)), some (.dat (eI p_first)), some (.dat (eI p_most)), some (.raw (.ref l1)), some (.dat (eI x4)), some (.dat (eI st11.1)), none, none] ∧ Ow K H0 H l1 (st11.2.map eI) ∧ Kp Hk H) (t_test (p_b0 (p_var (i := 5) S rfl) p_int)) (fun σ H p => ?_) (fun hb H e1 J => ?_) (fun hb H e1 J => ?_)
      · obtain ⟨e0, S, o_l1, kh⟩ := p
        have hb8 := Option.some.inj hb8
        have S : Sl K H σ [some (.raw (.ref a_script)), some (.dat (eI p_first)), some (.dat (eI p_most)), some (.raw (.ref l1)), none, none, none, none] := ((S).forget 4).forget 5
        exact hN (st11.2) σ H hb8.symm ⟨e0, S, o_l1⟩ kh
      · have hif12 := cnd_t hb hif12
        have S := S.ex e1
        have e0 := e0.trans e1
        have kh := kh.trans (Kp.of e1)
        have o_l1 := o_l1.ex e1
        try (with_reducible show L2.Ends.nx _ _ _; with_reducible refine nx_go ?_)
        obtain ⟨u13, h_u13, hif12⟩ := bind_some hif12
        obtain ⟨c16, h_c16, hif12⟩ := bind_some hif12
        refine s_for (K := K) (ts := [6]) (enc := eI) (it_rng1 (a_cons p_int a_nil) (chk_some h_u13)) (fun (st15 : Int × (List Int)) (x14 : Int) => ((Option.bind (bif ((decide ((0 : Int) < st15.1)) && (decide ((st15.2.length : Int) < p_most))) then (Option.bind (chk (decide (st15.2.length < 16777216))) fun u21 => (Option.bind (some (st15.2 ++ [(st15.1 % (4096 : Int))])) fun y22 : List Int => (Option.bind (some (st15.1 / (4096 : Int))) fun cell_23 : Int => some (y22, cell_23)))) else some (st15.2, st15.1)) fun st19 : (List Int) × Int => some (.go (st19.2, st19.1))) : Option (Ct (Int × (List Int)) (List Int)))) h_c16 (fun st15 σ H => Vx.Ex H0 H ∧ Sl K H σ [some (.raw (.ref a_script)), some (.dat (eI p_first)), some (.dat (eI p_most)), some (.raw (.ref l1)), some (.dat (eI x4)), some (.dat (eI st15.1)), none, none] ∧ Ow K H0 H l1 (st15.2.map eI)) (fun st15 σ H p => p.1) (fun H e1 => ?_) (fun Hk st15 x14 σ H c2 _ _ hf p kh0 hret2 vx H e1 dx N hN => ?_) (fun st15 σ H hgo p kp1 => ?_)
        · have S := S.ex e1
          have e0 := e0.trans e1
          have o_l1 := o_l1.ex e1
          exact ⟨e0, S, o_l1⟩
        · obtain ⟨e0, S, o_l1⟩ := p
          have kh := kh0.trans (Kp.of e1)
          have S := S.ex e1
          have e0 := e0.trans e1
          have o_l1 := o_l1.ex e1
          refine (show Gd K _ _ _ [some (.raw (.ref a_script)), some (.dat (eI p_first)), some (.dat (eI p_most)), some (.raw (.ref l1)), some (.dat (eI x4)), some (.dat (eI st15.1)), none, none] [some (.raw (.ref a_script)), some (.dat (eI p_first)), some (.dat (eI p_most)), some (.raw (.ref l1)), some (.dat (eI x4)), some (.dat (eI st15.1)), some (.dat (eI x14)), none] from gd_name) σ H vx S dx _ fun σ _ S => ?_
          have hb18 : _ = some c2 := hf
          have hb18 := hb18
          try (with_reducible show L2.Ends.nx _ _ _; with_reducible refine nx_go ?_)
          obtain ⟨st19, hif20, hb18⟩ := bind_some hb18
          refine s_ifJ (fun σ H => Vx.Ex H0 H ∧ Sl K H σ [some (.raw (.ref a_script)), some (.dat (eI p_first)), some (.dat (eI p_most)), some (.raw (.ref l1)), some (.dat (eI x4)), some (.dat (eI st19.2)), some (.dat (eI x14)), none] ∧ Ow K H0 H l1 (st19.1.map eI) ∧ Kp Hk H) (et_and (t_test (p_b0 (p_var (i := 5) S rfl) p_int)) fun _ => (t_test (p_b0 (q_lenL (f := eI) (o_l1.s (i := 3) S rfl)) (p_var (i := 2) S rfl)))) (fun σ H p => ?_) (fun hb H e1 J => ?_) (fun hb H e1 J => ?_)
          · obtain ⟨e0, S, o_l1, kh⟩ := p
            have hb18 := Option.some.inj hb18
            have S : Sl K H σ [some (.raw (.ref a_script)), some (.dat (eI p_first)), some (.dat (eI p_most)), some (.raw (.ref l1)), some (.dat (eI x4)), some (.dat (eI st19.2)), none, none] := (S).forget 6
            exact hN (st19.2, st19.1) σ H hb18.symm ⟨e0, S, o_l1⟩ kh
          · have hif20 := cnd_t hb hif20
            have S := S.ex e1
            have e0 := e0.trans e1
            have kh := kh.trans (Kp.of e1)
            have o_l1 := o_l1.ex e1
            obtain ⟨u21, h_u21, hif20⟩ := bind_some hif20
            obtain ⟨y22, h_y22, hif20⟩ := bind_some hif20
            have h_y22 := Option.some.inj h_y22
            with_reducible refine st_seq ?_
            refine s_app (K := K) S rfl o_l1 (p_iC (p_intI (p_var (i := 5) S rfl)) p_int (by decide)) (by rw [List.length_map]; exact chk_dec h_u21) fun H kp1 bt1 o2 => ?_
            have S := S.kp kp1
            have e0 := ex_but e0 o_l1.1 o_l1.nc bt1
            have kh := kh.trans kp1
            have o_l1 : Ow K H0 H l1 (y22.map eI) := by rw [← h_y22, List.map_append]; exact o2
            have S : Sl K H _ [some (.raw (.ref a_script)), some (.dat (eI p_first)), some (.dat (eI p_most)), some (.raw (.ref l1)), some (.dat (eI x4)), some (.dat (eI st15.1)), some (.dat (eI x14)), none] := S
            try (with_reducible show L2.Ends.nx _ _ _; with_reducible refine nx_go ?_)
            obtain ⟨cell_23, h_cell_23, hif20⟩ := bind_some hif20
            have h_cell_23 := Option.some.inj h_cell_23
            refine s_set (K := K) (d := eI cell_23) (EvP.to (p_iC (p_var (i := 5) S rfl) p_int ⟨by decide, by decide⟩) (congrArg eI h_cell_23)) fun v H e1 d1 => ?_
            have S := S.ex e1
            have e0 := e0.trans e1
            have kh := kh.trans (Kp.of e1)
            have o_l1 := o_l1.ex e1
            have S : Sl K H _ [some (.raw (.ref a_script)), some (.dat (eI p_first)), some (.dat (eI p_most)), some (.raw (.ref l1)), some (.dat (eI x4)), some (.dat (eI cell_23)), some (.dat (eI x14)), none] := S.put 5 d1
            generalize List.set _ 5 (some v) = σ at S ⊢
            have hif20 := Option.some.inj hif20
            subst hif20
            have S : Sl K H σ [some (.raw (.ref a_script)), some (.dat (eI p_first)), some (.dat (eI p_most)), some (.raw (.ref l1)), some (.dat (eI x4)), some (.dat (eI cell_23)), some (.dat (eI x14)), none] := S
            exact J σ H ⟨e0, S, o_l1, kh⟩
          · have hif20 := cnd_f hb hif20
            have S := S.ex e1
            have e0 := e0.trans e1
            have kh := kh.trans (Kp.of e1)
            have o_l1 := o_l1.ex e1
            first | refine s_nextX ?_ | refine s_next ?_
            have hif20 := Option.some.inj hif20
            subst hif20
            have S : Sl K H σ [some (.raw (.ref a_script)), some (.dat (eI p_first)), some (.dat (eI p_most)), some (.raw (.ref l1)), some (.dat (eI x4)), some (.dat (eI st15.1)), some (.dat (eI x14)), none] := S
            exact J σ H ⟨e0, S, o_l1, kh⟩
        · obtain ⟨e0, S, o_l1⟩ := p
          have kh := kh.trans kp1
          subst hgo
          dsimp only [Ct.el] at hif12
          have hif12 := Option.some.inj hif12
          subst hif12
          have S : Sl K H σ [some (.raw (.ref a_script)), some (.dat (eI p_first)), some (.dat (eI p_most)), some (.raw (.ref l1)), some (.dat (eI x4)), some (.dat (eI st15.1)), none, none] := S
          exact J σ H ⟨e0, S, o_l1, kh⟩
      · have hif12 := cnd_f hb hif12
        have S := S.ex e1
        have e0 := e0.trans e1
        have kh := kh.trans (Kp.of e1)
        have o_l1 := o_l1.ex e1
        try (with_reducible show L2.Ends.nx _ _ _; with_reducible refine nx_go ?_)
        obtain ⟨st24, hif25, hif12⟩ := bind_some hif12
        refine s_ifJ (fun σ H => Vx.Ex H0 H ∧ Sl K H σ [some (.raw (.ref a_script)), some (.dat (eI p_first)), some (.dat (eI p_most)), some (.raw (.ref l1)), some (.dat (eI x4)), some (.dat (eI cell_10)), none, none] ∧ Ow K H0 H l1 (st24.map eI) ∧ Kp Hk H) (t_test (p_b0 (q_lenL (f := eI) (o_l1.s (i := 3) S rfl)) (p_var (i := 2) S rfl))) (fun σ H p => ?_) (fun hb H e1 J => ?_) (fun hb H e1 J => ?_)
        · obtain ⟨e0, S, o_l1, kh⟩ := p
          have hif12 := Option.some.inj hif12
          subst hif12
          have S : Sl K H σ [some (.raw (.ref a_script)), some (.dat (eI p_first)), some (.dat (eI p_most)), some (.raw (.ref l1)), some (.dat (eI x4)), some (.dat (eI cell_10)), none, none] := S
          exact J σ H ⟨e0, S, o_l1, kh⟩
        · have hif25 := cnd_t hb hif25
          have S := S.ex e1
          have e0 := e0.trans e1
          have kh := kh.trans (Kp.of e1)
          have o_l1 := o_l1.ex e1
          obtain ⟨mixed_26, h_mixed_26, hif25⟩ := bind_some hif25
          have h_mixed_26 := Option.some.inj h_mixed_26
          with_reducible refine st_seq ?_
          refine s_set (K := K) (d := eI mixed_26) (EvP.to (p_iC (p_intI (p_i0 (p_i0 (p_iC (p_var (i := 5) S rfl) p_int (.inr ⟨by decide, by decide⟩)) (p_iC (p_var (i := 4) S rfl) p_int (.inr ⟨by decide, by decide⟩))) p_int)) p_int (by decide)) (congrArg eI h_mixed_26)) fun v H e1 d1 => ?_
          have S := S.ex e1
          have e0 := e0.trans e1
          have kh := kh.trans (Kp.of e1)
          have o_l1 := o_l1.ex e1
          have S : Sl K H _ [some (.raw (.ref a_script)), some (.dat (eI p_first)), some (.dat (eI p_most)), some (.raw (.ref l1)), some (.dat (eI x4)), some (.dat (eI cell_10)), none, some (.dat (eI mixed_26))] := S.put 7 d1
          generalize List.set _ 7 (some v) = σ at S ⊢
          obtain ⟨mixed_27, h_mixed_27, hif25⟩ := bind_some hif25
          have h_mixed_27 := Option.some.inj h_mixed_27
          with_reducible refine st_seq ?_
          refine s_set (K := K) (d := eI mixed_27) (EvP.to (p_iC (p_intI (p_i0 (p_iC (p_var (i := 7) S rfl) p_int (.inr ⟨by decide, by decide⟩)) (p_iC (p_var (i := 7) S rfl) p_int ⟨by decide, by decide⟩))) p_int (by decide)) (congrArg eI h_mixed_27)) fun v H e1 d1 => ?_
          have S := S.ex e1
          have e0 := e0.trans e1
          have kh := kh.trans (Kp.of e1)
          have o_l1 := o_l1.ex e1
          have S : Sl K H _ [some (.raw (.ref a_script)), some (.dat (eI p_first)), some (.dat (eI p_most)), some (.raw (.ref l1)), some (.dat (eI x4)), some (.dat (eI cell_10)), none, some (.dat (eI mixed_27))] := S.put 7 d1
          generalize List.set _ 7 (some v) = σ at S ⊢
          try (with_reducible show L2.Ends.nx _ _ _; with_reducible refine nx_go ?_)
          obtain ⟨u28, h_u28, hif25⟩ := bind_some hif25
          obtain ⟨y29, h_y29, hif25⟩ := bind_some hif25
          have h_y29 := Option.some.inj h_y29
          refine s_app (K := K) S rfl o_l1 (p_iC (p_intI (p_var (i := 7) S rfl)) p_int (by decide)) (by rw [List.length_map]; exact chk_dec h_u28) fun H kp1 bt1 o2 => ?_
          have S := S.kp kp1
          have e0 := ex_but e0 o_l1.1 o_l1.nc bt1
          have kh := kh.trans kp1
          have o_l1 : Ow K H0 H l1 (y29.map eI) := by rw [← h_y29, List.map_append]; exact o2
          have S : Sl K H _ [some (.raw (.ref a_script)), some (.dat (eI p_first)), some (.dat (eI p_most)), some (.raw (.ref l1)), some (.dat (eI x4)), some (.dat (eI cell_10)), none, some (.dat (eI mixed_27))] := S
          have hif25 := Option.some.inj hif25
          subst hif25
          have S : Sl K H σ [some (.raw (.ref a_script)), some (.dat (eI p_first)), some (.dat (eI p_most)), some (.raw (.ref l1)), some (.dat (eI x4)), some (.dat (eI cell_10)), none, none] := (S).forget 7
          exact J σ H ⟨e0, S, o_l1, kh⟩
        · have hif25 := cnd_f hb hif25
          have S := S.ex e1
          have e0 := e0.trans e1
          have kh := kh.trans (Kp.of e1)
          have o_l1 := o_l1.ex e1
          first | refine s_nextX ?_ | refine s_next ?_
          have hif25 := Option.some.inj hif25
          subst hif25
          have S : Sl K H σ [some (.raw (.ref a_script)), some (.dat (eI p_first)), some (.dat (eI p_most)), some (.raw (.ref l1)), some (.dat (eI x4)), some (.dat (eI cell_10)), none, none] := S
          exact J σ H ⟨e0, S, o_l1, kh⟩
    · obtain ⟨e0, S, o_l1⟩ := p
      subst hgo
      dsimp only [Ct.el] at hm
      try (with_reducible show L2.Ends.nx _ _ _; with_reducible refine nx_go ?_)
      have hm := Option.some.inj hm
      subst hm
      exact s_retO (K := K) S rfl o_l1 fun vs a b c => q _ vs _ a e0 b c
theorem ok__law_monomials (T : Tx K mg) : FnOk P w K mg base (L2.CX P w) 1 T.a__law_monomials T.d__law_monomials ["n"] (SpR K 1 R__law_monomials) := by
  refine fun_okC T.F__law_monomials sc__law_monomials (fun vs H Q E h => ?_) (fun A outer s H0 vs Q E hr h => ?_)
  · obtain ⟨as, r, hn, _, ha, _, _⟩ := h
    exact ha.len.trans hn
  · obtain ⟨as, r, hn, hR, ha, t0, q⟩ := h
    obtain ⟨p_n, z, rfl, hm, rfl⟩ := hR
    rcases ha with _ | @⟨v_n, _, _, _, h_0, ha⟩
    cases ha
    have h_0 : Dr K H0 _ (eI p_n) := h_0
    refine ⟨_, (pss_cons (ps_set (i := 1) sc__law_monomials.nd rfl (by first | exact .inl rfl | exact .inr rfl) (pe_fz (pe_lst (pa_cons (pe_tup pa_nil) pa_nil)))) (pss_cons (ps_for (passes_of rfl) rfl (pi_range2 (by rfl) T.m_range (pa_cons pe_int (pa_cons (pe_op op_add (pv 0) pe_int) pa_nil))) (pg_name (i := 2) sc__law_monomials.nd rfl (by first | exact .inl rfl | exact .inr rfl)) (pss_one (ps_set (i := 1) sc__law_monomials.nd rfl (by first | exact .inl rfl | exact .inr rfl) (pe_fz (pe_op op_catS (pv 1) (pe_lc (own := [("monomial", 3)]) rfl sc__law_monomials.nd (pi_wfK K (pi_listK K (pv 1))) (blkOk_by (own := [("monomial", 3)]) (N := ["n", "found", "v", "monomial"]) (sc := defScope s__law_monomials) (by decide +kernel)) (fun _ _ _ _ _ => (pg_name (i := 3) sc__law_monomials.nd rfl (by first | exact .inl rfl | exact .inr rfl))) (fun _ _ _ _ _ => pts_nil) (fun _ _ _ _ _ => (pe_op (op_catAK K) (pv 3) (pe_tup (pa_cons (pv 2) pa_nil)))))))))) (pss_one (ps_ret (pv 1))))), ?_⟩
    have S : Sl K H0 (L2.start ["n", "found", "v", "monomial"] [v_n]) [some (.dat (eI p_n)), none, none, none] := sl_start rfl (Nat.le_of_ble_eq_true rfl) (by
      intro i v e h1 h2
      rcases i with _ | i
      · cases h1; cases h2; exact ⟨_, rfl, h_0⟩
      · simp at h1) (by
      intro i e h1 h2
      rcases i with _ | i
      · exact absurd h1 (Nat.not_le_of_gt (Nat.le_of_ble_eq_true rfl))
      rcases i with _ | i
      · cases h2; rfl
      rcases i with _ | i
      · cases h2; rfl
      rcases i with _ | i
      · cases h2; rfl
      · simp at h2)
    have e0 : Vx.Ex H0 H0 := Vx.Ex.refl H0
    generalize L2.start ["n", "found", "v", "monomial"] [v_n] = σ at S ⊢
    unfold m__law_monomials at hm
    obtain ⟨found_1, h_found_1, hm⟩ := bind_some hm
    have h_found_1 := Option.some.inj h_found_1
    with_reducible refine st_seq ?_
    refine s_set (K := K) (d := (eL (eT eI)) found_1) (EvP.to (n_lst (a_cons (p_tup a_nil (by simp)) a_nil) (by simp)).fz (congrArg (eL (eT eI)) h_found_1)) fun v H e1 d1 => ?_
    have S := S.ex e1
    have e0 := e0.trans e1
    have S : Sl K H _ [some (.dat (eI p_n)), some (.dat ((eL (eT eI)) found_1)), none, none] := S.put 1 d1
    generalize List.set _ 1 (some v) = σ at S ⊢
    obtain ⟨u2, h_u2, hm⟩ := bind_some hm
    obtain ⟨c5, h_c5, hm⟩ := bind_some hm
    with_reducible refine st_seq ?_
    refine s_for (K := K) (ts := [2]) (enc := eI) (it_rng2 (a_cons p_int (a_cons (p_i0 (p_var (i := 0) S rfl) p_int) a_nil)) (chk_some h_u2)) (fun (st4 : (List (List Int))) (x3 : Int) => ((Option.bind (lcO (fun it8 : (List Int) => (Option.bind (chk (decide (it8.length + [x3].length ≤ 16777216))) fun u9 => some (some (it8 ++ [x3])))) st4) fun l10 => (Option.bind (chk (decide (st4.length + l10.length ≤ 16777216))) fun u11 => (Option.bind (some (st4 ++ l10)) fun found_12 : (List (List Int)) => some (.go (found_12))))) : Option (Ct ((List (List Int))) (List (List Int))))) h_c5 (fun st4 σ H => Vx.Ex H0 H ∧ Sl K H σ [some (.dat (eI p_n)), some (.dat ((eL (eT eI)) st4)), none, none]) (fun st4 σ H p => p.1) (fun H e1 => ?_) (fun Hk st4 x3 σ H c3 _ _ hf p kh0 hret3 vx H e1 dx N hN => ?_) (fun st4 σ H hgo p kp1 => ?_)
    · have S := S.ex e1
      have e0 := e0.trans e1
      exact ⟨e0, S⟩
    · obtain ⟨e0, S⟩ := p
      have kh := kh0.trans (Kp.of e1)
      have S := S.ex e1
      have e0 := e0.trans e1
      refine (show Gd K _ _ _ [some (.dat (eI p_n)), some (.dat ((eL (eT eI)) st4)), none, none] [some (.dat (eI p_n)), some (.dat ((eL (eT eI)) st4)), some (.dat (eI x3)), none] from gd_name) σ H vx S dx _ fun σ _ S => ?_
      have hb7 : _ = some c3 := hf
      have hb7 := hb7
      try (with_reducible show L2.Ends.nx _ _ _; with_reducible refine nx_go ?_)
      obtain ⟨l10, h_l10, hb7⟩ := bind_some hb7
      obtain ⟨u11, h_u11, hb7⟩ := bind_some hb7
      obtain ⟨found_12, h_found_12, hb7⟩ := bind_some hb7
      have h_found_12 := Option.some.inj h_found_12
      refine s_set (K := K) (d := (eL (eT eI)) found_12) (EvP.to (q_catL (f := (eT eI)) (p_var (i := 1) S rfl).r (n_lc (enc := (eT eI)) (encb := (eT eI)) (ts := [3]) (vs := [3]) (bind := (fun it8 : (List Int) => [some (.dat (eI p_n)), some (.dat ((eL (eT eI)) st4)), some (.dat (eI x3)), some (.dat ((eT eI) it8))])) (fun it8 : (List Int) => (Option.bind (chk (decide (it8.length + [x3].length ≤ 16777216))) fun u9 => some (some (it8 ++ [x3])))) h_l10 S (ie_lst (p_var (i := 1) S rfl).s) (fun it8 => gd_name) (by intro t ht; revert ht; revert t; decide) (fun it8 _ r hr2 σ H e1 S => by
have e0 := e0.trans e1; obtain ⟨u9, h_u9, hr2⟩ := bind_some hr2; cases hr2; exact ⟨t_yes, fun y hy => by cases hy; exact (q_catT (f := eI) (p_var (i := 3) S rfl) (show EvP K _ _ _ (eT eI [x3]) from (p_tup (a_cons (p_var (i := 2) S rfl) a_nil) (by simp))) (chk_dec h_u9))⟩)).r (chk_dec h_u11)).fz (congrArg (eL (eT eI)) h_found_12)) fun v H e1 d1 => ?_
      have S := S.ex e1
      have e0 := e0.trans e1
      have kh := kh.trans (Kp.of e1)
      have S : Sl K H _ [some (.dat (eI p_n)), some (.dat ((eL (eT eI)) found_12)), some (.dat (eI x3)), none] := S.put 1 d1
      generalize List.set _ 1 (some v) = σ at S ⊢
      have hb7 := Option.some.inj hb7
      have S : Sl K H σ [some (.dat (eI p_n)), some (.dat ((eL (eT eI)) found_12)), none, none] := (S).forget 2
      exact hN (found_12) σ H hb7.symm ⟨e0, S⟩ kh
    · obtain ⟨e0, S⟩ := p
      subst hgo
      dsimp only [Ct.el] at hm
      try (with_reducible show L2.Ends.nx _ _ _; with_reducible refine nx_go ?_)
      have hm := Option.some.inj hm
      subst hm
      exact s_ret (K := K) (σ := σ) (p_var (i := 1) S rfl) fun v H1 e1 dr => q v H1 (e0.trans e1) dr
theorem ok__law_polynomial (T : Tx K mg) : FnOk P w K mg base (L2.CX P w) 2 T.a__law_polynomial T.d__law_polynomial ["number", "n"] (SpR K 2 R__law_polynomial) := by
  have G__law_monomials := ok__law_monomials (P := P) (w := w) (base := base) T
  refine fun_okC T.F__law_polynomial sc__law_polynomial (fun vs H Q E h => ?_) (fun A outer s H0 vs Q E hr h => ?_)
  · obtain ⟨as, r, hn, _, ha, _, _⟩ := h
    exact ha.len.trans hn
  · obtain ⟨as, r, hn, hR, ha, t0, q⟩ := h
    obtain ⟨p_number, p_n, z, rfl, hm, rfl⟩ := hR
    rcases ha with _ | @⟨v_number, _, _, _, h_0, ha⟩
    rcases ha with _ | @⟨v_n, _, _, _, h_1, ha⟩
    cases ha
    have h_0 : Dr K H0 _ (eI p_number) := h_0
    have h_1 : Dr K H0 _ (eI p_n) := h_1
    refine ⟨_, (pss_cons (ps_set (i := 2) sc__law_polynomial.nd rfl (by first | exact .inl rfl | exact .inr rfl) (pe_fz (pe_callB (cl_sortD K (un_of hr)) (by rfl) T.m_sorted (by decide +kernel) (pa_cons (pe_call G__law_monomials (hr.mono (by first | decide | omega)) (by rfl) T.g__law_monomials T.F__law_monomials.kp T.b__law_monomials .nil passL (pa_cons (pv 1) pa_nil)) pa_nil)))) (pss_one (ps_ret (pe_callTy (cl_tup K) (by rfl) T.m_tuple (by decide +kernel) (pa_cons (pe_fz (pe_lc (own := [("k", 3)]) rfl sc__law_polynomial.nd (pi_range1 (by rfl) T.m_range (pa_cons (pe_callB (cl_len K) (by rfl) T.m_len (by decide +kernel) (pa_cons (pv 2) pa_nil)) pa_nil)) (blkOk_by (own := [("k", 3)]) (N := ["number", "n", "monomials", "k"]) (sc := defScope s__law_polynomial) (by decide +kernel)) (fun _ _ _ _ _ => (pg_name (i := 3) sc__law_polynomial.nd rfl (by first | exact .inl rfl | exact .inr rfl))) (fun _ _ _ _ _ => pts_one (pt_cmpR op_eq (pe_op op_and (pe_op op_shr (pe_callTy call_int1 (by rfl) T.m_int (by decide +kernel) (pa_cons (pv 0) pa_nil)) (pv 3)) pe_int) pe_int (nomark _))) (fun _ _ _ _ _ => (pe_ix (ix_listK K) (pv 2) (pv 3) (fun _ _ => rfl))))) pa_nil))))), ?_⟩
    have S : Sl K H0 (L2.start ["number", "n", "monomials", "k"] [v_number, v_n]) [some (.dat (eI p_number)), some (.dat (eI p_n)), none, none] := sl_start rfl (Nat.le_of_ble_eq_true rfl) (by
      intro i v e h1 h2
      rcases i with _ | i
      · cases h1; cases h2; exact ⟨_, rfl, h_0⟩
      rcases i with _ | i
      · cases h1; cases h2; exact ⟨_, rfl, h_1⟩
      · simp at h1) (by
      intro i e h1 h2
      rcases i with _ | i
      · exact absurd h1 (Nat.not_le_of_gt (Nat.le_of_ble_eq_true rfl))
      rcases i with _ | i
      · exact absurd h1 (Nat.not_le_of_gt (Nat.le_of_ble_eq_true rfl))
      rcases i with _ | i
      · cases h2; rfl
      rcases i with _ | i
      · cases h2; rfl
      · simp at h2)
    have e0 : Vx.Ex H0 H0 := Vx.Ex.refl H0
    generalize L2.start ["number", "n", "monomials", "k"] [v_number, v_n] = σ at S ⊢
    unfold m__law_polynomial at hm
    obtain ⟨r1, h_r1, hm⟩ := bind_some hm
    obtain ⟨monomials_2, h_monomials_2, hm⟩ := bind_some hm
    have h_monomials_2 := Option.some.inj h_monomials_2
    with_reducible refine st_seq ?_
    refine s_set (K := K) (d := (eL (eT eI)) monomials_2) (EvP.to (n_sortTT (p_callR (tabs_ex e0 t0) (g_d (p_var (i := 1) S rfl) g_nil) rfl ⟨_, _, rfl, h_r1, rfl⟩).s).fz (congrArg (eL (eT eI)) h_monomials_2)) fun v H e1 d1 => ?_
    have S := S.ex e1
    have e0 := e0.trans e1
    have S : Sl K H _ [some (.dat (eI p_number)), some (.dat (eI p_n)), some (.dat ((eL (eT eI)) monomials_2)), none] := S.put 2 d1
    generalize List.set _ 2 (some v) = σ at S ⊢
    try (with_reducible show L2.Ends.nx _ _ _; with_reducible refine nx_go ?_)
    obtain ⟨u3, h_u3, hm⟩ := bind_some hm
    obtain ⟨l7, h_l7, hm⟩ := bind_some hm
    have hm := Option.some.inj hm
    subst hm
    exact s_ret (K := K) (σ := σ) (p_tupL (n_lc (enc := eI) (encb := (eT eI)) (ts := [3]) (vs := [3]) (bind := (fun it4 : Int => [some (.dat (eI p_number)), some (.dat (eI p_n)), some (.dat ((eL (eT eI)) monomials_2)), some (.dat (eI it4))])) (fun it4 : Int => (Option.bind (chk (decide (0 ≤ it4))) fun u5 => (bif (decide ((Builtin.bitAnd (p_number / 2 ^ (it4).toNat) (1 : Int)) = (1 : Int))) then Option.map some ((Option.bind (atI monomials_2 it4) fun x6 => some x6)) else some none))) h_l7 S (ie_rng1 (a_cons (q_lenL (f := (eT eI)) (p_var (i := 2) S rfl).s) a_nil) (chk_some h_u3) e0) (fun it4 => gd_name) (by intro t ht; revert ht; revert t; decide) (fun it4 _ r hr2 σ H e1 S => by
have e0 := e0.trans e1; obtain ⟨u5, h_u5, hr2⟩ := bind_some hr2; exact lc_part hr2 (t_test (p_eqI (p_i0 (f := Builtin.bitAnd) (p_iC (f := fun i j => i / 2 ^ j.toNat) (p_intI (p_var (i := 0) S rfl)) (p_var (i := 3) S rfl) (chk_dec h_u5)) p_int) p_int)) (fun _ y hy => by obtain ⟨x6, h_x6, hy⟩ := bind_some hy; cases hy; exact (q_ixL (f := (eT eI)) (xs := monomials_2) (p_var (i := 2) S rfl).s (p_var (i := 3) S rfl) h_x6)))).fz.s) fun v H1 e1 dr => q v H1 (e0.trans e1) dr
theorem ok_weight (T : Tx K mg) : FnOk P w K mg base (L2.CX P w) 1 T.a_weight T.d_weight ["monomial"] (SpR K 1 R_weight) := by
  refine fun_okC T.F_weight sc_weight (fun vs H Q E h => ?_) (fun A outer s H0 vs Q E hr h => ?_)
  · obtain ⟨as, r, hn, _, ha, _, _⟩ := h
    exact ha.len.trans hn
  · obtain ⟨as, r, hn, hR, ha, t0, q⟩ := h
    obtain ⟨p_monomial, z, rfl, hm, rfl⟩ := hR
    rcases ha with _ | @⟨v_monomial, _, _, _, h_0, ha⟩
    cases ha
    have h_0 : Dr K H0 _ ((eT eI) p_monomial) := h_0
    refine ⟨_, (pss_one (ps_ret (pe_tup (pa_cons (pe_callB (cl_len K) (by rfl) T.m_len (by decide +kernel) (pa_cons (pv 0) pa_nil)) (pa_cons (pv 0) pa_nil))))), ?_⟩
    have S : Sl K H0 (L2.start ["monomial"] [v_monomial]) [some (.dat ((eT eI) p_monomial))] := sl_start rfl (Nat.le_of_ble_eq_true rfl) (by
      intro i v e h1 h2
      rcases i with _ | i
      · cases h1; cases h2; exact ⟨_, rfl, h_0⟩
      · simp at h1) (by
      intro i e h1 h2
      rcases i with _ | i
      · exact absurd h1 (Nat.not_le_of_gt (Nat.le_of_ble_eq_true rfl))
      · simp at h2)
    have e0 : Vx.Ex H0 H0 := Vx.Ex.refl H0
    generalize L2.start ["monomial"] [v_monomial] = σ at S ⊢
    unfold m_weight at hm
    try (with_reducible show L2.Ends.nx _ _ _; with_reducible refine nx_go ?_)
    have hm := Option.some.inj hm
    subst hm
    exact s_ret (K := K) (σ := σ) (p_tup (a_cons (q_lenT (f := eI) (p_var (i := 0) S rfl)) (a_cons (p_var (i := 0) S rfl) a_nil)) (by simp)) fun v H1 e1 dr => q v H1 (e0.trans e1) dr
theorem ok_reduction (T : Tx K mg) : FnOk P w K mg base (L2.CX P w) 3 T.a_reduction T.d_reduction ["p", "leaders"] (SpR K 2 R_reduction) := by
  have G_weight := ok_weight (P := P) (w := w) (base := base) T
  refine fun_okC T.F_reduction sc_reduction (fun vs H Q E h => ?_) (fun A outer s H0 vs Q E hr h => ?_)
  · obtain ⟨as, r, hn, _, ha, _, _⟩ := h
    exact ha.len.trans hn
  · obtain ⟨as, r, hn, hR, ha, t0, q⟩ := h
    obtain ⟨p_p, p_leaders, z, rfl, hm, rfl⟩ := hR
    rcases ha with _ | @⟨v_p, _, _, _, h_0, ha⟩
    rcases ha with _ | @⟨v_leaders, _, _, _, h_1, ha⟩
    cases ha
    have h_0 : Dr K H0 _ ((eT (eT eI)) p_p) := h_0
    have h_1 : Dr K H0 _ ((eFD (eT (eT eI))) p_leaders) := h_1
    refine ⟨_, (pss_cons (ps_setDcT (i := 2) (c := ⟨_, _, _, _, _, _, [6]⟩) (own := [("monomial", 6)]) (hu_of hr) rfl sc_reduction.nd rfl rfl (sw_trueD rfl rfl rfl (by decide +kernel)) (pi_wfK K (pi_tupK K (pv 0))) (blkOk_by (own := [("monomial", 6)]) (N := ["p", "leaders", "left", "added", "tops", "top", "monomial"]) (sc := defScope s_reduction) (by decide +kernel)) (fun _ _ _ _ _ => (pg_name (i := 6) sc_reduction.nd rfl (by first | exact .inl rfl | exact .inr rfl))) (fun _ _ _ _ _ => pts_nil) (fun _ _ _ _ _ => (pv 6)) (fun _ _ _ _ _ => pe_bl)) (pss_cons (ps_set (i := 3) sc_reduction.nd rfl (by first | exact .inl rfl | exact .inr rfl) (pe_lst pa_nil)) (pss_cons (ps_fzA (ps_lockA (ps_setLc (i := 4) (own := [("monomial", 6)]) rfl sc_reduction.nd rfl rfl (sw_true rfl rfl rfl (by decide +kernel)) (pi_keys (pv 2)) (blkOk_by (own := [("monomial", 6)]) (N := ["p", "leaders", "left", "added", "tops", "top", "monomial"]) (sc := defScope s_reduction) (by decide +kernel)) (fun _ _ _ _ _ => (pg_name (i := 6) sc_reduction.nd rfl (by first | exact .inl rfl | exact .inr rfl))) (fun _ _ _ _ _ => pts_one (pt_cmp (pc_din (hu_of hr) (pv 6) (pv 1)) (by rfl))) (fun _ _ _ _ _ => (pv 6))))) (pss_cons (ps_while (passes_of rfl) (pt_truthK K (pv 4) (by intro _; rfl)) (pss_cons (ps_set (i := 5) sc_reduction.nd rfl (by first | exact .inl rfl | exact .inr rfl) (pe_callBK (cl_maxKL K (fun _ _ h => nomatch h) G_weight (hr.mono (by first | decide | omega)) T.b_weight rfl (un_of hr)) (by rfl) T.m_max (by decide +kernel) (pa_cons (pv 4) pa_nil) (pk_cons (pe_glob (v := .ref T.a_weight) (by rfl) T.g_weight rfl) pk_nil))) (pss_cons (ps_expr (pe_bm PySem.F.plainAttrs_list PySem.F.slot_list_append PySem.F.type_list_append mt_append (pv 3) (pa_cons (pv 5) pa_nil))) (pss_cons (ps_for (passes_of rfl) rfl (pi_tup (pe_dget (hu_of hr) (pv 1) (pv 5) (fun _ _ => rfl))) (pg_name (i := 6) sc_reduction.nd rfl (by first | exact .inl rfl | exact .inr rfl)) (pss_one (ps_if (pt_cmp (pc_din (hu_of hr) (pv 6) (pv 2)) (by rfl)) (pss_one (ps_ddelT (hu_of hr) (pv 2) (pv 6))) (pss_one (ps_dput (hu_of hr) (pv 2) (pv 6) pe_bl rfl))))) (pss_one (ps_fzA (ps_lockA (ps_setLc (i := 4) (own := [("monomial", 6)]) rfl sc_reduction.nd rfl rfl (sw_true rfl rfl rfl (by decide +kernel)) (pi_keys (pv 2)) (blkOk_by (own := [("monomial", 6)]) (N := ["p", "leaders", "left", "added", "tops", "top", "monomial"]) (sc := defScope s_reduction) (by decide +kernel)) (fun _ _ _ _ _ => (pg_name (i := 6) sc_reduction.nd rfl (by first | exact .inl rfl | exact .inr rfl))) (fun _ _ _ _ _ => pts_one (pt_cmp (pc_din (hu_of hr) (pv 6) (pv 1)) (by rfl))) (fun _ _ _ _ _ => (pv 6)))))))))) (pss_fz 3 (pss_one (ps_ret (pe_tup (pa_cons (pe_callTy (cl_tup K) (by rfl) T.m_tuple (by decide +kernel) (pa_cons (pe_fz (pe_callB (cr_sortDT rfl hr.units) (by rfl) T.m_sorted (by decide +kernel) (pa_cons (pv 2) pa_nil))) pa_nil)) (pa_cons (pv 3) pa_nil)))))))))), ?_⟩
    have S : Sl K H0 (L2.start ["p", "leaders", "left", "added", "tops", "top", "monomial"] [v_p, v_leaders]) [some (.dat ((eT (eT eI)) p_p)), some (.dat ((eFD (eT (eT eI))) p_leaders)), none, none, none, none, none] := sl_start rfl (Nat.le_of_ble_eq_true rfl) (by
      intro i v e h1 h2
      rcases i with _ | i
      · cases h1; cases h2; exact ⟨_, rfl, h_0⟩
      rcases i with _ | i
      · cases h1; cases h2; exact ⟨_, rfl, h_1⟩
      · simp at h1) (by
      intro i e h1 h2
      rcases i with _ | i
      · exact absurd h1 (Nat.not_le_of_gt (Nat.le_of_ble_eq_true rfl))
      rcases i with _ | i
      · exact absurd h1 (Nat.not_le_of_gt (Nat.le_of_ble_eq_true rfl))
      rcases i with _ | i
      · cases h2; rfl
      rcases i with _ | i
      · cases h2; rfl
      rcases i with _ | i
      · cases h2; rfl
      rcases i with _ | i
      · cases h2; rfl
      rcases i with _ | i
      · cases h2; rfl
      · simp at h2)
    have e0 : Vx.Ex H0 H0 := Vx.Ex.refl H0
    generalize L2.start ["p", "leaders", "left", "added", "tops", "top", "monomial"] [v_p, v_leaders] = σ at S ⊢
    unfold m_reduction at hm
    obtain ⟨y2, h_y2, hm⟩ := bind_some hm
    with_reducible refine st_seq ?_
    refine s_setDT (K := K) (n_dcT (enc := (eT eI)) (encv := eB) (ts := [6]) (vs := [6]) (bind := (fun it1 : (List Int) => [some (.dat ((eT (eT eI)) p_p)), some (.dat ((eFD (eT (eT eI))) p_leaders)), none, none, none, none, some (.dat ((eT eI) it1))])) rfl (fun it1 : (List Int) => some ((it1, true) : (List Int) × Bool)) h_y2 S (ie_tup (p_var (i := 0) S rfl)) (fun it1 => gd_name) (by intro t ht; revert ht; revert t; decide) (fun it1 _ p hr2 σ H e1 S => by have e0 := e0.trans e1; skip; cases hr2; exact ⟨(p_var (i := 6) S rfl), p_bl⟩)) e0 fun l3 H e1 nl o_l3 => ?_
    have S := S.ex e1
    have e0 := e0.trans e1
    have S : Sl K H _ [some (.dat ((eT (eT eI)) p_p)), some (.dat ((eFD (eT (eT eI))) p_leaders)), some (.raw (.ref l3)), none, none, none, none] := S.putR 2
    generalize List.set _ 2 (some (V.ref l3)) = σ at S ⊢
    clear nl e1
    obtain ⟨y5, h_y5, hm⟩ := bind_some hm
    have h_y5 := Option.some.inj h_y5
    with_reducible refine st_seq ?_
    refine s_setN (K := K) (ds := y5.map (eT eI)) (EvN.to (n_lst a_nil (by simp)) (by rw [← h_y5]; try rfl)) e0 fun l4 H e1 nl o_l4 => ?_
    have ne_l3_l4 : l3 ≠ l4 := o_l3.ne nl
    have S := S.ex e1
    have e0 := e0.trans e1
    have o_l3 := o_l3.ex e1
    have S : Sl K H _ [some (.dat ((eT (eT eI)) p_p)), some (.dat ((eFD (eT (eT eI))) p_leaders)), some (.raw (.ref l3)), some (.raw (.ref l4)), none, none, none] := S.putR 3
    generalize List.set _ 3 (some (V.ref l4)) = σ at S ⊢
    clear nl e1
    obtain ⟨u6, h_u6, hm⟩ := bind_some hm
    with_reducible refine st_seq ?_
    refine s_setFz (ds := (((y2.map (·.1)).filter (fun it7 : (List Int) => (hasA p_leaders it7))).map (fun it7 : (List Int) => it7)).map (eT eI)) (n_lockD S o_l3 fun H od5 ks5 kp5 S b5 c5 => (n_lcF (enc := (eT eI)) (encb := (eT eI)) (ts := [6]) (vs := [6]) (bind := (fun it7 : (List Int) => [some (.dat ((eT (eT eI)) p_p)), some (.dat ((eFD (eT (eT eI))) p_leaders)), some (.raw (.ref l3)), some (.raw (.ref l4)), none, none, some (.dat ((eT eI) it7))])) (fun it7 : (List Int) => (hasA p_leaders it7)) (fun it7 : (List Int) => it7) S (ie_keysL (f := eB) (kvs := y2) S rfl b5 c5 (chk_dec h_u6)) (fun it7 => gd_name) (by intro t ht; revert ht; revert t; decide) (fun it7 _ σ H e1 S => by exact (t_val (p_fdin (f := (eT (eT eI))) (n := it7) (p_var (i := 1) S rfl) (p_var (i := 6) S rfl)))) (fun it7 _ _ σ H e1 S => by exact (p_var (i := 6) S rfl)))) fun v H e1 d1 => ?_
    have S := S.ex e1
    have e0 := e0.trans e1
    have o_l3 := o_l3.ex e1
    have o_l4 := o_l4.ex e1
    have S : Sl K H _ [some (.dat ((eT (eT eI)) p_p)), some (.dat ((eFD (eT (eT eI))) p_leaders)), some (.raw (.ref l3)), some (.raw (.ref l4)), some (.dat ((eL (eT eI)) (((y2.map (·.1)).filter (fun it7 : (List Int) => (hasA p_leaders it7))).map (fun it7 : (List Int) => it7)))), none, none] := S.put 4 d1
    generalize List.set _ 4 (some v) = σ at S ⊢
    obtain ⟨c10, h_c10, hm⟩ := bind_some hm
    with_reducible refine st_seq ?_
    refine Vx.s_while (fun (st9 : (List (List Int)) × (List ((List Int) × Bool)) × (List (List Int))) => some (!st9.2.2.isEmpty)) (fun (st9 : (List (List Int)) × (List ((List Int) × Bool)) × (List (List Int))) => ((Option.bind (maxKO m_weight (eP eI (eT eI)) st9.2.2) fun x12 => (Option.bind (some x12) fun top_13 : (List Int) => (Option.bind (chk (decide (st9.1.length < 16777216))) fun u14 => (Option.bind (some (st9.1 ++ [top_13])) fun y15 : List (List Int) => (Option.bind (getA p_leaders top_13) fun g16 => (Option.bind (foldC (fun (st18 : (List ((List Int) × Bool))) (x17 : (List Int)) => ((Option.bind (bif (hasA st18 x17) then (Option.bind (chk (hasA st18 x17)) fun u24 => (Option.bind (some (delA st18 x17)) fun d25 : (List ((List Int) × Bool)) => some (d25))) else (Option.bind (chk (decide (st18.length < 16777216))) fun u26 => (Option.bind (some (putA st18 x17 true)) fun d27 : (List ((List Int) × Bool)) => some (d27)))) fun st22 : (List ((List Int) × Bool)) => some (.go (st22))) : Option (Ct ((List ((List Int) × Bool))) ((List (List Int)) × (List (List Int)))))) (st9.2.1 : (List ((List Int) × Bool))) g16) fun c19 : Ct ((List ((List Int) × Bool))) ((List (List Int)) × (List (List Int))) => Ct.el c19 (fun st18 => (Option.bind (chk (decide (st18.length ≤ 16777216))) fun u28 => some (.go (y15, st18, (((st18.map (·.1)).filter (fun it29 : (List Int) => (hasA p_leaders it29))).map (fun it29 : (List Int) => it29)))))) (fun r => some (.ret r)))))))) : Option (Ct ((List (List Int)) × (List ((List Int) × Bool)) × (List (List Int))) ((List (List Int)) × (List (List Int)))))) 20 h_c10 (fun st9 σ H => Vx.Ex H0 H ∧ Sl K H σ [some (.dat ((eT (eT eI)) p_p)), some (.dat ((eFD (eT (eT eI))) p_leaders)), some (.raw (.ref l3)), some (.raw (.ref l4)), some (.dat ((eL (eT eI)) st9.2.2)), none, none] ∧ OwT K H0 H l3 (st9.2.1.map fun p => (p.1, eB p.2)) ∧ Ow K H0 H l4 (st9.1.map (eT eI))) ⟨e0, S, o_l3, o_l4⟩ (fun st9 b σ H hb p _ => ?_) (fun st9 σ H H2 p e1 => ?_) (fun st9 σ H c4 _ hf p kh0 hret4 N hN => ?_) (fun st9 σ H hgo p kp1 => ?_)
    · obtain ⟨e0, S, o_l3, o_l4⟩ := p
      have hb := Option.some.inj hb
      subst hb
      exact (q_truL (f := (eT eI)) (p_var (i := 4) S rfl).s)
    · obtain ⟨e0, S, o_l3, o_l4⟩ := p
      exact ⟨e0.trans e1, S.ex e1, o_l3.ex e1, o_l4.ex e1⟩
    · obtain ⟨e0, S, o_l3, o_l4⟩ := p
      have kh := kh0
      have hb11 : _ = some c4 := hf
      obtain ⟨x12, h_x12, hb11⟩ := bind_some hb11
      obtain ⟨top_13, h_top_13, hb11⟩ := bind_some hb11
      have h_top_13 := Option.some.inj h_top_13
      with_reducible refine st_seq ?_
      refine s_set (K := K) (d := (eT eI) top_13) (EvP.to (p_maxKL (f := (eT eI)) (gb := (eP eI (eT eI))) (p_var (i := 4) S rfl).s h_x12 (fun a b h => ⟨a, b, rfl, h, rfl⟩)) (congrArg (eT eI) h_top_13)) fun v H e1 d1 => ?_
      have S := S.ex e1
      have e0 := e0.trans e1
      have kh := kh.trans (Kp.of e1)
      have o_l3 := o_l3.ex e1
      have o_l4 := o_l4.ex e1
      have S : Sl K H _ [some (.dat ((eT (eT eI)) p_p)), some (.dat ((eFD (eT (eT eI))) p_leaders)), some (.raw (.ref l3)), some (.raw (.ref l4)), some (.dat ((eL (eT eI)) st9.2.2)), some (.dat ((eT eI) top_13)), none] := S.put 5 d1
      generalize List.set _ 5 (some v) = σ at S ⊢
      obtain ⟨u14, h_u14, hb11⟩ := bind_some hb11
      obtain ⟨y15, h_y15, hb11⟩ := bind_some hb11
      have h_y15 := Option.some.inj h_y15
      with_reducible refine st_seq ?_
      refine s_app (K := K) S rfl o_l4 (p_var (i := 5) S rfl) (by rw [List.length_map]; exact chk_dec h_u14) fun H kp1 bt1 o2 => ?_
      have S := S.kp kp1
      have e0 := ex_but e0 o_l4.1 o_l4.nc bt1
      have kh := kh.trans kp1
      have o_l3 := o_l3.but (by first | exact ne_l3_l4 | exact ne_l4_l3.symm) kp1 bt1
      have o_l4 : Ow K H0 H l4 (y15.map (eT eI)) := by rw [← h_y15, List.map_append]; exact o2
      have S : Sl K H _ [some (.dat ((eT (eT eI)) p_p)), some (.dat ((eFD (eT (eT eI))) p_leaders)), some (.raw (.ref l3)), some (.raw (.ref l4)), some (.dat ((eL (eT eI)) st9.2.2)), some (.dat ((eT eI) top_13)), none] := S
      obtain ⟨g16, h_g16, hb11⟩ := bind_some hb11
      obtain ⟨c19, h_c19, hb11⟩ := bind_some hb11
      with_reducible refine st_seq ?_
      refine s_for (K := K) (ts := [6]) (enc := (eT eI)) (it_tup (p_fdget (f := (eT (eT eI))) h_g16 (p_var (i := 1) S rfl) (p_var (i := 5) S rfl))) (fun (st18 : (List ((List Int) × Bool))) (x17 : (List Int)) => ((Option.bind (bif (hasA st18 x17) then (Option.bind (chk (hasA st18 x17)) fun u24 => (Option.bind (some (delA st18 x17)) fun d25 : (List ((List Int) × Bool)) => some (d25))) else (Option.bind (chk (decide (st18.length < 16777216))) fun u26 => (Option.bind (some (putA st18 x17 true)) fun d27 : (List ((List Int) × Bool)) => some (d27)))) fun st22 : (List ((List Int) × Bool)) => some (.go (st22))) : Option (Ct ((List ((List Int) × Bool))) ((List (List Int)) × (List (List Int)))))) h_c19 (fun st18 σ H => Vx.Ex H0 H ∧ Sl K H σ [some (.dat ((eT (eT eI)) p_p)), some (.dat ((eFD (eT (eT eI))) p_leaders)), some (.raw (.ref l3)), some (.raw (.ref l4)), some (.dat ((eL (eT eI)) st9.2.2)), some (.dat ((eT eI) top_13)), none] ∧ OwT K H0 H l3 (st18.map fun p => (p.1, eB p.2)) ∧ Ow K H0 H l4 (y15.map (eT eI))) (fun st18 σ H p => p.1) (fun H e1 => ?_) (fun Hk st18 x17 σ H c5 _ _ hf p kh0 hret5 vx H e1 dx N hN => ?_) (fun st18 σ H hgo p kp1 => ?_)
      · have S := S.ex e1
        have e0 := e0.trans e1
        have o_l3 := o_l3.ex e1
        have o_l4 := o_l4.ex e1
        exact ⟨e0, S, o_l3, o_l4⟩
      · obtain ⟨e0, S, o_l3, o_l4⟩ := p
        have kh := kh0.trans (Kp.of e1)
        have S := S.ex e1
        have e0 := e0.trans e1
        have o_l3 := o_l3.ex e1
        have o_l4 := o_l4.ex e1
        refine (show Gd K _ _ _ [some (.dat ((eT (eT eI)) p_p)), some (.dat ((eFD (eT (eT eI))) p_leaders)), some (.raw (.ref l3)), some (.raw (.ref l4)), some (.dat ((eL (eT eI)) st9.2.2)), some (.dat ((eT eI) top_13)), none] [some (.dat ((eT (eT eI)) p_p)), some (.dat ((eFD (eT (eT eI))) p_leaders)), some (.raw (.ref l3)), some (.raw (.ref l4)), some (.dat ((eL (eT eI)) st9.2.2)), some (.dat ((eT eI) top_13)), some (.dat ((eT eI) x17))] from gd_name) σ H vx S dx _ fun σ _ S => ?_
        have hb21 : _ = some c5 := hf
        have hb21 := hb21
        try (with_reducible show L2.Ends.nx _ _ _; with_reducible refine nx_go ?_)
        obtain ⟨st22, hif23, hb21⟩ := bind_some hb21
        refine s_ifJ (fun σ H => Vx.Ex H0 H ∧ Sl K H σ [some (.dat ((eT (eT eI)) p_p)), some (.dat ((eFD (eT (eT eI))) p_leaders)), some (.raw (.ref l3)), some (.raw (.ref l4)), some (.dat ((eL (eT eI)) st9.2.2)), some (.dat ((eT eI) top_13)), some (.dat ((eT eI) x17))] ∧ OwT K H0 H l3 (st22.map fun p => (p.1, eB p.2)) ∧ Ow K H0 H l4 (y15.map (eT eI)) ∧ Kp Hk H) (t_val (EvP.to (p_dinT (n := x17) S rfl o_l3 (p_var (i := 6) S rfl)) (by rw [hasA_mapf]))) (fun σ H p => ?_) (fun hb H e1 J => ?_) (fun hb H e1 J => ?_)
        · obtain ⟨e0, S, o_l3, o_l4, kh⟩ := p
          have hb21 := Option.some.inj hb21
          have S : Sl K H σ [some (.dat ((eT (eT eI)) p_p)), some (.dat ((eFD (eT (eT eI))) p_leaders)), some (.raw (.ref l3)), some (.raw (.ref l4)), some (.dat ((eL (eT eI)) st9.2.2)), some (.dat ((eT eI) top_13)), none] := (S).forget 6
          exact hN (st22) σ H hb21.symm ⟨e0, S, o_l3, o_l4⟩ kh
        · have hif23 := cnd_t hb hif23
          have S := S.ex e1
          have e0 := e0.trans e1
          have kh := kh.trans (Kp.of e1)
          have o_l3 := o_l3.ex e1
          have o_l4 := o_l4.ex e1
          try (with_reducible show L2.Ends.nx _ _ _; with_reducible refine nx_go ?_)
          obtain ⟨u24, h_u24, hif23⟩ := bind_some hif23
          obtain ⟨d25, h_d25, hif23⟩ := bind_some hif23
          have h_d25 := Option.some.inj h_d25
          refine s_ddelT (n := x17) S rfl o_l3 (p_var (i := 6) S rfl) (by rw [hasA_mapf]; exact chk_some h_u24) fun H kp1 bt1 o2 => ?_
          have S := S.kp kp1
          have e0 := ex_but e0 o_l3.1 o_l3.nc bt1
          have kh := kh.trans kp1
          have o_l4 := o_l4.but (by first | exact ne_l4_l3 | exact ne_l3_l4.symm) kp1 bt1
          have o_l3 : OwT K H0 H l3 (d25.map fun p => (p.1, eB p.2)) := by rw [← h_d25, ← delA_map]; exact o2
          have S : Sl K H _ [some (.dat ((eT (eT eI)) p_p)), some (.dat ((eFD (eT (eT eI))) p_leaders)), some (.raw (.ref l3)), some (.raw (.ref l4)), some (.dat ((eL (eT eI)) st9.2.2)), some (.dat ((eT eI) top_13)), some (.dat ((eT eI) x17))] := S
          have hif23 := Option.some.inj hif23
          subst hif23
          have S : Sl K H σ [some (.dat ((eT (eT eI)) p_p)), some (.dat ((eFD (eT (eT eI))) p_leaders)), some (.raw (.ref l3)), some (.raw (.ref l4)), some (.dat ((eL (eT eI)) st9.2.2)), some (.dat ((eT eI) top_13)), some (.dat ((eT eI) x17))] := S
          exact J σ H ⟨e0, S, o_l3, o_l4, kh⟩
        · have hif23 := cnd_f hb hif23
          have S := S.ex e1
          have e0 := e0.trans e1
          have kh := kh.trans (Kp.of e1)
          have o_l3 := o_l3.ex e1
          have o_l4 := o_l4.ex e1
          try (with_reducible show L2.Ends.nx _ _ _; with_reducible refine nx_go ?_)
          obtain ⟨u26, h_u26, hif23⟩ := bind_some hif23
          obtain ⟨d27, h_d27, hif23⟩ := bind_some hif23
          have h_d27 := Option.some.inj h_d27
          refine s_dputT (K := K) S rfl o_l3 (p_var (i := 6) S rfl) p_bl (by rw [List.length_map]; exact chk_dec h_u26) fun H kp1 bt1 o2 => ?_
          have S := S.kp kp1
          have e0 := ex_but e0 o_l3.1 o_l3.nc bt1
          have kh := kh.trans kp1
          have o_l4 := o_l4.but (by first | exact ne_l4_l3 | exact ne_l3_l4.symm) kp1 bt1
          have o_l3 : OwT K H0 H l3 (d27.map fun p => (p.1, eB p.2)) := by rw [← h_d27, putA_map]; exact o2
          have S : Sl K H _ [some (.dat ((eT (eT eI)) p_p)), some (.dat ((eFD (eT (eT eI))) p_leaders)), some (.raw (.ref l3)), some (.raw (.ref l4)), some (.dat ((eL (eT eI)) st9.2.2)), some (.dat ((eT eI) top_13)), some (.dat ((eT eI) x17))] := S
          have hif23 := Option.some.inj hif23
          subst hif23
          have S : Sl K H σ [some (.dat ((eT (eT eI)) p_p)), some (.dat ((eFD (eT (eT eI))) p_leaders)), some (.raw (.ref l3)), some (.raw (.ref l4)), some (.dat ((eL (eT eI)) st9.2.2)), some (.dat ((eT eI) top_13)), some (.dat ((eT eI) x17))] := S
          exact J σ H ⟨e0, S, o_l3, o_l4, kh⟩
      · obtain ⟨e0, S, o_l3, o_l4⟩ := p
        have kh := kh.trans kp1
        subst hgo
        dsimp only [Ct.el] at hb11
        try (with_reducible show L2.Ends.nx _ _ _; with_reducible refine nx_go ?_)
        obtain ⟨u28, h_u28, hb11⟩ := bind_some hb11
        refine s_setFz (ds := (((st18.map (·.1)).filter (fun it29 : (List Int) => (hasA p_leaders it29))).map (fun it29 : (List Int) => it29)).map (eT eI)) (n_lockD S o_l3 fun H od5 ks5 kp5 S b5 c5 => (n_lcF (enc := (eT eI)) (encb := (eT eI)) (ts := [6]) (vs := [6]) (bind := (fun it29 : (List Int) => [some (.dat ((eT (eT eI)) p_p)), some (.dat ((eFD (eT (eT eI))) p_leaders)), some (.raw (.ref l3)), some (.raw (.ref l4)), some (.dat ((eL (eT eI)) st9.2.2)), some (.dat ((eT eI) top_13)), some (.dat ((eT eI) it29))])) (fun it29 : (List Int) => (hasA p_leaders it29)) (fun it29 : (List Int) => it29) S (ie_keysL (f := eB) (kvs := st18) S rfl b5 c5 (chk_dec h_u28)) (fun it29 => gd_name) (by intro t ht; revert ht; revert t; decide) (fun it29 _ σ H e1 S => by exact (t_val (p_fdin (f := (eT (eT eI))) (n := it29) (p_var (i := 1) S rfl) (p_var (i := 6) S rfl)))) (fun it29 _ _ σ H e1 S => by exact (p_var (i := 6) S rfl)))) fun v H e1 d1 => ?_
        have S := S.ex e1
        have e0 := e0.trans e1
        have kh := kh.trans (Kp.of e1)
        have o_l3 := o_l3.ex e1
        have o_l4 := o_l4.ex e1
        have S : Sl K H _ [some (.dat ((eT (eT eI)) p_p)), some (.dat ((eFD (eT (eT eI))) p_leaders)), some (.raw (.ref l3)), some (.raw (.ref l4)), some (.dat ((eL (eT eI)) (((st18.map (·.1)).filter (fun it29 : (List Int) => (hasA p_leaders it29))).map (fun it29 : (List Int) => it29)))), some (.dat ((eT eI) top_13)), none] := S.put 4 d1
        generalize List.set _ 4 (some v) = σ at S ⊢
        have hb11 := Option.some.inj hb11
        have S : Sl K H σ [some (.dat ((eT (eT eI)) p_p)), some (.dat ((eFD (eT (eT eI))) p_leaders)), some (.raw (.ref l3)), some (.raw (.ref l4)), some (.dat ((eL (eT eI)) (((st18.map (·.1)).filter (fun it29 : (List Int) => (hasA p_leaders it29))).map (fun it29 : (List Int) => it29)))), none, none] := (S).forget 5
        exact hN (y15, st18, (((st18.map (·.1)).filter (fun it29 : (List Int) => (hasA p_leaders it29))).map (fun it29 : (List Int) => it29))) σ H hb11.symm ⟨e0, S, o_l3, o_l4⟩ kh
    · obtain ⟨e0, S, o_l3, o_l4⟩ := p
      subst hgo
      dsimp only [Ct.el] at hm
      try (with_reducible show L2.Ends.nx _ _ _; with_reducible refine nx_go ?_)
      refine s_fz (K := K) S rfl o_l4 fun H kp1 bt1 S2 => ?_
      have S := S.kp kp1
      have e0 := ex_but e0 o_l4.1 o_l4.nc bt1
      have o_l3 := o_l3.but (by first | exact ne_l3_l4 | exact ne_l4_l3.symm) kp1 bt1
      have S : Sl K H _ [some (.dat ((eT (eT eI)) p_p)), some (.dat ((eFD (eT (eT eI))) p_leaders)), some (.raw (.ref l3)), some (.dat ((eL (eT eI)) st9.1)), some (.dat ((eL (eT eI)) st9.2.2)), none, none] := S2
      try (with_reducible show L2.Ends.nx _ _ _; with_reducible refine nx_go ?_)
      have hm := Option.some.inj hm
      subst hm
      exact s_ret (K := K) (σ := σ) (p_tup (a_cons (p_tupL (sortDT_ty (env := eB) (n_sortDT (i := 2) S rfl o_l3)).fz.s) (a_cons (p_var (i := 3) S rfl) a_nil)) (by simp)) fun v H1 e1 dr => q v H1 (e0.trans e1) dr
theorem ok_leading (T : Tx K mg) : FnOk P w K mg base (L2.CX P w) 3 T.a_leading T.d_leading ["p"] (SpR K 1 R_leading) := by
  have G_weight := ok_weight (P := P) (w := w) (base := base) T
  refine fun_okC T.F_leading sc_leading (fun vs H Q E h => ?_) (fun A outer s H0 vs Q E hr h => ?_)
  · obtain ⟨as, r, hn, _, ha, _, _⟩ := h
    exact ha.len.trans hn
  · obtain ⟨as, r, hn, hR, ha, t0, q⟩ := h
    obtain ⟨p_p, z, rfl, hm, rfl⟩ := hR
    rcases ha with _ | @⟨v_p, _, _, _, h_0, ha⟩
    cases ha
    have h_0 : Dr K H0 _ ((eT (eT eI)) p_p) := h_0
    refine ⟨_, (pss_one (ps_ret (pe_callBK (cl_maxKT K (fun _ _ h => nomatch h) G_weight (hr.mono (by first | decide | omega)) T.b_weight rfl (un_of hr)) (by rfl) T.m_max (by decide +kernel) (pa_cons (pv 0) pa_nil) (pk_cons (pe_glob (v := .ref T.a_weight) (by rfl) T.g_weight rfl) pk_nil)))), ?_⟩
    have S : Sl K H0 (L2.start ["p"] [v_p]) [some (.dat ((eT (eT eI)) p_p))] := sl_start rfl (Nat.le_of_ble_eq_true rfl) (by
      intro i v e h1 h2
      rcases i with _ | i
      · cases h1; cases h2; exact ⟨_, rfl, h_0⟩
      · simp at h1) (by
      intro i e h1 h2
      rcases i with _ | i
      · exact absurd h1 (Nat.not_le_of_gt (Nat.le_of_ble_eq_true rfl))
      · simp at h2)
    have e0 : Vx.Ex H0 H0 := Vx.Ex.refl H0
    generalize L2.start ["p"] [v_p] = σ at S ⊢
    unfold m_leading at hm
    try (with_reducible show L2.Ends.nx _ _ _; with_reducible refine nx_go ?_)
    obtain ⟨x1, h_x1, hm⟩ := bind_some hm
    have hm := Option.some.inj hm
    subst hm
    exact s_ret (K := K) (σ := σ) (p_maxKT (f := (eT eI)) (gb := (eP eI (eT eI))) (p_var (i := 0) S rfl) h_x1 (fun a b h => ⟨a, b, rfl, h, rfl⟩)) fun v H1 e1 dr => q v H1 (e0.trans e1) dr
theorem ok_led (T : Tx K mg) : FnOk P w K mg base (L2.CX P w) 4 T.a_led T.d_led ["space"] (SpR K 1 R_led) := by
  have G_leading := ok_leading (P := P) (w := w) (base := base) T
  refine fun_okC T.F_led sc_led (fun vs H Q E h => ?_) (fun A outer s H0 vs Q E hr h => ?_)
  · obtain ⟨as, r, hn, _, ha, _, _⟩ := h
    exact ha.len.trans hn
  · obtain ⟨as, r, hn, hR, ha, t0, q⟩ := h
    obtain ⟨p_space, z, rfl, hm, rfl⟩ := hR
    rcases ha with _ | @⟨v_space, _, _, _, h_0, ha⟩
    cases ha
    have h_0 : Dr K H0 _ ((eT (eT (eT eI))) p_space) := h_0
    refine ⟨_, (pss_one (ps_ret (pe_fzT (pe_dcT (c := ⟨_, _, _, _, _, _, [1]⟩) (own := [("p", 1)]) (hu_of hr) rfl sc_led.nd (pi_wfK K (pi_tupK K (pv 0))) (blkOk_by (own := [("p", 1)]) (N := ["space", "p"]) (sc := defScope s_led) (by decide +kernel)) (fun _ _ _ _ _ => (pg_name (i := 1) sc_led.nd rfl (by first | exact .inl rfl | exact .inr rfl))) (fun _ _ _ _ _ => pts_nil) (fun _ _ _ _ _ => (pe_call G_leading (hr.mono (by first | decide | omega)) (by rfl) T.g_leading T.F_leading.kp T.b_leading .nil passL (pa_cons (pv 1) pa_nil))) (fun _ _ _ _ _ => (pv 1)))))), ?_⟩
    have S : Sl K H0 (L2.start ["space", "p"] [v_space]) [some (.dat ((eT (eT (eT eI))) p_space)), none] := sl_start rfl (Nat.le_of_ble_eq_true rfl) (by
      intro i v e h1 h2
      rcases i with _ | i
      · cases h1; cases h2; exact ⟨_, rfl, h_0⟩
      · simp at h1) (by
      intro i e h1 h2
      rcases i with _ | i
      · exact absurd h1 (Nat.not_le_of_gt (Nat.le_of_ble_eq_true rfl))
      rcases i with _ | i
      · cases h2; rfl
      · simp at h2)
    have e0 : Vx.Ex H0 H0 := Vx.Ex.refl H0
    generalize L2.start ["space", "p"] [v_space] = σ at S ⊢
    unfold m_led at hm
    try (with_reducible show L2.Ends.nx _ _ _; with_reducible refine nx_go ?_)
    obtain ⟨y3, h_y3, hm⟩ := bind_some hm
    have hm := Option.some.inj hm
    subst hm
    exact s_ret (K := K) (σ := σ) (EvDT.p (f := (eT (eT eI))) (n_dcT (enc := (eT (eT eI))) (encv := (eT (eT eI))) (ts := [1]) (vs := [1]) (bind := (fun it1 : (List (List Int)) => [some (.dat ((eT (eT (eT eI))) p_space)), some (.dat ((eT (eT eI)) it1))])) rfl (fun it1 : (List (List Int)) => (Option.bind (m_leading it1) fun r2 => some ((r2, it1) : (List Int) × (List (List Int))))) h_y3 S (ie_tup (p_var (i := 0) S rfl)) (fun it1 => gd_name) (by intro t ht; revert ht; revert t; decide) (fun it1 _ p hr2 σ H e1 S => by have e0 := e0.trans e1; obtain ⟨r2, h_r2, hr2⟩ := bind_some hr2; cases hr2; exact ⟨(p_callR (tabs_ex e0 t0) (g_d (p_var (i := 1) S rfl) g_nil) rfl ⟨_, _, rfl, h_r2, rfl⟩), (p_var (i := 1) S rfl)⟩))) fun v H1 e1 dr => q v H1 (e0.trans e1) dr
theorem ok_reduced (T : Tx K mg) : FnOk P w K mg base (L2.CX P w) 5 T.a_reduced T.d_reduced ["p", "space"] (SpR K 2 R_reduced) := by
  have G_led := ok_led (P := P) (w := w) (base := base) T
  have G_reduction := ok_reduction (P := P) (w := w) (base := base) T
  refine fun_okC T.F_reduced sc_reduced (fun vs H Q E h => ?_) (fun A outer s H0 vs Q E hr h => ?_)
  · obtain ⟨as, r, hn, _, ha, _, _⟩ := h
    exact ha.len.trans hn
  · obtain ⟨as, r, hn, hR, ha, t0, q⟩ := h
    obtain ⟨p_p, p_space, z, rfl, hm, rfl⟩ := hR
    rcases ha with _ | @⟨v_p, _, _, _, h_0, ha⟩
    rcases ha with _ | @⟨v_space, _, _, _, h_1, ha⟩
    cases ha
    have h_0 : Dr K H0 _ ((eT (eT eI)) p_p) := h_0
    have h_1 : Dr K H0 _ ((eT (eT (eT eI))) p_space) := h_1
    refine ⟨_, (pss_one (ps_ret (pe_ix (ix_tupK K) (pe_call G_reduction (hr.mono (by first | decide | omega)) (by rfl) T.g_reduction T.F_reduction.kp T.b_reduction .nil passL (pa_cons (pv 0) (pa_cons (pe_call G_led (hr.mono (by first | decide | omega)) (by rfl) T.g_led T.F_led.kp T.b_led .nil passL (pa_cons (pv 1) pa_nil)) pa_nil))) pe_int (fun _ _ => rfl)))), ?_⟩
    have S : Sl K H0 (L2.start ["p", "space"] [v_p, v_space]) [some (.dat ((eT (eT eI)) p_p)), some (.dat ((eT (eT (eT eI))) p_space))] := sl_start rfl (Nat.le_of_ble_eq_true rfl) (by
      intro i v e h1 h2
      rcases i with _ | i
      · cases h1; cases h2; exact ⟨_, rfl, h_0⟩
      rcases i with _ | i
      · cases h1; cases h2; exact ⟨_, rfl, h_1⟩
      · simp at h1) (by
      intro i e h1 h2
      rcases i with _ | i
      · exact absurd h1 (Nat.not_le_of_gt (Nat.le_of_ble_eq_true rfl))
      rcases i with _ | i
      · exact absurd h1 (Nat.not_le_of_gt (Nat.le_of_ble_eq_true rfl))
      · simp at h2)
    have e0 : Vx.Ex H0 H0 := Vx.Ex.refl H0
    generalize L2.start ["p", "space"] [v_p, v_space] = σ at S ⊢
    unfold m_reduced at hm
    try (with_reducible show L2.Ends.nx _ _ _; with_reducible refine nx_go ?_)
    obtain ⟨r1, h_r1, hm⟩ := bind_some hm
    obtain ⟨r2, h_r2, hm⟩ := bind_some hm
    have hm := Option.some.inj hm
    subst hm
    exact s_ret (K := K) (σ := σ) (p_ixT (p_callR (tabs_ex e0 t0) (g_d (p_var (i := 0) S rfl) (g_d (p_callR (tabs_ex e0 t0) (g_d (p_var (i := 1) S rfl) g_nil) rfl ⟨_, _, rfl, h_r1, rfl⟩) g_nil)) rfl ⟨_, _, _, rfl, h_r2, rfl⟩) p_int rfl) fun v H1 e1 dr => q v H1 (e0.trans e1) dr
theorem ok__law_cell (T : Tx K mg) : FnOk P w K mg base (L2.CX P w) 1 T.a__law_cell T.d__law_cell ["script", "k"] (SpR K 2 R__law_cell) := by
  refine fun_okC T.F__law_cell sc__law_cell (fun vs H Q E h => ?_) (fun A outer s H0 vs Q E hr h => ?_)
  · obtain ⟨as, r, hn, _, ha, _, _⟩ := h
    exact ha.len.trans hn
  · obtain ⟨as, r, hn, hR, ha, t0, q⟩ := h
    obtain ⟨p_script, p_k, z, rfl, hm, rfl⟩ := hR
    rcases ha with _ | @⟨v_script, _, _, _, h_0, ha⟩
    rcases ha with _ | @⟨v_k, _, _, _, h_1, ha⟩
    cases ha
    obtain ⟨a_script, vs_script, rfl, hs_script, hd_script⟩ := h_0
    have h_1 : Dr K H0 _ (eI p_k) := h_1
    refine ⟨_, (pss_cons (ps_if (pt_cmpR op_lt (pv 1) (pe_callB (cl_len K) (by rfl) T.m_len (by decide +kernel) (pa_cons (pv 0) pa_nil)) (nomark _)) (pss_one (ps_ret (pe_ix (ix_listK K) (pv 0) (pv 1) (fun _ _ => rfl)))) pss_nil) (pss_one (ps_ret pe_int))), ?_⟩
    have S : Sl K H0 (L2.start ["script", "k"] [V.ref a_script, v_k]) [some (.raw (.ref a_script)), some (.dat (eI p_k))] := sl_start rfl (Nat.le_of_ble_eq_true rfl) (by
      intro i v e h1 h2
      rcases i with _ | i
      · cases h1; cases h2; exact rfl
      rcases i with _ | i
      · cases h1; cases h2; exact ⟨_, rfl, h_1⟩
      · simp at h1) (by
      intro i e h1 h2
      rcases i with _ | i
      · exact absurd h1 (Nat.not_le_of_gt (Nat.le_of_ble_eq_true rfl))
      rcases i with _ | i
      · exact absurd h1 (Nat.not_le_of_gt (Nat.le_of_ble_eq_true rfl))
      · simp at h2)
    have e0 : Vx.Ex H0 H0 := Vx.Ex.refl H0
    generalize L2.start ["script", "k"] [V.ref a_script, v_k] = σ at S ⊢
    unfold m__law_cell at hm
    with_reducible refine st_seq ?_
    refine Vx.s_if (t_test (p_b0 (p_var (i := 1) S rfl) (q_lenL (f := eI) (par_s (i := 0) S rfl e0 hs_script hd_script)))) (fun hb H e1 => ?_) (fun hb H e1 => ?_)
    · have hm := cnd_t hb hm
      have S := S.ex e1
      have e0 := e0.trans e1
      try (with_reducible show L2.Ends.nx _ _ _; with_reducible refine nx_go ?_)
      obtain ⟨x1, h_x1, hm⟩ := bind_some hm
      have hm := Option.some.inj hm
      subst hm
      exact s_ret (K := K) (σ := σ) (q_ixL (f := eI) (xs := p_script) (par_s (i := 0) S rfl e0 hs_script hd_script) (p_var (i := 1) S rfl) h_x1) fun v H1 e1 dr => q v H1 (e0.trans e1) dr
    · have hm := cnd_f hb hm
      have S := S.ex e1
      have e0 := e0.trans e1
      first | refine s_nextX ?_ | refine s_next ?_
      try (with_reducible show L2.Ends.nx _ _ _; with_reducible refine nx_go ?_)
      have hm := Option.some.inj hm
      subst hm
      exact s_ret (K := K) (σ := σ) p_int fun v H1 e1 dr => q v H1 (e0.trans e1) dr
theorem ok__law_toggle (T : Tx K mg) : FnOk P w K mg base (L2.CX P w) 1 T.a__law_toggle T.d__law_toggle ["found", "monomial"] (SpM K 1 RM__law_toggle) := by
  refine fun_okC T.F__law_toggle sc__law_toggle (fun vs H Q E h => ?_) (fun A outer s Hx vs Q E hr h => ?_)
  · obtain ⟨l, ws, kvs, kvs2, as, ks, rfl, hn, hR, ha, _⟩ := h
    have e1 := ha.len
    simp only [List.length_cons, List.length_nil]; omega
  · obtain ⟨lM, ws, kvs, kvs2, as, ks, rfl, hn, hR, ha, t0, hlM, hcM, q⟩ := h
    obtain ⟨p_found, p_monomial, z, rfl, rfl, hm, rfl⟩ := hR
    rcases ha with _ | @⟨v_monomial, _, _, _, h_0, ha⟩
    cases ha
    have o_lM := owt_at hlM hcM
    have e0 : Vx.Ex (delH' Hx lM) Hx := ex_del (nt_of hlM)
    have t0 := tabs_del hlM t0
    have h_0 : Dr K Hx _ ((eT eI) p_monomial) := h_0
    refine ⟨_, (pss_one (ps_if (pt_cmp (pc_din (hu_of hr) (pv 1) (pv 0)) (by rfl)) (pss_one (ps_expr (pe_dpopT (hu_of hr) (pv 0) (pv 1) ⟨rfl, rfl, rfl, rfl⟩))) (pss_one (ps_dput (hu_of hr) (pv 0) (pv 1) pe_bl rfl)))), ?_⟩
    have S : Sl K Hx (L2.start ["found", "monomial"] [V.ref lM, v_monomial]) [some (.raw (.ref lM)), some (.dat ((eT eI) p_monomial))] := sl_start rfl (Nat.le_of_ble_eq_true rfl) (by
      intro i v e h1 h2
      rcases i with _ | i
      · cases h1; cases h2; exact rfl
      rcases i with _ | i
      · cases h1; cases h2; exact ⟨_, rfl, h_0⟩
      · simp at h1) (by
      intro i e h1 h2
      rcases i with _ | i
      · exact absurd h1 (Nat.not_le_of_gt (Nat.le_of_ble_eq_true rfl))
      rcases i with _ | i
      · exact absurd h1 (Nat.not_le_of_gt (Nat.le_of_ble_eq_true rfl))
      · simp at h2)
    obtain ⟨H0, hH0⟩ : ∃ H0, H0 = delH' Hx lM := ⟨_, rfl⟩
    rw [← hH0] at o_lM e0 t0
    generalize L2.start ["found", "monomial"] [V.ref lM, v_monomial] = σ at S ⊢
    unfold m__law_toggle at hm
    try (with_reducible show L2.Ends.nx _ _ _; with_reducible refine nx_go ?_)
    obtain ⟨st1, hif2, hm⟩ := bind_some hm
    refine s_ifJ (fun σ H => Vx.Ex H0 H ∧ Sl K H σ [some (.raw (.ref lM)), some (.dat ((eT eI) p_monomial))] ∧ OwT K H0 H lM (st1.map fun p => (p.1, eB p.2))) (t_val (EvP.to (p_dinT (n := p_monomial) S rfl o_lM (p_var (i := 1) S rfl)) (by rw [hasA_mapf]))) (fun σ H p => ?_) (fun hb H e1 J => ?_) (fun hb H e1 J => ?_)
    · obtain ⟨e0, S, o_lM⟩ := p
      have hm := Option.some.inj hm
      subst hm
      obtain ⟨_, ksz, hlz, hcz⟩ := o_lM
      subst hH0
      exact q _ ksz (kp_back hlM e0) (xb_of_del hlM e0) hlz hcz
    · have hif2 := cnd_t hb hif2
      have S := S.ex e1
      have e0 := e0.trans e1
      have o_lM := o_lM.ex e1
      try (with_reducible show L2.Ends.nx _ _ _; with_reducible refine nx_go ?_)
      obtain ⟨u3, h_u3, hif2⟩ := bind_some hif2
      obtain ⟨d4, h_d4, hif2⟩ := bind_some hif2
      have h_d4 := Option.some.inj h_d4
      refine s_dpopT (n := p_monomial) S rfl o_lM (p_var (i := 1) S rfl) (by rw [hasA_mapf]; exact chk_some h_u3) fun H kp1 bt1 o2 => ?_
      have S := S.kp kp1
      have e0 := ex_but e0 o_lM.1 o_lM.nc bt1
      have o_lM : OwT K H0 H lM (d4.map fun p => (p.1, eB p.2)) := by rw [← h_d4, ← delA_map]; exact o2
      have S : Sl K H _ [some (.raw (.ref lM)), some (.dat ((eT eI) p_monomial))] := S
      have hif2 := Option.some.inj hif2
      subst hif2
      have S : Sl K H σ [some (.raw (.ref lM)), some (.dat ((eT eI) p_monomial))] := S
      exact J σ H ⟨e0, S, o_lM⟩
    · have hif2 := cnd_f hb hif2
      have S := S.ex e1
      have e0 := e0.trans e1
      have o_lM := o_lM.ex e1
      try (with_reducible show L2.Ends.nx _ _ _; with_reducible refine nx_go ?_)
      obtain ⟨u5, h_u5, hif2⟩ := bind_some hif2
      obtain ⟨d6, h_d6, hif2⟩ := bind_some hif2
      have h_d6 := Option.some.inj h_d6
      refine s_dputT (K := K) S rfl o_lM (p_var (i := 1) S rfl) p_bl (by rw [List.length_map]; exact chk_dec h_u5) fun H kp1 bt1 o2 => ?_
      have S := S.kp kp1
      have e0 := ex_but e0 o_lM.1 o_lM.nc bt1
      have o_lM : OwT K H0 H lM (d6.map fun p => (p.1, eB p.2)) := by rw [← h_d6, putA_map]; exact o2
      have S : Sl K H _ [some (.raw (.ref lM)), some (.dat ((eT eI) p_monomial))] := S
      have hif2 := Option.some.inj hif2
      subst hif2
      have S : Sl K H σ [some (.raw (.ref lM)), some (.dat ((eT eI) p_monomial))] := S
      exact J σ H ⟨e0, S, o_lM⟩
theorem ok__law_sum (T : Tx K mg) : FnOk P w K mg base (L2.CX P w) 2 T.a__law_sum T.d__law_sum ["p", "q"] (SpR K 2 R__law_sum) := by
  have G__law_toggle := ok__law_toggle (P := P) (w := w) (base := base) T
  refine fun_okC T.F__law_sum sc__law_sum (fun vs H Q E h => ?_) (fun A outer s H0 vs Q E hr h => ?_)
  · obtain ⟨as, r, hn, _, ha, _, _⟩ := h
    exact ha.len.trans hn
  · obtain ⟨as, r, hn, hR, ha, t0, q⟩ := h
    obtain ⟨p_p, p_q, z, rfl, hm, rfl⟩ := hR
    rcases ha with _ | @⟨v_p, _, _, _, h_0, ha⟩
    rcases ha with _ | @⟨v_q, _, _, _, h_1, ha⟩
    cases ha
    have h_0 : Dr K H0 _ ((eT (eT eI)) p_p) := h_0
    have h_1 : Dr K H0 _ ((eT (eT eI)) p_q) := h_1
    refine ⟨_, (pss_cons (ps_set (i := 2) sc__law_sum.nd rfl (by first | exact .inl rfl | exact .inr rfl) pe_dnewT) (pss_cons (ps_for (passes_of rfl) rfl (pi_tup (pe_op (op_catAK K) (pv 0) (pv 1))) (pg_name (i := 3) sc__law_sum.nd rfl (by first | exact .inl rfl | exact .inr rfl)) (pss_one (ps_expr (pe_call G__law_toggle (hr.mono (by first | decide | omega)) (by rfl) T.g__law_toggle T.F__law_toggle.kp T.b__law_toggle .nil passL (pa_cons (pv 2) (pa_cons (pv 3) pa_nil)))))) (pss_one (ps_ret (pe_callTy (cl_tup K) (by rfl) T.m_tuple (by decide +kernel) (pa_cons (pe_fz (pe_callB (cr_sortDT rfl hr.units) (by rfl) T.m_sorted (by decide +kernel) (pa_cons (pv 2) pa_nil))) pa_nil)))))), ?_⟩
    have S : Sl K H0 (L2.start ["p", "q", "found", "monomial"] [v_p, v_q]) [some (.dat ((eT (eT eI)) p_p)), some (.dat ((eT (eT eI)) p_q)), none, none] := sl_start rfl (Nat.le_of_ble_eq_true rfl) (by
      intro i v e h1 h2
      rcases i with _ | i
      · cases h1; cases h2; exact ⟨_, rfl, h_0⟩
      rcases i with _ | i
      · cases h1; cases h2; exact ⟨_, rfl, h_1⟩
      · simp at h1) (by
      intro i e h1 h2
      rcases i with _ | i
      · exact absurd h1 (Nat.not_le_of_gt (Nat.le_of_ble_eq_true rfl))
      rcases i with _ | i
      · exact absurd h1 (Nat.not_le_of_gt (Nat.le_of_ble_eq_true rfl))
      rcases i with _ | i
      · cases h2; rfl
      rcases i with _ | i
      · cases h2; rfl
      · simp at h2)
    have e0 : Vx.Ex H0 H0 := Vx.Ex.refl H0
    generalize L2.start ["p", "q", "found", "monomial"] [v_p, v_q] = σ at S ⊢
    unfold m__law_sum at hm
    with_reducible refine st_seq ?_
    refine s_dnewT (K := K) e0 fun l1 H e1 nl o_l1 => ?_
    have S := S.ex e1
    have e0 := e0.trans e1
    have S : Sl K H _ [some (.dat ((eT (eT eI)) p_p)), some (.dat ((eT (eT eI)) p_q)), some (.raw (.ref l1)), none] := S.putR 2
    generalize List.set _ 2 (some (V.ref l1)) = σ at S ⊢
    clear nl e1
    obtain ⟨u2, h_u2, hm⟩ := bind_some hm
    obtain ⟨c5, h_c5, hm⟩ := bind_some hm
    with_reducible refine st_seq ?_
    refine s_for (K := K) (ts := [3]) (enc := (eT eI)) (it_tup (q_catT (f := (eT eI)) (p_var (i := 0) S rfl) (p_var (i := 1) S rfl) (chk_dec h_u2))) (fun (st4 : (List ((List Int) × Bool))) (x3 : (List Int)) => ((Option.bind (m__law_toggle st4 x3) fun d8 => some (.go (d8))) : Option (Ct ((List ((List Int) × Bool))) (List (List Int))))) h_c5 (fun st4 σ H => Vx.Ex H0 H ∧ Sl K H σ [some (.dat ((eT (eT eI)) p_p)), some (.dat ((eT (eT eI)) p_q)), some (.raw (.ref l1)), none] ∧ OwT K H0 H l1 (st4.map fun p => (p.1, eB p.2))) (fun st4 σ H p => p.1) (fun H e1 => ?_) (fun Hk st4 x3 σ H c6 _ _ hf p kh0 hret6 vx H e1 dx N hN => ?_) (fun st4 σ H hgo p kp1 => ?_)
    · have S := S.ex e1
      have e0 := e0.trans e1
      have o_l1 := o_l1.ex e1
      exact ⟨e0, S, o_l1⟩
    · obtain ⟨e0, S, o_l1⟩ := p
      have kh := kh0.trans (Kp.of e1)
      have S := S.ex e1
      have e0 := e0.trans e1
      have o_l1 := o_l1.ex e1
      refine (show Gd K _ _ _ [some (.dat ((eT (eT eI)) p_p)), some (.dat ((eT (eT eI)) p_q)), some (.raw (.ref l1)), none] [some (.dat ((eT (eT eI)) p_p)), some (.dat ((eT (eT eI)) p_q)), some (.raw (.ref l1)), some (.dat ((eT eI) x3))] from gd_name) σ H vx S dx _ fun σ _ S => ?_
      have hb7 : _ = some c6 := hf
      have hb7 := hb7
      try (with_reducible show L2.Ends.nx _ _ _; with_reducible refine nx_go ?_)
      obtain ⟨d8, h_d8, hb7⟩ := bind_some hb7
      refine s_callM (tabs_ex e0 t0) S rfl o_l1 (g_d (p_var (i := 3) S rfl) g_nil) rfl ⟨_, _, _, rfl, rfl, h_d8, rfl⟩ fun H kp1 bt1 o2 => ?_
      have S := S.kp kp1
      have e0 := ex_but e0 o_l1.1 o_l1.nc bt1
      have kh := kh.trans kp1
      have o_l1 : OwT K H0 H l1 (d8.map fun p => (p.1, eB p.2)) := o2
      have S : Sl K H _ [some (.dat ((eT (eT eI)) p_p)), some (.dat ((eT (eT eI)) p_q)), some (.raw (.ref l1)), some (.dat ((eT eI) x3))] := S
      have hb7 := Option.some.inj hb7
      have S : Sl K H σ [some (.dat ((eT (eT eI)) p_p)), some (.dat ((eT (eT eI)) p_q)), some (.raw (.ref l1)), none] := (S).forget 3
      exact hN (d8) σ H hb7.symm ⟨e0, S, o_l1⟩ kh
    · obtain ⟨e0, S, o_l1⟩ := p
      subst hgo
      dsimp only [Ct.el] at hm
      try (with_reducible show L2.Ends.nx _ _ _; with_reducible refine nx_go ?_)
      have hm := Option.some.inj hm
      subst hm
      exact s_ret (K := K) (σ := σ) (p_tupL (sortDT_ty (env := eB) (n_sortDT (i := 2) S rfl o_l1)).fz.s) fun v H1 e1 dr => q v H1 (e0.trans e1) dr
theorem ok__law_leading (T : Tx K mg) : FnOk P w K mg base (L2.CX P w) 1 T.a__law_leading T.d__law_leading ["p"] (SpR K 1 R__law_leading) := by
  refine fun_okC T.F__law_leading sc__law_leading (fun vs H Q E h => ?_) (fun A outer s H0 vs Q E hr h => ?_)
  · obtain ⟨as, r, hn, _, ha, _, _⟩ := h
    exact ha.len.trans hn
  · obtain ⟨as, r, hn, hR, ha, t0, q⟩ := h
    obtain ⟨p_p, z, rfl, hm, rfl⟩ := hR
    rcases ha with _ | @⟨v_p, _, _, _, h_0, ha⟩
    cases ha
    have h_0 : Dr K H0 _ ((eT (eT eI)) p_p) := h_0
    refine ⟨_, (pss_one (ps_ret (pe_ix (ix_tupK K) (pe_callB (cl_maxD K rfl (un_of hr)) (by rfl) T.m_max (by decide +kernel) (pa_cons (pe_fz (pe_lc (own := [("monomial", 1)]) rfl sc__law_leading.nd (pi_wfK K (pi_tupK K (pv 0))) (blkOk_by (own := [("monomial", 1)]) (N := ["p", "monomial"]) (sc := defScope s__law_leading) (by decide +kernel)) (fun _ _ _ _ _ => (pg_name (i := 1) sc__law_leading.nd rfl (by first | exact .inl rfl | exact .inr rfl))) (fun _ _ _ _ _ => pts_nil) (fun _ _ _ _ _ => (pe_tup (pa_cons (pe_callB (cl_len K) (by rfl) T.m_len (by decide +kernel) (pa_cons (pv 1) pa_nil)) (pa_cons (pv 1) pa_nil)))))) pa_nil)) pe_int (fun _ _ => rfl)))), ?_⟩
    have S : Sl K H0 (L2.start ["p", "monomial"] [v_p]) [some (.dat ((eT (eT eI)) p_p)), none] := sl_start rfl (Nat.le_of_ble_eq_true rfl) (by
      intro i v e h1 h2
      rcases i with _ | i
      · cases h1; cases h2; exact ⟨_, rfl, h_0⟩
      · simp at h1) (by
      intro i e h1 h2
      rcases i with _ | i
      · exact absurd h1 (Nat.not_le_of_gt (Nat.le_of_ble_eq_true rfl))
      rcases i with _ | i
      · cases h2; rfl
      · simp at h2)
    have e0 : Vx.Ex H0 H0 := Vx.Ex.refl H0
    generalize L2.start ["p", "monomial"] [v_p] = σ at S ⊢
    unfold m__law_leading at hm
    try (with_reducible show L2.Ends.nx _ _ _; with_reducible refine nx_go ?_)
    obtain ⟨x2, h_x2, hm⟩ := bind_some hm
    have hm := Option.some.inj hm
    subst hm
    exact s_ret (K := K) (σ := σ) (p_ixT (p_maxD (gb := (eP eI (eT eI))) (n_lcM (enc := (eT eI)) (encb := (eP eI (eT eI))) (ts := [1]) (vs := [1]) (bind := (fun it1 : (List Int) => [some (.dat ((eT (eT eI)) p_p)), some (.dat ((eT eI) it1))])) (fun it1 : (List Int) => ((it1.length : Int), it1)) S (ie_tup (p_var (i := 0) S rfl)) (fun it1 => gd_name) (by intro t ht; revert ht; revert t; decide) (fun it1 _ σ H e1 S => by have e0 := e0.trans e1; exact (p_tup (a_cons (q_lenT (f := eI) (p_var (i := 1) S rfl)) (a_cons (p_var (i := 1) S rfl) a_nil)) (by simp)))).fz.s h_x2) p_int rfl) fun v H1 e1 dr => q v H1 (e0.trans e1) dr
theorem ok__law_reduced (T : Tx K mg) : FnOk P w K mg base (L2.CX P w) 3 T.a__law_reduced T.d__law_reduced ["p", "space"] (SpR K 2 R__law_reduced) := by
  have G__law_leading := ok__law_leading (P := P) (w := w) (base := base) T
  have G__law_sum := ok__law_sum (P := P) (w := w) (base := base) T
  refine fun_okC T.F__law_reduced sc__law_reduced (fun vs H Q E h => ?_) (fun A outer s H0 vs Q E hr h => ?_)
  · obtain ⟨as, r, hn, _, ha, _, _⟩ := h
    exact ha.len.trans hn
  · obtain ⟨as, r, hn, hR, ha, t0, q⟩ := h
    obtain ⟨p_p, p_space, z, rfl, hm, rfl⟩ := hR
    rcases ha with _ | @⟨v_p, _, _, _, h_0, ha⟩
    rcases ha with _ | @⟨v_space, _, _, _, h_1, ha⟩
    cases ha
    have h_0 : Dr K H0 _ ((eT (eT eI)) p_p) := h_0
    have h_1 : Dr K H0 _ ((eT (eT (eT eI))) p_space) := h_1
    refine ⟨_, (pss_cons (ps_set (i := 2) sc__law_reduced.nd rfl (by first | exact .inl rfl | exact .inr rfl) pe_dnewT) (pss_cons (ps_for (passes_of rfl) rfl (pi_tup (pv 1)) (pg_name (i := 3) sc__law_reduced.nd rfl (by first | exact .inl rfl | exact .inr rfl)) (pss_one (ps_dput (hu_of hr) (pv 2) (pe_call G__law_leading (hr.mono (by first | decide | omega)) (by rfl) T.g__law_leading T.F__law_leading.kp T.b__law_leading .nil passL (pa_cons (pv 3) pa_nil)) (pv 3) rfl))) (pss_cons (ps_for (passes_of rfl) rfl (pi_range1 (by rfl) T.m_range (pa_cons pe_int pa_nil)) (pg_name (i := 4) sc__law_reduced.nd rfl (by first | exact .inl rfl | exact .inr rfl)) (pss_cons (ps_setLc (i := 5) (own := [("monomial", 6)]) rfl sc__law_reduced.nd rfl rfl (sw_true rfl rfl rfl (by decide +kernel)) (pi_wfK K (pi_tupK K (pv 0))) (blkOk_by (own := [("monomial", 6)]) (N := ["p", "space", "leaders", "q", "k", "found", "monomial"]) (sc := defScope s__law_reduced) (by decide +kernel)) (fun _ _ _ _ _ => (pg_name (i := 6) sc__law_reduced.nd rfl (by first | exact .inl rfl | exact .inr rfl))) (fun _ _ _ _ _ => pts_one (pt_cmp (pc_din (hu_of hr) (pv 6) (pv 2)) (by rfl))) (fun _ _ _ _ _ => (pe_tup (pa_cons (pe_callB (cl_len K) (by rfl) T.m_len (by decide +kernel) (pa_cons (pv 6) pa_nil)) (pa_cons (pv 6) pa_nil))))) (pss_fz 5 (pss_cons (ps_if (pt_cmpR (op_eqDK K (un_of hr)) (pv 5) (pe_fz (pe_lst pa_nil)) (nomark _)) (pss_one (ps_ret (pv 0))) pss_nil) (pss_one (ps_set (i := 0) sc__law_reduced.nd rfl (by first | exact .inl rfl | exact .inr rfl) (pe_call G__law_sum (hr.mono (by first | decide | omega)) (by rfl) T.g__law_sum T.F__law_sum.kp T.b__law_sum .nil passL (pa_cons (pv 0) (pa_cons (pe_dget (hu_of hr) (pv 2) (pe_ix (ix_tupK K) (pe_callB (cl_maxD K rfl (un_of hr)) (by rfl) T.m_max (by decide +kernel) (pa_cons (pv 5) pa_nil)) pe_int (fun _ _ => rfl)) (fun _ _ => rfl)) pa_nil))))))))) (pss_one (ps_ret (pv 0)))))), ?_⟩
    have S : Sl K H0 (L2.start ["p", "space", "leaders", "q", "k", "found", "monomial"] [v_p, v_space]) [some (.dat ((eT (eT eI)) p_p)), some (.dat ((eT (eT (eT eI))) p_space)), none, none, none, none, none] := sl_start rfl (Nat.le_of_ble_eq_true rfl) (by
      intro i v e h1 h2
      rcases i with _ | i
      · cases h1; cases h2; exact ⟨_, rfl, h_0⟩
      rcases i with _ | i
      · cases h1; cases h2; exact ⟨_, rfl, h_1⟩
      · simp at h1) (by
      intro i e h1 h2
      rcases i with _ | i
      · exact absurd h1 (Nat.not_le_of_gt (Nat.le_of_ble_eq_true rfl))
      rcases i with _ | i
      · exact absurd h1 (Nat.not_le_of_gt (Nat.le_of_ble_eq_true rfl))
      rcases i with _ | i
      · cases h2; rfl
      rcases i with _ | i
      · cases h2; rfl
      rcases i with _ | i
      · cases h2; rfl
      rcases i with _ | i
      · cases h2; rfl
      rcases i with _ | i
      · cases h2; rfl
      · simp at h2)
    have e0 : Vx.Ex H0 H0 := Vx.Ex.refl H0
    generalize L2.start ["p", "space", "leaders", "q", "k", "found", "monomial"] [v_p, v_space] = σ at S ⊢
    unfold m__law_reduced at hm
    with_reducible refine st_seq ?_
    refine s_dnewT (K := K) e0 fun l1 H e1 nl o_l1 => ?_
    have S := S.ex e1
    have e0 := e0.trans e1
    have S : Sl K H _ [some (.dat ((eT (eT eI)) p_p)), some (.dat ((eT (eT (eT eI))) p_space)), some (.raw (.ref l1)), none, none, none, none] := S.putR 2
    generalize List.set _ 2 (some (V.ref l1)) = σ at S ⊢
    clear nl e1
    obtain ⟨c4, h_c4, hm⟩ := bind_some hm
    with_reducible refine st_seq ?_
    refine s_for (K := K) (ts := [3]) (enc := (eT (eT eI))) (it_tup (p_var (i := 1) S rfl)) (fun (st3 : (List ((List Int) × (List (List Int))))) (x2 : (List (List Int))) => ((Option.bind (m__law_leading x2) fun r7 => (Option.bind (chk (decide (st3.length < 16777216))) fun u8 => (Option.bind (some (putA st3 r7 x2)) fun d9 : (List ((List Int) × (List (List Int)))) => some (.go (d9))))) : Option (Ct ((List ((List Int) × (List (List Int))))) (List (List Int))))) h_c4 (fun st3 σ H => Vx.Ex H0 H ∧ Sl K H σ [some (.dat ((eT (eT eI)) p_p)), some (.dat ((eT (eT (eT eI))) p_space)), some (.raw (.ref l1)), none, none, none, none] ∧ OwT K H0 H l1 (st3.map fun p => (p.1, (eT (eT eI)) p.2))) (fun st3 σ H p => p.1) (fun H e1 => ?_) (fun Hk st3 x2 σ H c7 _ _ hf p kh0 hret7 vx H e1 dx N hN => ?_) (fun st3 σ H hgo p kp1 => ?_)
    · have S := S.ex e1
      have e0 := e0.trans e1
      have o_l1 := o_l1.ex e1
      exact ⟨e0, S, o_l1⟩
    · obtain ⟨e0, S, o_l1⟩ := p
      have kh := kh0.trans (Kp.of e1)
      have S := S.ex e1
      have e0 := e0.trans e1
      have o_l1 := o_l1.ex e1
      refine (show Gd K _ _ _ [some (.dat ((eT (eT eI)) p_p)), some (.dat ((eT (eT (eT eI))) p_space)), some (.raw (.ref l1)), none, none, none, none] [some (.dat ((eT (eT eI)) p_p)), some (.dat ((eT (eT (eT eI))) p_space)), some (.raw (.ref l1)), some (.dat ((eT (eT eI)) x2)), none, none, none] from gd_name) σ H vx S dx _ fun σ _ S => ?_
      have hb6 : _ = some c7 := hf
      have hb6 := hb6
      try (with_reducible show L2.Ends.nx _ _ _; with_reducible refine nx_go ?_)
      obtain ⟨r7, h_r7, hb6⟩ := bind_some hb6
      obtain ⟨u8, h_u8, hb6⟩ := bind_some hb6
      obtain ⟨d9, h_d9, hb6⟩ := bind_some hb6
      have h_d9 := Option.some.inj h_d9
      refine s_dputT (K := K) S rfl o_l1 (p_callR (tabs_ex e0 t0) (g_d (p_var (i := 3) S rfl) g_nil) rfl ⟨_, _, rfl, h_r7, rfl⟩) (p_var (i := 3) S rfl) (by rw [List.length_map]; exact chk_dec h_u8) fun H kp1 bt1 o2 => ?_
      have S := S.kp kp1
      have e0 := ex_but e0 o_l1.1 o_l1.nc bt1
      have kh := kh.trans kp1
      have o_l1 : OwT K H0 H l1 (d9.map fun p => (p.1, (eT (eT eI)) p.2)) := by rw [← h_d9, putA_map]; exact o2
      have S : Sl K H _ [some (.dat ((eT (eT eI)) p_p)), some (.dat ((eT (eT (eT eI))) p_space)), some (.raw (.ref l1)), some (.dat ((eT (eT eI)) x2)), none, none, none] := S
      have hb6 := Option.some.inj hb6
      have S : Sl K H σ [some (.dat ((eT (eT eI)) p_p)), some (.dat ((eT (eT (eT eI))) p_space)), some (.raw (.ref l1)), none, none, none, none] := (S).forget 3
      exact hN (d9) σ H hb6.symm ⟨e0, S, o_l1⟩ kh
    · obtain ⟨e0, S, o_l1⟩ := p
      subst hgo
      dsimp only [Ct.el] at hm
      obtain ⟨u10, h_u10, hm⟩ := bind_some hm
      obtain ⟨c13, h_c13, hm⟩ := bind_some hm
      with_reducible refine st_seq ?_
      refine s_for (K := K) (ts := [4]) (enc := eI) (it_rng1 (a_cons p_int a_nil) (chk_some h_u10)) (fun (st12 : (List (List Int))) (x11 : Int) => ((Option.bind (some ((st12.filter (fun it16 : (List Int) => (hasA st3 it16))).map (fun it16 : (List Int) => ((it16.length : Int), it16)))) fun y18 : List (Int × (List Int)) => (Option.bind (chk (SeqAt.shaped ((eL (eP eI (eT eI))) y18) && SeqAt.shaped ((eL (eP eI (eT eI))) ([] : (List (Int × (List Int))))))) fun u19 => (bif (decide (y18 = ([] : (List (Int × (List Int)))))) then some (.ret st12) else (Option.bind (maxDO (eP eI (eT eI)) y18) fun x20 => (Option.bind (getA st3 x20.2) fun g21 => (Option.bind (m__law_sum st12 g21) fun r22 => (Option.bind (some r22) fun p_23 : (List (List Int)) => some (.go (p_23))))))))) : Option (Ct ((List (List Int))) (List (List Int))))) h_c13 (fun st12 σ H => Vx.Ex H0 H ∧ Sl K H σ [some (.dat ((eT (eT eI)) st12)), some (.dat ((eT (eT (eT eI))) p_space)), some (.raw (.ref l1)), none, none, none, none] ∧ OwT K H0 H l1 (st3.map fun p => (p.1, (eT (eT eI)) p.2))) (fun st12 σ H p => p.1) (fun H e1 => ?_) (fun Hk st12 x11 σ H c8 _ _ hf p kh0 hret8 vx H e1 dx N hN => ?_) (fun st12 σ H hgo p kp1 => ?_)
      · have S := S.ex e1
        have e0 := e0.trans e1
        have o_l1 := o_l1.ex e1
        exact ⟨e0, S, o_l1⟩
      · obtain ⟨e0, S, o_l1⟩ := p
        have kh := kh0.trans (Kp.of e1)
        have S := S.ex e1
        have e0 := e0.trans e1
        have o_l1 := o_l1.ex e1
        refine (show Gd K _ _ _ [some (.dat ((eT (eT eI)) st12)), some (.dat ((eT (eT (eT eI))) p_space)), some (.raw (.ref l1)), none, none, none, none] [some (.dat ((eT (eT eI)) st12)), some (.dat ((eT (eT (eT eI))) p_space)), some (.raw (.ref l1)), none, some (.dat (eI x11)), none, none] from gd_name) σ H vx S dx _ fun σ _ S => ?_
        have hb15 : _ = some c8 := hf
        have hb15 := hb15
        obtain ⟨y18, h_y18, hb15⟩ := bind_some hb15
        have h_y18 := Option.some.inj h_y18
        with_reducible refine st_seq ?_
        refine s_setN (K := K) (ds := y18.map (eP eI (eT eI))) (EvN.to (n_lcF (enc := (eT eI)) (encb := (eP eI (eT eI))) (ts := [6]) (vs := [6]) (bind := (fun it16 : (List Int) => [some (.dat ((eT (eT eI)) st12)), some (.dat ((eT (eT (eT eI))) p_space)), some (.raw (.ref l1)), none, some (.dat (eI x11)), none, some (.dat ((eT eI) it16))])) (fun it16 : (List Int) => (hasA st3 it16)) (fun it16 : (List Int) => ((it16.length : Int), it16)) S (ie_tup (p_var (i := 0) S rfl)) (fun it16 => gd_name) (by intro t ht; revert ht; revert t; decide) (fun it16 _ σ H e1 S => by have e0 := e0.trans e1; have o_l1 := o_l1.ex e1; exact (t_val (EvP.to (p_dinT (n := it16) S rfl o_l1 (p_var (i := 6) S rfl)) (by rw [hasA_mapf])))) (fun it16 _ _ σ H e1 S => by have e0 := e0.trans e1; have o_l1 := o_l1.ex e1; exact (p_tup (a_cons (q_lenT (f := eI) (p_var (i := 6) S rfl)) (a_cons (p_var (i := 6) S rfl) a_nil)) (by simp)))) (by rw [← h_y18]; try rfl)) e0 fun l17 H e1 nl o_l17 => ?_
        have ne_l1_l17 : l1 ≠ l17 := o_l1.ne nl
        have S := S.ex e1
        have e0 := e0.trans e1
        have kh := kh.trans (Kp.of e1)
        have o_l1 := o_l1.ex e1
        have S : Sl K H _ [some (.dat ((eT (eT eI)) st12)), some (.dat ((eT (eT (eT eI))) p_space)), some (.raw (.ref l1)), none, some (.dat (eI x11)), some (.raw (.ref l17)), none] := S.putR 5
        generalize List.set _ 5 (some (V.ref l17)) = σ at S ⊢
        clear nl e1
        refine s_fz (K := K) S rfl o_l17 fun H kp1 bt1 S2 => ?_
        have S := S.kp kp1
        have e0 := ex_but e0 o_l17.1 o_l17.nc bt1
        have kh := kh.trans kp1
        have o_l1 := o_l1.but (by first | exact ne_l1_l17 | exact ne_l17_l1.symm) kp1 bt1
        have S : Sl K H _ [some (.dat ((eT (eT eI)) st12)), some (.dat ((eT (eT (eT eI))) p_space)), some (.raw (.ref l1)), none, some (.dat (eI x11)), some (.dat ((eL (eP eI (eT eI))) y18)), none] := S2
        obtain ⟨u19, h_u19, hb15⟩ := bind_some hb15
        with_reducible refine st_seq ?_
        refine Vx.s_if (t_test (p_eqC (f := (eL (eP eI (eT eI)))) (a := y18) (b := ([] : (List (Int × (List Int))))) (p_var (i := 5) S rfl) (n_lst a_nil (by simp)).fz (sh_l h_u19) (sh_r h_u19))) (fun hb H e1 => ?_) (fun hb H e1 => ?_)
        · have hb15 := cnd_t hb hb15
          have S := S.ex e1
          have e0 := e0.trans e1
          have kh := kh.trans (Kp.of e1)
          have o_l1 := o_l1.ex e1
          try (with_reducible show L2.Ends.nx _ _ _; with_reducible refine nx_go ?_)
          have hb15 := hret8 _ (Option.some.inj hb15).symm
          rw [hb15] at hm
          have hm := Option.some.inj hm
          subst hm
          exact s_ret (K := K) (σ := σ) (p_var (i := 0) S rfl) fun v H1 e1 dr => q v H1 (e0.trans e1) dr
        · have hb15 := cnd_f hb hb15
          have S := S.ex e1
          have e0 := e0.trans e1
          have kh := kh.trans (Kp.of e1)
          have o_l1 := o_l1.ex e1
          first | refine s_nextX ?_ | refine s_next ?_
          try (with_reducible show L2.Ends.nx _ _ _; with_reducible refine nx_go ?_)
          obtain ⟨x20, h_x20, hb15⟩ := bind_some hb15
          obtain ⟨g21, h_g21, hb15⟩ := bind_some hb15
          obtain ⟨r22, h_r22, hb15⟩ := bind_some hb15
          obtain ⟨p_23, h_p_23, hb15⟩ := bind_some hb15
          have h_p_23 := Option.some.inj h_p_23
          refine s_set (K := K) (d := (eT (eT eI)) p_23) (EvP.to (p_callR (tabs_ex e0 t0) (g_d (p_var (i := 0) S rfl) (g_d (p_dgetT (getA_enc (f := (eT (eT eI))) h_g21) S rfl o_l1 (p_ixT (p_maxD (gb := (eP eI (eT eI))) (p_var (i := 5) S rfl).s h_x20) p_int rfl)) g_nil)) rfl ⟨_, _, _, rfl, h_r22, rfl⟩) (congrArg (eT (eT eI)) h_p_23)) fun v H e1 d1 => ?_
          have S := S.ex e1
          have e0 := e0.trans e1
          have kh := kh.trans (Kp.of e1)
          have o_l1 := o_l1.ex e1
          have S : Sl K H _ [some (.dat ((eT (eT eI)) p_23)), some (.dat ((eT (eT (eT eI))) p_space)), some (.raw (.ref l1)), none, some (.dat (eI x11)), some (.dat ((eL (eP eI (eT eI))) y18)), none] := S.put 0 d1
          generalize List.set _ 0 (some v) = σ at S ⊢
          have hb15 := Option.some.inj hb15
          have S : Sl K H σ [some (.dat ((eT (eT eI)) p_23)), some (.dat ((eT (eT (eT eI))) p_space)), some (.raw (.ref l1)), none, none, none, none] := ((S).forget 4).forget 5
          exact hN (p_23) σ H hb15.symm ⟨e0, S, o_l1⟩ kh
      · obtain ⟨e0, S, o_l1⟩ := p
        subst hgo
        dsimp only [Ct.el] at hm
        try (with_reducible show L2.Ends.nx _ _ _; with_reducible refine nx_go ?_)
        have hm := Option.some.inj hm
        subst hm
        exact s_ret (K := K) (σ := σ) (p_var (i := 0) S rfl) fun v H1 e1 dr => q v H1 (e0.trans e1) dr
theorem ok_law (T : Tx K mg) : FnOk P w K mg base (L2.CX P w) 6 T.a_law T.d_law ["script"] (SpR K 1 R_law) := by
  have G__law_cell := ok__law_cell (P := P) (w := w) (base := base) T
  have G__law_numbers := ok__law_numbers (P := P) (w := w) (base := base) T
  have G__law_polynomial := ok__law_polynomial (P := P) (w := w) (base := base) T
  have G__law_leading := ok__law_leading (P := P) (w := w) (base := base) T
  have G_reduced := ok_reduced (P := P) (w := w) (base := base) T
  have G__law_reduced := ok__law_reduced (P := P) (w := w) (base := base) T
  have G__law_sum := ok__law_sum (P := P) (w := w) (base := base) T
  refine fun_okC T.F_law sc_law (fun vs H Q E h => ?_) (fun A outer s H0 vs Q E hr h => ?_)
  · obtain ⟨as, r, hn, _, ha, _, _⟩ := h
    exact ha.len.trans hn
  · obtain ⟨as, r, hn, hR, ha, t0, q⟩ := h
    obtain ⟨p_script, z, rfl, hm, rfl⟩ := hR
    rcases ha with _ | @⟨v_script, _, _, _, h_0, ha⟩
    cases ha
    obtain ⟨a_script, vs_script, rfl, hs_script, hd_script⟩ := h_0
    refine ⟨_, (pss_cons (ps_set (i := 1) sc_law.nd rfl (by first | exact .inl rfl | exact .inr rfl) (pe_callB call_abs (by rfl) T.m_abs (by decide +kernel) (pa_cons (pe_call G__law_cell (hr.mono (by first | decide | omega)) (by rfl) T.g__law_cell T.F__law_cell.kp T.b__law_cell .nil passL (pa_cons (pv 0) (pa_cons pe_int pa_nil))) pa_nil))) (pss_cons (ps_set (i := 2) sc_law.nd rfl (by first | exact .inl rfl | exact .inr rfl) (pe_op op_mod (pe_callTy call_int1 (by rfl) T.m_int (by decide +kernel) (pa_cons (pv 1) pa_nil)) pe_int)) (pss_cons (ps_set (i := 3) sc_law.nd rfl (by first | exact .inl rfl | exact .inr rfl) (pe_fz (pe_call G__law_numbers (hr.mono (by first | decide | omega)) (by rfl) T.g__law_numbers T.F__law_numbers.kp T.b__law_numbers .nil passL (pa_cons (pv 0) (pa_cons pe_int (pa_cons pe_int pa_nil)))))) (pss_cons (ps_set (i := 4) sc_law.nd rfl (by first | exact .inl rfl | exact .inr rfl) (pe_lst pa_nil)) (pss_cons (ps_for (passes_of rfl) rfl (pi_list (pe_fz (pe_slice (sl_listK K) (pv 3) po_none (po_some pe_int)))) (pg_name (i := 5) sc_law.nd rfl (by first | exact .inl rfl | exact .inr rfl)) (pss_cons (ps_set (i := 6) sc_law.nd rfl (by first | exact .inl rfl | exact .inr rfl) (pe_call G__law_polynomial (hr.mono (by first | decide | omega)) (by rfl) T.g__law_polynomial T.F__law_polynomial.kp T.b__law_polynomial .nil passL (pa_cons (pv 5) (pa_cons (pv 2) pa_nil)))) (pss_one (ps_if (PW.pt (pw_and (pt_cmpR (op_neDK K (un_of hr)) (pv 6) (pe_tup pa_nil) (nomark _)) (pw_and1 (pt_cmpR (op_notInDK K (un65 hr)) (pe_call G__law_leading (hr.mono (by first | decide | omega)) (by rfl) T.g__law_leading T.F__law_leading.kp T.b__law_leading .nil passL (pa_cons (pv 6) pa_nil)) (pe_fz (pe_lc (own := [("one", 11)]) rfl sc_law.nd (pi_wfK K (pi_listK K (pv 4))) (blkOk_by (own := [("one", 11)]) (N := ["script", "digit", "n", "numbers", "space", "number", "q", "p", "k", "actual", "sums", "one"]) (sc := defScope s_law) (by decide +kernel)) (fun _ _ _ _ _ => (pg_name (i := 11) sc_law.nd rfl (by first | exact .inl rfl | exact .inr rfl))) (fun _ _ _ _ _ => pts_nil) (fun _ _ _ _ _ => (pe_call G__law_leading (hr.mono (by first | decide | omega)) (by rfl) T.g__law_leading T.F__law_leading.kp T.b__law_leading .nil passL (pa_cons (pv 11) pa_nil))))) (by rfl))))) (pss_one (ps_expr (pe_bm PySem.F.plainAttrs_list PySem.F.slot_list_append PySem.F.type_list_append mt_append (pv 4) (pa_cons (pv 6) pa_nil)))) pss_nil)))) (pss_cons (ps_set (i := 7) sc_law.nd rfl (by first | exact .inl rfl | exact .inr rfl) (pe_call G__law_polynomial (hr.mono (by first | decide | omega)) (by rfl) T.g__law_polynomial T.F__law_polynomial.kp T.b__law_polynomial .nil passL (pa_cons (pe_op op_fdiv (pv 1) pe_int) (pa_cons (pv 2) pa_nil)))) (pss_cons (ps_if (pt_cmpR op_eq (pe_op op_mod (pe_op op_fdiv (pv 1) pe_int) pe_int) pe_int (nomark _)) (pss_cons (ps_set (i := 7) sc_law.nd rfl (by first | exact .inl rfl | exact .inr rfl) (pe_tup pa_nil)) (pss_one (ps_for (passes_of rfl) rfl (pi_range1 (by rfl) T.m_range (pa_cons (pe_callB (cl_len K) (by rfl) T.m_len (by decide +kernel) (pa_cons (pv 4) pa_nil)) pa_nil)) (pg_name (i := 8) sc_law.nd rfl (by first | exact .inl rfl | exact .inr rfl)) (pss_one (ps_if (pt_cmpR op_eq (pe_op op_and (pe_op op_shr (pe_op op_fdiv (pv 1) pe_int) (pv 8)) pe_int) pe_int (nomark _)) (pss_one (ps_set (i := 7) sc_law.nd rfl (by first | exact .inl rfl | exact .inr rfl) (pe_call G__law_sum (hr.mono (by first | decide | omega)) (by rfl) T.g__law_sum T.F__law_sum.kp T.b__law_sum .nil passL (pa_cons (pv 7) (pa_cons (pe_ix (ix_listK K) (pv 4) (pv 8) (fun _ _ => rfl)) pa_nil))))) pss_nil))))) pss_nil) (pss_cons (ps_set (i := 4) sc_law.nd rfl (by first | exact .inl rfl | exact .inr rfl) (pe_callTy (cl_tup K) (by rfl) T.m_tuple (by decide +kernel) (pa_cons (pe_fz (pe_callB (cl_sortD K (un_of hr)) (by rfl) T.m_sorted (by decide +kernel) (pa_cons (pv 4) pa_nil))) pa_nil))) (pss_cons (ps_set (i := 9) sc_law.nd rfl (by first | exact .inl rfl | exact .inr rfl) (pe_call G_reduced (hr.mono (by first | decide | omega)) (by rfl) T.g_reduced T.F_reduced.kp T.b_reduced .nil passL (pa_cons (pv 7) (pa_cons (pv 4) pa_nil)))) (pss_cons (ps_if (PW.pt (pw_or (pt_not (pt_val (pe_callB (cl_isi K) (by rfl) T.m_isinstance (by decide +kernel) (pa_cons (pv 9) (pa_cons (pe_bltn (v := .ty "tuple") (by rfl) T.m_tuple (by decide +kernel) rfl) pa_nil))))) (pw_or1 (pt_cmpR (op_neDK K (un_of hr)) (pv 9) (pe_call G__law_reduced (hr.mono (by first | decide | omega)) (by rfl) T.g__law_reduced T.F__law_reduced.kp T.b__law_reduced .nil passL (pa_cons (pv 7) (pa_cons (pv 4) pa_nil))) (nomark _))))) (pss_one (ps_ret pe_bl)) pss_nil) (pss_cons (ps_set (i := 10) sc_law.nd rfl (by first | exact .inl rfl | exact .inr rfl) (pe_fz (pe_lst (pa_cons (pe_tup pa_nil) pa_nil)))) (pss_cons (ps_for (passes_of rfl) rfl (pi_tup (pv 4)) (pg_name (i := 6) sc_law.nd rfl (by first | exact .inl rfl | exact .inr rfl)) (pss_one (ps_set (i := 10) sc_law.nd rfl (by first | exact .inl rfl | exact .inr rfl) (pe_fz (pe_op op_catS (pv 10) (pe_lc (own := [("one", 11)]) rfl sc_law.nd (pi_wfK K (pi_listK K (pv 10))) (blkOk_by (own := [("one", 11)]) (N := ["script", "digit", "n", "numbers", "space", "number", "q", "p", "k", "actual", "sums", "one"]) (sc := defScope s_law) (by decide +kernel)) (fun _ _ _ _ _ => (pg_name (i := 11) sc_law.nd rfl (by first | exact .inl rfl | exact .inr rfl))) (fun _ _ _ _ _ => pts_nil) (fun _ _ _ _ _ => (pe_call G__law_sum (hr.mono (by first | decide | omega)) (by rfl) T.g__law_sum T.F__law_sum.kp T.b__law_sum .nil passL (pa_cons (pv 11) (pa_cons (pv 6) pa_nil)))))))))) (pss_one (ps_ret (pe_cmpR op_eq (pe_cmpR (op_eqDK K (un_of hr)) (pv 9) (pe_tup pa_nil) (nomark _)) (pe_cmpR (op_inDK K (un65 hr)) (pv 7) (pv 10) (by rfl)) (nomark _)))))))))))))))), ?_⟩
    have S : Sl K H0 (L2.start ["script", "digit", "n", "numbers", "space", "number", "q", "p", "k", "actual", "sums", "one"] [V.ref a_script]) [some (.raw (.ref a_script)), none, none, none, none, none, none, none, none, none, none, none] := sl_start rfl (Nat.le_of_ble_eq_true rfl) (by
      intro i v e h1 h2
      rcases i with _ | i
      · cases h1; cases h2; exact rfl
      · simp at h1) (by
      intro i e h1 h2
      rcases i with _ | i
      · exact absurd h1 (Nat.not_le_of_gt (Nat.le_of_ble_eq_true rfl))
      rcases i with _ | i
      · cases h2; rfl
      rcases i with _ | i
      · cases h2; rfl
      rcases i with _ | i
      · cases h2; rfl
      rcases i with _ | i
      · cases h2; rfl
      rcases i with _ | i
      · cases h2; rfl
      rcases i with _ | i
      · cases h2; rfl
      rcases i with _ | i
      · cases h2; rfl
      rcases i with _ | i
      · cases h2; rfl
      rcases i with _ | i
      · cases h2; rfl
      rcases i with _ | i
      · cases h2; rfl
      rcases i with _ | i
      · cases h2; rfl
      · simp at h2)
    have e0 : Vx.Ex H0 H0 := Vx.Ex.refl H0
    generalize L2.start ["script", "digit", "n", "numbers", "space", "number", "q", "p", "k", "actual", "sums", "one"] [V.ref a_script] = σ at S ⊢
    unfold m_law at hm
    obtain ⟨r1, h_r1, hm⟩ := bind_some hm
    obtain ⟨digit_2, h_digit_2, hm⟩ := bind_some hm
    have h_digit_2 := Option.some.inj h_digit_2
    with_reducible refine st_seq ?_
    refine s_set (K := K) (d := eI digit_2) (EvP.to (p_abs (p_callR (tabs_ex e0 t0) (g_l (par_s (i := 0) S rfl e0 hs_script hd_script) (g_d p_int g_nil)) rfl ⟨_, _, _, rfl, h_r1, rfl⟩)) (congrArg eI h_digit_2)) fun v H e1 d1 => ?_
    have S := S.ex e1
    have e0 := e0.trans e1
    have S : Sl K H _ [some (.raw (.ref a_script)), some (.dat (eI digit_2)), none, none, none, none, none, none, none, none, none, none] := S.put 1 d1
    generalize List.set _ 1 (some v) = σ at S ⊢
    obtain ⟨n_3, h_n_3, hm⟩ := bind_some hm
    have h_n_3 := Option.some.inj h_n_3
    with_reducible refine st_seq ?_
    refine s_set (K := K) (d := eI n_3) (EvP.to (p_iC (p_intI (p_var (i := 1) S rfl)) p_int (by decide)) (congrArg eI h_n_3)) fun v H e1 d1 => ?_
    have S := S.ex e1
    have e0 := e0.trans e1
    have S : Sl K H _ [some (.raw (.ref a_script)), some (.dat (eI digit_2)), some (.dat (eI n_3)), none, none, none, none, none, none, none, none, none] := S.put 2 d1
    generalize List.set _ 2 (some v) = σ at S ⊢
    obtain ⟨r4, h_r4, hm⟩ := bind_some hm
    obtain ⟨numbers_5, h_numbers_5, hm⟩ := bind_some hm
    have h_numbers_5 := Option.some.inj h_numbers_5
    with_reducible refine st_seq ?_
    refine s_set (K := K) (d := (eL eI) numbers_5) (EvP.to (n_callR (tabs_ex e0 t0) (g_l (par_s (i := 0) S rfl e0 hs_script hd_script) (g_d p_int (g_d p_int g_nil))) rfl ⟨_, _, _, _, rfl, h_r4, rfl⟩).fz (congrArg (eL eI) h_numbers_5)) fun v H e1 d1 => ?_
    have S := S.ex e1
    have e0 := e0.trans e1
    have S : Sl K H _ [some (.raw (.ref a_script)), some (.dat (eI digit_2)), some (.dat (eI n_3)), some (.dat ((eL eI) numbers_5)), none, none, none, none, none, none, none, none] := S.put 3 d1
    generalize List.set _ 3 (some v) = σ at S ⊢
    obtain ⟨y7, h_y7, hm⟩ := bind_some hm
    have h_y7 := Option.some.inj h_y7
    with_reducible refine st_seq ?_
    refine s_setN (K := K) (ds := y7.map (eT (eT eI))) (EvN.to (n_lst a_nil (by simp)) (by rw [← h_y7]; try rfl)) e0 fun l6 H e1 nl o_l6 => ?_
    have S := S.ex e1
    have e0 := e0.trans e1
    have S : Sl K H _ [some (.raw (.ref a_script)), some (.dat (eI digit_2)), some (.dat (eI n_3)), some (.dat ((eL eI) numbers_5)), some (.raw (.ref l6)), none, none, none, none, none, none, none] := S.putR 4
    generalize List.set _ 4 (some (V.ref l6)) = σ at S ⊢
    clear nl e1
    obtain ⟨c10, h_c10, hm⟩ := bind_some hm
    with_reducible refine st_seq ?_
    refine s_for (K := K) (ts := [5]) (enc := eI) (it_lst (q_slL (f := eI) (p_var (i := 3) S rfl).s o_none (o_some (K := K) p_int)).fz) (fun (st9 : (List (List (List Int)))) (x8 : Int) => ((Option.bind (m__law_polynomial x8 n_3) fun r13 => (Option.bind (some r13) fun q_14 : (List (List Int)) => (Option.bind (chk (SeqAt.shaped ((eT (eT eI)) q_14) && SeqAt.shaped ((eT (eT eI)) ([] : (List (List Int)))))) fun u15 => (Option.bind ((bif (!(decide (q_14 = ([] : (List (List Int)))))) then (Option.bind (m__law_leading q_14) fun r16 => (Option.bind (lcO (fun it17 : (List (List Int)) => (Option.bind (m__law_leading it17) fun r18 => some (some r18))) st9) fun l19 => (Option.bind (chk (SeqAt.shaped ((eT eI) r16) && SeqAt.shaped (PyData.list (List.map (eT eI) l19)))) fun u20 => some (!(decide (r16 ∈ l19)))))) else some false)) fun b21 => (Option.bind (bif b21 then (Option.bind (chk (decide (st9.length < 16777216))) fun u24 => (Option.bind (some (st9 ++ [q_14])) fun y25 : List (List (List Int)) => some (y25))) else some (st9)) fun st22 : (List (List (List Int))) => some (.go (st22))))))) : Option (Ct ((List (List (List Int)))) Bool))) h_c10 (fun st9 σ H => Vx.Ex H0 H ∧ Sl K H σ [some (.raw (.ref a_script)), some (.dat (eI digit_2)), some (.dat (eI n_3)), some (.dat ((eL eI) numbers_5)), some (.raw (.ref l6)), none, none, none, none, none, none, none] ∧ Ow K H0 H l6 (st9.map (eT (eT eI)))) (fun st9 σ H p => p.1) (fun H e1 => ?_) (fun Hk st9 x8 σ H c9 _ _ hf p kh0 hret9 vx H e1 dx N hN => ?_) (fun st9 σ H hgo p kp1 => ?_)
    · have S := S.ex e1
      have e0 := e0.trans e1
      have o_l6 := o_l6.ex e1
      exact ⟨e0, S, o_l6⟩
    · obtain ⟨e0, S, o_l6⟩ := p
      have kh := kh0.trans (Kp.of e1)
      have S := S.ex e1
      have e0 := e0.trans e1
      have o_l6 := o_l6.ex e1
      refine (show Gd K _ _ _ [some (.raw (.ref a_script)), some (.dat (eI digit_2)), some (.dat (eI n_3)), some (.dat ((eL eI) numbers_5)), some (.raw (.ref l6)), none, none, none, none, none, none, none] [some (.raw (.ref a_script)), some (.dat (eI digit_2)), some (.dat (eI n_3)), some (.dat ((eL eI) numbers_5)), some (.raw (.ref l6)), some (.dat (eI x8)), none, none, none, none, none, none] from gd_name) σ H vx S dx _ fun σ _ S => ?_
      have hb12 : _ = some c9 := hf
      have hb12 := hb12
      obtain ⟨r13, h_r13, hb12⟩ := bind_some hb12
      obtain ⟨q_14, h_q_14, hb12⟩ := bind_some hb12
      have h_q_14 := Option.some.inj h_q_14
      with_reducible refine st_seq ?_
      refine s_set (K := K) (d := (eT (eT eI)) q_14) (EvP.to (p_callR (tabs_ex e0 t0) (g_d (p_var (i := 5) S rfl) (g_d (p_var (i := 2) S rfl) g_nil)) rfl ⟨_, _, _, rfl, h_r13, rfl⟩) (congrArg (eT (eT eI)) h_q_14)) fun v H e1 d1 => ?_
      have S := S.ex e1
      have e0 := e0.trans e1
      have kh := kh.trans (Kp.of e1)
      have o_l6 := o_l6.ex e1
      have S : Sl K H _ [some (.raw (.ref a_script)), some (.dat (eI digit_2)), some (.dat (eI n_3)), some (.dat ((eL eI) numbers_5)), some (.raw (.ref l6)), some (.dat (eI x8)), some (.dat ((eT (eT eI)) q_14)), none, none, none, none, none] := S.put 6 d1
      generalize List.set _ 6 (some v) = σ at S ⊢
      try (with_reducible show L2.Ends.nx _ _ _; with_reducible refine nx_go ?_)
      obtain ⟨u15, h_u15, hb12⟩ := bind_some hb12
      obtain ⟨b21, h_b21, hb12⟩ := bind_some hb12
      obtain ⟨st22, hif23, hb12⟩ := bind_some hb12
      refine s_ifJ (fun σ H => Vx.Ex H0 H ∧ Sl K H σ [some (.raw (.ref a_script)), some (.dat (eI digit_2)), some (.dat (eI n_3)), some (.dat ((eL eI) numbers_5)), some (.raw (.ref l6)), some (.dat (eI x8)), some (.dat ((eT (eT eI)) q_14)), none, none, none, none, none] ∧ Ow K H0 H l6 (st22.map (eT (eT eI))) ∧ Kp Hk H) (t_andO h_b21 (t_test (p_neC (f := (eT (eT eI))) (a := q_14) (b := ([] : (List (List Int)))) (p_var (i := 6) S rfl) (p_tup a_nil (by simp)) (sh_l h_u15) (sh_r h_u15))) fun _ b hb => by obtain ⟨r16, h_r16, hb⟩ := bind_some hb; obtain ⟨l19, h_l19, hb⟩ := bind_some hb; obtain ⟨u20, h_u20, hb⟩ := bind_some hb; cases hb; exact (t_test (show EvP K _ _ _ (eB (!(decide (r16 ∈ l19)))) from (p_ninD (f := (eT eI)) (d := r16) (xs := l19) (p_callR (tabs_ex e0 t0) (g_d (p_var (i := 6) S rfl) g_nil) rfl ⟨_, _, rfl, h_r16, rfl⟩) (n_lc (enc := (eT (eT eI))) (encb := (eT eI)) (ts := [11]) (vs := [11]) (bind := (fun it17 : (List (List Int)) => [some (.raw (.ref a_script)), some (.dat (eI digit_2)), some (.dat (eI n_3)), some (.dat ((eL eI) numbers_5)), some (.raw (.ref l6)), some (.dat (eI x8)), some (.dat ((eT (eT eI)) q_14)), none, none, none, none, some (.dat ((eT (eT eI)) it17))])) (fun it17 : (List (List Int)) => (Option.bind (m__law_leading it17) fun r18 => some (some r18))) h_l19 S (ie_lst (o_l6.s (i := 4) S rfl)) (fun it17 => gd_name) (by intro t ht; revert ht; revert t; decide) (fun it17 _ r hr2 σ H e1 S => by
have e0 := e0.trans e1; have o_l6 := o_l6.ex e1; obtain ⟨r18, h_r18, hr2⟩ := bind_some hr2; cases hr2; exact ⟨t_yes, fun y hy => by cases hy; exact (p_callR (tabs_ex e0 t0) (g_d (p_var (i := 11) S rfl) g_nil) rfl ⟨_, _, rfl, h_r18, rfl⟩)⟩)).fz.s (sh_l h_u20) (sh_r h_u20))))) (fun σ H p => ?_) (fun hb H e1 J => ?_) (fun hb H e1 J => ?_)
      · obtain ⟨e0, S, o_l6, kh⟩ := p
        have hb12 := Option.some.inj hb12
        have S : Sl K H σ [some (.raw (.ref a_script)), some (.dat (eI digit_2)), some (.dat (eI n_3)), some (.dat ((eL eI) numbers_5)), some (.raw (.ref l6)), none, none, none, none, none, none, none] := ((S).forget 5).forget 6
        exact hN (st22) σ H hb12.symm ⟨e0, S, o_l6⟩ kh
      · have hif23 := cnd_t hb hif23
        have S := S.ex e1
        have e0 := e0.trans e1
        have kh := kh.trans (Kp.of e1)
        have o_l6 := o_l6.ex e1
        try (with_reducible show L2.Ends.nx _ _ _; with_reducible refine nx_go ?_)
        obtain ⟨u24, h_u24, hif23⟩ := bind_some hif23
        obtain ⟨y25, h_y25, hif23⟩ := bind_some hif23
        have h_y25 := Option.some.inj h_y25
        refine s_app (K := K) S rfl o_l6 (p_var (i := 6) S rfl) (by rw [List.length_map]; exact chk_dec h_u24) fun H kp1 bt1 o2 => ?_
        have S := S.kp kp1
        have e0 := ex_but e0 o_l6.1 o_l6.nc bt1
        have kh := kh.trans kp1
        have o_l6 : Ow K H0 H l6 (y25.map (eT (eT eI))) := by rw [← h_y25, List.map_append]; exact o2
        have S : Sl K H _ [some (.raw (.ref a_script)), some (.dat (eI digit_2)), some (.dat (eI n_3)), some (.dat ((eL eI) numbers_5)), some (.raw (.ref l6)), some (.dat (eI x8)), some (.dat ((eT (eT eI)) q_14)), none, none, none, none, none] := S
        have hif23 := Option.some.inj hif23
        subst hif23
        have S : Sl K H σ [some (.raw (.ref a_script)), some (.dat (eI digit_2)), some (.dat (eI n_3)), some (.dat ((eL eI) numbers_5)), some (.raw (.ref l6)), some (.dat (eI x8)), some (.dat ((eT (eT eI)) q_14)), none, none, none, none, none] := S
        exact J σ H ⟨e0, S, o_l6, kh⟩
      · have hif23 := cnd_f hb hif23
        have S := S.ex e1
        have e0 := e0.trans e1
        have kh := kh.trans (Kp.of e1)
        have o_l6 := o_l6.ex e1
        first | refine s_nextX ?_ | refine s_next ?_
        have hif23 := Option.some.inj hif23
        subst hif23
        have S : Sl K H σ [some (.raw (.ref a_script)), some (.dat (eI digit_2)), some (.dat (eI n_3)), some (.dat ((eL eI) numbers_5)), some (.raw (.ref l6)), some (.dat (eI x8)), some (.dat ((eT (eT eI)) q_14)), none, none, none, none, none] := S
        exact J σ H ⟨e0, S, o_l6, kh⟩
    · obtain ⟨e0, S, o_l6⟩ := p
      subst hgo
      dsimp only [Ct.el] at hm
      obtain ⟨r26, h_r26, hm⟩ := bind_some hm
      obtain ⟨p_27, h_p_27, hm⟩ := bind_some hm
      have h_p_27 := Option.some.inj h_p_27
      with_reducible refine st_seq ?_
      refine s_set (K := K) (d := (eT (eT eI)) p_27) (EvP.to (p_callR (tabs_ex e0 t0) (g_d (p_iC (p_var (i := 1) S rfl) p_int ⟨by decide, by decide⟩) (g_d (p_var (i := 2) S rfl) g_nil)) rfl ⟨_, _, _, rfl, h_r26, rfl⟩) (congrArg (eT (eT eI)) h_p_27)) fun v H e1 d1 => ?_
      have S := S.ex e1
      have e0 := e0.trans e1
      have o_l6 := o_l6.ex e1
      have S : Sl K H _ [some (.raw (.ref a_script)), some (.dat (eI digit_2)), some (.dat (eI n_3)), some (.dat ((eL eI) numbers_5)), some (.raw (.ref l6)), none, none, some (.dat ((eT (eT eI)) p_27)), none, none, none, none] := S.put 7 d1
      generalize List.set _ 7 (some v) = σ at S ⊢
      obtain ⟨st28, hif29, hm⟩ := bind_some hm
      with_reducible refine st_seq ?_
      refine s_ifJ (fun σ H => Vx.Ex H0 H ∧ Sl K H σ [some (.raw (.ref a_script)), some (.dat (eI digit_2)), some (.dat (eI n_3)), some (.dat ((eL eI) numbers_5)), some (.raw (.ref l6)), none, none, some (.dat ((eT (eT eI)) st28)), none, none, none, none] ∧ Ow K H0 H l6 (st9.map (eT (eT eI)))) (t_test (p_eqI (p_iC (p_iC (p_var (i := 1) S rfl) p_int ⟨by decide, by decide⟩) p_int (by decide)) p_int)) (fun σ H p => ?_) (fun hb H e1 J => ?_) (fun hb H e1 J => ?_)
      · obtain ⟨e0, S, o_l6⟩ := p
        obtain ⟨space_30, h_space_30, hm⟩ := bind_some hm
        have h_space_30 := Option.some.inj h_space_30
        with_reducible refine st_seq ?_
        refine s_set (K := K) (d := (eT (eT (eT eI))) space_30) (EvP.to (p_tupL (n_sortR (o_l6.s (i := 4) S rfl)).fz.s) (congrArg (eT (eT (eT eI))) h_space_30)) fun v H e1 d1 => ?_
        have S := S.ex e1
        have e0 := e0.trans e1
        have o_l6 := o_l6.ex e1
        have S : Sl K H _ [some (.raw (.ref a_script)), some (.dat (eI digit_2)), some (.dat (eI n_3)), some (.dat ((eL eI) numbers_5)), some (.dat ((eT (eT (eT eI))) space_30)), none, none, some (.dat ((eT (eT eI)) st28)), none, none, none, none] := S.put 4 d1
        generalize List.set _ 4 (some v) = σ at S ⊢
        obtain ⟨r31, h_r31, hm⟩ := bind_some hm
        obtain ⟨actual_32, h_actual_32, hm⟩ := bind_some hm
        have h_actual_32 := Option.some.inj h_actual_32
        with_reducible refine st_seq ?_
        refine s_set (K := K) (d := (eT (eT eI)) actual_32) (EvP.to (p_callR (tabs_ex e0 t0) (g_d (p_var (i := 7) S rfl) (g_d (p_var (i := 4) S rfl) g_nil)) rfl ⟨_, _, _, rfl, h_r31, rfl⟩) (congrArg (eT (eT eI)) h_actual_32)) fun v H e1 d1 => ?_
        have S := S.ex e1
        have e0 := e0.trans e1
        have S : Sl K H _ [some (.raw (.ref a_script)), some (.dat (eI digit_2)), some (.dat (eI n_3)), some (.dat ((eL eI) numbers_5)), some (.dat ((eT (eT (eT eI))) space_30)), none, none, some (.dat ((eT (eT eI)) st28)), none, some (.dat ((eT (eT eI)) actual_32)), none, none] := S.put 9 d1
        generalize List.set _ 9 (some v) = σ at S ⊢
        obtain ⟨b35, h_b35, hm⟩ := bind_some hm
        with_reducible refine st_seq ?_
        refine Vx.s_if (t_orO h_b35 (et_not (t_val (p_isituple (p_var (i := 9) S rfl)))) fun _ b hb => by obtain ⟨r33, h_r33, hb⟩ := bind_some hb; obtain ⟨u34, h_u34, hb⟩ := bind_some hb; cases hb; exact (t_test (p_neC (f := (eT (eT eI))) (a := actual_32) (b := r33) (p_var (i := 9) S rfl) (p_callR (tabs_ex e0 t0) (g_d (p_var (i := 7) S rfl) (g_d (p_var (i := 4) S rfl) g_nil)) rfl ⟨_, _, _, rfl, h_r33, rfl⟩) (sh_l h_u34) (sh_r h_u34)))) (fun hb H e1 => ?_) (fun hb H e1 => ?_)
        · have hm := cnd_t hb hm
          have S := S.ex e1
          have e0 := e0.trans e1
          try (with_reducible show L2.Ends.nx _ _ _; with_reducible refine nx_go ?_)
          have hm := Option.some.inj hm
          subst hm
          exact s_ret (K := K) (σ := σ) p_bl fun v H1 e1 dr => q v H1 (e0.trans e1) dr
        · have hm := cnd_f hb hm
          have S := S.ex e1
          have e0 := e0.trans e1
          first | refine s_nextX ?_ | refine s_next ?_
          obtain ⟨sums_36, h_sums_36, hm⟩ := bind_some hm
          have h_sums_36 := Option.some.inj h_sums_36
          with_reducible refine st_seq ?_
          refine s_set (K := K) (d := (eL (eT (eT eI))) sums_36) (EvP.to (n_lst (a_cons (p_tup a_nil (by simp)) a_nil) (by simp)).fz (congrArg (eL (eT (eT eI))) h_sums_36)) fun v H e1 d1 => ?_
          have S := S.ex e1
          have e0 := e0.trans e1
          have S : Sl K H _ [some (.raw (.ref a_script)), some (.dat (eI digit_2)), some (.dat (eI n_3)), some (.dat ((eL eI) numbers_5)), some (.dat ((eT (eT (eT eI))) space_30)), none, none, some (.dat ((eT (eT eI)) st28)), none, some (.dat ((eT (eT eI)) actual_32)), some (.dat ((eL (eT (eT eI))) sums_36)), none] := S.put 10 d1
          generalize List.set _ 10 (some v) = σ at S ⊢
          obtain ⟨c39, h_c39, hm⟩ := bind_some hm
          with_reducible refine st_seq ?_
          refine s_for (K := K) (ts := [6]) (enc := (eT (eT eI))) (it_tup (p_var (i := 4) S rfl)) (fun (st38 : (List (List (List Int)))) (x37 : (List (List Int))) => ((Option.bind (lcO (fun it42 : (List (List Int)) => (Option.bind (m__law_sum it42 x37) fun r43 => some (some r43))) st38) fun l44 => (Option.bind (chk (decide (st38.length + l44.length ≤ 16777216))) fun u45 => (Option.bind (some (st38 ++ l44)) fun sums_46 : (List (List (List Int))) => some (.go (sums_46))))) : Option (Ct ((List (List (List Int)))) Bool))) h_c39 (fun st38 σ H => Vx.Ex H0 H ∧ Sl K H σ [some (.raw (.ref a_script)), some (.dat (eI digit_2)), some (.dat (eI n_3)), some (.dat ((eL eI) numbers_5)), some (.dat ((eT (eT (eT eI))) space_30)), none, none, some (.dat ((eT (eT eI)) st28)), none, some (.dat ((eT (eT eI)) actual_32)), some (.dat ((eL (eT (eT eI))) st38)), none]) (fun st38 σ H p => p.1) (fun H e1 => ?_) (fun Hk st38 x37 σ H c10 _ _ hf p kh0 hret10 vx H e1 dx N hN => ?_) (fun st38 σ H hgo p kp1 => ?_)
          · have S := S.ex e1
            have e0 := e0.trans e1
            exact ⟨e0, S⟩
          · obtain ⟨e0, S⟩ := p
            have kh := kh0.trans (Kp.of e1)
            have S := S.ex e1
            have e0 := e0.trans e1
            refine (show Gd K _ _ _ [some (.raw (.ref a_script)), some (.dat (eI digit_2)), some (.dat (eI n_3)), some (.dat ((eL eI) numbers_5)), some (.dat ((eT (eT (eT eI))) space_30)), none, none, some (.dat ((eT (eT eI)) st28)), none, some (.dat ((eT (eT eI)) actual_32)), some (.dat ((eL (eT (eT eI))) st38)), none] [some (.raw (.ref a_script)), some (.dat (eI digit_2)), some (.dat (eI n_3)), some (.dat ((eL eI) numbers_5)), some (.dat ((eT (eT (eT eI))) space_30)), none, some (.dat ((eT (eT eI)) x37)), some (.dat ((eT (eT eI)) st28)), none, some (.dat ((eT (eT eI)) actual_32)), some (.dat ((eL (eT (eT eI))) st38)), none] from gd_name) σ H vx S dx _ fun σ _ S => ?_
            have hb41 : _ = some c10 := hf
            have hb41 := hb41
            try (with_reducible show L2.Ends.nx _ _ _; with_reducible refine nx_go ?_)
            obtain ⟨l44, h_l44, hb41⟩ := bind_some hb41
            obtain ⟨u45, h_u45, hb41⟩ := bind_some hb41
            obtain ⟨sums_46, h_sums_46, hb41⟩ := bind_some hb41
            have h_sums_46 := Option.some.inj h_sums_46
            refine s_set (K := K) (d := (eL (eT (eT eI))) sums_46) (EvP.to (q_catL (f := (eT (eT eI))) (p_var (i := 10) S rfl).r (n_lc (enc := (eT (eT eI))) (encb := (eT (eT eI))) (ts := [11]) (vs := [11]) (bind := (fun it42 : (List (List Int)) => [some (.raw (.ref a_script)), some (.dat (eI digit_2)), some (.dat (eI n_3)), some (.dat ((eL eI) numbers_5)), some (.dat ((eT (eT (eT eI))) space_30)), none, some (.dat ((eT (eT eI)) x37)), some (.dat ((eT (eT eI)) st28)), none, some (.dat ((eT (eT eI)) actual_32)), some (.dat ((eL (eT (eT eI))) st38)), some (.dat ((eT (eT eI)) it42))])) (fun it42 : (List (List Int)) => (Option.bind (m__law_sum it42 x37) fun r43 => some (some r43))) h_l44 S (ie_lst (p_var (i := 10) S rfl).s) (fun it42 => gd_name) (by intro t ht; revert ht; revert t; decide) (fun it42 _ r hr2 σ H e1 S => by
have e0 := e0.trans e1; obtain ⟨r43, h_r43, hr2⟩ := bind_some hr2; cases hr2; exact ⟨t_yes, fun y hy => by cases hy; exact (p_callR (tabs_ex e0 t0) (g_d (p_var (i := 11) S rfl) (g_d (p_var (i := 6) S rfl) g_nil)) rfl ⟨_, _, _, rfl, h_r43, rfl⟩)⟩)).r (chk_dec h_u45)).fz (congrArg (eL (eT (eT eI))) h_sums_46)) fun v H e1 d1 => ?_
            have S := S.ex e1
            have e0 := e0.trans e1
            have kh := kh.trans (Kp.of e1)
            have S : Sl K H _ [some (.raw (.ref a_script)), some (.dat (eI digit_2)), some (.dat (eI n_3)), some (.dat ((eL eI) numbers_5)), some (.dat ((eT (eT (eT eI))) space_30)), none, some (.dat ((eT (eT eI)) x37)), some (.dat ((eT (eT eI)) st28)), none, some (.dat ((eT (eT eI)) actual_32)), some (.dat ((eL (eT (eT eI))) sums_46)), none] := S.put 10 d1
            generalize List.set _ 10 (some v) = σ at S ⊢
            have hb41 := Option.some.inj hb41
            have S : Sl K H σ [some (.raw (.ref a_script)), some (.dat (eI digit_2)), some (.dat (eI n_3)), some (.dat ((eL eI) numbers_5)), some (.dat ((eT (eT (eT eI))) space_30)), none, none, some (.dat ((eT (eT eI)) st28)), none, some (.dat ((eT (eT eI)) actual_32)), some (.dat ((eL (eT (eT eI))) sums_46)), none] := (S).forget 6
            exact hN (sums_46) σ H hb41.symm ⟨e0, S⟩ kh
          · obtain ⟨e0, S⟩ := p
            subst hgo
            dsimp only [Ct.el] at hm
            try (with_reducible show L2.Ends.nx _ _ _; with_reducible refine nx_go ?_)
            obtain ⟨u47, h_u47, hm⟩ := bind_some hm
            obtain ⟨u48, h_u48, hm⟩ := bind_some hm
            have hm := Option.some.inj hm
            subst hm
            exact s_ret (K := K) (σ := σ) (p_eqB (p_eqC (f := (eT (eT eI))) (a := actual_32) (b := ([] : (List (List Int)))) (p_var (i := 9) S rfl) (p_tup a_nil (by simp)) (sh_l h_u47) (sh_r h_u47)) (show EvP K _ _ _ (eB (decide (st28 ∈ st38))) from (p_inD (f := (eT (eT eI))) (d := st28) (xs := st38) (p_var (i := 7) S rfl) (p_var (i := 10) S rfl).s (sh_l h_u48) (sh_r h_u48)))) fun v H1 e1 dr => q v H1 (e0.trans e1) dr
      · have hif29 := cnd_t hb hif29
        have S := S.ex e1
        have e0 := e0.trans e1
        have o_l6 := o_l6.ex e1
        obtain ⟨p_49, h_p_49, hif29⟩ := bind_some hif29
        have h_p_49 := Option.some.inj h_p_49
        with_reducible refine st_seq ?_
        refine s_set (K := K) (d := (eT (eT eI)) p_49) (EvP.to (p_tup a_nil (by simp)) (congrArg (eT (eT eI)) h_p_49)) fun v H e1 d1 => ?_
        have S := S.ex e1
        have e0 := e0.trans e1
        have o_l6 := o_l6.ex e1
        have S : Sl K H _ [some (.raw (.ref a_script)), some (.dat (eI digit_2)), some (.dat (eI n_3)), some (.dat ((eL eI) numbers_5)), some (.raw (.ref l6)), none, none, some (.dat ((eT (eT eI)) p_49)), none, none, none, none] := S.put 7 d1
        generalize List.set _ 7 (some v) = σ at S ⊢
        try (with_reducible show L2.Ends.nx _ _ _; with_reducible refine nx_go ?_)
        obtain ⟨u50, h_u50, hif29⟩ := bind_some hif29
        obtain ⟨c53, h_c53, hif29⟩ := bind_some hif29
        refine s_for (K := K) (ts := [8]) (enc := eI) (it_rng1 (a_cons (q_lenL (f := (eT (eT eI))) (o_l6.s (i := 4) S rfl)) a_nil) (chk_some h_u50)) (fun (st52 : (List (List Int))) (x51 : Int) => ((Option.bind (chk (decide (0 ≤ x51))) fun u56 => (Option.bind (bif (decide ((Builtin.bitAnd ((digit_2 / (4096 : Int)) / 2 ^ (x51).toNat) (1 : Int)) = (1 : Int))) then (Option.bind (atI st9 x51) fun x59 => (Option.bind (m__law_sum st52 x59) fun r60 => (Option.bind (some r60) fun p_61 : (List (List Int)) => some (p_61)))) else some (st52)) fun st57 : (List (List Int)) => some (.go (st57)))) : Option (Ct ((List (List Int))) Bool))) h_c53 (fun st52 σ H => Vx.Ex H0 H ∧ Sl K H σ [some (.raw (.ref a_script)), some (.dat (eI digit_2)), some (.dat (eI n_3)), some (.dat ((eL eI) numbers_5)), some (.raw (.ref l6)), none, none, some (.dat ((eT (eT eI)) st52)), none, none, none, none] ∧ Ow K H0 H l6 (st9.map (eT (eT eI)))) (fun st52 σ H p => p.1) (fun H e1 => ?_) (fun Hk st52 x51 σ H c11 _ _ hf p kh0 hret11 vx H e1 dx N hN => ?_) (fun st52 σ H hgo p kp1 => ?_)
        · have S := S.ex e1
          have e0 := e0.trans e1
          have o_l6 := o_l6.ex e1
          exact ⟨e0, S, o_l6⟩
        · obtain ⟨e0, S, o_l6⟩ := p
          have kh := kh0.trans (Kp.of e1)
          have S := S.ex e1
          have e0 := e0.trans e1
          have o_l6 := o_l6.ex e1
          refine (show Gd K _ _ _ [some (.raw (.ref a_script)), some (.dat (eI digit_2)), some (.dat (eI n_3)), some (.dat ((eL eI) numbers_5)), some (.raw (.ref l6)), none, none, some (.dat ((eT (eT eI)) st52)), none, none, none, none] [some (.raw (.ref a_script)), some (.dat (eI digit_2)), some (.dat (eI n_3)), some (.dat ((eL eI) numbers_5)), some (.raw (.ref l6)), none, none, some (.dat ((eT (eT eI)) st52)), some (.dat (eI x51)), none, none, none] from gd_name) σ H vx S dx _ fun σ _ S => ?_
          have hb55 : _ = some c11 := hf
          have hb55 := hb55
          try (with_reducible show L2.Ends.nx _ _ _; with_reducible refine nx_go ?_)
          obtain ⟨u56, h_u56, hb55⟩ := bind_some hb55
          obtain ⟨st57, hif58, hb55⟩ := bind_some hb55
          refine s_ifJ (fun σ H => Vx.Ex H0 H ∧ Sl K H σ [some (.raw (.ref a_script)), some (.dat (eI digit_2)), some (.dat (eI n_3)), some (.dat ((eL eI) numbers_5)), some (.raw (.ref l6)), none, none, some (.dat ((eT (eT eI)) st57)), some (.dat (eI x51)), none, none, none] ∧ Ow K H0 H l6 (st9.map (eT (eT eI))) ∧ Kp Hk H) (t_test (p_eqI (p_i0 (f := Builtin.bitAnd) (p_iC (f := fun i j => i / 2 ^ j.toNat) (p_iC (p_var (i := 1) S rfl) p_int ⟨by decide, by decide⟩) (p_var (i := 8) S rfl) (chk_dec h_u56)) p_int) p_int)) (fun σ H p => ?_) (fun hb H e1 J => ?_) (fun hb H e1 J => ?_)
          · obtain ⟨e0, S, o_l6, kh⟩ := p
            have hb55 := Option.some.inj hb55
            have S : Sl K H σ [some (.raw (.ref a_script)), some (.dat (eI digit_2)), some (.dat (eI n_3)), some (.dat ((eL eI) numbers_5)), some (.raw (.ref l6)), none, none, some (.dat ((eT (eT eI)) st57)), none, none, none, none] := (S).forget 8
            exact hN (st57) σ H hb55.symm ⟨e0, S, o_l6⟩ kh
          · have hif58 := cnd_t hb hif58
            have S := S.ex e1
            have e0 := e0.trans e1
            have kh := kh.trans (Kp.of e1)
            have o_l6 := o_l6.ex e1
            try (with_reducible show L2.Ends.nx _ _ _; with_reducible refine nx_go ?_)
            obtain ⟨x59, h_x59, hif58⟩ := bind_some hif58
            obtain ⟨r60, h_r60, hif58⟩ := bind_some hif58
            obtain ⟨p_61, h_p_61, hif58⟩ := bind_some hif58
            have h_p_61 := Option.some.inj h_p_61
            refine s_set (K := K) (d := (eT (eT eI)) p_61) (EvP.to (p_callR (tabs_ex e0 t0) (g_d (p_var (i := 7) S rfl) (g_d (q_ixL (f := (eT (eT eI))) (xs := st9) (o_l6.s (i := 4) S rfl) (p_var (i := 8) S rfl) h_x59) g_nil)) rfl ⟨_, _, _, rfl, h_r60, rfl⟩) (congrArg (eT (eT eI)) h_p_61)) fun v H e1 d1 => ?_
            have S := S.ex e1
            have e0 := e0.trans e1
            have kh := kh.trans (Kp.of e1)
            have o_l6 := o_l6.ex e1
            have S : Sl K H _ [some (.raw (.ref a_script)), some (.dat (eI digit_2)), some (.dat (eI n_3)), some (.dat ((eL eI) numbers_5)), some (.raw (.ref l6)), none, none, some (.dat ((eT (eT eI)) p_61)), some (.dat (eI x51)), none, none, none] := S.put 7 d1
            generalize List.set _ 7 (some v) = σ at S ⊢
            have hif58 := Option.some.inj hif58
            subst hif58
            have S : Sl K H σ [some (.raw (.ref a_script)), some (.dat (eI digit_2)), some (.dat (eI n_3)), some (.dat ((eL eI) numbers_5)), some (.raw (.ref l6)), none, none, some (.dat ((eT (eT eI)) p_61)), some (.dat (eI x51)), none, none, none] := S
            exact J σ H ⟨e0, S, o_l6, kh⟩
          · have hif58 := cnd_f hb hif58
            have S := S.ex e1
            have e0 := e0.trans e1
            have kh := kh.trans (Kp.of e1)
            have o_l6 := o_l6.ex e1
            first | refine s_nextX ?_ | refine s_next ?_
            have hif58 := Option.some.inj hif58
            subst hif58
            have S : Sl K H σ [some (.raw (.ref a_script)), some (.dat (eI digit_2)), some (.dat (eI n_3)), some (.dat ((eL eI) numbers_5)), some (.raw (.ref l6)), none, none, some (.dat ((eT (eT eI)) st52)), some (.dat (eI x51)), none, none, none] := S
            exact J σ H ⟨e0, S, o_l6, kh⟩
        · obtain ⟨e0, S, o_l6⟩ := p
          subst hgo
          dsimp only [Ct.el] at hif29
          have hif29 := Option.some.inj hif29
          subst hif29
          have S : Sl K H σ [some (.raw (.ref a_script)), some (.dat (eI digit_2)), some (.dat (eI n_3)), some (.dat ((eL eI) numbers_5)), some (.raw (.ref l6)), none, none, some (.dat ((eT (eT eI)) st52)), none, none, none, none] := S
          exact J σ H ⟨e0, S, o_l6⟩
      · have hif29 := cnd_f hb hif29
        have S := S.ex e1
        have e0 := e0.trans e1
        have o_l6 := o_l6.ex e1
        first | refine s_nextX ?_ | refine s_next ?_
        have hif29 := Option.some.inj hif29
        subst hif29
        have S : Sl K H σ [some (.raw (.ref a_script)), some (.dat (eI digit_2)), some (.dat (eI n_3)), some (.dat ((eL eI) numbers_5)), some (.raw (.ref l6)), none, none, some (.dat ((eT (eT eI)) p_27)), none, none, none, none] := S
        exact J σ H ⟨e0, S, o_l6⟩
end

theorem all_snoc {α : Type} {P : α → Prop} {xs : List α} {x : α} (h1 : ∀ y ∈ xs, P y) (h2 : P x) : ∀ y ∈ xs ++ [x], P y := fun y hy => by
  rcases List.mem_append.mp hy with hy | hy
  · exact h1 y hy
  · rw [List.mem_singleton.mp hy]; exact h2
theorem Y.lcAny {α ω β : Type} {fn : α → Option (Option ω)} {k : List ω → Option β} {Q : β → Prop} (R : α → Option ω → Prop) : ∀ {xs : List α}, (∀ x ∈ xs, Y (fn x) (R x)) → (∀ rs : List (Option ω), rs.length = xs.length → (∀ (i : Nat) x r, xs[i]? = some x → rs[i]? = some r → R x r) → Y (k (rs.filterMap id)) Q) → Y ((lcO fn xs).bind k) Q := by
  intro xs h hk
  have key : ∀ ys : List α, (∀ y ∈ ys, y ∈ xs) → ∃ rs : List (Option ω), lcO fn ys = some (rs.filterMap id) ∧ rs.length = ys.length ∧ ∀ (i : Nat) x r, ys[i]? = some x → rs[i]? = some r → R x r := by
    intro ys
    induction ys with
    | nil => intro _; exact ⟨[], rfl, rfl, fun i x r hx => by simp at hx⟩
    | cons y ys ih =>
      intro hm
      obtain ⟨r, e, hr⟩ := h y (hm y List.mem_cons_self)
      obtain ⟨rs, e1, e2, e3⟩ := ih fun z hz => hm z (List.mem_cons_of_mem _ hz)
      refine ⟨r :: rs, ?_, by rw [List.length_cons, List.length_cons, e2], fun i x r' hx hr' => ?_⟩
      · unfold lcO
        rw [e, Option.bind_some, e1, Option.bind_some, List.filterMap_cons]
        cases r <;> rfl
      · cases i with
        | zero => cases hx; cases hr'; exact hr
        | succ i => exact e3 i x r' (by simpa using hx) (by simpa using hr')
  obtain ⟨rs, e1, e2, e3⟩ := key xs fun _ h => h
  rw [e1]
  exact hk rs e2 e3
theorem Y.lcAll {α ω β : Type} {fn : α → Option (Option ω)} {k : List ω → Option β} {Q : β → Prop} (S : ω → Prop) {xs : List α} (h : ∀ x ∈ xs, Y (fn x) fun r => ∀ y, r = some y → S y) (hk : ∀ ys : List ω, (∀ y ∈ ys, S y) → ys.length ≤ xs.length → Y (k ys) Q) : Y ((lcO fn xs).bind k) Q := by
  refine Y.lcAny (fun _ r => ∀ y, r = some y → S y) h fun rs hl hr => hk _ (fun y hy => ?_) (by rw [← hl]; exact List.length_filterMap_le _ _)
  obtain ⟨o, ho, e⟩ := List.mem_filterMap.mp hy
  obtain ⟨i, hi⟩ := List.mem_iff_getElem?.mp ho
  have hlt : i < xs.length := by rw [← hl]; exact (List.getElem?_eq_some_iff.mp hi).1
  exact hr i xs[i] o (List.getElem?_eq_getElem hlt) hi y e
theorem cell_ok (ns : List Int) (k : Int) (hk : 0 ≤ k) : Y (m__law_cell ns k) fun _ => True := by
  unfold m__law_cell
  exact .condp (fun h => .at_ hk h fun x _ => .ret trivial) fun h => .ret trivial
theorem absI_nn (x : Int) : 0 ≤ absI x := by unfold absI; split <;> omega
theorem sortT_length (xs : List (List Int)) : (sortT xs).length = xs.length := (List.mergeSort_perm xs _).length_eq
theorem sha_list {α : Type} {f : α → PyData} {k : Nat} (h1 : ∀ a, (f a).canLay0 = true) (h2 : ∀ a, (f a).depth ≤ k) : ∀ xs : List α, PyData.canLayAll0 (xs.map f) = true ∧ PyData.depthAll (xs.map f) ≤ k
  | [] => ⟨rfl, by simp [PyData.depthAll]⟩
  | x :: xs => by
    obtain ⟨a, b⟩ := sha_list h1 h2 xs
    refine ⟨?_, ?_⟩
    · rw [List.map_cons, PyData.canLayAll0, h1, a]; rfl
    · rw [List.map_cons, PyData.depthAll]
      have := h2 x
      omega
theorem shI (a : Int) : (eI a).canLay0 = true ∧ (eI a).depth ≤ 0 := ⟨rfl, by simp [PyData.depth]⟩
theorem shB (a : Bool) : (eB a).canLay0 = true ∧ (eB a).depth ≤ 0 := ⟨rfl, by simp [PyData.depth]⟩
theorem shTI (a : List Int) : (eT eI a).canLay0 = true ∧ (eT eI a).depth ≤ 1 := by
  obtain ⟨h1, h2⟩ := sha_list (fun a => (shI a).1) (fun a => (shI a).2) a
  exact ⟨by simp only [PyData.canLay0]; exact h1, by simp only [PyData.depth]; omega⟩
theorem shLI (a : List Int) : SeqAt.shaped (eL eI a) = true := by
  obtain ⟨h1, h2⟩ := sha_list (fun a => (shI a).1) (fun a => (shI a).2) a
  unfold SeqAt.shaped
  rw [Bool.and_eq_true]
  exact ⟨by simp only [PyData.canLay0]; exact h1, decide_eq_true (by simp only [PyData.depth]; omega)⟩
theorem shTT (a : List (List Int)) : SeqAt.shaped (eT (eT eI) a) = true := by
  obtain ⟨h1, h2⟩ := sha_list (fun a => (shTI a).1) (fun a => (shTI a).2) a
  unfold SeqAt.shaped
  rw [Bool.and_eq_true]
  exact ⟨by simp only [PyData.canLay0]; exact h1, decide_eq_true (by simp only [PyData.depth]; omega)⟩
theorem shLB (a : List Bool) : SeqAt.shaped (PyData.list (List.map eB a)) = true := by
  obtain ⟨h1, h2⟩ := sha_list (fun a => (shB a).1) (fun a => (shB a).2) a
  unfold SeqAt.shaped
  rw [Bool.and_eq_true]
  exact ⟨by simp only [PyData.canLay0]; exact h1, decide_eq_true (by simp only [PyData.depth]; omega)⟩
theorem and2 {a b : Bool} (h1 : a = true) (h2 : b = true) : (a && b) = true := by rw [h1, h2]; rfl
/-! dicts -/
theorem hasA_iff {κ ω : Type} [DecidableEq κ] (s : List (κ × ω)) (k : κ) : hasA s k = true ↔ k ∈ s.map (·.1) := by
  unfold hasA
  rw [List.any_eq_true, List.mem_map]
  constructor
  · rintro ⟨x, h1, h2⟩; exact ⟨x, h1, of_decide_eq_true h2⟩
  · rintro ⟨x, h1, h2⟩; exact ⟨x, h1, decide_eq_true h2⟩
theorem putA_key {κ ω : Type} [DecidableEq κ] (s : List (κ × ω)) (k : κ) (v : ω) : (putA s k v).map (·.1) = if k ∈ s.map (·.1) then s.map (·.1) else s.map (·.1) ++ [k] := by
  unfold putA
  have e := hasA_iff s k
  unfold hasA at e
  by_cases h : (s.any fun kv => decide (kv.1 = k)) = true
  · rw [if_pos h, if_pos (e.mp h), List.map_map]
    apply List.map_congr_left
    intro x _
    show (if x.1 = k then (x.1, v) else x).1 = x.1
    split <;> rfl
  · rw [if_neg h, if_neg fun z => h (e.mpr z), List.map_append]
    rfl
theorem putA_mem {κ ω : Type} [DecidableEq κ] (s : List (κ × ω)) (k : κ) (v : ω) (x : κ) : x ∈ (putA s k v).map (·.1) ↔ x ∈ s.map (·.1) ∨ x = k := by
  rw [putA_key]
  split
  · rename_i h
    exact ⟨.inl, fun z => z.elim id fun e => e ▸ h⟩
  · rw [List.mem_append, List.mem_singleton]
theorem putA_nd {κ ω : Type} [DecidableEq κ] {s : List (κ × ω)} {k : κ} {v : ω} (h : (s.map (·.1)).Nodup) : ((putA s k v).map (·.1)).Nodup := by
  rw [putA_key]
  split
  · exact h
  · rename_i n
    rw [List.nodup_append]
    exact ⟨h, by simp, fun a ha b hb e => n (by rw [List.mem_singleton] at hb; rw [← hb, ← e]; exact ha)⟩
theorem putA_len {κ ω : Type} [DecidableEq κ] (s : List (κ × ω)) (k : κ) (v : ω) : (putA s k v).length ≤ s.length + 1 := by
  unfold putA
  split
  · rw [List.length_map]; omega
  · simp
theorem delA_key {κ ω : Type} [DecidableEq κ] (s : List (κ × ω)) (k : κ) : (delA s k).map (·.1) = (s.map (·.1)).filter fun x => decide (x ≠ k) := by
  unfold delA
  rw [List.filter_map]
  rfl
theorem delA_len {κ ω : Type} [DecidableEq κ] (s : List (κ × ω)) (k : κ) : (delA s k).length ≤ s.length := List.length_filter_le _ _
theorem getA_mapIf {κ ω : Type} [DecidableEq κ] (k r : κ) (v : ω) : ∀ s : List (κ × ω), getA (s.map fun kv => if kv.1 = k then (kv.1, v) else kv) r = if r = k then (if k ∈ s.map (·.1) then some v else none) else getA s r
  | [] => by simp [getA]
  | p :: s => by
    rw [List.map_cons, getA_cons, getA_mapIf k r v s, getA_cons]
    by_cases hr : r = k
    · subst hr
      by_cases hp : p.1 = r
      · simp [hp]
      · have e : (r ∈ (p :: s).map (·.1)) ↔ r ∈ s.map (·.1) := by
          rw [List.map_cons, List.mem_cons]
          exact ⟨fun h => h.elim (fun e => absurd e.symm hp) id, .inr⟩
        simp only [if_neg hp, e]
    · by_cases hp : p.1 = k
      · simp only [hp, if_true, if_neg hr]
        rw [if_neg (fun e => hr e.symm), if_neg (fun e => hr e.symm)]
      · simp only [if_neg hp, if_neg hr]
theorem getA_put {κ ω : Type} [DecidableEq κ] (s : List (κ × ω)) (k r : κ) (v : ω) : getA (putA s k v) r = if r = k then some v else getA s r := by
  unfold putA
  have e := hasA_iff s k
  unfold hasA at e
  by_cases h : (s.any fun kv => decide (kv.1 = k)) = true
  · rw [if_pos h, getA_mapIf]
    by_cases hr : r = k
    · rw [if_pos hr, if_pos hr, if_pos (e.mp h)]
    · rw [if_neg hr, if_neg hr]
  · rw [if_neg h]
    have nk : k ∉ s.map (·.1) := fun z => h (e.mpr z)
    clear h e
    induction s with
    | nil =>
      rw [List.nil_append, getA_cons]
      by_cases hr : r = k
      · rw [if_pos hr, if_pos hr.symm]
      · rw [if_neg hr, if_neg fun z => hr z.symm]
    | cons p s ih =>
      rw [List.cons_append, getA_cons, getA_cons]
      simp only [List.map_cons, List.mem_cons, not_or] at nk
      rw [ih nk.2]
      by_cases hp : p.1 = r
      · rw [if_pos hp, if_pos hp, if_neg fun z => nk.1 (by rw [hp, z])]
      · rw [if_neg hp, if_neg hp]
/-! what stands an odd number of times -/
def oddB (rows : List (List Int)) (r : List Int) : Bool := decide (rows.count r % 2 = 1)
def oddL (rows : List (List Int)) : List (List Int) := sortT ((dd rows).filter (oddB rows))
theorem oddB_snoc (rows : List (List Int)) (x r : List Int) : oddB (rows ++ [x]) r = if r = x then !oddB rows r else oddB rows r := by
  unfold oddB
  rw [List.count_append, List.count_singleton]
  by_cases h : r = x
  · subst h
    simp only [beq_self_eq_true, if_true]
    by_cases e : rows.count r % 2 = 1
    · rw [decide_eq_true e, decide_eq_false (by omega)]; rfl
    · rw [decide_eq_false e, decide_eq_true (by omega)]; rfl
  · have : (x == r) = false := by simpa using fun e => h e.symm
    rw [this, if_neg h]
    simp
theorem oddB_not {rows : List (List Int)} {r : List Int} (h : r ∉ rows) : oddB rows r = false := by
  unfold oddB
  rw [List.count_eq_zero.mpr h]
  rfl
theorem oddB_mem {rows : List (List Int)} {r : List Int} (h : oddB rows r = true) : r ∈ rows := by
  by_cases e : r ∈ rows
  · exact e
  · rw [oddB_not e] at h; cases h
theorem oddL_of {rows ks : List (List Int)} (hn : ks.Nodup) (hk : ∀ r, r ∈ ks ↔ oddB rows r = true) : sortT ks = oddL rows :=
  sortT_congr ((List.perm_ext_iff_of_nodup hn ((dd_nodup rows).filter _)).mpr fun r => by
    rw [hk, List.mem_filter, dd_mem]
    exact ⟨fun h => ⟨oddB_mem h, h⟩, fun h => h.2⟩)
theorem oddL_mem {rows : List (List Int)} {r : List Int} : r ∈ oddL rows ↔ oddB rows r = true := by
  unfold oddL
  rw [(sortT_perm _).mem_iff, List.mem_filter, dd_mem]
  exact ⟨fun h => h.2, fun h => ⟨oddB_mem h, h⟩⟩
theorem oddL_nd (rows : List (List Int)) : (oddL rows).Nodup := (sortT_perm _).nodup_iff.mpr ((dd_nodup rows).filter _)
theorem dd_len {α : Type} [DecidableEq α] : ∀ xs : List α, (dd xs).length ≤ xs.length
  | [] => Nat.le_refl _
  | x :: xs => by
    have := dd_len xs
    unfold dd
    split
    · simp only [List.length_cons]; omega
    · simp only [List.length_cons]; omega
theorem oddL_len (rows : List (List Int)) : (oddL rows).length ≤ rows.length := by
  unfold oddL
  rw [sortT_length]
  exact Nat.le_trans (List.length_filter_le _ _) (dd_len rows)
/-! the law's own sums and products -/
def tog (st : List (List Int × Bool)) (x : List Int) : List (List Int × Bool) := if hasA st x = true then delA st x else putA st x true
/-- what the dict holds behind rows -/
def Tog (rows : List (List Int)) (st : List (List Int × Bool)) : Prop := (st.map (·.1)).Nodup ∧ st.length ≤ rows.length ∧ ∀ r, r ∈ st.map (·.1) ↔ oddB rows r = true
theorem Tog.nil : Tog [] [] := ⟨by simp, Nat.le_refl _, fun r => by simp [oddB]⟩
theorem Tog.end_ {rows : List (List Int)} {st : List (List Int × Bool)} (h : Tog rows st) : sortT (st.map (·.1)) = oddL rows := oddL_of h.1 h.2.2
theorem toggle_ok {rows : List (List Int)} {st : List (List Int × Bool)} (h : Tog rows st) (hl : rows.length ≤ 1000000) (x : List Int) : Y (m__law_toggle st x) (Tog (rows ++ [x])) := by
  obtain ⟨p1, p2, p3⟩ := h
  have len : (rows ++ [x]).length = rows.length + 1 := by simp
  unfold m__law_toggle
  refine .bind (.cond (fun hh => .chk hh (.let_ (.ret (.ret ⟨?_, ?_, fun r => ?_⟩)))) fun hh => .chkp (by omega) (.let_ (.ret (.ret ⟨putA_nd p1, ?_, fun r => ?_⟩))))
  · rw [delA_key]; exact p1.filter _
  · have := delA_len st x
    omega
  · have hx := (p3 x).mp ((hasA_iff st x).mp hh)
    rw [delA_key, List.mem_filter, p3 r, oddB_snoc]
    by_cases hr : r = x
    · subst hr; rw [hx]; simp
    · rw [if_neg hr]; simp [hr]
  · have := putA_len st x true
    omega
  · have hx : oddB rows x = false := by
      cases e : oddB rows x with
      | false => rfl
      | true => exact absurd ((hasA_iff st x).mpr ((p3 x).mpr e)) (by rw [hh]; decide)
    rw [putA_mem, p3 r, oddB_snoc]
    by_cases hr : r = x
    · subst hr; rw [hx]; simp
    · rw [if_neg hr]; simp [hr]
theorem law_sum_is (p q : List (List Int)) (h : p.length + q.length ≤ 1000000) : m__law_sum p q = some (oddL (p ++ q)) := by
  have key : Y (m__law_sum p q) (· = oddL (p ++ q)) := by
    unfold m__law_sum
    refine .chkp (by omega) (.allP (fun done st => Tog done st) Tog.nil (fun done x more st e t => ?_) fun st t => .ret t.end_)
    have hlen : done.length ≤ (p ++ q).length := by rw [e]; simp
    rw [List.length_append] at hlen
    exact .call (toggle_ok t (by omega) x) fun st' t' => .go t'
  exact key.is
/-- the products of all pairs -/
theorem shTI1 (a : List Int) : SeqAt.shaped (eT eI a) = true := by
  obtain ⟨h1, h2⟩ := shTI a
  unfold SeqAt.shaped
  rw [Bool.and_eq_true]
  exact ⟨h1, decide_eq_true (by omega)⟩

/-! the order of monomials -/
abbrev wt (m : List Int) : Int × List Int := ((m.length : Int), m)
abbrev eW : Int × List Int → PyData := eP eI (eT eI)
def W (a b : List Int) : Prop := a.length < b.length ∨ (a.length = b.length ∧ a < b)
theorem lt_irr (a : List Int) : ¬ a < a := List.lt_irrefl a
theorem W_is (a b : List Int) : PySem.W.dataLt (eW (wt a)) (eW (wt b)) = true ↔ W a b := by
  have h : PySem.W.dataLt (eW (wt a)) (eW (wt b)) = if PyData.eqv (eI (a.length : Int)) (eI (b.length : Int)) = true then (if PyData.eqv (eT eI a) (eT eI b) = true then false else PySem.W.dataLt (eT eI a) (eT eI b)) else PySem.W.dataLt (eI (a.length : Int)) (eI (b.length : Int)) :=
    PySem.W.dataLt_pair (by first | rfl | simp [PySem.W.alike]) (tupI_alike a b)
  have e1 : PyData.eqv (eI (a.length : Int)) (eI (b.length : Int)) = decide ((a.length : Int) = b.length) := Cl.eq _ _
  have e2 : PyData.eqv (eT eI a) (eT eI b) = decide (a = b) := Cl.eq _ _
  have e3 : PySem.W.dataLt (eI (a.length : Int)) (eI (b.length : Int)) = decide ((a.length : Int) < b.length) := PySem.W.dataLt_int _ _
  have e4 : PySem.W.dataLt (eT eI a) (eT eI b) = decide (a < b) := by
    show PySem.W.dataLt (.tuple (a.map .int)) (.tuple (b.map .int)) = _
    rw [PySem.W.dataLt_tuple]
    exact PySem.W.dataLt_ints a b
  rw [h, e1, e2, e3, e4]
  unfold W
  by_cases h1 : a.length = b.length
  · rw [if_pos (by simp [h1])]
    by_cases h2 : a = b
    · subst h2
      rw [if_pos (by simp)]
      simp [lt_irr]
    · rw [if_neg (by simp [h2])]
      simp [h1]
  · rw [if_neg (by simp; omega)]
    simp [h1]
theorem W_irr (a : List Int) : ¬ W a a := fun h => by
  rcases h with h | ⟨_, h⟩
  · omega
  · exact lt_irr a h
theorem W_trans {a b c : List Int} (h1 : W a b) (h2 : W b c) : W a c := by
  rcases h1 with h1 | ⟨h1, h1'⟩ <;> rcases h2 with h2 | ⟨h2, h2'⟩
  · exact .inl (by omega)
  · exact .inl (by omega)
  · exact .inl (by omega)
  · exact .inr ⟨by omega, List.lt_trans h1' h2'⟩
theorem W_tri {a b : List Int} (h : a ≠ b) : W a b ∨ W b a := by
  unfold W
  by_cases h1 : a.length = b.length
  · rcases Classical.em (a < b) with h2 | h2
    · exact .inl (.inr ⟨h1, h2⟩)
    · rcases Classical.em (b < a) with h3 | h3
      · exact .inr (.inr ⟨h1.symm, h3⟩)
      · exact absurd (List.le_antisymm (List.not_lt.mp h3) (List.not_lt.mp h2)) h
  · rcases Nat.lt_or_gt_of_ne h1 with h2 | h2
    · exact .inl (.inl h2)
    · exact .inr (.inl h2)
/-! the greatest -/
def Top (xs : List (List Int)) (t : List Int) : Prop := t ∈ xs ∧ ∀ y ∈ xs, ¬ W t y
theorem Top.uniq {xs ys : List (List Int)} {t u : List Int} (h : ∀ x, x ∈ xs ↔ x ∈ ys) (a : Top xs t) (b : Top ys u) : t = u := by
  by_cases e : t = u
  · exact e
  · rcases W_tri e with h1 | h1
    · exact absurd h1 (a.2 u ((h u).mpr b.1))
    · exact absurd h1 (b.2 t ((h t).mp a.1))
theorem best_top {xs : List (List Int)} (f : Nat → Nat → Bool) (hf : ∀ i j, i < xs.length → j < xs.length → (f i j = true ↔ W (xs.getD j []) (xs.getD i []))) : ∀ k, k < xs.length → PySem.argBest f k ≤ k ∧ ∀ j, j ≤ k → ¬ W (xs.getD (PySem.argBest f k) []) (xs.getD j [])
  | 0, _ => ⟨by simp [PySem.argBest], fun j hj => by
    have : j = 0 := by omega
    subst this
    simpa [PySem.argBest] using W_irr _⟩
  | k + 1, hk => by
    obtain ⟨h1, h2⟩ := best_top f hf k (by omega)
    unfold PySem.argBest
    split
    · rename_i h
      have h := (hf _ _ hk (by omega)).mp h
      refine ⟨Nat.le_refl _, fun j hj => ?_⟩
      by_cases e : j = k + 1
      · subst e; exact W_irr _
      · exact fun hb => h2 j (by omega) (W_trans h hb)
    · rename_i h
      refine ⟨by omega, fun j hj => ?_⟩
      by_cases e : j = k + 1
      · subst e
        exact fun hb => h ((hf _ _ hk (by omega)).mpr hb)
      · exact h2 j (by omega)
def mx (xs : List (List Int)) : Option (List Int) := xs[bestI ((xs.map wt).map eW)]?
theorem mx_top {xs : List (List Int)} (h : xs ≠ []) : ∃ t, mx xs = some t ∧ Top xs t := by
  have h0 : 0 < xs.length := List.length_pos_iff.mpr h
  have hl : ((xs.map wt).map eW).length = xs.length := by rw [List.length_map, List.length_map]
  have gd : ∀ i, i < xs.length → ((xs.map wt).map eW).getD i .none = eW (wt (xs.getD i [])) := fun i hi => by
    rw [List.getD_eq_getElem?_getD, List.getD_eq_getElem?_getD, List.getElem?_map, List.getElem?_map, List.getElem?_eq_getElem hi]
    rfl
  obtain ⟨h1, h2⟩ := best_top (xs := xs) (fun i j => PySem.W.dataLt (((xs.map wt).map eW).getD j .none) (((xs.map wt).map eW).getD i .none)) (fun i j hi hj => by
    show PySem.W.dataLt (((xs.map wt).map eW).getD j .none) (((xs.map wt).map eW).getD i .none) = true ↔ _
    rw [gd i hi, gd j hj]; exact W_is _ _) (xs.length - 1) (by omega)
  have hb : bestI ((xs.map wt).map eW) < xs.length := by
    unfold bestI
    rw [hl]
    exact Nat.lt_of_le_of_lt h1 (by omega)
  have eb : xs.getD (bestI ((xs.map wt).map eW)) [] = xs[bestI ((xs.map wt).map eW)] := by
    rw [List.getD_eq_getElem?_getD, List.getElem?_eq_getElem hb]; rfl
  refine ⟨xs[bestI ((xs.map wt).map eW)], List.getElem?_eq_getElem hb, List.getElem_mem hb, fun y hy => ?_⟩
  obtain ⟨j, hj, e⟩ := List.mem_iff_getElem.mp hy
  have h3 := h2 j (by omega)
  have e2 : xs.getD j [] = y := by rw [List.getD_eq_getElem?_getD, List.getElem?_eq_getElem hj, e]; rfl
  rw [e2] at h3
  have e3 : bestI ((xs.map wt).map eW) = PySem.argBest (fun i j => PySem.W.dataLt (((xs.map wt).map eW).getD j .none) (((xs.map wt).map eW).getD i .none)) (xs.length - 1) := by
    unfold bestI; rw [hl]
  rw [← e3, eb] at h3
  exact h3
theorem Top.mx {xs : List (List Int)} {t : List Int} (h : Top xs t) : mx xs = some t := by
  obtain ⟨u, h1, h2⟩ := mx_top (xs := xs) (fun e => by rw [e] at h; cases h.1)
  rw [h1, Top.uniq (fun _ => Iff.rfl) h2 h]
theorem max_pairs (xs : List (List Int)) : maxDO (eP eI (eT eI)) (xs.map (fun it : List Int => ((it.length : Int), it))) = (mx xs).map wt := by
  unfold maxDO A_rebut_k43_reduced_polynomials.mx
  rw [List.getElem?_map]
theorem max_key (xs : List (List Int)) : maxKO m_weight (eP eI (eT eI)) xs = mx xs := by
  unfold maxKO A_rebut_k43_reduced_polynomials.mx
  have e : lcO (fun x : List Int => (m_weight x).map some) xs = some (xs.map fun it29 : List Int => ((it29.length : Int), it29)) := lcO_map (fun it29 : List Int => ((it29.length : Int), it29)) xs
  rw [e, Option.bind_some]
theorem leading_is (p : List (List Int)) : m_leading p = mx p := by
  unfold m_leading
  rw [max_key]
  cases mx p <;> rfl
theorem law_leading_is (p : List (List Int)) : m__law_leading p = mx p := by
  unfold m__law_leading
  rw [max_pairs]
  cases mx p <;> rfl
/-! parity -/
theorem oddB_app (a b : List (List Int)) (r : List Int) : oddB (a ++ b) r = (oddB a r != oddB b r) := by
  unfold oddB
  rw [List.count_append]
  rw [Bool.eq_iff_iff]
  simp only [decide_eq_true_eq, bne_iff_ne, ne_eq, decide_eq_decide]
  omega
theorem oddB_nd {p : List (List Int)} (h : p.Nodup) (r : List Int) : oddB p r = decide (r ∈ p) := by
  unfold oddB
  by_cases m : r ∈ p
  · have h1 : p.count r = 1 := by
      have h2 := List.nodup_iff_count.mp h r
      have h3 := List.count_pos_iff.mpr m
      omega
    simp [h1, m]
  · simp [List.count_eq_zero_of_not_mem m, m]
theorem oddB_oddL (a : List (List Int)) (r : List Int) : oddB (oddL a) r = oddB a r := by
  rw [oddB_nd (oddL_nd a), Bool.eq_iff_iff, decide_eq_true_eq]
  exact oddL_mem
theorem oddL_ext {a b : List (List Int)} (h : ∀ r, oddB a r = oddB b r) : oddL a = oddL b := by
  refine oddL_of ((dd_nodup a).filter _) fun r => ?_
  rw [List.mem_filter, dd_mem, ← h r]
  exact ⟨fun z => z.2, fun z => ⟨oddB_mem z, z⟩⟩
theorem oddL_idem (a : List (List Int)) : oddL (oddL a) = oddL a := oddL_ext fun r => oddB_oddL a r
theorem oddL_l (a b : List (List Int)) : oddL (oddL a ++ b) = oddL (a ++ b) := oddL_ext fun r => by rw [oddB_app, oddB_app, oddB_oddL]
theorem oddL_twice (a q : List (List Int)) : oddL ((a ++ q) ++ q) = oddL a := oddL_ext fun r => by rw [oddB_app, oddB_app]; cases oddB a r <;> cases oddB q r <;> rfl
theorem oddL_swap (a q r : List (List Int)) : oddL ((a ++ q) ++ r) = oddL ((a ++ r) ++ q) := oddL_ext fun x => by rw [oddB_app, oddB_app, oddB_app, oddB_app]; cases oddB a x <;> cases oddB q x <;> cases oddB r x <;> rfl
theorem oddL_nil : oddL [] = [] := List.eq_nil_iff_forall_not_mem.mpr fun r h => by
  have := oddL_mem.mp h
  simp [oddB] at this
/-! leaders -/
def ld (q : List (List Int)) : List Int := (mx q).getD []
structure Gq (q : List (List Int)) : Prop where
  ne : q ≠ []
  nd : q.Nodup
  le : q.length ≤ 100
theorem Gq.top {q : List (List Int)} (g : Gq q) : Top q (ld q) := by
  obtain ⟨t, h1, h2⟩ := mx_top g.ne
  unfold ld
  rw [h1]
  exact h2
theorem Gq.mx {q : List (List Int)} (g : Gq q) : mx q = some (ld q) := g.top.mx
def ldf (sp : List (List (List Int))) : List (List Int × List (List Int)) := sp.foldl (fun s q => putA s (ld q) q) []
theorem ldf_snoc (sp : List (List (List Int))) (q : List (List Int)) : ldf (sp ++ [q]) = putA (ldf sp) (ld q) q := by
  unfold ldf
  rw [List.foldl_append]
  rfl
theorem snoc_ind {α : Type} {P : List α → Prop} (h0 : P []) (hs : ∀ xs x, P xs → P (xs ++ [x])) (xs : List α) : P xs := by
  have key : ∀ ys : List α, P ys.reverse := fun ys => by
    induction ys with
    | nil => exact h0
    | cons y ys ih => rw [List.reverse_cons]; exact hs _ _ ih
  have := key xs.reverse
  rwa [List.reverse_reverse] at this
theorem ldf_len (sp : List (List (List Int))) : (ldf sp).length ≤ sp.length := by
  refine snoc_ind (P := fun sp => (ldf sp).length ≤ sp.length) (Nat.le_refl _) (fun sp q ih => ?_) sp
  rw [ldf_snoc, List.length_append]
  have := putA_len (ldf sp) (ld q) q
  show _ ≤ sp.length + 1
  omega
theorem ldf_get (sp : List (List (List Int))) : ∀ t q, getA (ldf sp) t = some q → q ∈ sp ∧ ld q = t := by
  refine snoc_ind (P := fun sp => ∀ t q, getA (ldf sp) t = some q → q ∈ sp ∧ ld q = t) (fun t q h => by cases h) (fun sp q0 ih t q h => ?_) sp
  rw [ldf_snoc, getA_put] at h
  by_cases e : t = ld q0
  · rw [if_pos e] at h
    cases h
    exact ⟨by simp, e.symm⟩
  · rw [if_neg e] at h
    obtain ⟨h1, h2⟩ := ih t q h
    exact ⟨List.mem_append.mpr (.inl h1), h2⟩
theorem ldf_has (sp : List (List (List Int))) : ∀ t, hasA (ldf sp) t = true ↔ ∃ q ∈ sp, ld q = t := by
  refine snoc_ind (P := fun sp => ∀ t, hasA (ldf sp) t = true ↔ ∃ q ∈ sp, ld q = t) (fun t => ⟨fun h => (by cases h), fun ⟨q, h, _⟩ => (nomatch h)⟩) (fun sp q0 ih t => ?_) sp
  rw [ldf_snoc, hasA_iff, putA_mem, ← hasA_iff, ih t]
  constructor
  · rintro (⟨q, h1, h2⟩ | h)
    · exact ⟨q, List.mem_append.mpr (.inl h1), h2⟩
    · exact ⟨q0, by simp, h.symm⟩
  · rintro ⟨q, h1, h2⟩
    rcases List.mem_append.mp h1 with h1 | h1
    · exact .inl ⟨q, h1, h2⟩
    · rw [List.mem_singleton.mp h1] at h2
      exact .inr h2.symm
/-! one round -/
abbrev Ld := List (List Int × List (List Int))
def rdy (L : Ld) (rows : List (List Int)) : List (List Int) := (oddL rows).filter fun m => hasA L m
def stp (L : Ld) (rows : List (List Int)) : Option (List (List Int)) := (mx (rdy L rows)).bind fun t => (getA L t).map (rows ++ ·)
inductive Rch (L : Ld) : List (List Int) → List (List Int) → Prop where
  | refl (a) : Rch L a a
  | cons {a b c} : stp L a = some b → Rch L b c → Rch L a c
theorem Rch.snoc {L : Ld} {a b c : List (List Int)} (h : Rch L a b) (e : stp L b = some c) : Rch L a c := by
  induction h with
  | refl a => exact .cons e (.refl _)
  | cons h1 _ ih => exact .cons h1 (ih e)
theorem Rch.uniq {L : Ld} {a b c : List (List Int)} (h : Rch L a b) (hb : stp L b = none) (h2 : Rch L a c) (hc : stp L c = none) : b = c := by
  induction h with
  | refl a =>
    cases h2 with
    | refl => rfl
    | cons e _ => rw [e] at hb; cases hb
  | cons h1 _ ih =>
    cases h2 with
    | refl => rw [h1] at hc; cases hc
    | cons e r =>
      rw [h1] at e
      cases e
      exact ih hb r
theorem cnt_lt {α : Type} {p q : α → Bool} : ∀ {xs : List α} {x : α}, (∀ y ∈ xs, p y = true → q y = true) → x ∈ xs → q x = true → p x = false → xs.countP p < xs.countP q
  | y :: ys, x, h, hx, h1, h2 => by
    have le : ys.countP p ≤ ys.countP q := List.countP_mono_left fun z hz => h z (List.mem_cons_of_mem _ hz)
    rw [List.countP_cons, List.countP_cons]
    rcases List.mem_cons.mp hx with rfl | hx
    · rw [h1, h2]
      simp
      omega
    · have := cnt_lt (fun z hz => h z (List.mem_cons_of_mem _ hz)) hx h1 h2
      have h3 := h y List.mem_cons_self
      cases e1 : p y with
      | false => cases e2 : q y <;> simp <;> omega
      | true => rw [h3 e1]; simp; omega
def Wb (a b : List Int) : Bool := PySem.W.dataLt (eW (wt a)) (eW (wt b))
def mu (L : Ld) (rows : List (List Int)) : Nat := match mx (rdy L rows) with | none => 0 | some t => 1 + (L.map (·.1)).countP fun k => Wb k t
theorem mem_rdy {L : Ld} {rows : List (List Int)} {m : List Int} : m ∈ rdy L rows ↔ oddB rows m = true ∧ hasA L m = true := by
  unfold rdy
  rw [List.mem_filter, oddL_mem]
theorem rdy_top {L : Ld} {rows : List (List Int)} {t : List Int} (h : mx (rdy L rows) = some t) : Top (rdy L rows) t := by
  have hne : rdy L rows ≠ [] := fun e => by rw [e] at h; cases h
  obtain ⟨u, h1, h2⟩ := mx_top hne
  rw [h1] at h
  cases h
  exact h2
theorem mu_le (L : Ld) (rows : List (List Int)) : mu L rows ≤ L.length := by
  unfold mu
  cases e : mx (rdy L rows) with
  | none => exact Nat.zero_le _
  | some t =>
    have h := (rdy_top e).1
    have hk := (hasA_iff L t).mp (mem_rdy.mp h).2
    have h2 := cnt_lt (p := fun k => Wb k t) (q := fun _ => true) (fun _ _ _ => rfl) hk rfl (by
      cases e : Wb t t with
      | false => rfl
      | true => exact absurd ((W_is t t).mp e) (W_irr t))
    rw [List.countP_true, List.length_map] at h2
    show 1 + _ ≤ _
    omega
theorem stp_none {L : Ld} {rows : List (List Int)} (h : stp L rows = none) : rdy L rows = [] := by
  by_cases e : rdy L rows = []
  · exact e
  · obtain ⟨t, h1, h2⟩ := mx_top e
    have h3 := (mem_rdy.mp h2.1).2
    rw [← hasA_get] at h3
    unfold stp at h
    rw [h1, Option.bind_some] at h
    cases e2 : getA L t with
    | none => rw [e2] at h3; cases h3
    | some q => rw [e2] at h; cases h
theorem stp_nil {L : Ld} {rows : List (List Int)} (h : rdy L rows = []) : stp L rows = none := by
  unfold stp
  rw [h]
  rfl
def Gs (sp : List (List (List Int))) : Prop := (∀ q ∈ sp, Gq q) ∧ (sp.map ld).Nodup ∧ sp.length ≤ 5
theorem stp_some {sp : List (List (List Int))} (g : Gs sp) {rows : List (List Int)} (h : rdy (ldf sp) rows ≠ []) : ∃ t q, mx (rdy (ldf sp) rows) = some t ∧ getA (ldf sp) t = some q ∧ q ∈ sp ∧ stp (ldf sp) rows = some (rows ++ q) ∧ mu (ldf sp) (rows ++ q) < mu (ldf sp) rows := by
  obtain ⟨t, h1, h2⟩ := mx_top h
  have h3 := mem_rdy.mp h2.1
  have h4 := h3.2
  rw [← hasA_get] at h4
  cases e2 : getA (ldf sp) t with
  | none => rw [e2] at h4; cases h4
  | some q =>
    obtain ⟨h5, h6⟩ := ldf_get sp t q e2
    refine ⟨t, q, h1, e2, h5, by unfold stp; rw [h1, Option.bind_some, e2]; rfl, ?_⟩
    have gq := g.1 q h5
    have tq := gq.top
    rw [h6] at tq
    have hq : ∀ r, oddB q r = decide (r ∈ q) := oddB_nd gq.nd
    have mt : mu (ldf sp) rows = 1 + ((ldf sp).map (·.1)).countP fun k => Wb k t := by
      unfold mu
      rw [h1]
    rw [mt]
    have low : ∀ u ∈ rdy (ldf sp) (rows ++ q), W u t := fun u hu => by
      have hu := mem_rdy.mp hu
      have hu1 := hu.1
      rw [oddB_app, hq] at hu1
      have ne : u ≠ t := fun e => by
        subst e
        rw [h3.1] at hu1
        have := tq.1
        simp [this] at hu1
      rcases W_tri ne with z | z
      · exact z
      · cases e3 : oddB rows u with
        | true => exact absurd z (h2.2 u (mem_rdy.mpr ⟨e3, hu.2⟩))
        | false =>
          rw [e3] at hu1
          have : u ∈ q := by simpa using hu1
          exact absurd z (tq.2 u this)
    unfold mu
    cases e4 : mx (rdy (ldf sp) (rows ++ q)) with
    | none => show 0 < _; omega
    | some u =>
      have hu := (rdy_top e4).1
      have l := low u hu
      have hk := (hasA_iff _ u).mp (mem_rdy.mp hu).2
      have := cnt_lt (p := fun k => Wb k u) (q := fun k => Wb k t) (fun y _ hy => (W_is y t).mpr (W_trans ((W_is y u).mp hy) l)) hk ((W_is u t).mpr l) (by
        cases e : Wb u u with
        | false => rfl
        | true => exact absurd ((W_is u u).mp e) (W_irr u))
      show 1 + _ < _
      omega
theorem shLP (a : List (Int × List Int)) : SeqAt.shaped ((eL (eP eI (eT eI))) a) = true := by
  have pr : ∀ b : Int × List Int, (eP eI (eT eI) b).canLay0 = true ∧ (eP eI (eT eI) b).depth ≤ 2 := fun b => by
    obtain ⟨h1, h2⟩ := shTI b.2
    obtain ⟨h3, h4⟩ := shI b.1
    refine ⟨?_, ?_⟩
    · show (PyData.tuple [eI b.1, eT eI b.2]).canLay0 = true
      rw [PyData.canLay0, PyData.canLayAll0, PyData.canLayAll0, PyData.canLayAll0, h3, h1]
      rfl
    · show (PyData.tuple [eI b.1, eT eI b.2]).depth ≤ 2
      rw [PyData.depth, PyData.depthAll, PyData.depthAll, PyData.depthAll]
      omega
  obtain ⟨h1, h2⟩ := sha_list (fun a => (pr a).1) (fun a => (pr a).2) a
  unfold SeqAt.shaped
  rw [Bool.and_eq_true]
  exact ⟨by simp only [PyData.canLay0]; exact h1, decide_eq_true (by simp only [PyData.depth]; omega)⟩
theorem rangeL_len (lo hi : Int) : (rangeL lo hi).length = (hi - lo).toNat := by
  unfold rangeL
  rw [List.length_map, List.length_range]
def Fin_ (L : Ld) (p : List (List Int)) (rows : List (List Int)) : Prop := Rch L p rows ∧ stp L rows = none
section
variable {sp : List (List (List Int))} {p : List (List Int)}
theorem law_reduced_is (g : Gs sp) (hp : oddL p = p) (hl : p.length ≤ 1000) : Y (m__law_reduced p sp) fun r => ∃ rows, Fin_ (ldf sp) p rows ∧ r = oddL rows := by
  have hL := Nat.le_trans (ldf_len sp) g.2.2
  unfold m__law_reduced
  refine .allP (fun done st => st = ldf done) rfl (fun done x more s e hs => ?_) fun s hs => ?_
  · have hx : x ∈ sp := by rw [e]; simp
    have h1 := ldf_len done
    have h2 : done.length ≤ 5 := by
      have := g.2.2
      rw [e, List.length_append] at this
      omega
    subst hs
    refine .call (Y.of ((law_leading_is x).trans (g.1 x hx).mx)) fun r7 h7 => .chkp (by omega) (.let_ (.go ?_))
    rw [h7, ldf_snoc]
  · subst hs
    refine .chk (rangeOk_t (by omega) (by omega) (by omega) (by omega)) (.allR (fun done st => ∃ rows, st = oddL rows ∧ Rch (ldf sp) p rows ∧ mu (ldf sp) rows + done.length ≤ 5 ∧ rows.length ≤ 1000 + 100 * done.length) (fun r => ∃ rows, Fin_ (ldf sp) p rows ∧ r = oddL rows) ⟨p, hp.symm, .refl _, by have := mu_le (ldf sp) p; show _ + 0 ≤ 5; omega, by show _ ≤ 1000 + 100 * 0; omega⟩ (fun done x st hx hs => ?_) (fun st hs => ?_) fun r hr => .ret hr)
    · obtain ⟨rows, rfl, h1, h2, h3⟩ := hs
      refine .let_ (.chk (and2 (shLP _) (shLP _)) (.condp (fun h => .retR ⟨rows, ⟨h1, stp_nil (List.map_eq_nil_iff.mp h)⟩, rfl⟩) fun h => ?_))
      have h : rdy (ldf sp) rows ≠ [] := fun e => h (List.map_eq_nil_iff.mpr e)
      obtain ⟨t, q, e1, e2, e3, e4, e5⟩ := stp_some g h
      have lq := (g.1 q e3).le
      refine .call (R := fun x20 => x20 = wt t) (Y.of ((max_pairs (rdy (ldf sp) rows)).trans (by rw [e1]; rfl))) fun x20 hx20 => ?_
      subst hx20
      refine .call (R := fun g21 => g21 = q) (Y.of e2) fun g21 hg => ?_
      subst hg
      have lo := oddL_len rows
      refine .call (Y.of (law_sum_is _ _ (by omega))) fun r22 hr => .let_ (.goR ⟨rows ++ g21, hr.trans (oddL_l _ _), h1.snoc e4, ?_, ?_⟩)
      · rw [List.length_append, List.length_singleton]; omega
      · rw [List.length_append, List.length_append, List.length_singleton]; omega
    · obtain ⟨rows, _, _, h2, _⟩ := hs
      rw [rangeL_len] at h2
      exact absurd h2 (by omega)
/-- the program's dict of the monomials -/
theorem put_keys : ∀ (xs : List (List Int)) (acc : List (List Int × Bool)), (acc.map (·.1)).Nodup → ∃ s, putO (fun it1 : List Int => some ((it1, true) : List Int × Bool)) acc xs = some s ∧ (s.map (·.1)).Nodup ∧ s.length ≤ acc.length + xs.length ∧ ∀ r, r ∈ s.map (·.1) ↔ r ∈ acc.map (·.1) ∨ r ∈ xs
  | [], acc, h => ⟨acc, rfl, h, by simp, fun r => by simp⟩
  | x :: xs, acc, h => by
    obtain ⟨s, h1, h2, h3, h4⟩ := put_keys xs (putA acc x true) (putA_nd h)
    have h5 := putA_len acc x true
    refine ⟨s, h1, h2, by rw [List.length_cons]; omega, fun r => ?_⟩
    rw [h4, putA_mem, List.mem_cons]
    constructor
    · rintro ((h | h) | h)
      · exact .inl h
      · exact .inr (.inl h)
      · exact .inr (.inr h)
    · rintro (h | h | h)
      · exact .inl (.inl h)
      · exact .inl (.inr h)
      · exact .inr h
def rd (L : Ld) (left : List (List Int × Bool)) : List (List Int) := ((left.map (·.1)).filter (fun it7 : List Int => hasA L it7)).map fun it7 : List Int => it7
theorem rd_mem {L : Ld} {left : List (List Int × Bool)} {rows : List (List Int)} (t : Tog rows left) (x : List Int) : x ∈ rdy L rows ↔ x ∈ rd L left := by
  unfold rd
  rw [mem_rdy, List.map_id', List.mem_filter, t.2.2]
theorem reduction_is (g : Gs sp) (hn : p.Nodup) (hl : p.length ≤ 1000) : Y (m_reduction p (ldf sp)) fun z => ∃ rows, Fin_ (ldf sp) p rows ∧ z.1 = oddL rows := by
  have hL := Nat.le_trans (ldf_len sp) g.2.2
  unfold m_reduction
  obtain ⟨s0, k1, k2, k3, k4⟩ := put_keys p [] (by simp)
  have T0 : Tog p s0 := ⟨k2, by simpa using k3, fun r => by rw [k4 r, oddB_nd hn, decide_eq_true_eq]; simp⟩
  refine .call (Y.of k1) fun y2 hy => ?_
  subst hy
  have := T0.2.1
  refine .let_ (.chkp (by omega) (.while_ (fun st => !st.2.2.isEmpty) (fun st => ∃ rows, Rch (ldf sp) p rows ∧ Tog rows st.2.1 ∧ st.2.2 = rd (ldf sp) st.2.1 ∧ mu (ldf sp) rows + st.1.length ≤ 5 ∧ rows.length ≤ 1000 + 100 * st.1.length) (fun _ => False) (fun st => 5 - st.1.length) ⟨p, .refl _, T0, rfl, by have := mu_le (ldf sp) p; show _ + 0 ≤ 5; omega, by show _ ≤ 1000 + 100 * 0; omega⟩ (by show 5 - 0 < 20; omega) (fun st => rfl) (fun st hs hb => ?_) (fun st hs hb => ?_) fun r hr => hr.elim))
  · obtain ⟨cofs, left, ready⟩ := st
    obtain ⟨rows, h1, h2, h3, h4, h5⟩ := hs
    have h3 : ready = rd (ldf sp) left := h3
    have h4 : mu (ldf sp) rows + cofs.length ≤ 5 := h4
    have h5 : rows.length ≤ 1000 + 100 * cofs.length := h5
    have h2 : Tog rows left := h2
    subst h3
    have hne : rdy (ldf sp) rows ≠ [] := fun e => by
      have hb : (!(rd (ldf sp) left).isEmpty) = true := hb
      have : rd (ldf sp) left = [] := List.eq_nil_iff_forall_not_mem.mpr fun x hx => by
        have := (rd_mem h2 x).mpr hx
        rw [e] at this
        cases this
      rw [this] at hb
      cases hb
    obtain ⟨t, q, e1, e2, e3, e4, e5⟩ := stp_some g hne
    have lq := (g.1 q e3).le
    have tt := rdy_top e1
    have t2 : Top (rd (ldf sp) left) t := ⟨(rd_mem h2 t).mp tt.1, fun y hy => tt.2 y ((rd_mem h2 y).mpr hy)⟩
    refine .call (R := fun x12 => x12 = t) (Y.of ((max_key (rd (ldf sp) left)).trans t2.mx)) fun x12 hx => ?_
    subst hx
    refine .let_ (.chkp (by show cofs.length < _; omega) (.let_ (.call (R := fun g16 => g16 = q) (Y.of e2) fun g16 hg => ?_)))
    subst hg
    refine .allP (fun done st => Tog (rows ++ done) st) (by rw [List.append_nil]; exact h2) (fun done x more st e t => ?_) fun st t => ?_
    · have hd : done.length ≤ 100 := by rw [e, List.length_append] at lq; omega
      have hl2 : (rows ++ done).length ≤ 2000 := by rw [List.length_append]; omega
      have := toggle_ok t (by omega) x
      unfold m__law_toggle at this
      obtain ⟨z, hz, hz2⟩ := this
      rw [List.append_assoc] at hz2
      obtain ⟨w, hw, hw2⟩ := bind_some hz
      cases hw2
      refine .call (Y.of hw) fun w2 hw3 => ?_
      subst hw3
      exact .go hz2
    · have := t.2.1
      rw [List.length_append] at this
      refine .chkp (by omega) ⟨_, rfl, .inl ⟨_, rfl, ⟨rows ++ g16, h1.snoc e4, t, rfl, ?_, ?_⟩, ?_⟩⟩
      · show _ + (cofs ++ [x12]).length ≤ 5
        rw [List.length_append, List.length_singleton]; omega
      · show _ ≤ 1000 + 100 * (cofs ++ [x12]).length
        rw [List.length_append, List.length_append, List.length_singleton]; omega
      · show 5 - (cofs ++ [x12]).length < 5 - cofs.length
        rw [List.length_append, List.length_singleton]; omega
  · obtain ⟨rows, h1, h2, h3, h4, h5⟩ := hs
    refine .ret ⟨rows, ⟨h1, stp_nil ?_⟩, h2.end_⟩
    rw [h3] at hb
    have hb : (rd (ldf sp) st.2.1) = [] := by
      cases e : rd (ldf sp) st.2.1 with
      | nil => rfl
      | cons a b => rw [e] at hb; cases hb
    exact List.eq_nil_iff_forall_not_mem.mpr fun x hx => by
      have := (rd_mem h2 x).mp hx
      rw [hb] at this
      cases this
theorem led_is (g : Gs sp) : m_led sp = some (ldf sp) := by
  have key : ∀ (xs : List (List (List Int))) (acc : Ld), (∀ q ∈ xs, Gq q) → putO (fun it1 : (List (List Int)) => (Option.bind (m_leading it1) fun r2 => some ((r2, it1) : (List Int) × (List (List Int))))) acc xs = some (xs.foldl (fun s q => putA s (ld q) q) acc) := fun xs => by
    induction xs with
    | nil => intro acc _; rfl
    | cons x xs ih =>
      intro acc h
      unfold putO
      rw [leading_is, (h x List.mem_cons_self).mx, Option.bind_some, Option.bind_some]
      exact ih _ fun q hq => h q (List.mem_cons_of_mem _ hq)
  unfold m_led
  rw [key sp [] g.1]
  rfl
theorem reduced_is (g : Gs sp) (hn : p.Nodup) (hl : p.length ≤ 1000) : Y (m_reduced p sp) fun z => ∃ rows, Fin_ (ldf sp) p rows ∧ z = oddL rows := by
  unfold m_reduced
  refine .call (Y.of (led_is g)) fun L hL => ?_
  subst hL
  exact .call (reduction_is g hn hl) fun z hz => .ret hz
end
/-! all the sums -/
structure Sums (sp S : List (List (List Int))) : Prop where
  nil : [] ∈ S
  can : ∀ s ∈ S, oddL s = s
  clo : ∀ q ∈ sp, ∀ s ∈ S, oddL (s ++ q) ∈ S
  top : ∀ s ∈ S, s ≠ [] → ∃ q ∈ sp, Top s (ld q)
theorem Sums.start : Sums [] [[]] := ⟨by simp, fun s hs => by rw [List.mem_singleton.mp hs]; exact oddL_nil, fun q hq => (nomatch hq), fun s hs h => absurd (List.mem_singleton.mp hs) h⟩
theorem Sums.step {sp S : List (List (List Int))} {q : List (List Int)} (h : Sums sp S) (g : Gq q) (hn : ∀ r ∈ sp, ld r ≠ ld q) : Sums (sp ++ [q]) (S ++ S.map fun s => oddL (s ++ q)) := by
  have hq : ∀ r, oddB q r = decide (r ∈ q) := oddB_nd g.nd
  refine ⟨List.mem_append.mpr (.inl h.nil), fun s hs => ?_, fun r hr s hs => ?_, fun s hs ne => ?_⟩
  · rcases List.mem_append.mp hs with hs | hs
    · exact h.can s hs
    · obtain ⟨s0, _, rfl⟩ := List.mem_map.mp hs
      exact oddL_idem _
  · rcases List.mem_append.mp hr with hr | hr
    · rcases List.mem_append.mp hs with hs | hs
      · exact List.mem_append.mpr (.inl (h.clo r hr s hs))
      · obtain ⟨s0, h0, rfl⟩ := List.mem_map.mp hs
        refine List.mem_append.mpr (.inr (List.mem_map.mpr ⟨_, h.clo r hr s0 h0, ?_⟩))
        rw [oddL_l, oddL_l, oddL_swap]
    · rw [List.mem_singleton.mp hr]
      rcases List.mem_append.mp hs with hs | hs
      · exact List.mem_append.mpr (.inr (List.mem_map.mpr ⟨s, hs, rfl⟩))
      · obtain ⟨s0, h0, rfl⟩ := List.mem_map.mp hs
        refine List.mem_append.mpr (.inl ?_)
        rw [oddL_l, oddL_twice, h.can s0 h0]
        exact h0
  · rcases List.mem_append.mp hs with hs | hs
    · obtain ⟨r, hr, t⟩ := h.top s hs ne
      exact ⟨r, List.mem_append.mpr (.inl hr), t⟩
    · obtain ⟨s0, h0, rfl⟩ := List.mem_map.mp hs
      have c0 := h.can s0 h0
      have hs0 : ∀ r, oddB s0 r = decide (r ∈ s0) := fun r => by
        rw [Bool.eq_iff_iff, decide_eq_true_eq, ← oddL_mem, c0]
      have mem : ∀ r, r ∈ oddL (s0 ++ q) ↔ (decide (r ∈ s0) != decide (r ∈ q)) = true := fun r => by
        rw [oddL_mem, oddB_app, hs0, hq]
      have tq := g.top
      by_cases e : s0 = []
      · refine ⟨q, by simp, (mem _).mpr (by subst e; simpa using tq.1), fun y hy => ?_⟩
        have := (mem y).mp hy
        subst e
        exact tq.2 y (by simpa using this)
      · obtain ⟨r, hr, t⟩ := h.top s0 h0 e
        rcases W_tri (hn r hr) with z | z
        · refine ⟨q, by simp, (mem _).mpr ?_, fun y hy => ?_⟩
          · have n : ld q ∉ s0 := fun m => t.2 _ m z
            simpa [n] using tq.1
          · have := (mem y).mp hy
            by_cases m : y ∈ s0
            · exact fun w => t.2 y m (W_trans z w)
            · exact tq.2 y (by simpa [m] using this)
        · refine ⟨r, List.mem_append.mpr (.inl hr), (mem _).mpr ?_, fun y hy => ?_⟩
          · have n : ld r ∉ q := fun m => tq.2 _ m z
            simpa [n] using t.1
          · have := (mem y).mp hy
            by_cases m : y ∈ q
            · exact fun w => tq.2 y m (W_trans z w)
            · exact t.2 y (by simpa [m] using this)
theorem Sums.red {sp S : List (List (List Int))} (h : Sums sp S) {p rows : List (List Int)} (r : Rch (ldf sp) p rows) : oddL p ∈ S ↔ oddL rows ∈ S := by
  induction r with
  | refl => exact Iff.rfl
  | @cons a b c e _ ih =>
    rw [← ih]
    unfold stp at e
    cases e1 : mx (rdy (ldf sp) a) with
    | none => rw [e1] at e; cases e
    | some t =>
      rw [e1, Option.bind_some] at e
      cases e2 : getA (ldf sp) t with
      | none => rw [e2] at e; cases e
      | some q =>
        rw [e2] at e
        cases e
        have hq := (ldf_get sp t q e2).1
        constructor
        · intro hm
          have := h.clo q hq _ hm
          rwa [oddL_l] at this
        · intro hm
          have := h.clo q hq _ hm
          rwa [oddL_l, oddL_twice] at this
theorem Sums.fin {sp S : List (List (List Int))} (h : Sums sp S) {p rows : List (List Int)} (r : Fin_ (ldf sp) p rows) (hp : oddL p = p) : oddL rows = [] ↔ p ∈ S := by
  have h1 := h.red r.1
  rw [hp] at h1
  rw [h1]
  constructor
  · intro e
    rw [e]
    exact h.nil
  · intro hm
    by_cases e : oddL rows = []
    · exact e
    · obtain ⟨q, hq, t⟩ := h.top _ hm e
      have h2 := stp_none r.2
      have h3 : ld q ∈ rdy (ldf sp) rows := mem_rdy.mpr ⟨oddL_mem.mp t.1, (ldf_has sp _).mpr ⟨q, hq, rfl⟩⟩
      rw [h2] at h3
      cases h3
theorem numbers_ok (ns : List Int) (hl : ns.length ≤ 63) (first most : Int) (hf : 0 ≤ first) (hf2 : first ≤ 1000) (hm : 0 ≤ most) (hm2 : most ≤ 1000) : Y (m__law_numbers ns first most) fun r => (r.length : Int) ≤ most := by
  unfold m__law_numbers
  refine .let_ (.chk (rangeOk_t hf (by omega) (by omega) (by omega)) (.rng (fun _ s => (s.length : Int) ≤ most) (by simpa using hm) (fun i s h1 h2 p => ?_) fun s p => .ret p))
  refine .at_ (by omega) h2 fun x _ => .let_ (.bind (.condp (fun h => ?_) fun h => ?_))
  · refine .chk (by decide) (.rng (fun _ s => (s.2.length : Int) ≤ most) p (fun j t _ _ pt => ?_) fun t pt => .ret (.go pt))
    refine .bind (.cond (fun h => ?_) fun h => .ret (.go pt))
    rw [Bool.and_eq_true] at h
    have h3 := of_decide_eq_true h.2
    refine .chkp (by omega) (.let_ (.let_ (.ret (.go ?_))))
    show ((t.2 ++ [t.1 % 4096]).length : Int) ≤ most
    rw [List.length_append]
    simp only [List.length_cons, List.length_nil]
    omega
  · refine .bind (.condp (fun h => ?_) fun h => .ret (.ret (.go p)))
    refine .let_ (.let_ (.chkp (by omega) (.let_ (.ret (.ret (.go ?_))))))
    simp only [List.length_append, List.length_cons, List.length_nil]
    omega

/-! the drawn polynomials -/
theorem fm_congr {α β : Type} {f g : α → Option β} : ∀ {xs : List α}, (∀ x ∈ xs, f x = g x) → xs.filterMap f = xs.filterMap g
  | [], _ => rfl
  | x :: xs, h => by
    rw [List.filterMap_cons, List.filterMap_cons, h x List.mem_cons_self, fm_congr fun y hy => h y (List.mem_cons_of_mem _ hy)]
theorem filterMap_range (c : Nat → Bool) (xs : List (List Int)) : ((List.range xs.length).filterMap fun i => if c i = true then xs[i]? else none).Sublist xs := by
  refine snoc_ind (P := fun xs : List (List Int) => ((List.range xs.length).filterMap fun i => if c i = true then xs[i]? else none).Sublist xs) (List.Sublist.refl _) (fun ys y ih => ?_) xs
  rw [List.length_append, List.length_singleton, List.range_succ, List.filterMap_append]
  refine List.Sublist.append ?_ ?_
  · have e : ((List.range ys.length).filterMap fun i => if c i = true then (ys ++ [y])[i]? else none) = (List.range ys.length).filterMap fun i => if c i = true then ys[i]? else none := by
      refine fm_congr fun i hi => ?_
      rw [List.getElem?_append_left (List.mem_range.mp hi)]
    rw [e]
    exact ih
  · rw [List.filterMap_cons, List.filterMap_nil]
    have e : (ys ++ [y])[ys.length]? = some y := by simp
    rw [e]
    cases c ys.length
    · exact List.nil_sublist _
    · exact List.Sublist.refl _
theorem canon {q xs : List (List Int)} (h : q.Sublist (sortT xs)) (hn : xs.Nodup) : q.Nodup ∧ oddL q = q := by
  have n1 : q.Nodup := h.nodup ((sortT_perm xs).nodup_iff.mpr hn)
  refine ⟨n1, ?_⟩
  have s1 : q = sortT q := sortT_of (List.Perm.refl q) ((sortT_le xs).sublist h)
  rw [← oddL_of n1 fun r => by rw [oddB_nd n1, decide_eq_true_eq]]
  exact s1.symm
theorem monos_ok (n : Int) (h : n = 0 ∨ n = 1 ∨ n = 2 ∨ n = 3) : Y (m__law_monomials n) fun r => r.length ≤ 100 ∧ r.Nodup := by
  have key : (match m__law_monomials n with | some r => decide (r.length ≤ 100 ∧ r.Nodup) | none => false) = true := by
    rcases h with rfl | rfl | rfl | rfl <;> decide +kernel
  cases e : m__law_monomials n with
  | none => rw [e] at key; cases key
  | some r =>
    rw [e] at key
    exact ⟨r, rfl, of_decide_eq_true key⟩
theorem polynomial_ok (number n : Int) (h : n = 0 ∨ n = 1 ∨ n = 2 ∨ n = 3) : Y (m__law_polynomial number n) fun q => q.length ≤ 100 ∧ q.Nodup ∧ oddL q = q := by
  unfold m__law_polynomial
  refine .call (monos_ok n h) fun ms hms => .let_ ?_
  have hl : (sortT ms).length ≤ 100 := by rw [sortT_length]; exact hms.1
  refine .chk (rangeOk_t (by omega) (by omega) (by omega) (by omega)) (.lc (fun k : Int => if decide ((Builtin.bitAnd (number / 2 ^ (k).toNat) (1 : Int)) = (1 : Int)) = true then (sortT ms)[k.toNat]? else none) (fun k hk => ?_) ?_)
  · have hk := rangeL_mem hk
    obtain ⟨x, e1, e2⟩ := atI_ok hk.1 hk.2
    rw [e1]
    by_cases c : (Builtin.bitAnd (number / 2 ^ (k).toNat) (1 : Int)) = (1 : Int)
    · rw [if_pos (decide_eq_true c), decide_eq_true c, decide_eq_true hk.1, e2]
      rfl
    · rw [if_neg (by simp [c]), decide_eq_false c, decide_eq_true hk.1]
      rfl
  · have e : (rangeL 0 ((sortT ms).length : Int)).filterMap (fun k : Int => if decide ((Builtin.bitAnd (number / 2 ^ (k).toNat) (1 : Int)) = (1 : Int)) = true then (sortT ms)[k.toNat]? else none) = (List.range (sortT ms).length).filterMap fun i => if decide ((Builtin.bitAnd (number / 2 ^ i) (1 : Int)) = (1 : Int)) = true then (sortT ms)[i]? else none := by
      unfold rangeL
      rw [List.filterMap_map]
      have el : (((sortT ms).length : Int) - 0).toNat = (sortT ms).length := by omega
      rw [el]
      refine fm_congr fun i _ => ?_
      have ei : ((0 : Int) + (i : Int)).toNat = i := by omega
      simp only [Function.comp_apply, ei]
    rw [e]
    have hs := filterMap_range (fun i => decide ((Builtin.bitAnd (number / 2 ^ i) (1 : Int)) = (1 : Int))) (sortT ms)
    obtain ⟨h1, h2⟩ := canon hs hms.2
    exact .ret ⟨Nat.le_trans hs.length_le hl, h1, h2⟩
theorem shLT (a : List (List Int)) : SeqAt.shaped (PyData.list (List.map (eT eI) a)) = true := by
  obtain ⟨h1, h2⟩ := sha_list (fun a => (shTI a).1) (fun a => (shTI a).2) a
  unfold SeqAt.shaped
  rw [Bool.and_eq_true]
  exact ⟨by simp only [PyData.canLay0]; exact h1, decide_eq_true (by simp only [PyData.depth]; omega)⟩
theorem shLTT (a : List (List (List Int))) : SeqAt.shaped (PyData.list (List.map (eT (eT eI)) a)) = true := by
  have h0 : ∀ b : List (List Int), (eT (eT eI) b).canLay0 = true ∧ (eT (eT eI) b).depth ≤ 2 := fun b => by
    obtain ⟨h1, h2⟩ := sha_list (fun a => (shTI a).1) (fun a => (shTI a).2) b
    exact ⟨by
      show (PyData.tuple (b.map (eT eI))).canLay0 = true
      rw [PyData.canLay0]
      exact h1, by
      show (PyData.tuple (b.map (eT eI))).depth ≤ 2
      rw [PyData.depth]
      omega⟩
  obtain ⟨h1, h2⟩ := sha_list (fun a => (h0 a).1) (fun a => (h0 a).2) a
  unfold SeqAt.shaped
  rw [Bool.and_eq_true]
  exact ⟨by rw [PyData.canLay0]; exact h1, decide_eq_true (by rw [PyData.depth]; omega)⟩
theorem cut_len (xs : List Int) : (cutL xs none (some (5 : Int))).length ≤ 5 := by
  unfold cutL
  rw [List.length_take]
  have h2 : HT.sIx xs.length xs.length (some 5) = min 5 xs.length := HT.sIx_nat xs.length xs.length 5
  rw [h2]
  omega
structure Pk (p : List (List Int)) : Prop where
  le : p.length ≤ 1000
  nd : p.Nodup
  can : oddL p = p
theorem main : ∀ ns : List Int, ns.length ≤ 63 → m_law ns = some true := fun ns hl => by
  refine Y.is ?_
  unfold m_law
  refine .call (cell_ok ns 0 (by omega)) fun c _ => .let_ (.let_ ?_)
  have hd := absI_nn c
  generalize absI c = digit at hd ⊢
  have hn : digit % 4 = 0 ∨ digit % 4 = 1 ∨ digit % 4 = 2 ∨ digit % 4 = 3 := by omega
  generalize digit % 4 = n at hn ⊢
  refine .call (numbers_ok ns hl 1 6 (by omega) (by omega) (by omega) (by omega)) fun numbers hnum => .let_ (.let_ ?_)
  refine .allP (fun done st => (∀ q ∈ st, Gq q) ∧ (st.map ld).Nodup ∧ st.length ≤ done.length) ⟨fun q hq => (nomatch hq), by simp, Nat.le_refl _⟩ (fun done x more st e hs => ?_) fun st0 hs0 => ?_
  · obtain ⟨h1, h2, h3⟩ := hs
    have hdone : done.length ≤ 5 := by
      have := cut_len numbers
      rw [e, List.length_append] at this
      omega
    refine .call (polynomial_ok x n hn) fun q hq => .let_ (.chk (and2 (shTT _) (shTT _)) ?_)
    obtain ⟨q1, q2, q3⟩ := hq
    refine .call (R := fun b => b = true → Gq q ∧ ld q ∉ st.map ld) ?_ fun b hb => .bind (.cond (fun h => ?_) fun h => ?_)
    · refine .cond (fun h => ?_) fun h => .ret fun e => by cases e
      have ne : q ≠ [] := fun e => by rw [e] at h; cases h
      have g : Gq q := ⟨ne, q2, q1⟩
      refine .call (R := fun r16 => r16 = ld q) (Y.of ((law_leading_is q).trans g.mx)) fun r16 hr => ?_
      subst hr
      refine .lc (fun it => some (ld it)) (fun it hit => by rw [law_leading_is, (h1 it hit).mx]; rfl) (.chk (and2 (shTI1 _) (shLT _)) (.ret fun e => ⟨g, ?_⟩))
      rw [List.filterMap_eq_map'] at e
      simpa using e
    · obtain ⟨g, hnot⟩ := hb h
      refine .chkp (by omega) (.let_ (.ret (.go ⟨fun r hr => ?_, ?_, ?_⟩)))
      · rcases List.mem_append.mp hr with hr | hr
        · exact h1 r hr
        · rw [List.mem_singleton.mp hr]; exact g
      · rw [List.map_append]
        refine List.nodup_append.mpr ⟨h2, by simp, fun a ha b hb e => hnot ?_⟩
        rw [List.mem_singleton.mp hb] at e
        exact e ▸ ha
      · rw [List.length_append, List.length_append, List.length_singleton, List.length_singleton]; omega
    · refine .ret (.go ⟨h1, h2, ?_⟩)
      rw [List.length_append]; omega
  · obtain ⟨h1, h2, h3⟩ := hs0
    have h3 : st0.length ≤ 5 := Nat.le_trans h3 (cut_len numbers)
    refine .call (polynomial_ok _ n hn) fun p hp => .let_ ?_
    refine .call (R := Pk) (.condp (fun _ => .let_ (.chk (rangeOk_t (by omega) (by omega) (by omega) (by omega)) (.rng (fun i s => (s.length : Int) ≤ 100 * i ∧ s.Nodup ∧ oddL s = s) ⟨by simp, by simp, oddL_nil⟩ (fun i s i1 i2 ps => ?_) fun s ps => .ret ⟨by have := ps.1; omega, ps.2.1, ps.2.2⟩))) fun _ => .ret ⟨by have := hp.1; omega, hp.2.1, hp.2.2⟩) fun p kp => .let_ ?_
    · refine .chkp i1 (.bind (.condp (fun _ => .at_ i1 i2 fun x hx => ?_) fun _ => .ret (.go ⟨by omega, ps.2⟩)))
      have lx := (h1 x (List.mem_of_getElem? hx)).le
      have := ps.1
      refine .call (Y.of (law_sum_is _ _ (by omega))) fun r hr => .let_ (.ret (.go ?_))
      subst hr
      have := oddL_len (s ++ x)
      rw [List.length_append] at this
      exact ⟨by omega, oddL_nd _, oddL_idem _⟩
    · have pm := sortR_perm st0
      generalize sortR st0 = sp at pm ⊢
      have gs : Gs sp := ⟨fun q hq => h1 q (pm.mem_iff.mp hq), (pm.map ld).nodup_iff.mpr h2, by rw [pm.length_eq]; exact h3⟩
      refine .call (reduced_is gs kp.nd kp.le) fun z hz => .let_ ?_
      obtain ⟨rows, f1, rfl⟩ := hz
      have ei : isI "tuple" ((eT (eT eI)) (oddL rows)) = true := rfl
      rw [ei]
      refine .call (R := fun b => b = false) ?_ fun b hb => .cond (fun h => by rw [hb] at h; cases h) fun _ => .let_ ?_
      · refine .call (law_reduced_is gs kp.can kp.le) fun r33 hr => .chk (and2 (shTT _) (shTT _)) (.ret ?_)
        obtain ⟨rows2, f2, rfl⟩ := hr
        rw [Rch.uniq f1.1 f1.2 f2.1 f2.2, decide_eq_true rfl]
        rfl
      · refine .allP (fun done S => Sums done S ∧ S.length ≤ 2 ^ done.length ∧ ∀ s ∈ S, s.length ≤ 100 * done.length) ⟨Sums.start, by simp, fun s hs => by rw [List.mem_singleton.mp hs]; simp⟩ (fun done q more S e hS => ?_) fun S hS => ?_
        · obtain ⟨s1, s2, s3⟩ := hS
          have hdone : done.length + 1 ≤ 5 := by
            have := gs.2.2
            rw [e, List.length_append, List.length_cons] at this
            omega
          have gq := gs.1 q (by rw [e]; simp)
          have lq := gq.le
          have hnot : ∀ r ∈ done, ld r ≠ ld q := fun r hr e2 => by
            have nd := gs.2.1
            rw [e, List.map_append, List.map_cons] at nd
            exact (List.nodup_append.mp nd).2.2 _ (List.mem_map.mpr ⟨r, hr, rfl⟩) _ List.mem_cons_self e2
          have p2 : 2 ^ done.length ≤ 2 ^ 5 := Nat.pow_le_pow_right (by omega) (by omega)
          refine .lc (fun it => some (oddL (it ++ q))) (fun it hit => by rw [law_sum_is _ _ (by have := s3 it hit; omega)]; rfl) ?_
          rw [List.filterMap_eq_map']
          refine .chkp (by rw [List.length_map]; omega) (.let_ (.go ⟨s1.step gq hnot, ?_, fun s hs => ?_⟩))
          · rw [List.length_append, List.length_map, List.length_append, List.length_singleton, Nat.pow_succ]
            omega
          · rw [List.length_append, List.length_singleton]
            rcases List.mem_append.mp hs with hs | hs
            · have := s3 s hs; omega
            · obtain ⟨s0, h0, rfl⟩ := List.mem_map.mp hs
              have h4 := oddL_len (s0 ++ q)
              have h5 := s3 s0 h0
              rw [List.length_append] at h4
              omega
        · obtain ⟨s1, _, _⟩ := hS
          refine .chk (and2 (shTT _) (shTT _)) (.chk (and2 (shTT _) (shLTT _)) (.ret ?_))
          have key := s1.fin f1 kp.can
          have e : decide (oddL rows = []) = decide (p ∈ S) := decide_eq_decide.mpr key
          rw [e]
          simp

def spLaw (K : PySem.W.Frag) : Sp := fun vs H Q _ => ∃ (a : Addr) (ns : List Int), vs = [.ref a] ∧ SqL K H a (ns.map V.int) ∧ ns.length ≤ 63 ∧ ∀ H', Q (.bl true) H'
theorem all_mk (main : ∀ ns : List Int, ns.length ≤ 63 → m_law ns = some true) {l : PySem.W.OpenLaw} {w : World} {K : PySem.W.Frag} {h : Heap} {mg : Str → Option Value} {fa : Addr} (X : K.In h) (G : h.Ns mainGlobals mg) (hfa : mg "law" = some (.ref fa))
    {f0 : Addr} {od0 an0 : Option Addr} {sl0 : Array (Option Value)} {oc0 kV0 dc0 pm0 cd0 ct0 : Value} {f1 : Addr} {od1 an1 : Option Addr} {sl1 : Array (Option Value)} {oc1 kV1 dc1 pm1 cd1 ct1 : Value} {f2 : Addr} {od2 an2 : Option Addr} {sl2 : Array (Option Value)} {oc2 kV2 dc2 pm2 cd2 ct2 : Value} {f3 : Addr} {od3 an3 : Option Addr} {sl3 : Array (Option Value)} {oc3 kV3 dc3 pm3 cd3 ct3 : Value} {f4 : Addr} {od4 an4 : Option Addr} {sl4 : Array (Option Value)} {oc4 kV4 dc4 pm4 cd4 ct4 : Value} {f5 : Addr} {od5 an5 : Option Addr} {sl5 : Array (Option Value)} {oc5 kV5 dc5 pm5 cd5 ct5 : Value} {f6 : Addr} {od6 an6 : Option Addr} {sl6 : Array (Option Value)} {oc6 kV6 dc6 pm6 cd6 ct6 : Value} {f7 : Addr} {od7 an7 : Option Addr} {sl7 : Array (Option Value)} {oc7 kV7 dc7 pm7 cd7 ct7 : Value} {f8 : Addr} {od8 an8 : Option Addr} {sl8 : Array (Option Value)} {oc8 kV8 dc8 pm8 cd8 ct8 : Value} {f9 : Addr} {od9 an9 : Option Addr} {sl9 : Array (Option Value)} {oc9 kV9 dc9 pm9 cd9 ct9 : Value} {f10 : Addr} {od10 an10 : Option Addr} {sl10 : Array (Option Value)} {oc10 kV10 dc10 pm10 cd10 ct10 : Value} {f11 : Addr} {od11 an11 : Option Addr} {sl11 : Array (Option Value)} {oc11 kV11 dc11 pm11 cd11 ct11 : Value} {f12 : Addr} {od12 an12 : Option Addr} {sl12 : Array (Option Value)} {oc12 kV12 dc12 pm12 cd12 ct12 : Value} {f13 : Addr} {od13 an13 : Option Addr} {sl13 : Array (Option Value)} {oc13 kV13 dc13 pm13 cd13 ct13 : Value}
    (a0 : PySem.W.nsIn K mainGlobals "_law_numbers" = some (some (.ref f0))) (l0 : K.lookup f0 = some ⟨oc0, od0, .func (PySem.W.fnOf "_law_numbers" "_law_numbers" (defArgs s__law_numbers) (defBody s__law_numbers) (defScope s__law_numbers) .none kV0 dc0 pm0 an0 cd0 ct0), sl0⟩) (c0 : PySem.W.codeIn K cd0 "_law_numbers" = true) (k0 : PySem.W.keepIn K (.ref f0) = true)
    (a1 : PySem.W.nsIn K mainGlobals "_law_monomials" = some (some (.ref f1))) (l1 : K.lookup f1 = some ⟨oc1, od1, .func (PySem.W.fnOf "_law_monomials" "_law_monomials" (defArgs s__law_monomials) (defBody s__law_monomials) (defScope s__law_monomials) .none kV1 dc1 pm1 an1 cd1 ct1), sl1⟩) (c1 : PySem.W.codeIn K cd1 "_law_monomials" = true) (k1 : PySem.W.keepIn K (.ref f1) = true)
    (a2 : PySem.W.nsIn K mainGlobals "_law_polynomial" = some (some (.ref f2))) (l2 : K.lookup f2 = some ⟨oc2, od2, .func (PySem.W.fnOf "_law_polynomial" "_law_polynomial" (defArgs s__law_polynomial) (defBody s__law_polynomial) (defScope s__law_polynomial) .none kV2 dc2 pm2 an2 cd2 ct2), sl2⟩) (c2 : PySem.W.codeIn K cd2 "_law_polynomial" = true) (k2 : PySem.W.keepIn K (.ref f2) = true)
    (a3 : PySem.W.nsIn K mainGlobals "weight" = some (some (.ref f3))) (l3 : K.lookup f3 = some ⟨oc3, od3, .func (PySem.W.fnOf "weight" "weight" (defArgs s_weight) (defBody s_weight) (defScope s_weight) .none kV3 dc3 pm3 an3 cd3 ct3), sl3⟩) (c3 : PySem.W.codeIn K cd3 "weight" = true) (k3 : PySem.W.keepIn K (.ref f3) = true)
    (a4 : PySem.W.nsIn K mainGlobals "reduction" = some (some (.ref f4))) (l4 : K.lookup f4 = some ⟨oc4, od4, .func (PySem.W.fnOf "reduction" "reduction" (defArgs s_reduction) (defBody s_reduction) (defScope s_reduction) .none kV4 dc4 pm4 an4 cd4 ct4), sl4⟩) (c4 : PySem.W.codeIn K cd4 "reduction" = true) (k4 : PySem.W.keepIn K (.ref f4) = true)
    (a5 : PySem.W.nsIn K mainGlobals "leading" = some (some (.ref f5))) (l5 : K.lookup f5 = some ⟨oc5, od5, .func (PySem.W.fnOf "leading" "leading" (defArgs s_leading) (defBody s_leading) (defScope s_leading) .none kV5 dc5 pm5 an5 cd5 ct5), sl5⟩) (c5 : PySem.W.codeIn K cd5 "leading" = true) (k5 : PySem.W.keepIn K (.ref f5) = true)
    (a6 : PySem.W.nsIn K mainGlobals "led" = some (some (.ref f6))) (l6 : K.lookup f6 = some ⟨oc6, od6, .func (PySem.W.fnOf "led" "led" (defArgs s_led) (defBody s_led) (defScope s_led) .none kV6 dc6 pm6 an6 cd6 ct6), sl6⟩) (c6 : PySem.W.codeIn K cd6 "led" = true) (k6 : PySem.W.keepIn K (.ref f6) = true)
    (a7 : PySem.W.nsIn K mainGlobals "reduced" = some (some (.ref f7))) (l7 : K.lookup f7 = some ⟨oc7, od7, .func (PySem.W.fnOf "reduced" "reduced" (defArgs s_reduced) (defBody s_reduced) (defScope s_reduced) .none kV7 dc7 pm7 an7 cd7 ct7), sl7⟩) (c7 : PySem.W.codeIn K cd7 "reduced" = true) (k7 : PySem.W.keepIn K (.ref f7) = true)
    (a8 : PySem.W.nsIn K mainGlobals "_law_cell" = some (some (.ref f8))) (l8 : K.lookup f8 = some ⟨oc8, od8, .func (PySem.W.fnOf "_law_cell" "_law_cell" (defArgs s__law_cell) (defBody s__law_cell) (defScope s__law_cell) .none kV8 dc8 pm8 an8 cd8 ct8), sl8⟩) (c8 : PySem.W.codeIn K cd8 "_law_cell" = true) (k8 : PySem.W.keepIn K (.ref f8) = true)
    (a9 : PySem.W.nsIn K mainGlobals "_law_toggle" = some (some (.ref f9))) (l9 : K.lookup f9 = some ⟨oc9, od9, .func (PySem.W.fnOf "_law_toggle" "_law_toggle" (defArgs s__law_toggle) (defBody s__law_toggle) (defScope s__law_toggle) .none kV9 dc9 pm9 an9 cd9 ct9), sl9⟩) (c9 : PySem.W.codeIn K cd9 "_law_toggle" = true) (k9 : PySem.W.keepIn K (.ref f9) = true)
    (a10 : PySem.W.nsIn K mainGlobals "_law_sum" = some (some (.ref f10))) (l10 : K.lookup f10 = some ⟨oc10, od10, .func (PySem.W.fnOf "_law_sum" "_law_sum" (defArgs s__law_sum) (defBody s__law_sum) (defScope s__law_sum) .none kV10 dc10 pm10 an10 cd10 ct10), sl10⟩) (c10 : PySem.W.codeIn K cd10 "_law_sum" = true) (k10 : PySem.W.keepIn K (.ref f10) = true)
    (a11 : PySem.W.nsIn K mainGlobals "_law_leading" = some (some (.ref f11))) (l11 : K.lookup f11 = some ⟨oc11, od11, .func (PySem.W.fnOf "_law_leading" "_law_leading" (defArgs s__law_leading) (defBody s__law_leading) (defScope s__law_leading) .none kV11 dc11 pm11 an11 cd11 ct11), sl11⟩) (c11 : PySem.W.codeIn K cd11 "_law_leading" = true) (k11 : PySem.W.keepIn K (.ref f11) = true)
    (a12 : PySem.W.nsIn K mainGlobals "_law_reduced" = some (some (.ref f12))) (l12 : K.lookup f12 = some ⟨oc12, od12, .func (PySem.W.fnOf "_law_reduced" "_law_reduced" (defArgs s__law_reduced) (defBody s__law_reduced) (defScope s__law_reduced) .none kV12 dc12 pm12 an12 cd12 ct12), sl12⟩) (c12 : PySem.W.codeIn K cd12 "_law_reduced" = true) (k12 : PySem.W.keepIn K (.ref f12) = true)
    (a13 : PySem.W.nsIn K mainGlobals "law" = some (some (.ref f13))) (l13 : K.lookup f13 = some ⟨oc13, od13, .func (PySem.W.fnOf "law" "law" (defArgs s_law) (defBody s_law) (defScope s_law) .none kV13 dc13 pm13 an13 cd13 ct13), sl13⟩) (c13 : PySem.W.codeIn K cd13 "law" = true) (k13 : PySem.W.keepIn K (.ref f13) = true)
    (z0 : PySem.W.nsIn K mainGlobals "len" = some none) (z1 : PySem.W.nsIn K mainGlobals "range" = some none) (z2 : PySem.W.nsIn K mainGlobals "abs" = some none) (z3 : PySem.W.nsIn K mainGlobals "int" = some none) (z4 : PySem.W.nsIn K mainGlobals "sorted" = some none) (z5 : PySem.W.nsIn K mainGlobals "tuple" = some none) (z6 : PySem.W.nsIn K mainGlobals "max" = some none) (z7 : PySem.W.nsIn K mainGlobals "isinstance" = some none) :
    ∃ fd : FuncData, (∀ (s : Shared) (v : Value), BindsTo s fd ⟨[v], []⟩ [("script", v)]) ∧ ∀ base : Heap, K.In base → base.Ns mainGlobals mg → FnOk l.prog w K mg base (L2.CX l.prog w) 6 fa fd ["script"] (spLaw K) := by
  have e := hfa.symm.trans (PySem.W.mg_of X G a13)
  cases e
  have F0 := fun_mk (st := s__law_numbers) l0 c0 k0
  have b0 := F0.binds (ps := ["script", "first", "most"]) fun _ _ _ _ _ _ us hl => match us, hl with | [_, _, _], _ => rfl
  have F1 := fun_mk (st := s__law_monomials) l1 c1 k1
  have b1 := F1.binds (ps := ["n"]) fun _ _ _ _ _ _ us hl => match us, hl with | [_], _ => rfl
  have F2 := fun_mk (st := s__law_polynomial) l2 c2 k2
  have b2 := F2.binds (ps := ["number", "n"]) fun _ _ _ _ _ _ us hl => match us, hl with | [_, _], _ => rfl
  have F3 := fun_mk (st := s_weight) l3 c3 k3
  have b3 := F3.binds (ps := ["monomial"]) fun _ _ _ _ _ _ us hl => match us, hl with | [_], _ => rfl
  have F4 := fun_mk (st := s_reduction) l4 c4 k4
  have b4 := F4.binds (ps := ["p", "leaders"]) fun _ _ _ _ _ _ us hl => match us, hl with | [_, _], _ => rfl
  have F5 := fun_mk (st := s_leading) l5 c5 k5
  have b5 := F5.binds (ps := ["p"]) fun _ _ _ _ _ _ us hl => match us, hl with | [_], _ => rfl
  have F6 := fun_mk (st := s_led) l6 c6 k6
  have b6 := F6.binds (ps := ["space"]) fun _ _ _ _ _ _ us hl => match us, hl with | [_], _ => rfl
  have F7 := fun_mk (st := s_reduced) l7 c7 k7
  have b7 := F7.binds (ps := ["p", "space"]) fun _ _ _ _ _ _ us hl => match us, hl with | [_, _], _ => rfl
  have F8 := fun_mk (st := s__law_cell) l8 c8 k8
  have b8 := F8.binds (ps := ["script", "k"]) fun _ _ _ _ _ _ us hl => match us, hl with | [_, _], _ => rfl
  have F9 := fun_mk (st := s__law_toggle) l9 c9 k9
  have b9 := F9.binds (ps := ["found", "monomial"]) fun _ _ _ _ _ _ us hl => match us, hl with | [_, _], _ => rfl
  have F10 := fun_mk (st := s__law_sum) l10 c10 k10
  have b10 := F10.binds (ps := ["p", "q"]) fun _ _ _ _ _ _ us hl => match us, hl with | [_, _], _ => rfl
  have F11 := fun_mk (st := s__law_leading) l11 c11 k11
  have b11 := F11.binds (ps := ["p"]) fun _ _ _ _ _ _ us hl => match us, hl with | [_], _ => rfl
  have F12 := fun_mk (st := s__law_reduced) l12 c12 k12
  have b12 := F12.binds (ps := ["p", "space"]) fun _ _ _ _ _ _ us hl => match us, hl with | [_, _], _ => rfl
  have F13 := fun_mk (st := s_law) l13 c13 k13
  have b13 := F13.binds (ps := ["script"]) fun _ _ _ _ _ _ us hl => match us, hl with | [_], _ => rfl
  let T : Tx K mg := {
    a__law_numbers := f0, d__law_numbers := _, F__law_numbers := F0, g__law_numbers := PySem.W.mg_of X G a0, b__law_numbers := b0,
    a__law_monomials := f1, d__law_monomials := _, F__law_monomials := F1, g__law_monomials := PySem.W.mg_of X G a1, b__law_monomials := b1,
    a__law_polynomial := f2, d__law_polynomial := _, F__law_polynomial := F2, g__law_polynomial := PySem.W.mg_of X G a2, b__law_polynomial := b2,
    a_weight := f3, d_weight := _, F_weight := F3, g_weight := PySem.W.mg_of X G a3, b_weight := b3,
    a_reduction := f4, d_reduction := _, F_reduction := F4, g_reduction := PySem.W.mg_of X G a4, b_reduction := b4,
    a_leading := f5, d_leading := _, F_leading := F5, g_leading := PySem.W.mg_of X G a5, b_leading := b5,
    a_led := f6, d_led := _, F_led := F6, g_led := PySem.W.mg_of X G a6, b_led := b6,
    a_reduced := f7, d_reduced := _, F_reduced := F7, g_reduced := PySem.W.mg_of X G a7, b_reduced := b7,
    a__law_cell := f8, d__law_cell := _, F__law_cell := F8, g__law_cell := PySem.W.mg_of X G a8, b__law_cell := b8,
    a__law_toggle := f9, d__law_toggle := _, F__law_toggle := F9, g__law_toggle := PySem.W.mg_of X G a9, b__law_toggle := b9,
    a__law_sum := f10, d__law_sum := _, F__law_sum := F10, g__law_sum := PySem.W.mg_of X G a10, b__law_sum := b10,
    a__law_leading := f11, d__law_leading := _, F__law_leading := F11, g__law_leading := PySem.W.mg_of X G a11, b__law_leading := b11,
    a__law_reduced := f12, d__law_reduced := _, F__law_reduced := F12, g__law_reduced := PySem.W.mg_of X G a12, b__law_reduced := b12,
    a_law := fa, d_law := _, F_law := F13, g_law := PySem.W.mg_of X G a13, b_law := b13,
    m_len := PySem.W.mg_none_of X G z0,
    m_range := PySem.W.mg_none_of X G z1,
    m_abs := PySem.W.mg_none_of X G z2,
    m_int := PySem.W.mg_none_of X G z3,
    m_sorted := PySem.W.mg_none_of X G z4,
    m_tuple := PySem.W.mg_none_of X G z5,
    m_max := PySem.W.mg_none_of X G z6,
    m_isinstance := PySem.W.mg_none_of X G z7 }
  refine ⟨_, fun s v => .of_eq rfl, fun base _ _ => FnOk.imp (ok_law (P := l.prog) (w := w) (base := base) T) fun vs H Q E p => ?_⟩
  obtain ⟨a, ns, rfl, hS, hl, q⟩ := p
  refine ⟨[.l (ns.map .int)], .d (eB true), rfl, ⟨ns, true, rfl, main ns hl, rfl⟩, .cons ⟨a, _, rfl, hS, DrA.of_ints⟩ .nil, (fun _ h => nomatch h), fun v H' _ dr => ?_⟩
  rw [Dr.of_bool (K := K) dr]
  exact q H'


end A_rebut_k43_reduced_polynomials
open PySem PySem.W PyProof.Rows
set_option maxHeartbeats 0 in
theorem PySem.Challenge.cw_rebut_k43_reduced_polynomials_holds : PySem.Challenge.rw_rebut_k43_reduced_polynomials.Holds := by
  w_on; o_law; k_head; (case hw => w_witness2)
  k_fill
  refine L2.walk_of (l := PySem.Challenge.rw_rebut_k43_reduced_polynomials) (n := 63) (k := 6) (x := "script") (CX := fun w => L2.CX (PySem.Challenge.rw_rebut_k43_reduced_polynomials).prog w) (sp := fun w => A_rebut_k43_reduced_polynomials.spLaw _) rfl (by decide) rfl ⟨rfl, by decide, by decide⟩ (fun w h Y => PySem.W.kIn_of Y) ?F (fun _ _ a ns hl _ hS => ⟨a, ns, rfl, hS, hl, fun _ => rfl⟩) (fun _ _ _ _ _ h => by obtain ⟨_, _, _, _, _, _, _, _, _, _, _, _, z⟩ := h; exact z.elim)
  case F =>
    intro w mg fa h KX G hmg
    refine' A_rebut_k43_reduced_polynomials.all_mk A_rebut_k43_reduced_polynomials.main KX G hmg ?a0 ?l0 ?c0 ?k0 ?a1 ?l1 ?c1 ?k1 ?a2 ?l2 ?c2 ?k2 ?a3 ?l3 ?c3 ?k3 ?a4 ?l4 ?c4 ?k4 ?a5 ?l5 ?c5 ?k5 ?a6 ?l6 ?c6 ?k6 ?a7 ?l7 ?c7 ?k7 ?a8 ?l8 ?c8 ?k8 ?a9 ?l9 ?c9 ?k9 ?a10 ?l10 ?c10 ?k10 ?a11 ?l11 ?c11 ?k11 ?a12 ?l12 ?c12 ?k12 ?a13 ?l13 ?c13 ?k13 ?z0 ?z1 ?z2 ?z3 ?z4 ?z5 ?z6 ?z7
    (case a0 => k_is); (case l0 => k_is); (case c0 => k_is); (case k0 => k_is); (case a1 => k_is); (case l1 => k_is); (case c1 => k_is); (case k1 => k_is); (case a2 => k_is); (case l2 => k_is); (case c2 => k_is); (case k2 => k_is); (case a3 => k_is); (case l3 => k_is); (case c3 => k_is); (case k3 => k_is); (case a4 => k_is); (case l4 => k_is); (case c4 => k_is); (case k4 => k_is); (case a5 => k_is); (case l5 => k_is); (case c5 => k_is); (case k5 => k_is); (case a6 => k_is); (case l6 => k_is); (case c6 => k_is); (case k6 => k_is); (case a7 => k_is); (case l7 => k_is); (case c7 => k_is); (case k7 => k_is); (case a8 => k_is); (case l8 => k_is); (case c8 => k_is); (case k8 => k_is); (case a9 => k_is); (case l9 => k_is); (case c9 => k_is); (case k9 => k_is); (case a10 => k_is); (case l10 => k_is); (case c10 => k_is); (case k10 => k_is); (case a11 => k_is); (case l11 => k_is); (case c11 => k_is); (case k11 => k_is); (case a12 => k_is); (case l12 => k_is); (case c12 => k_is); (case k12 => k_is); (case a13 => k_is); (case l13 => k_is); (case c13 => k_is); (case k13 => k_is); (case z0 => k_is); (case z1 => k_is); (case z2 => k_is); (case z3 => k_is); (case z4 => k_is); (case z5 => k_is); (case z6 => k_is); (case z7 => k_is)

