import PyProof.Rows.All
import Wide.All
import OpenK.AllK
import Wide.FinOn
import HandS.ForMost
import HandS.EndTab
import HandS.Wide
import HandS.IsInst
import HandS.Deep
import HandS.TupAny
import HandS.TupMul
import HandS.RevRange
import HandS.CallLocal
import HandS.Flow
import KE.KDictKeyed
import HandS.TupLen
import KE.KDictCopyH
import HandS.Walk
import HandS.Zip
import PyProof.ListStr
import HandS.Lambda
import HandS.Nested
import HandS.Iter
import PySem.Challenge.RW_treetellers_k07_which_parts_fit
set_option Elab.async false
set_option linter.all false
set_option maxRecDepth 100000
set_option maxHeartbeats 4000000
namespace TT
open PySem PySem.Spec PyProof.Rows L2

/-! ### frames: all that stood outside S stands as before; tuples always -/
structure Fr (S : List Addr) (H H' : Hp) : Prop where
  keep : ∀ a o, a ∉ S → H a = some o → H' a = some o
  tup : ∀ a xs, H a = some (.tup xs) → H' a = some (.tup xs)
  frz : ∀ a o u, H a = some (.frz o u) → H' a = some (.frz o u)
theorem Fr.refl (S : List Addr) (H : Hp) : Fr S H H := ⟨fun _ _ _ h => h, fun _ _ h => h, fun _ _ _ h => h⟩
theorem Fr.trans {S : List Addr} {H H1 H2 : Hp} (a : Fr S H H1) (b : Fr S H1 H2) : Fr S H H2 :=
  ⟨fun c o n h => b.keep c o n (a.keep c o n h), fun c xs h => b.tup c xs (a.tup c xs h), fun c o u h => b.frz c o u (a.frz c o u h)⟩
theorem Fr.mono {S S' : List Addr} {H H' : Hp} (a : Fr S H H') (h : ∀ x ∈ S, x ∈ S') : Fr S' H H' :=
  ⟨fun c o n e => a.keep c o (fun z => n (h c z)) e, a.tup, a.frz⟩
theorem Fr.mono0 {S' : List Addr} {H H' : Hp} (a : Fr [] H H') : Fr S' H H' := a.mono fun _ z => nomatch z
theorem Fr.new {S : List Addr} {H : Hp} {p : Addr} {o : HO} (h : H p = none) : Fr S H (upd H p o) :=
  ⟨fun a u _ e => by rw [upd_ne (ne_of_none e h)]; exact e, fun a u e => by rw [upd_ne (ne_of_none e h)]; exact e, fun a u v e => by rw [upd_ne (ne_of_none e h)]; exact e⟩
theorem Fr.lst {S : List Addr} {H : Hp} {p : Addr} {xs : List V} {o : HO} (h : H p = some (.lst xs)) (hs : p ∈ S) : Fr S H (upd H p o) :=
  ⟨fun a u n e => by rw [upd_ne (fun z => n (by rw [z]; exact hs))]; exact e, fun a u e => by rw [upd_ne (ne_of e h (fun z => nomatch z))]; exact e,
   fun a u v e => by rw [upd_ne (ne_of e h (fun z => nomatch z))]; exact e⟩
/-- an object that the frame's start doesn't know may change -/
theorem Fr.mut {S : List Addr} {H H' : Hp} {p : Addr} {o : HO} (e : Fr S H H') (h : H p = none) : Fr S H (upd H' p o) :=
  ⟨fun a u n ha => by rw [upd_ne (ne_of_none ha h)]; exact e.keep a u n ha, fun a u ha => by rw [upd_ne (ne_of_none ha h)]; exact e.tup a u ha,
   fun a u v ha => by rw [upd_ne (ne_of_none ha h)]; exact e.frz a u v ha⟩
theorem Fr.free {H H' : Hp} {p : Addr} (e : Fr [] H H') (h : H' p = none) : H p = none := by
  cases h1 : H p with
  | none => rfl
  | some o => rw [e.keep p o (fun z => nomatch z) h1] at h; cases h
theorem Fr.freeS {S : List Addr} {H H' : Hp} {p : Addr} (e : Fr S H H') (hp : p ∉ S) (h : H' p = none) : H p = none := by
  cases h1 : H p with
  | none => rfl
  | some o => rw [e.keep p o hp h1] at h; cases h
theorem Fr.of_same {H H' : Hp} (e : Same H H') : Fr [] H H' := ⟨fun a o _ h => e a o h, fun a xs h => e a _ h, fun a o u h => e a _ h⟩
theorem Fr.sqT {S : List Addr} {K : PySem.W.Frag} {H H' : Hp} {a : Addr} {xs : List V} (e : Fr S H H') (h : SqT K H a xs) : SqT K H' a xs := by
  rcases h with (h | ⟨o, h⟩) | h
  · exact .inl (.inl (e.tup _ _ h))
  · exact .inl (.inr ⟨o, e.frz _ _ _ h⟩)
  · exact .inr h
theorem Fr.sqL {S : List Addr} {K : PySem.W.Frag} {H H' : Hp} {a : Addr} {xs : List V} (e : Fr S H H') (ha : a ∉ S) (h : SqL K H a xs) : SqL K H' a xs := by
  rcases h with (h | ⟨o, h⟩) | h
  · exact .inl (.inl (e.keep _ _ ha h))
  · exact .inl (.inr ⟨o, e.frz _ _ _ h⟩)
  · exact .inr h
theorem Fr.sqL0 {K : PySem.W.Frag} {H H' : Hp} {a : Addr} {xs : List V} (e : Fr [] H H') (h : SqL K H a xs) : SqL K H' a xs := e.sqL (fun z => nomatch z) h

/-! ### data of tuples alone -/
mutual
def tupy : PyData → Bool
  | .none => true
  | .bool _ => true
  | .int _ => true
  | .str _ => true
  | .list _ => false
  | .tuple ds => tupyAll ds
  | .dict _ => false
def tupyAll : List PyData → Bool
  | [] => true
  | d :: ds => tupy d && tupyAll ds
end
mutual
theorem Fr.dp {S : List Addr} {K : PySem.W.Frag} {H H' : Hp} (e : Fr S H H') : ∀ (d : PyData) (v : V), tupy d = true → Dp K H v d → Dp K H' v d
  | .none, _, _, h => by cases h; exact .non
  | .bool b, _, _, h => by cases h; exact .bl _
  | .int i, _, _, h => by cases h; exact .int _
  | .str x, _, _, h => by cases h; exact .str _
  | .list ds, _, t, h => by simp [tupy] at t
  | .tuple ds, _, t, h => by
    cases h with
    | tup hs ha => exact .tup (e.sqT hs) (Fr.dpAll e ds _ (by simpa [tupy] using t) ha)
  | .dict _, _, t, h => by cases h
theorem Fr.dpAll {S : List Addr} {K : PySem.W.Frag} {H H' : Hp} (e : Fr S H H') : ∀ (ds : List PyData) (vs : List V), tupyAll ds = true → DpAll K H vs ds → DpAll K H' vs ds
  | [], _, _, h => by cases h; exact .nil
  | d :: ds, _, t, h => by
    rw [tupyAll, Bool.and_eq_true] at t
    cases h with
    | cons h1 h2 => exact .cons (Fr.dp e d _ t.1 h1) (Fr.dpAll e ds _ t.2 h2)
end
theorem DpAll.length {K : PySem.W.Frag} {H : Hp} : ∀ {vs : List V} {ds : List PyData}, DpAll K H vs ds → vs.length = ds.length
  | _, _, .nil => rfl
  | _, _, .cons _ t => by rw [List.length_cons, List.length_cons, DpAll.length t]
theorem DpAll.get {K : PySem.W.Frag} {H : Hp} : ∀ {vs : List V} {ds : List PyData} {i : Nat} {v : V}, DpAll K H vs ds → vs[i]? = some v → ∃ d, ds[i]? = some d ∧ Dp K H v d
  | _, _, _, _, .nil, h => by simp at h
  | _, _, 0, _, .cons a _, h => by simp at h; subst h; exact ⟨_, rfl, a⟩
  | _, _, i + 1, v, .cons _ t, h => by
    obtain ⟨d, h1, h2⟩ := DpAll.get (i := i) (v := v) t (by simpa using h)
    exact ⟨d, by simpa using h1, h2⟩
theorem DpAll.get' {K : PySem.W.Frag} {H : Hp} : ∀ {vs : List V} {ds : List PyData} {i : Nat} {d : PyData}, DpAll K H vs ds → ds[i]? = some d → ∃ v, vs[i]? = some v ∧ Dp K H v d
  | _, _, _, _, .nil, h => by simp at h
  | _, _, 0, _, .cons a _, h => by simp at h; subst h; exact ⟨_, rfl, a⟩
  | _, _, i + 1, v, .cons _ t, h => by
    obtain ⟨d, h1, h2⟩ := DpAll.get' (i := i) (d := v) t (by simpa using h)
    exact ⟨d, by simpa using h1, h2⟩
theorem DpAll.append {K : PySem.W.Frag} {H : Hp} : ∀ {vs ws : List V} {ds es : List PyData}, DpAll K H vs ds → DpAll K H ws es → DpAll K H (vs ++ ws) (ds ++ es)
  | _, _, _, _, .nil, h => h
  | _, _, _, _, .cons a t, h => .cons a (DpAll.append t h)
theorem DpAll.snoc {K : PySem.W.Frag} {H : Hp} {vs : List V} {ds : List PyData} {v : V} {d : PyData} (h : DpAll K H vs ds) (a : Dp K H v d) : DpAll K H (vs ++ [v]) (ds ++ [d]) := DpAll.append h (.cons a .nil)
theorem DpAll.take {K : PySem.W.Frag} {H : Hp} : ∀ {vs : List V} {ds : List PyData} (n : Nat), DpAll K H vs ds → DpAll K H (vs.take n) (ds.take n)
  | _, _, 0, _ => .nil
  | _, _, _ + 1, .nil => .nil
  | _, _, n + 1, .cons a t => .cons a (DpAll.take n t)
theorem DpAll.drop {K : PySem.W.Frag} {H : Hp} : ∀ {vs : List V} {ds : List PyData} (n : Nat), DpAll K H vs ds → DpAll K H (vs.drop n) (ds.drop n)
  | _, _, 0, h => h
  | _, _, _ + 1, .nil => .nil
  | _, _, n + 1, .cons _ t => DpAll.drop n t

/-! ### defs that are called -/
structure Callee (P : Program) (w : World) (K : PySem.W.Frag) (mg : Str → Option Value) (base : Heap) (k : Nat) (x : Str) (ps : List Str) (sp : Sp) where
  f : Addr
  fd : FuncData
  ok : FnOk P w K mg base CX0 k f fd ps sp
  mgx : mg x = some (.ref f)
  kp : PySem.W.keepIn K (.ref f) = true
  b : Binds K fd ps []
section
variable {X : Cx} {k j : Nat} {x : Str} {ps : List Str} {sp : Sp} {e : Expr} {es : List Expr} {t : TA} {p pos : Pos}
theorem pe_own (c : Callee X.prog X.w X.K X.mg X.base k x ps sp) (hr : Room j X.A) (ha : PA X (e :: es) t) (hk : k ≤ j := by first | decide | omega) (hg : Gl X x := by rfl)
    (hdb : (x == ("__debug__" : Str)) = false := by decide) (he : starEach (e :: es) X.env = (false, eval e X.env) :: starEach es X.env := by rfl) (hpl : (backTo pos (starEach es X.env)).any (·.1) = false := by rfl) :
    PE X (.Call (.Name x p) (e :: es) [] pos) (tCall sp [] E0 t) := pe_call c.ok (hr.mono hk) hg c.mgx c.kp c.b .nil pass0 ha hdb he hpl
theorem pe_globI {x : Str} {i : Int} {pos : Pos} (hm : ∃ t, X.mg x = some (.int i t)) (hg : Gl X x := by rfl) (hd : (x == ("__debug__" : Str)) = false := by decide) : PE X (.Name x pos) (tC (.int i)) := by
  obtain ⟨t, h⟩ := hm
  exact pe_glob hg h ⟨_, rfl⟩ hd
theorem pe_globR {x : Str} {a : Addr} {pos : Pos} (hm : X.mg x = some (.ref a)) (hg : Gl X x := by rfl) (hd : (x == ("__debug__" : Str)) = false := by decide) : PE X (.Name x pos) (tC (.ref a)) := pe_glob hg hm rfl hd
end
end TT

namespace TT
open PySem PySem.Spec PyProof.Rows L2

abbrev NK := NestedKey
/-- entries of a dict with nested keys: key, where its tuple stands, value -/
abbrev NEnt := NestedKey × Addr × V
def NRel (p : NEnt) (q : NestedKey × Addr × Value) : Prop := p.1 = q.1 ∧ p.2.1 = q.2.1 ∧ RelV p.2.2 q.2.2
def NPhi (P : Program) (w : World) (d : Addr) (xs : List NEnt) (h : Heap) : Prop := (d == sysModules) = false ∧ xs.length ≤ sizeLine ∧ ∃ vs : List (NestedKey × Addr × Value), Paired NRel xs vs ∧
  ∃ o es ep, h.get? d = some o ∧ o.ExactDict ∧ o.data = .dict es ep ∧ es.toList = vs.map (entryOfKey (nestedKind P w)) ∧ (vs.map (·.1)).Nodup
def NdO (P : Program) (w : World) (d : Addr) (xs : List NEnt) : HO := .ext (NPhi P w d xs)
theorem nphi_stable {P : Program} {w : World} {d : Addr} {xs : List NEnt} : ∀ h1 h2 : Heap, NPhi P w d xs h1 → (∀ o, h1.get? d = some o → h2.get? d = some o) → NPhi P w d xs h2 := by
  intro h1 h2 ⟨a, b, vs, c, o, es, ep, e, r⟩ k
  exact ⟨a, b, vs, c, o, es, ep, k _ e, r⟩
theorem nphi_ok {P : Program} {w : World} {H : Hp} {h : Heap} {d : Addr} {xs : List NEnt} (x : NPhi P w d xs h) : ObjOk P w H h d (NdO P w d xs) := by
  obtain ⟨a, b, vs, c, o, es, ep, e, r⟩ := x
  exact ⟨⟨a, b, vs, c, o, es, ep, e, r⟩, ⟨o, e⟩, nphi_stable⟩

/-! ### keys -/
section
variable {X : Cx} {pins : List (Addr × Obj)} {σ : L2.St} {H : Hp} {s : Shared}
mutual
theorem nk_is (I : Inv X pins σ H s) : ∀ (k : NestedKey) (v : V) (u : Value), Dp X.K H v k.data → RelV v u → NestedIs s.heap k u
  | .none, _, _, h, r => by
    simp only [NestedKey.data] at h
    cases h
    cases r
    exact .none
  | .num i, _, _, h, r => by
    simp only [NestedKey.data] at h
    cases h
    obtain ⟨t, rfl⟩ := r
    exact .int _ _
  | .text x, _, _, h, r => by
    simp only [NestedKey.data] at h
    cases h
    obtain ⟨t, rfl⟩ := r
    exact .text _ _
  | .tup ks, _, _, h, r => by
    simp only [NestedKey.data] at h
    cases h with
    | tup hs ha =>
      cases r
      obtain ⟨its, rv, ⟨o, ho, hc, n, hd⟩, _⟩ := I.tuple hs
      exact .tup ho hc hd (by simpa using nk_all I ks _ its ha rv)
theorem nk_all (I : Inv X pins σ H s) : ∀ (ks : List NestedKey) (vs : List V) (us : List Value), DpAll X.K H vs (NestedKey.datas ks) → Vals vs us → NestedAll s.heap ks us
  | [], _, _, h, r => by
    simp only [NestedKey.datas] at h
    cases h
    cases r
    exact .nil
  | k :: ks, _, _, h, r => by
    simp only [NestedKey.datas] at h
    cases h with
    | cons h1 h2 =>
      cases r with
      | cons r1 r2 => exact .cons (nk_is I k _ _ h1 r1) (nk_all I ks _ _ h2 r2)
end
end
/-- at b stands the key k -/
def IsNk (K : PySem.W.Frag) (H : Hp) (b : Addr) (k : NestedKey) : Prop := Dp K H (.ref b) k.data ∧ k.depth ≤ 8
mutual
theorem nk_tupy : ∀ k : NestedKey, tupy k.data = true
  | .none => rfl
  | .num _ => rfl
  | .text _ => rfl
  | .tup ks => by simp only [NestedKey.data, tupy]; exact nk_tupyAll ks
theorem nk_tupyAll : ∀ ks : List NestedKey, tupyAll (NestedKey.datas ks) = true
  | [] => rfl
  | k :: ks => by simp only [NestedKey.datas, tupyAll, nk_tupy k, nk_tupyAll ks, Bool.and_self]
end
theorem Fr.nk {S : List Addr} {K : PySem.W.Frag} {H H' : Hp} {b : Addr} {k : NestedKey} (e : Fr S H H') (h : IsNk K H b k) : IsNk K H' b k := ⟨e.dp _ _ (nk_tupy k) h.1, h.2⟩
theorem IsNk.is {X : Cx} {pins : List (Addr × Obj)} {σ : L2.St} {H : Hp} {s : Shared} {b : Addr} {k : NestedKey} (I : Inv X pins σ H s) (h : IsNk X.K H b k) : (nestedKind X.prog X.w).is s.heap k b :=
  ⟨nk_is I k _ _ h.1 rfl, h.2⟩

/-! ### the dict at d holds kvs (keys in the order in which they came) -/
def nkv (xs : List NEnt) : List (NestedKey × V) := xs.map fun x => (x.1, x.2.2)
def Nd (P : Program) (w : World) (K : PySem.W.Frag) (H : Hp) (d : Addr) (xs : List NEnt) : Prop := H d = some (NdO P w d xs) ∧ ∀ x ∈ xs, IsNk K H x.2.1 x.1
theorem Fr.nd {S : List Addr} {P : Program} {w : World} {K : PySem.W.Frag} {H H' : Hp} {d : Addr} {xs : List NEnt} (e : Fr S H H') (hd : d ∉ S) (h : Nd P w K H d xs) : Nd P w K H' d xs :=
  ⟨e.keep _ _ hd h.1, fun x hx => e.nk (h.2 x hx)⟩
def nval (xs : List NEnt) (k : NestedKey) : Option V := (xs.find? fun x => decide (x.1 = k)).map (·.2.2)
def nput (xs : List NEnt) (k : NestedKey) (a : Addr) (v : V) : List NEnt :=
  if (nval xs k).isSome then xs.map (fun x => if x.1 = k then (x.1, x.2.1, v) else x) else xs ++ [(k, a, v)]
theorem nrel_find {xs : List NEnt} {vs : List (NestedKey × Addr × Value)} (r : Paired NRel xs vs) (k : NestedKey) : RelO (nval xs k) ((atKey vs k).map (·.2)) := by
  unfold nval atKey
  induction r with
  | nil => exact True.intro
  | @cons p q ps qs h t ih =>
    rw [List.find?_cons, List.find?_cons, ← h.1]
    by_cases e : p.1 = k
    · simp only [e, decide_true, Option.map_some]
      exact h.2.2
    · simp only [e, decide_false]
      exact ih
theorem nrel_put {xs : List NEnt} {vs : List (NestedKey × Addr × Value)} (r : Paired NRel xs vs) (k : NestedKey) (a : Addr) {v : V} {u : Value} (rv : RelV v u) : Paired NRel (nput xs k a v) (storedH vs k a u) := by
  have hs : (nval xs k).isSome = (atKey vs k).isSome := by
    have q := nrel_find r k
    cases h1 : nval xs k <;> cases h2 : atKey vs k <;> rw [h1, h2] at q <;> first | rfl | exact q.elim
  unfold nput storedH
  rw [hs]
  by_cases h : (atKey vs k).isSome = true
  · rw [if_pos h, if_pos h]
    clear h hs
    induction r with
    | nil => exact .nil
    | @cons p q ps qs h t ih =>
      rw [List.map_cons, List.map_cons]
      refine .cons ?_ ih
      unfold putAt
      rw [← h.1]
      by_cases e : p.1 = k
      · rw [if_pos e, if_pos e]
        exact ⟨rfl, h.2.1, rv⟩
      · rw [if_neg e, if_neg e]
        exact h
  · rw [if_neg h, if_neg h]
    clear h hs
    induction r with
    | nil => exact .cons ⟨rfl, rfl, rv⟩ .nil
    | cons h t ih => exact .cons h ih
theorem nput_len (xs : List NEnt) (k : NestedKey) (a : Addr) (v : V) : (nput xs k a v).length ≤ xs.length + 1 := by
  unfold nput
  split
  · rw [List.length_map]; omega
  · rw [List.length_append]; exact Nat.le_refl _
section
variable {X : Cx} {pins : List (Addr × Obj)} {σ : L2.St} {H : Hp} {s : Shared} {d b : Addr} {xs : List NEnt} {k : NestedKey}
theorem nd_rd (I : Inv X pins σ H s) (h : Nd X.prog X.w X.K H d xs) : (d == sysModules) = false ∧ xs.length ≤ sizeLine ∧ ∃ vs, Paired NRel xs vs ∧ s.heap.DictOfH (nestedKind X.prog X.w) d vs := by
  obtain ⟨⟨a, z, vs, r, o, es, ep, e, h2, h3, h4, h5⟩, hx9⟩ := (show ObjOk X.prog X.w H s.heap d (NdO X.prog X.w d xs) from I.hok d _ h.1)
  clear hx9
  refine ⟨a, z, vs, r, o, es, ep, e, h2, h3, h4, fun x hx => ?_, h5⟩
  have hall : ∀ p ∈ xs, IsNk X.K H p.2.1 p.1 := h.2
  clear h h4 h5 z
  induction r with
  | nil => exact nomatch hx
  | @cons p q ps qs hq t ih =>
    rcases List.mem_cons.mp hx with e | hx
    · subst e
      have q1 := (hall p List.mem_cons_self).is I
      rw [hq.1, hq.2.1] at q1
      exact q1
    · exact ih hx fun p' hp' => hall p' (List.mem_cons_of_mem _ hp')
theorem nroom {A : Around} (hu : A.units + 64 < cLine) : (nestedKind X.prog X.w).room A.in1 := by
  show A.units + 1 + 8 < cLine
  omega
theorem n_typeIs (I : Inv X pins σ H s) (h : Nd X.prog X.w X.K H d xs) : s.TypeIs (.ref d) "dict" := by
  obtain ⟨_, _, vs, _, dd⟩ := nd_rd I h
  exact dd.typeIs
end

/-! ### the rules -/
/-- {} -/
def tNNew (P : Program) (w : World) : TE := fun _ H Q => ∀ p, H p = none → Q (.ref p) (upd H p (NdO P w p []))
/-- d[y] -/
def tNGet (P : Program) (w : World) (K : PySem.W.Frag) (td ty : TE) : TE := fun σ H Q => td σ H fun x H1 => ty σ H1 fun y H2 => ∃ a xs b k v, x = .ref a ∧ y = .ref b ∧ Nd P w K H2 a xs ∧ IsNk K H2 b k ∧ nval xs k = some v ∧ Q v H2
def tNIn (neg : Bool) (P : Program) (w : World) (K : PySem.W.Frag) (ty td : TE) : TE := fun σ H Q => ty σ H fun y H1 => td σ H1 fun x H2 => ∃ a xs b k, x = .ref a ∧ y = .ref b ∧ Nd P w K H2 a xs ∧ IsNk K H2 b k ∧ Q (.bl (if neg then !(nval xs k).isSome else (nval xs k).isSome)) H2
/-- d[y] = v -/
def sNPut (P : Program) (w : World) (K : PySem.W.Frag) (td ty tv : TE) : TS := fun D σ H => tv σ H fun v H1 => td σ H1 fun x H2 => ty σ H2 fun y H3 => ∃ a xs b k, x = .ref a ∧ y = .ref b ∧ Nd P w K H3 a xs ∧ IsNk K H3 b k ∧ xs.length < sizeLine ∧
  D.nx σ (upd H3 a (NdO P w a (nput xs k b v)))
section
variable {X : Cx} {o i value e : Expr} {pos pos' : Pos} {td ty tv : TE}
theorem pe_nnew : PE X (.Dict [] [] pos) (tNNew X.prog X.w) := ⟨fun pins s σ H Q I h =>
  wpAny_Dict_empty ⟨.ref s.heap.objs.size, _, I.laid (a := s.heap.objs.size) (o := NdO X.prog X.w s.heap.objs.size []) (t' := s.toks) (fun _ _ q => Heap.get?_push_of_some _ q) (Nat.le_refl _)
    (nphi_ok ⟨beq_eq_false_iff_ne.mpr (Ne.symm (Nat.ne_of_lt I.big)), Nat.zero_le _, [], .nil, _, #[], 0, Heap.get?_push_size _ rfl, ⟨rfl, rfl, rfl⟩, rfl, rfl, List.nodup_nil⟩), rfl, h _ (I.hok.fresh (Nat.le_refl _))⟩⟩
theorem pe_nget (hu : X.A.units + 64 < cLine) (ho : PE X o td) (hi : PE X i ty) (hs : NoSl i) : PE X (.Subscript o i pos) (tNGet X.prog X.w X.K td ty) := by
  refine ⟨fun pins s σ H Q I h => ?_⟩
  refine subD_of PySem.F.slot_dict_getitem.lookup hs (thn (ho.run pins s σ H _ I h) fun u s1 ⟨x, H1, I1, rx, q1⟩ => thn (hi.run pins s1 σ H1 _ I1 q1) fun iv s2 ⟨y, H2, I2, ry, a, xs, b, k, v, ex, ey, g, hk, hv, q2⟩ => ?_)
  subst ex ey
  obtain rfl : u = Value.ref a := rx
  obtain rfl : iv = Value.ref b := ry
  refine ⟨n_typeIs I2 g, ?_⟩
  obtain ⟨hd, _, vs, rel, dd⟩ := nd_rd I2 g
  have q := nrel_find rel k
  rw [hv] at q
  cases hp : atKey vs k with
  | none => rw [hp] at q; exact q.elim
  | some p =>
    rw [hp] at q
    exact wpAny_getItem_heap (nroom hu) (hk.is I2) dd hp ⟨v, H2, I2.tok _, q, q2⟩
theorem pc_nin (hu : X.A.units + 64 < cLine) (hi : PE X i ty) (ho : PE X o td) : PC X .In i o (tNIn false X.prog X.w X.K ty td) := by
  refine ⟨fun pins s σ H Q I h => ?_⟩
  refine thn (hi.run pins s σ H _ I h) fun iv s1 ⟨y, H1, I1, ry, q1⟩ => thn (ho.run pins s1 σ H1 _ I1 q1) fun u s2 ⟨x, H2, I2, rx, a, xs, b, k, ex, ey, g, hk, q2⟩ => ?_
  subst ex ey
  obtain rfl : u = Value.ref a := rx
  obtain rfl : iv = Value.ref b := ry
  obtain ⟨hd, _, vs, rel, dd⟩ := nd_rd I2 g
  refine wpAny_in_heap (nroom hu) (hk.is I2) hd dd ⟨.bl (nval xs k).isSome, H2, I2.tok _, ?_, q2⟩
  have q := nrel_find rel k
  show Value.bool _ = Value.bool _
  cases h1 : nval xs k <;> cases h2 : atKey vs k <;> rw [h1, h2] at q <;> first | rfl | exact q.elim
theorem pc_nnotin (hu : X.A.units + 64 < cLine) (hi : PE X i ty) (ho : PE X o td) : PC X .NotIn i o (tNIn true X.prog X.w X.K ty td) := by
  refine ⟨fun pins s σ H Q I h => ?_⟩
  refine thn (hi.run pins s σ H _ I h) fun iv s1 ⟨y, H1, I1, ry, q1⟩ => thn (ho.run pins s1 σ H1 _ I1 q1) fun u s2 ⟨x, H2, I2, rx, a, xs, b, k, ex, ey, g, hk, q2⟩ => ?_
  subst ex ey
  obtain rfl : u = Value.ref a := rx
  obtain rfl : iv = Value.ref b := ry
  obtain ⟨hd, _, vs, rel, dd⟩ := nd_rd I2 g
  refine wpAny_notIn_heap (nroom hu) (hk.is I2) hd dd ⟨.bl (!(nval xs k).isSome), H2, I2.tok _, ?_, q2⟩
  have q := nrel_find rel k
  show Value.bool _ = Value.bool _
  cases h1 : nval xs k <;> cases h2 : atKey vs k <;> rw [h1, h2] at q <;> first | rfl | exact q.elim
theorem ps_nput (hu : X.A.units + 64 < cLine) (ho : PE X o td) (hi : PE X i ty) (hv : PE X value tv) (hs : swapsWith value (some (.Subscript o i pos')) pos.line X.env = pure false := by rfl) :
    PS X (.Assign [.Subscript o i pos'] value pos) (sNPut X.prog X.w X.K td ty tv) := by
  refine ⟨fun pins s σ H D I h => ?_⟩
  refine wpAny_Assign_Subscript (thn (hv.run pins s σ H _ I h) fun r s1 ⟨v, H1, I1, rv, q1⟩ => thn (ho.run pins s1 σ H1 _ I1 q1) fun u s2 ⟨x, H2, I2, rx, q2⟩ => thn (hi.run pins s2 σ H2 _ I2 q2) fun iv s3 ⟨y, H3, I3, ry, a, xs, b, k, ex, ey, g, hk, hl, q3⟩ => ?_) hs
  subst ex ey
  obtain rfl : u = Value.ref a := rx
  obtain rfl : iv = Value.ref b := ry
  obtain ⟨hd, hz, vs, rel, dd⟩ := nd_rd I3 g
  refine wpAny_setItem_heap (hsz := by rw [← Paired.length rel]; exact hz) (nroom hu) (hk.is I3) dd fun h' dd' hs' => ?_
  obtain ⟨q, es, ep, hq, h2, h3, h4, _, h5⟩ := dd'
  refine ⟨σ, _, d_write I3 (by rw [g.1]; exact True.intro) hs' ⟨q, hq⟩ (nphi_ok ⟨hd, ?_, _, nrel_put rel k b rv, q, es, ep, hq, h2, h3, h4, h5⟩), q3⟩
  have := nput_len xs k b v
  omega
/-- len(d) -/
theorem call_lenN : CallR X (.builtin "len") (fun ys H Q => ∃ d xs, ys = [.ref d] ∧ Nd X.prog X.w X.K H d xs ∧ Q (.int ((xs.length : Nat) : Int)) H) := by
  intro pins s σ H ys us Q I r h
  obtain ⟨p, xs, rfl, hp, q⟩ := h
  obtain ⟨u, rfl, rx⟩ := vals1 r
  obtain rfl : u = .ref p := rx
  obtain ⟨hd, z, vs, rel, dd⟩ := nd_rd I hp
  have hl : xs.length = vs.length := Paired.length rel
  have hs := sizeLine_eq
  refine call_len_dictH hd dd (by omega) ⟨.int ((xs.length : Nat) : Int), H, (I.tok _).tok _, ⟨_, by rw [hl]⟩, q⟩
/-- list(d): the keys -/
theorem call_listN (hc : X.calm = true) : CallR X (.type "list") (fun ys H Q => ∃ d xs, ys = [.ref d] ∧ Nd X.prog X.w X.K H d xs ∧ ∀ l, H l = none → Q (.ref l) (upd H l (.lst (xs.map fun x => .ref x.2.1)))) := by
  intro pins s σ H ys us Q I r h
  obtain ⟨p, xs, rfl, hp, q⟩ := h
  obtain ⟨u, rfl, rx⟩ := vals1 r
  obtain rfl : u = .ref p := rx
  obtain ⟨hd, z, vs, rel, o, es, ep, h1, h2, h3, h4, _⟩ := nd_rd I hp
  have hn : es.size = xs.length := by rw [size_of_entries h4, ← Paired.length rel]
  refine PySem.W.kdl_call (PySem.KdlSrc.rawDict (es := es) (ep := ep) hd) (I.ok.hd hc) ⟨o, h1, h2, h3⟩ (by omega) fun h' tk acc' c' kp hS hacc => ?_
  refine ⟨.ref s.heap.objs.size, _, I.laid (a := s.heap.objs.size) (o := .lst (xs.map fun x => .ref x.2.1)) (t' := tk) kp (Nat.le_refl _) ⟨by rw [List.length_map]; exact z, acc'.toList, c', ?_, by simpa using hS⟩, rfl, q _ (I.hok.fresh (Nat.le_refl _))⟩
  have all : ∀ (n : Nat) (as : List V) (bs : List Value), as.length = n → bs.length = n → (∀ (j : Nat) (a : V) (b : Value), as[j]? = some a → bs[j]? = some b → RelV a b) → Vals as bs := by
    intro n
    induction n with
    | zero => intro as bs e1 e2 _; cases as <;> cases bs <;> simp_all; exact .nil
    | succ n ih =>
      intro as bs e1 e2 hj
      cases as with
      | nil => simp at e1
      | cons a as =>
        cases bs with
        | nil => simp at e2
        | cons b bs => exact .cons (hj 0 a b rfl rfl) (ih as bs (by simpa using e1) (by simpa using e2) fun j a' b' h1 h2 => hj (j + 1) a' b' (by simpa using h1) (by simpa using h2))
  refine all xs.length _ _ (List.length_map _) (by rw [Array.length_toList, hacc.1, hn]) fun j a b ha hb => ?_
  obtain ⟨hi, eb⟩ := hacc.2 j b (by rw [← Array.getElem?_toList]; exact hb)
  rw [List.getElem?_map] at ha
  obtain ⟨x, hx, rfl⟩ := Option.map_eq_some_iff.mp ha
  obtain ⟨y, hy, ry⟩ := paired_get rel hx
  have q1 := entry_at h4 j
  rw [hy, Array.getElem?_eq_getElem hi] at q1
  have q2 : es[j] = entryOfKey (nestedKind X.prog X.w) y := Option.some.inj q1
  show b = Value.ref x.2.1
  rw [eb, q2, ry.2.1]
  rfl
end
/-! ### for k in d -/
def Itn (P : Program) (w : World) (d : Addr) (o : Obj) (xs : List NEnt) : It :=
  ⟨fun i H => H d = some (.frz o (NdO P w d xs)) ∧ i < xs.length, fun i H x H' => H' = H ∧ ∃ p, xs[i]? = some p ∧ x = .ref p.2.1, fun i H => H d = some (.frz o (NdO P w d xs)) ∧ xs.length ≤ i⟩
section
variable {X : Cx} {pins : List (Addr × Obj)} {σ : L2.St} {H : Hp} {s : Shared} {d : Addr} {o : Obj}
theorem frzN {xs : List NEnt} (I : Inv X pins σ H s) (h : H d = some (.frz o (NdO X.prog X.w d xs))) :
    (d == sysModules) = false ∧ s.heap.get? d = some o ∧ o.ExactDict ∧ ∃ (es : Array DictEntry) (ep : Nat), o.data = .dict es ep ∧ es.size = xs.length ∧
      ∀ (i : Nat) (p : NEnt), xs[i]? = some p → ∃ (en : DictEntry), es[i]? = some en ∧ en.key = .ref p.2.1 := by
  obtain ⟨hd, ⟨hs, z, vs, rel, o', es, ep, ho, hx, hdt, he, _⟩, _⟩ := (show ObjOk X.prog X.w H s.heap d (.frz o (NdO X.prog X.w d xs)) from I.hok d _ h)
  rw [hd] at ho
  cases ho
  refine ⟨hs, hd, hx, es, ep, hdt, by rw [size_of_entries he, ← Paired.length rel], fun i p e => ?_⟩
  obtain ⟨y, hy, ry⟩ := paired_get rel e
  have q1 := entry_at he i
  rw [hy] at q1
  exact ⟨_, q1, by rw [ry.2.1]; rfl⟩
end
section
variable {P : Program} {w : World} {K : PySem.W.Frag} {tg : Expr} {d : Addr} {o : Obj} {es : Array DictEntry} {ep : Nat}
theorem turn_keysN {xs : List NEnt} (it : Addr) (hod : o.data = .dict es ep) : Turn P w K tg (Itn P w d o xs) [it] it (fun i h => h.IsKeyIter it d i xs.length ep) where
  mem := by simp
  obj := fun i h st b hb => by
    have e : b = it := by simpa using hb
    subst e
    obtain ⟨oi, e, c, dd⟩ := st
    exact ⟨oi, e, fun v z => by rw [dd] at z; cases z⟩
  keep := fun i h h' st k => st.at fun oi e => k it (by simp) oi e
  item := by
    intro X hP hw hK hc i pins s σ H E I hf st hg
    subst hP hw hK
    obtain ⟨hd, hi⟩ := hg
    obtain ⟨f0, f1, f2, f3, f4, f5⟩ := hf it (by simp)
    obtain ⟨hs, hgd, hx, es', ep', hdt, hsz, ent⟩ := frzN I hd
    obtain ⟨rfl, rfl⟩ := dict_ep hod hdt
    obtain ⟨p, hkv⟩ : ∃ p, xs[i]? = some p := ⟨xs[i], List.getElem?_eq_getElem hi⟩
    obtain ⟨en, hen, hkey⟩ := ent i p hkv
    refine next_key_item st hgd hdt hsz hen fun h' st' sb => ?_
    have I1 : Inv X pins σ H { s with heap := h' } := I.turned (t' := s.toks) (fun b ob hb e => (sb.2 b hb).trans e) f0 f1 f3 f4 f5
    obtain ⟨oi, e, c, dd⟩ := id st'
    exact ⟨en.key, rfl, go_of (s := { s with heap := h' }) e c dd (by decide) ⟨.ref p.2.1, H, I1, hkey, ⟨rfl, p, hkv, rfl⟩, st', fun b hb => (hf b hb).1⟩⟩
  done := by
    intro X hP hw hK hc i pins s σ H E I hf st hg
    subst hP hw hK
    obtain ⟨hd, hi⟩ := hg
    obtain ⟨f0, f1, f2, f3, f4, f5⟩ := hf it (by simp)
    obtain ⟨hs, hgd, hx, es', ep', hdt, hsz, ent⟩ := frzN I hd
    obtain ⟨rfl, rfl⟩ := dict_ep hod hdt
    exact next_key_end (I.ok.hd hc) st hgd hdt hsz hi fun h' eb => ⟨rfl, I.turned (t' := s.toks) (fun b ob hb e => eb b ob hb e) f0 f1 f3 f4 f5⟩
  self := fun A i s Q E st h => by
    refine wpAny_pyIter_slot st.typeIs PySem.F.slot_dict_keyiterator_iter (wpAny_call_entry PySem.F.slot_dict_keyiterator_iter st.typeIs PySem.F.entry_dict_keyiterator_iter ?_ (PySem.F.args_dict_keyiterator_iter_1 _))
    show wpAny _ _ (ret (.ref it)) _ _ s
    exact wpAny_pure ⟨_, rfl, "dict_keyiterator", _, st.typeIs, PySem.F.slot_dict_keyiterator_next.lookup, h⟩
end
def iKeysN (P : Program) (w : World) (td : TE) : TI := fun σ H R => td σ H fun x H1 => ∃ d o xs, x = .ref d ∧ H1 d = some (.frz o (NdO P w d xs)) ∧ R (Itn P w d o xs) H1
section
variable {X : Cx} {tg e : Expr} {td : TE}
theorem pi_keysN (he : PE X e td) : PI X tg e (iKeysN X.prog X.w td) := by
  refine ⟨fun pins s σ H R I h => ?_⟩
  refine thn (he.run pins s σ H _ I h) fun u s1 ⟨x, H1, I1, rx, d, o, xs, ex, hd, q⟩ => ?_
  subst ex
  obtain rfl : u = Value.ref d := rx
  obtain ⟨hs, hgd, hx, es, ep, hdt, hsz, ent⟩ := frzN I1 hd
  refine iter_keys hs hgd hx hdt (pi_one (tk := s1.toks) I1 _ (turn_keysN _ hdt) ⟨_, Heap.get?_push_size _ rfl, rfl, ?_⟩ q)
  rw [hsz] <;> rfl
end
end TT

namespace TT
open PySem L2
def top (i : Nat) : Stmt := PySem.Challenge.pw_treetellers_k07_which_parts_fit.main.body.getD i (.Pass ⟨0, 0, 0, 0⟩)

abbrev s_is_number : Stmt := top 19
abbrev N_is_number : List Str := ["thing", "most"]
abbrev P_is_number : List Str := ["thing", "most"]
theorem sc_is_number : FnScope N_is_number P_is_number (defScope s_is_number) := ⟨rfl, rfl, rfl, by decide +kernel, rfl, by decide +kernel, by decide +kernel⟩

abbrev s_has_form : Stmt := top 20
abbrev N_has_form : List Str := ["thing", "label", "kids"]
abbrev P_has_form : List Str := ["thing"]
theorem sc_has_form : FnScope N_has_form P_has_form (defScope s_has_form) := ⟨rfl, rfl, rfl, by decide +kernel, rfl, by decide +kernel, by decide +kernel⟩

abbrev s_places_of : Stmt := top 21
abbrev N_places_of : List Str := ["tree", "standing", "waiting", "place", "here", "kids", "number"]
abbrev P_places_of : List Str := ["tree"]
theorem sc_places_of : FnScope N_places_of P_places_of (defScope s_places_of) := ⟨rfl, rfl, rfl, by decide +kernel, rfl, by decide +kernel, by decide +kernel⟩

abbrev s_check_book : Stmt := top 22
abbrev N_check_book : List Str := ["book", "number", "rule"]
abbrev P_check_book : List Str := ["book"]
theorem sc_check_book : FnScope N_check_book P_check_book (defScope s_check_book) := ⟨rfl, rfl, rfl, by decide +kernel, rfl, by decide +kernel, by decide +kernel⟩

abbrev s_is_rule : Stmt := top 23
abbrev N_is_rule : List Str := ["rule", "state", "spot", "pattern", "build"]
abbrev P_is_rule : List Str := ["rule"]
theorem sc_is_rule : FnScope N_is_rule P_is_rule (defScope s_is_rule) := ⟨rfl, rfl, rfl, by decide +kernel, rfl, by decide +kernel, by decide +kernel⟩

abbrev s_is_spot : Stmt := top 24
abbrev N_is_spot : List Str := ["spot", "word", "wanted"]
abbrev P_is_spot : List Str := ["spot"]
theorem sc_is_spot : FnScope N_is_spot P_is_spot (defScope s_is_spot) := ⟨rfl, rfl, rfl, by decide +kernel, rfl, by decide +kernel, by decide +kernel⟩

abbrev s_is_within : Stmt := top 25
abbrev N_is_within : List Str := ["whole", "is_end", "most", "levels", "parts", "waiting", "part", "level", "kid"]
abbrev P_is_within : List Str := ["whole", "is_end", "most", "levels"]
theorem sc_is_within : FnScope N_is_within P_is_within (defScope s_is_within) := ⟨rfl, rfl, rfl, by decide +kernel, rfl, by decide +kernel, by decide +kernel⟩

abbrev s_is_bare : Stmt := top 26
abbrev N_is_bare : List Str := ["part"]
abbrev P_is_bare : List Str := ["part"]
theorem sc_is_bare : FnScope N_is_bare P_is_bare (defScope s_is_bare) := ⟨rfl, rfl, rfl, by decide +kernel, rfl, by decide +kernel, by decide +kernel⟩

abbrev s_is_pattern : Stmt := top 27
abbrev N_is_pattern : List Str := ["pattern"]
abbrev P_is_pattern : List Str := ["pattern"]
theorem sc_is_pattern : FnScope N_is_pattern P_is_pattern (defScope s_is_pattern) := ⟨rfl, rfl, rfl, by decide +kernel, rfl, by decide +kernel, by decide +kernel⟩

abbrev s_is_build : Stmt := top 28
abbrev N_is_build : List Str := ["build", "pattern"]
abbrev P_is_build : List Str := ["build", "pattern"]
theorem sc_is_build : FnScope N_is_build P_is_build (defScope s_is_build) := ⟨rfl, rfl, rfl, by decide +kernel, rfl, by decide +kernel, by decide +kernel⟩

abbrev s_is_do : Stmt := top 29
abbrev N_is_do : List Str := ["part", "pattern", "word", "state", "path"]
abbrev P_is_do : List Str := ["part", "pattern"]
theorem sc_is_do : FnScope N_is_do P_is_do (defScope s_is_do) := ⟨rfl, rfl, rfl, by decide +kernel, rfl, by decide +kernel, by decide +kernel⟩

abbrev s_is_path : Stmt := top 30
abbrev N_is_path : List Str := ["path", "pattern", "part", "number", "kids"]
abbrev P_is_path : List Str := ["path", "pattern"]
theorem sc_is_path : FnScope N_is_path P_is_path (defScope s_is_path) := ⟨rfl, rfl, rfl, by decide +kernel, rfl, by decide +kernel, by decide +kernel⟩

abbrev s_kids_within : Stmt := top 31
abbrev N_kids_within : List Str := ["pattern"]
abbrev P_kids_within : List Str := ["pattern"]
theorem sc_kids_within : FnScope N_kids_within P_kids_within (defScope s_kids_within) := ⟨rfl, rfl, rfl, by decide +kernel, rfl, by decide +kernel, by decide +kernel⟩

abbrev s_pattern_fits : Stmt := top 32
abbrev N_pattern_fits : List Str := ["pattern", "tree", "label", "kids", "wanted", "patterns", "part", "kid"]
abbrev P_pattern_fits : List Str := ["pattern", "tree"]
theorem sc_pattern_fits : FnScope N_pattern_fits P_pattern_fits (defScope s_pattern_fits) := ⟨rfl, rfl, rfl, by decide +kernel, rfl, by decide +kernel, by decide +kernel⟩

abbrev s_sets_at : Stmt := top 34
abbrev N_sets_at : List Str := ["book", "tree", "standing", "parts", "place"]
abbrev P_sets_at : List Str := ["book", "tree"]
theorem sc_sets_at : FnScope N_sets_at P_sets_at (defScope s_sets_at) := ⟨rfl, rfl, rfl, by decide +kernel, rfl, by decide +kernel, by decide +kernel⟩

abbrev s_parts_of : Stmt := top 35
abbrev N_parts_of : List Str := ["book", "met", "rule", "part"]
abbrev P_parts_of : List Str := ["book"]
theorem sc_parts_of : FnScope N_parts_of P_parts_of (defScope s_parts_of) := ⟨rfl, rfl, rfl, by decide +kernel, rfl, by decide +kernel, by decide +kernel⟩

abbrev s_parts_within : Stmt := top 36
abbrev N_parts_within : List Str := ["pattern", "parts", "kid"]
abbrev P_parts_within : List Str := ["pattern"]
theorem sc_parts_within : FnScope N_parts_within P_parts_within (defScope s_parts_within) := ⟨rfl, rfl, rfl, by decide +kernel, rfl, by decide +kernel, by decide +kernel⟩

abbrev s_fitting_parts : Stmt := top 37
abbrev N_fitting_parts : List Str := ["parts", "tree", "number", "part"]
abbrev P_fitting_parts : List Str := ["parts", "tree"]
theorem sc_fitting_parts : FnScope N_fitting_parts P_fitting_parts (defScope s_fitting_parts) := ⟨rfl, rfl, rfl, by decide +kernel, rfl, by decide +kernel, by decide +kernel⟩

abbrev s__law_begun : Stmt := top 39
abbrev N__law_begun : List Str := ["_law_script", "_law_stirred", "_law_cell"]
abbrev P__law_begun : List Str := ["_law_script"]
theorem sc__law_begun : FnScope N__law_begun P__law_begun (defScope s__law_begun) := ⟨rfl, rfl, rfl, by decide +kernel, rfl, by decide +kernel, by decide +kernel⟩

abbrev s__law_take : Stmt := top 40
abbrev N__law_take : List Str := ["_law_box", "_law_many", "_law_number"]
abbrev P__law_take : List Str := ["_law_box", "_law_many"]
theorem sc__law_take : FnScope N__law_take P__law_take (defScope s__law_take) := ⟨rfl, rfl, rfl, by decide +kernel, rfl, by decide +kernel, by decide +kernel⟩

abbrev s__law_alike : Stmt := top 41
abbrev N__law_alike : List Str := ["_law_found", "_law_due", "_law_k"]
abbrev P__law_alike : List Str := ["_law_found", "_law_due"]
theorem sc__law_alike : FnScope N__law_alike P__law_alike (defScope s__law_alike) := ⟨rfl, rfl, rfl, by decide +kernel, rfl, by decide +kernel, by decide +kernel⟩

abbrev s__law_grown : Stmt := top 42
abbrev N__law_grown : List Str := ["_law_box", "_law_letters_here", "_law_left", "_law_deep", "_law_kids", "_law_k"]
abbrev P__law_grown : List Str := ["_law_box", "_law_letters_here", "_law_left", "_law_deep"]
theorem sc__law_grown : FnScope N__law_grown P__law_grown (defScope s__law_grown) := ⟨rfl, rfl, rfl, by decide +kernel, rfl, by decide +kernel, by decide +kernel⟩

abbrev s__law_tree : Stmt := top 43
abbrev N__law_tree : List Str := ["_law_box", "_law_letters_here", "_law_most"]
abbrev P__law_tree : List Str := ["_law_box", "_law_letters_here"]
theorem sc__law_tree : FnScope N__law_tree P__law_tree (defScope s__law_tree) := ⟨rfl, rfl, rfl, by decide +kernel, rfl, by decide +kernel, by decide +kernel⟩

abbrev s__law_letters : Stmt := top 44
abbrev N__law_letters : List Str := ["_law_box", "_law_left", "_law_k"]
abbrev P__law_letters : List Str := ["_law_box"]
theorem sc__law_letters : FnScope N__law_letters P__law_letters (defScope s__law_letters) := ⟨rfl, rfl, rfl, by decide +kernel, rfl, by decide +kernel, by decide +kernel⟩

abbrev s__law_places : Stmt := top 45
abbrev N__law_places : List Str := ["_law_tree_here", "_law_found", "_law_k", "_law_place", "_law_part"]
abbrev P__law_places : List Str := ["_law_tree_here"]
theorem sc__law_places : FnScope N__law_places P__law_places (defScope s__law_places) := ⟨rfl, rfl, rfl, by decide +kernel, rfl, by decide +kernel, by decide +kernel⟩

abbrev s__law_pattern : Stmt := top 46
abbrev N__law_pattern : List Str := ["_law_box", "_law_letters_here", "_law_deep", "_law_way", "_law_many", "_law_k"]
abbrev P__law_pattern : List Str := ["_law_box", "_law_letters_here", "_law_deep"]
theorem sc__law_pattern : FnScope N__law_pattern P__law_pattern (defScope s__law_pattern) := ⟨rfl, rfl, rfl, by decide +kernel, rfl, by decide +kernel, by decide +kernel⟩

abbrev s__law_paths : Stmt := top 47
abbrev N__law_paths : List Str := ["_law_pattern_here", "_law_found", "_law_k", "_law_j"]
abbrev P__law_paths : List Str := ["_law_pattern_here"]
theorem sc__law_paths : FnScope N__law_paths P__law_paths (defScope s__law_paths) := ⟨rfl, rfl, rfl, by decide +kernel, rfl, by decide +kernel, by decide +kernel⟩

abbrev s__law_build : Stmt := top 48
abbrev N__law_build : List Str := ["_law_box", "_law_letters_here", "_law_states", "_law_paths_here", "_law_deep", "_law_many", "_law_kids", "_law_k"]
abbrev P__law_build : List Str := ["_law_box", "_law_letters_here", "_law_states", "_law_paths_here", "_law_deep"]
theorem sc__law_build : FnScope N__law_build P__law_build (defScope s__law_build) := ⟨rfl, rfl, rfl, by decide +kernel, rfl, by decide +kernel, by decide +kernel⟩

abbrev s__law_parts : Stmt := top 49
abbrev N__law_parts : List Str := ["_law_part", "_law_kid"]
abbrev P__law_parts : List Str := ["_law_part"]
theorem sc__law_parts : FnScope N__law_parts P__law_parts (defScope s__law_parts) := ⟨rfl, rfl, rfl, by decide +kernel, rfl, by decide +kernel, by decide +kernel⟩

abbrev s__law_rule : Stmt := top 50
abbrev N__law_rule : List Str := ["_law_box", "_law_letters_here", "_law_states", "_law_pattern_here", "_law_paths_here", "_law_build_here", "_law_spots"]
abbrev P__law_rule : List Str := ["_law_box", "_law_letters_here", "_law_states"]
theorem sc__law_rule : FnScope N__law_rule P__law_rule (defScope s__law_rule) := ⟨rfl, rfl, rfl, by decide +kernel, rfl, by decide +kernel, by decide +kernel⟩

abbrev s__law_book : Stmt := top 51
abbrev N__law_book : List Str := ["_law_box", "_law_letters_here", "_law_left", "_law_states", "_law_found", "_law_state", "_law_k"]
abbrev P__law_book : List Str := ["_law_box", "_law_letters_here"]
theorem sc__law_book : FnScope N__law_book P__law_book (defScope s__law_book) := ⟨rfl, rfl, rfl, by decide +kernel, rfl, by decide +kernel, by decide +kernel⟩

abbrev s__law_fits : Stmt := top 52
abbrev N__law_fits : List Str := ["_law_pattern_here", "_law_tree_here", "_law_k"]
abbrev P__law_fits : List Str := ["_law_pattern_here", "_law_tree_here"]
theorem sc__law_fits : FnScope N__law_fits P__law_fits (defScope s__law_fits) := ⟨rfl, rfl, rfl, by decide +kernel, rfl, by decide +kernel, by decide +kernel⟩

abbrev s__law_fitting : Stmt := top 53
abbrev N__law_fitting : List Str := ["_law_book_here", "_law_state", "_law_place", "_law_known", "_law_found", "_law_number", "_law_mine", "_law_spot", "_law_pattern_here", "_law_build_here", "_law_is_there"]
abbrev P__law_fitting : List Str := ["_law_book_here", "_law_state", "_law_place", "_law_known"]
theorem sc__law_fitting : FnScope N__law_fitting P__law_fitting (defScope s__law_fitting) := ⟨rfl, rfl, rfl, by decide +kernel, rfl, by decide +kernel, by decide +kernel⟩

abbrev s__law_dos : Stmt := top 54
abbrev N__law_dos : List Str := ["_law_build_here", "_law_found", "_law_kid"]
abbrev P__law_dos : List Str := ["_law_build_here"]
theorem sc__law_dos : FnScope N__law_dos P__law_dos (defScope s__law_dos) := ⟨rfl, rfl, rfl, by decide +kernel, rfl, by decide +kernel, by decide +kernel⟩

abbrev s__law_within : Stmt := top 55
abbrev N__law_within : List Str := ["_law_pattern_here", "_law_found", "_law_kid"]
abbrev P__law_within : List Str := ["_law_pattern_here"]
theorem sc__law_within : FnScope N__law_within P__law_within (defScope s__law_within) := ⟨rfl, rfl, rfl, by decide +kernel, rfl, by decide +kernel, by decide +kernel⟩

abbrev s_law : Stmt := top 56
abbrev N_law : List Str := ["_law_script", "_law_box", "_law_letters_here", "_law_book_here", "_law_parts_here", "_law_rule_here", "_law_part", "_law_turn", "_law_tree_here", "_law_due", "_law_place", "_law_again", "_law_found", "_law_k"]
abbrev P_law : List Str := ["_law_script"]
theorem sc_law : FnScope N_law P_law (defScope s_law) := ⟨rfl, rfl, rfl, by decide +kernel, rfl, by decide +kernel, by decide +kernel⟩

structure Txt (K : PySem.W.Frag) (mg : Str → Option Value) : Prop where
  all_ : mg "all" = none
  bool_ : mg "bool" = none
  enumerate_ : mg "enumerate" = none
  int_ : mg "int" = none
  isinstance_ : mg "isinstance" = none
  len_ : mg "len" = none
  list_ : mg "list" = none
  range_ : mg "range" = none
  reversed_ : mg "reversed" = none
  str_ : mg "str" = none
  sum_ : mg "sum" = none
  tuple_ : mg "tuple" = none
  zip_ : mg "zip" = none
  LETTERS : ∃ a, mg "LETTERS" = some (.ref a) ∧ ∀ H, SqT K H a [.str "a", .str "b", .str "c", .str "d", .str "e", .str "f"]
  ANY : ∃ a, mg "ANY" = some (.ref a) ∧ ∀ H, SqT K H a [.str "any"]
  LEAF : ∃ a, mg "LEAF" = some (.ref a) ∧ ∀ H, SqT K H a [.str "leaf"]
  TOP : ∃ a, mg "TOP" = some (.ref a) ∧ ∀ H, SqT K H a [.str "top"]
  MOST_KIDS : ∃ t, mg "MOST_KIDS" = some (.int 3 t)
  MOST_STATE : ∃ t, mg "MOST_STATE" = some (.int 5 t)
  MOST_RULES : ∃ t, mg "MOST_RULES" = some (.int 16 t)
  MOST_PLACES : ∃ t, mg "MOST_PLACES" = some (.int 60 t)
  TREE_LEVELS : ∃ t, mg "TREE_LEVELS" = some (.int 12 t)
  MOST_PATTERN_PARTS : ∃ t, mg "MOST_PATTERN_PARTS" = some (.int 7 t)
  PATTERN_LEVELS : ∃ t, mg "PATTERN_LEVELS" = some (.int 3 t)
  MOST_BUILD_PARTS : ∃ t, mg "MOST_BUILD_PARTS" = some (.int 12 t)
  BUILD_LEVELS : ∃ t, mg "BUILD_LEVELS" = some (.int 4 t)
  MOST_PATH : ∃ t, mg "MOST_PATH" = some (.int 2 t)
end TT

namespace TT
open PySem L2

/-! ### the box: [script's numbers left, the stirred number] -/
def BoxAt (H : Hp) (b q : Addr) : Prop := ∃ (z : Int) (ns : List Int), H b = some (.lst [.ref q, .int z]) ∧ H q = some (.lst (ns.map V.int)) ∧ ns.length ≤ 63
theorem BoxAt.ne {H : Hp} {b q : Addr} (h : BoxAt H b q) : b ≠ q := by
  obtain ⟨z, ns, h1, h2, _⟩ := h
  refine ne_of h1 h2 fun e => ?_
  injection e with e
  cases ns with
  | nil => simp at e
  | cons a r => simp at e
theorem ints_lay : ∀ ns : List Int, PyData.canLayAll0 (ns.map PyData.int) = true
  | [] => by simp [PyData.canLayAll0]
  | n :: ns => by simp [PyData.canLayAll0, PyData.canLay0, ints_lay ns]
theorem ints_depth : ∀ ns : List Int, PyData.depthAll (ns.map PyData.int) = 0
  | [] => by simp [PyData.depthAll]
  | n :: ns => by simp [PyData.depthAll, PyData.depth, ints_depth ns]
theorem shaped_of {d : PyData} (h1 : d.canLay0 = true) (h2 : d.depth ≤ 64) : SeqAt.shaped d = true := by
  show (d.canLay0 && decide (d.depth ≤ 64)) = true
  rw [Bool.and_eq_true]
  exact ⟨h1, decide_eq_true h2⟩
theorem ints_shaped (ns : List Int) : SeqAt.shaped (.list (ns.map PyData.int)) = true :=
  shaped_of (by simp only [PyData.canLay0]; exact ints_lay ns) (by simp only [PyData.depth, ints_depth]; decide)
theorem ints_dp {K : PySem.W.Frag} {H : Hp} : ∀ ns : List Int, DpAll K H (ns.map V.int) (ns.map PyData.int)
  | [] => .nil
  | n :: ns => .cons (.int n) (ints_dp ns)
theorem atI_zero {α : Type} (v : α) (xs : List α) : atI (v :: xs) 0 = some v := atI_nat (j := 0) rfl
theorem ixN_zero (n : Nat) : ixN (n + 1) 0 = some 0 := by
  unfold ixN
  rw [if_pos (by decide), if_pos (by omega)]
  rfl
theorem ixN_nat {n j : Nat} (h : j < n) : ixN n (j : Int) = some j := by
  unfold ixN
  rw [if_pos (by omega), if_pos (by omega)]
  simp
theorem seq_zero (n : Nat) : seqIndex? 0 (n + 1) = some 0 := (ixN_seq (ixN_zero n)).1
def spTake (K : PySem.W.Frag) : Sp := fun vs H Q _ => ∃ (b q : Addr) (m : Int), vs = [.ref b, .int m] ∧ BoxAt H b q ∧ 0 < m ∧ m ≤ 1000 ∧ ∀ (r : Int) (H' : Hp), 0 ≤ r → r < m → Fr [b, q] H H' → BoxAt H' b q → Q (.int r) H'
section
variable {P : Program} {w : World} {K : PySem.W.Frag} {mg : Str → Option Value} {base : Heap} {f : Addr} {fd : FuncData}
theorem ok_take (F : Fun K "_law_take" "_law_take" s__law_take f fd) : FnOk P w K mg base CX0 1 f fd P__law_take (spTake K) := by
  refine F.ok sc__law_take (fun vs H Q E h => ?_) (fun cdv A outer s H vs Q E hr h => ?_)
  · obtain ⟨b, q, m, rfl, _⟩ := h
    rfl
  obtain ⟨b, q, m, rfl, hB, h0, h1, k⟩ := h
  have nd := (sc__law_take).nd
  have hu := hr.units
  have nbq := hB.ne
  obtain ⟨z, ns, hb, hq, hl⟩ := hB
  refine ⟨_, pss_cons (ps_if (pt_cmpR (op_eqD hu) (pe_ix ix_list (pv 0) pe_int (fun _ _ => rfl)) (pe_lst pa_nil) (nomark _))
    (pss_cons (ps_asg (pe_op op_mod (pe_op op_mul (pe_ix ix_list (pv 0) pe_int (fun _ _ => rfl)) pe_int) pe_int) (pg_sub (pv 0) pe_int set_list))
    (pss_one (ps_ret (pe_op op_mod (pe_op op_fdiv (pe_ix ix_list (pv 0) pe_int (fun _ _ => rfl)) pe_int) (pv 1)))))
    (pss_nil))
  (pss_cons (ps_set (i := 2) nd rfl (Or.inl rfl) (pe_ix ix_list (pe_ix ix_list (pv 0) pe_int (fun _ _ => rfl)) pe_int (fun _ _ => rfl)))
  (pss_cons (ps_asg (pe_op op_fdiv (pv 2) (pv 1)) (pg_sub (pe_ix ix_list (pv 0) pe_int (fun _ _ => rfl)) pe_int set_list))
  (pss_cons (ps_if (PW.pt (pw_or (pt_cmpR op_eq (pe_ix ix_list (pe_ix ix_list (pv 0) pe_int (fun _ _ => rfl)) pe_int (fun _ _ => rfl)) pe_int (nomark _)) (pw_or1 (pt_cmpR op_eq (pe_ix ix_list (pe_ix ix_list (pv 0) pe_int (fun _ _ => rfl)) pe_int (fun _ _ => rfl)) (pe_un un_neg pe_int) (nomark _)))))
    (pss_one (ps_expr (pe_bm PySem.F.plainAttrs_list PySem.F.slot_list_pop PySem.F.type_list_pop mt_popAt (pe_ix ix_list (pv 0) pe_int (fun _ _ => rfl)) (pa_cons pe_int pa_nil))))
    (pss_nil))
  (pss_one (ps_ret (pe_op op_mod (pv 2) (pv 1))))))), ?_⟩
  -- if box[0] == []
  refine ⟨_, rfl, b, _, _, .ref q, rfl, rfl, SqL.of hb, rfl, Nat.zero_le _, fun e he => ?_⟩
  have nqe : q ≠ e := ne_of_none hq he
  have nbe : b ≠ e := ne_of_none hb he
  have hb1 : upd H e (.lst []) b = some (.lst [.ref q, .int z]) := by rw [upd_ne nbe]; exact hb
  have hq1 : upd H e (.lst []) q = some (.lst (ns.map V.int)) := by rw [upd_ne nqe]; exact hq
  have f1 : Fr [b, q] H (upd H e (.lst [])) := Fr.new he
  refine ⟨.list (ns.map PyData.int), .list [], .lst (SqL.of hq1) (ints_dp ns), .lst (SqL.of upd_same) .nil, ints_shaped ns, ints_shaped [], _, rfl, ?_⟩
  cases ns with
  | nil =>
    refine iteT ?_
    -- box[1] = box[1] * 48271 % 2147483647; return box[1] // 7 % many
    refine ⟨_, rfl, b, _, _, .int z, rfl, rfl, SqL.of hb1, rfl, _, _, rfl, rfl, .inr (by constructor <;> decide), _, _, rfl, rfl, (by show (0 : Int) < 2147483647; decide), ?_⟩
    refine ⟨_, rfl, b, _, _, 1, rfl, rfl, hb1, rfl, ?_⟩
    refine ⟨_, rfl, b, _, _, _, rfl, rfl, SqL.of upd_same, rfl, _, _, rfl, rfl, ⟨by decide, by decide⟩, _, rfl, _, _, rfl, rfl, h0, ?_⟩
    refine k _ _ (Int.emod_nonneg _ (by omega)) (Int.emod_lt_of_pos _ h0) (f1.trans (Fr.lst hb1 (by simp))) ⟨_, [], upd_same, by rw [upd_ne nbq.symm]; exact hq1, by simp⟩
  | cons n ns =>
    refine iteF ?_
    -- number = box[0][0]
    refine ⟨_, rfl, b, _, _, .ref q, rfl, rfl, SqL.of hb1, rfl, q, _, _, .int n, rfl, rfl, SqL.of hq1, atI_zero _ _, ?_⟩
    -- box[0][0] = number // many
    refine ⟨_, rfl, _, rfl, _, _, rfl, rfl, ⟨h0, by omega⟩, _, rfl, b, _, _, .ref q, rfl, rfl, SqL.of hb1, rfl, q, _, _, 0, rfl, rfl, hq1, ixN_zero _, ?_⟩
    have hb2 : upd (upd H e (.lst [])) q (.lst (((n / m) :: ns).map V.int)) b = some (.lst [.ref q, .int z]) := by rw [upd_ne nbq]; exact hb1
    have hq2 : upd (upd H e (.lst [])) q (.lst (((n / m) :: ns).map V.int)) q = some (.lst (((n / m) :: ns).map V.int)) := upd_same
    have f2 : Fr [b, q] H (upd (upd H e (.lst [])) q (.lst (((n / m) :: ns).map V.int))) := f1.trans (Fr.lst hq1 (by simp))
    have fin : ∀ H', Fr [b, q] H H' → BoxAt H' b q → Q (.int (n % m)) H' := fun H' ff hB => k _ _ (Int.emod_nonneg _ (by omega)) (Int.emod_lt_of_pos _ h0) ff hB
    have hl' : ns.length ≤ 62 := by simpa using hl
    have pop : ∀ (H2 : Hp), H2 = upd (upd H e (.lst [])) q (.lst (((n / m) :: ns).map V.int)) → Fr [b, q] H (upd H2 q (.lst (ns.map V.int))) ∧ BoxAt (upd H2 q (.lst (ns.map V.int))) b q := by
      rintro H2 rfl
      refine ⟨f2.trans (Fr.lst hq2 (by simp)), z, ns, by rw [upd_ne nbq]; exact hb2, upd_same, by omega⟩
    refine ⟨_, rfl, b, _, _, .ref q, rfl, rfl, SqL.of hb2, rfl, q, _, _, .int (n / m), rfl, rfl, SqL.of hq2, atI_zero _ _, rfl, _, rfl, ?_⟩
    refine ite2 (fun _ => ?_) (fun _ => ?_)
    · refine iteT ?_
      refine ⟨_, rfl, b, _, _, .ref q, rfl, rfl, SqL.of hb2, rfl, .inl ⟨rfl, _, SqL.of hq2⟩, q, _, _, 0, _, rfl, rfl, hq2, by decide, by decide, seq_zero _, rfl, ?_⟩
      obtain ⟨p1, p2⟩ := pop _ rfl
      exact ⟨_, rfl, _, rfl, _, _, rfl, rfl, h0, fin _ p1 p2⟩
    · refine ⟨_, rfl, b, _, _, .ref q, rfl, rfl, SqL.of hb2, rfl, q, _, _, .int (n / m), rfl, rfl, SqL.of hq2, atI_zero _ _, _, rfl, rfl, _, rfl, ?_⟩
      refine ite2 (fun _ => ?_) (fun _ => ?_)
      · refine ⟨_, rfl, b, _, _, .ref q, rfl, rfl, SqL.of hb2, rfl, .inl ⟨rfl, _, SqL.of hq2⟩, q, _, _, 0, _, rfl, rfl, hq2, by decide, by decide, seq_zero _, rfl, ?_⟩
        obtain ⟨p1, p2⟩ := pop _ rfl
        exact ⟨_, rfl, _, rfl, _, _, rfl, rfl, h0, fin _ p1 p2⟩
      · exact ⟨_, rfl, _, rfl, _, _, rfl, rfl, h0, fin _ f2 ⟨z, _, hb2, hq2, by simpa using hl⟩⟩
end
end TT

namespace TT
open PySem L2

/-! ### trees, patterns, builds: tips and labelled nodes -/
inductive Ge where
  | tip (ks : List NestedKey)
  | node (l : Str) (gs : List Ge)
namespace Ge
mutual
def key : Ge → NestedKey
  | .tip ks => .tup ks
  | .node l gs => .tup [.text l, .tup (keys gs)]
def keys : List Ge → List NestedKey
  | [] => []
  | g :: gs => key g :: keys gs
end
def data (g : Ge) : PyData := g.key.data
def datas (gs : List Ge) : List PyData := NestedKey.datas (keys gs)
theorem datas_cons (g : Ge) (gs : List Ge) : datas (g :: gs) = g.data :: datas gs := by simp only [datas, keys, NestedKey.datas, data]
theorem datas_nil : datas [] = [] := by simp only [datas, keys, NestedKey.datas]
theorem datas_map : ∀ gs : List Ge, datas gs = gs.map data
  | [] => datas_nil
  | g :: gs => by rw [datas_cons, datas_map gs, List.map_cons]
theorem keys_map : ∀ gs : List Ge, keys gs = gs.map key
  | [] => by simp [keys]
  | g :: gs => by simp only [keys, keys_map gs, List.map_cons]
theorem data_tip (ks : List NestedKey) : (tip ks).data = .tuple (NestedKey.datas ks) := by simp only [data, key, NestedKey.data]
theorem data_node (l : Str) (gs : List Ge) : (node l gs).data = .tuple [.str l, .tuple (datas gs)] := by simp only [data, key, NestedKey.data, NestedKey.datas, datas]
theorem tupy_data (g : Ge) : tupy g.data = true := nk_tupy _
theorem tupy_datas (gs : List Ge) : tupyAll (datas gs) = true := nk_tupyAll _
mutual
def size : Ge → Nat
  | .tip _ => 1
  | .node _ gs => 1 + sizes gs
def sizes : List Ge → Nat
  | [] => 0
  | g :: gs => size g + sizes gs
end
theorem size_pos (g : Ge) : 1 ≤ g.size := by cases g <;> simp [size]
mutual
def levels : Ge → Nat
  | .tip _ => 1
  | .node _ gs => 1 + levelsAll gs
def levelsAll : List Ge → Nat
  | [] => 0
  | g :: gs => max (levels g) (levelsAll gs)
end
theorem levels_pos (g : Ge) : 1 ≤ g.levels := by cases g <;> simp [levels]
theorem levels_mem : ∀ {gs : List Ge} {g : Ge}, g ∈ gs → g.levels ≤ levelsAll gs
  | _ :: _, _, .head _ => by simp only [levelsAll]; exact Nat.le_max_left _ _
  | _ :: gs, g, .tail _ h => by
    have := levels_mem (gs := gs) h
    simp only [levelsAll]
    omega
theorem sizes_append : ∀ gs hs : List Ge, sizes (gs ++ hs) = sizes gs + sizes hs
  | [], hs => by simp [sizes]
  | g :: gs, hs => by simp only [List.cons_append, sizes, sizes_append gs hs]; omega
theorem levelsAll_append : ∀ gs hs : List Ge, levelsAll (gs ++ hs) = max (levelsAll gs) (levelsAll hs)
  | [], hs => by simp [levelsAll]
  | g :: gs, hs => by simp only [List.cons_append, levelsAll, levelsAll_append gs hs]; omega
end Ge

def isL (l : Str) : Prop := ∃ c : Nat, 97 ≤ c ∧ c ≤ 102 ∧ l = ⟨#[c]⟩
def letters6 : List Str := ["a", "b", "c", "d", "e", "f"]
theorem isL_mem {l : Str} (h : isL l) : l ∈ letters6 := by
  obtain ⟨c, h1, h2, rfl⟩ := h
  have hc : c = 97 ∨ c = 98 ∨ c = 99 ∨ c = 100 ∨ c = 101 ∨ c = 102 := by omega
  rcases hc with rfl | rfl | rfl | rfl | rfl | rfl <;> decide +kernel
theorem isL_of {l : Str} (h : l ∈ letters6) : isL l := by
  unfold letters6 at h
  simp only [List.mem_cons, List.not_mem_nil, or_false] at h
  rcases h with rfl | rfl | rfl | rfl | rfl | rfl
  · exact ⟨97, by decide, by decide, rfl⟩
  · exact ⟨98, by decide, by decide, rfl⟩
  · exact ⟨99, by decide, by decide, rfl⟩
  · exact ⟨100, by decide, by decide, rfl⟩
  · exact ⟨101, by decide, by decide, rfl⟩
  · exact ⟨102, by decide, by decide, rfl⟩
theorem isL_ok {l : Str} (h : isL l) : PyData.strOk l = true := by
  have := isL_mem h
  unfold letters6 at this
  simp only [List.mem_cons, List.not_mem_nil, or_false] at this
  rcases this with rfl | rfl | rfl | rfl | rfl | rfl <;> decide +kernel

mutual
/-- labels are letters, at most three below each, tips as T says -/
def Wf (T : List NestedKey → Prop) : Ge → Prop
  | .tip ks => T ks
  | .node l gs => isL l ∧ gs.length ≤ 3 ∧ WfAll T gs
def WfAll (T : List NestedKey → Prop) : List Ge → Prop
  | [] => True
  | g :: gs => Wf T g ∧ WfAll T gs
end
theorem WfAll.mem {T : List NestedKey → Prop} : ∀ {gs : List Ge} {g : Ge}, WfAll T gs → g ∈ gs → Wf T g
  | _ :: _, _, h, .head _ => by simp only [WfAll] at h; exact h.1
  | _ :: gs, g, h, .tail _ m => by simp only [WfAll] at h; exact WfAll.mem h.2 m
theorem WfAll.of {T : List NestedKey → Prop} : ∀ {gs : List Ge}, (∀ g ∈ gs, Wf T g) → WfAll T gs
  | [], _ => by simp only [WfAll]
  | g :: gs, h => by simp only [WfAll]; exact ⟨h g List.mem_cons_self, WfAll.of fun x hx => h x (List.mem_cons_of_mem _ hx)⟩
theorem WfAll.append {T : List NestedKey → Prop} {gs hs : List Ge} (h : WfAll T gs) (h' : WfAll T hs) : WfAll T (gs ++ hs) :=
  WfAll.of fun g hg => by rcases List.mem_append.mp hg with q | q; exact h.mem q; exact h'.mem q
mutual
theorem Wf.imp {T T' : List NestedKey → Prop} (i : ∀ ks, T ks → T' ks) : ∀ {g : Ge}, Wf T g → Wf T' g
  | .tip ks, h => by simp only [Wf] at h ⊢; exact i _ h
  | .node l gs, h => by simp only [Wf] at h ⊢; exact ⟨h.1, h.2.1, WfAll.imp i h.2.2⟩
theorem WfAll.imp {T T' : List NestedKey → Prop} (i : ∀ ks, T ks → T' ks) : ∀ {gs : List Ge}, WfAll T gs → WfAll T' gs
  | [], _ => by simp only [WfAll]
  | g :: gs, h => by simp only [WfAll] at h ⊢; exact ⟨Wf.imp i h.1, WfAll.imp i h.2⟩
end
/-- a tree has no tips -/
abbrev NoTip : List NestedKey → Prop := fun _ => False
abbrev kAny : List NestedKey := [.text "any"]
abbrev kLeaf : List NestedKey := [.text "leaf"]
abbrev PatTip : List NestedKey → Prop := fun ks => ks = kAny ∨ ks = kLeaf
abbrev gAny : Ge := .tip kAny
abbrev gLeaf : Ge := .tip kLeaf
def kDo (s : Nat) (p : List Nat) : List NestedKey := [.text "do", .num s, .tup (p.map fun n => .num (n : Nat))]

/-! ### which fit -/
def Ge.lab : Ge → Str
  | .tip _ => "any"
  | .node l _ => l
def Ge.gs : Ge → List Ge
  | .tip _ => []
  | .node _ gs => gs
mutual
def fits : Ge → Ge → Bool
  | .tip ks, t => decide (ks = kAny) || t.gs.isEmpty
  | .node l ps, t => decide (l = t.lab) && fitsAll ps t.gs
def fitsAll : List Ge → List Ge → Bool
  | [], [] => true
  | p :: ps, t :: ts => fits p t && fitsAll ps ts
  | [], _ :: _ => false
  | _ :: _, [] => false
end
theorem fitsAll_len : ∀ {ps ts : List Ge}, ps.length ≠ ts.length → fitsAll ps ts = false
  | [], [], h => absurd rfl h
  | p :: ps, t :: ts, h => by
    have : fitsAll ps ts = false := fitsAll_len (fun e => h (by simp [e]))
    simp only [fitsAll, this, Bool.and_false]
  | [], _ :: _, _ => by simp only [fitsAll]
  | _ :: _, [], _ => by simp only [fitsAll]

/-! ### all places of a tree, all parts of a pattern: each ahead of those below -/
mutual
def places : Ge → List (List Nat × Ge)
  | .tip ks => [([], .tip ks)]
  | .node l gs => ([], .node l gs) :: placesFrom 0 gs
def placesFrom : Nat → List Ge → List (List Nat × Ge)
  | _, [] => []
  | k, g :: gs => (places g).map (fun x => (k :: x.1, x.2)) ++ placesFrom (k + 1) gs
end
mutual
def within : Ge → List Ge
  | .tip ks => [.tip ks]
  | .node l gs => .node l gs :: withinAll gs
def withinAll : List Ge → List Ge
  | [] => []
  | g :: gs => within g ++ withinAll gs
end
theorem withinAll_append : ∀ gs hs : List Ge, withinAll (gs ++ hs) = withinAll gs ++ withinAll hs
  | [], hs => by simp [withinAll]
  | g :: gs, hs => by simp only [List.cons_append, withinAll, withinAll_append gs hs, List.append_assoc]
mutual
theorem places_len : ∀ g : Ge, (places g).length = g.size
  | .tip ks => by simp [places, Ge.size]
  | .node l gs => by simp only [places, Ge.size, List.length_cons, placesFrom_len 0 gs]; omega
theorem placesFrom_len : ∀ (k : Nat) (gs : List Ge), (placesFrom k gs).length = Ge.sizes gs
  | _, [] => by simp [placesFrom, Ge.sizes]
  | k, g :: gs => by simp only [placesFrom, Ge.sizes, List.length_append, List.length_map, places_len g, placesFrom_len (k + 1) gs]
end
mutual
theorem within_len : ∀ g : Ge, (within g).length = g.size
  | .tip ks => by simp [within, Ge.size]
  | .node l gs => by simp only [within, Ge.size, List.length_cons, withinAll_len gs]; omega
theorem withinAll_len : ∀ (gs : List Ge), (withinAll gs).length = Ge.sizes gs
  | [] => by simp [withinAll, Ge.sizes]
  | g :: gs => by simp only [withinAll, Ge.sizes, List.length_append, within_len g, withinAll_len gs]
end

/-! ### data in the heap -/
section
variable {K : PySem.W.Frag} {H : Hp} {v : V}
theorem dp_tuple {ds : List PyData} (h : Dp K H v (.tuple ds)) : ∃ a vs, v = .ref a ∧ SqT K H a vs ∧ DpAll K H vs ds := by
  cases h with
  | tup hs ha => exact ⟨_, _, rfl, hs, ha⟩
theorem dp_str {x : Str} (h : Dp K H v (.str x)) : v = .str x := by cases h; rfl
theorem dp_int {i : Int} (h : Dp K H v (.int i)) : v = .int i := by cases h; rfl
theorem dp_non (h : Dp K H v .none) : v = .non := by cases h; rfl
theorem dpAll_1 {vs : List V} {d : PyData} (h : DpAll K H vs [d]) : ∃ v, vs = [v] ∧ Dp K H v d := by
  cases h with
  | cons a t => cases t; exact ⟨_, rfl, a⟩
theorem dpAll_2 {vs : List V} {d e : PyData} (h : DpAll K H vs [d, e]) : ∃ v u, vs = [v, u] ∧ Dp K H v d ∧ Dp K H u e := by
  cases h with
  | cons a t =>
    obtain ⟨u, rfl, b⟩ := dpAll_1 t
    exact ⟨_, _, rfl, a, b⟩
theorem dpAll_3 {vs : List V} {d e g : PyData} (h : DpAll K H vs [d, e, g]) : ∃ v u x, vs = [v, u, x] ∧ Dp K H v d ∧ Dp K H u e ∧ Dp K H x g := by
  cases h with
  | cons a t =>
    obtain ⟨u, x, rfl, b, c⟩ := dpAll_2 t
    exact ⟨_, _, _, rfl, a, b, c⟩
theorem dpAll_4 {vs : List V} {d e g i : PyData} (h : DpAll K H vs [d, e, g, i]) : ∃ v u x y, vs = [v, u, x, y] ∧ Dp K H v d ∧ Dp K H u e ∧ Dp K H x g ∧ Dp K H y i := by
  cases h with
  | cons a t =>
    obtain ⟨u, x, y, rfl, b, c, e⟩ := dpAll_3 t
    exact ⟨_, _, _, _, rfl, a, b, c, e⟩
theorem dp_node {l : Str} {gs : List Ge} (h : Dp K H v (Ge.node l gs).data) : ∃ a b vs, v = .ref a ∧ SqT K H a [.str l, .ref b] ∧ SqT K H b vs ∧ DpAll K H vs (Ge.datas gs) := by
  rw [Ge.data_node] at h
  obtain ⟨a, us, rfl, hs, ha⟩ := dp_tuple h
  obtain ⟨x, y, rfl, hx, hy⟩ := dpAll_2 ha
  cases dp_str hx
  obtain ⟨b, vs, rfl, hb, hv⟩ := dp_tuple hy
  exact ⟨a, b, vs, rfl, hs, hb, hv⟩
theorem dp_node_of {l : Str} {gs : List Ge} {a b : Addr} {vs : List V} (h1 : SqT K H a [.str l, .ref b]) (h2 : SqT K H b vs) (h3 : DpAll K H vs (Ge.datas gs)) : Dp K H (.ref a) (Ge.node l gs).data := by
  rw [Ge.data_node]
  exact .tup h1 (.cons (.str l) (.cons (.tup h2 h3) .nil))
theorem dp_tip {ks : List NestedKey} (h : Dp K H v (Ge.tip ks).data) : ∃ a vs, v = .ref a ∧ SqT K H a vs ∧ DpAll K H vs (NestedKey.datas ks) := by
  rw [Ge.data_tip] at h
  exact dp_tuple h
theorem dp_word {x : Str} (h : Dp K H v (Ge.tip [.text x]).data) : ∃ a, v = .ref a ∧ SqT K H a [.str x] := by
  obtain ⟨a, vs, rfl, hs, hv⟩ := dp_tip h
  simp only [NestedKey.datas, NestedKey.data] at hv
  obtain ⟨u, rfl, hu⟩ := dpAll_1 hv
  cases dp_str hu
  exact ⟨a, rfl, hs⟩
theorem dp_word_of {x : Str} {a : Addr} (h : SqT K H a [.str x]) : Dp K H (.ref a) (Ge.tip [.text x]).data := by
  rw [Ge.data_tip]
  simp only [NestedKey.datas, NestedKey.data]
  exact .tup h (.cons (.str x) .nil)
theorem dp_ref {g : Ge} (h : Dp K H v g.data) : ∃ a vs, v = .ref a ∧ SqT K H a vs := by
  cases g with
  | tip ks => obtain ⟨a, vs, e, hs, _⟩ := dp_tip h; exact ⟨a, vs, e, hs⟩
  | node l gs => obtain ⟨a, b, vs, e, hs, _⟩ := dp_node h; exact ⟨a, _, e, hs⟩
theorem Fr.ge {S : List Addr} {H' : Hp} {g : Ge} (e : Fr S H H') (h : Dp K H v g.data) : Dp K H' v g.data := e.dp _ _ g.tupy_data h
theorem Fr.ges {S : List Addr} {H' : Hp} {gs : List Ge} {vs : List V} (e : Fr S H H') (h : DpAll K H vs (Ge.datas gs)) : DpAll K H' vs (Ge.datas gs) := e.dpAll _ _ (Ge.tupy_datas gs) h
theorem ges_get {gs : List Ge} {vs : List V} {i : Nat} {u : V} (h : DpAll K H vs (Ge.datas gs)) (e : vs[i]? = some u) : ∃ g, gs[i]? = some g ∧ Dp K H u g.data := by
  obtain ⟨d, h1, h2⟩ := DpAll.get h e
  rw [Ge.datas_map, List.getElem?_map] at h1
  obtain ⟨g, hg, rfl⟩ := Option.map_eq_some_iff.mp h1
  exact ⟨g, hg, h2⟩
theorem ges_get' {gs : List Ge} {vs : List V} {i : Nat} {g : Ge} (h : DpAll K H vs (Ge.datas gs)) (e : gs[i]? = some g) : ∃ u, vs[i]? = some u ∧ Dp K H u g.data :=
  DpAll.get' h (by rw [Ge.datas_map, List.getElem?_map, e]; rfl)
theorem ges_len {gs : List Ge} {vs : List V} (h : DpAll K H vs (Ge.datas gs)) : vs.length = gs.length := by
  rw [DpAll.length h, Ge.datas_map, List.length_map]
theorem ges_snoc {gs : List Ge} {vs : List V} {g : Ge} {u : V} (h : DpAll K H vs (Ge.datas gs)) (a : Dp K H u g.data) : DpAll K H (vs ++ [u]) (Ge.datas (gs ++ [g])) := by
  have := DpAll.snoc h a
  rw [Ge.datas_map] at this ⊢
  rw [List.map_append]
  exact this
end
/-! ### equal data -/
mutual
theorem nk_eqv : ∀ a b : NestedKey, PyData.eqv a.data b.data = NestedKey.beq a b
  | .none, .none => by simp only [NestedKey.data, PyData.eqv, NestedKey.beq]
  | .num a, .num b => by simp only [NestedKey.data, PyData.eqv, NestedKey.beq]; exact Bool.beq_eq_decide_eq a b
  | .text a, .text b => by simp only [NestedKey.data, PyData.eqv, NestedKey.beq]; by_cases e : a = b <;> simp [e]
  | .tup a, .tup b => by simp only [NestedKey.data, PyData.eqv, NestedKey.beq]; exact nk_eqvAll a b
  | .none, .num _ | .none, .text _ | .none, .tup _ => by simp only [NestedKey.data, PyData.eqv, NestedKey.beq]
  | .num _, .none | .num _, .text _ | .num _, .tup _ => by simp only [NestedKey.data, PyData.eqv, NestedKey.beq]
  | .text _, .none | .text _, .num _ | .text _, .tup _ => by simp only [NestedKey.data, PyData.eqv, NestedKey.beq]
  | .tup _, .none | .tup _, .num _ | .tup _, .text _ => by simp only [NestedKey.data, PyData.eqv, NestedKey.beq]
theorem nk_eqvAll : ∀ a b : List NestedKey, PyData.eqvAll (NestedKey.datas a) (NestedKey.datas b) = NestedKey.beqAll a b
  | [], [] => by simp only [NestedKey.datas, PyData.eqvAll, NestedKey.beqAll]
  | a :: as, b :: bs => by simp only [NestedKey.datas, PyData.eqvAll, NestedKey.beqAll, nk_eqv a b, nk_eqvAll as bs]
  | [], _ :: _ => by simp only [NestedKey.datas, PyData.eqvAll, NestedKey.beqAll]
  | _ :: _, [] => by simp only [NestedKey.datas, PyData.eqvAll, NestedKey.beqAll]
end
theorem nk_eqv' (a b : NestedKey) : PyData.eqv a.data b.data = decide (a = b) := by rw [nk_eqv, NestedKey.decide_eq]
end TT

namespace TT
open PySem PySem.Spec PyProof.Rows L2
/-! The layer's rules with the written part as a letter of its own, so that they stand in a comprehension's block too. -/
def rLenK (K : PySem.W.Frag) : List V → Hp → VK → Prop := fun xs H Q => ∃ p ys, xs = [.ref p] ∧ (SqL K H p ys ∨ SqT K H p ys) ∧ Q (.int ys.length) H
def rListK (K : PySem.W.Frag) : List V → Hp → VK → Prop := fun xs H Q => ∃ p ys, xs = [.ref p] ∧ (SqL K H p ys ∨ SqT K H p ys) ∧ ∀ l, H l = none → Q (.ref l) (upd H l (.lst ys))
def rTupK (K : PySem.W.Frag) : List V → Hp → VK → Prop := fun xs H Q => ∃ p ys, xs = [.ref p] ∧ ((SqL K H p ys ∧ ∀ l, H l = none → Q (.ref l) (upd H l (.tup ys))) ∨ (SqT K H p ys ∧ Q (.ref p) H))
def rJoinK (K : PySem.W.Frag) : V → List V → Hp → VK → Prop := fun x xs H Q => ∃ a p, ∃ ys : List Str, x = .str a ∧ xs = [.ref p] ∧ (SqL K H p (ys.map V.str) ∨ SqT K H p (ys.map V.str)) ∧ (ys.map (·.length)).sum + ys.length * a.length ≤ 16777216 ∧ Q (.str (Txt.join a ys)) H
def rListN (P : Program) (w : World) (K : PySem.W.Frag) : List V → Hp → VK → Prop := fun ys H Q => ∃ d xs, ys = [.ref d] ∧ Nd P w K H d xs ∧ ∀ l, H l = none → Q (.ref l) (upd H l (.lst (xs.map fun x => .ref x.2.1)))
def rLenN (P : Program) (w : World) (K : PySem.W.Frag) : List V → Hp → VK → Prop := fun ys H Q => ∃ d xs, ys = [.ref d] ∧ Nd P w K H d xs ∧ Q (.int ((xs.length : Nat) : Int)) H
def tTruK (K : PySem.W.Frag) (ta : TE) : TT := fun σ H Q => ta σ H fun x H' => ∃ k, TruV K x H' k ∧ Q k H'
def rListS : List V → Hp → VK → Prop := fun ys H Q => ∃ z : Str, ys = [.str z] ∧ z.length ≤ sizeLine ∧ ∀ l, H l = none → Q (.ref l) (upd H l (.lst (z.cps.toList.map fun c => .str ⟨#[c]⟩)))
section
variable {X : Cx} (K : PySem.W.Frag)
theorem ix_listK (hK : X.K = K := by rfl) : IxR X (rIxL K) := by subst hK; exact ix_list
theorem ix_tupK (hK : X.K = K := by rfl) : IxR X (rIxT K) := by subst hK; exact ix_tup
theorem call_lenK (hK : X.K = K := by rfl) : CallR X (.builtin "len") (rLenK K) := by subst hK; exact call_len_seq
theorem call_listK (hK : X.K = K := by rfl) : CallR X (.type "list") (rListK K) := by subst hK; exact call_list_of
theorem call_tupK (hK : X.K = K := by rfl) : CallR X (.type "tuple") (rTupK K) := by subst hK; exact call_tuple_of
theorem call_isiK' (hK : X.K = K := by rfl) : CallR X (.builtin "isinstance") (rIsi K) := by subst hK; exact call_isi
theorem op_inK (hK : X.K = K := by rfl) : OpR X (compareOp .In) (rIn K false) := by subst hK; exact op_in_seq
theorem op_notInK (hK : X.K = K := by rfl) : OpR X (compareOp .NotIn) (rIn K true) := by subst hK; exact op_notIn_seq
theorem op_catK (hK : X.K = K := by rfl) : OpR X (binaryOp .Add) (rCatA K) := by subst hK; exact op_catA
theorem op_repK (hK : X.K = K := by rfl) : OpR X (binaryOp .Mult) (rRepT K) := by subst hK; exact op_repT
theorem sl_tupK (hK : X.K = K := by rfl) : SlR X (rSlA K) := by subst hK; exact sl_tupA
theorem sl_listK (hK : X.K = K := by rfl) : SlR X (rSlL K) := by subst hK; exact sl_list
theorem cr_sumK (hc : X.calm = true) (hK : X.K = K := by rfl) : CallR X (.builtin "sum") (rSum K) := by subst hK; exact cr_sum hc
theorem cr_allK (hc : X.calm = true) (hK : X.K = K := by rfl) : CallR X (.builtin "all") (rAll K) := by subst hK; exact cr_all hc
theorem op_eqK (hu : X.A.units + 64 < cLine) (hK : X.K = K := by rfl) : OpR X (compareOp .Eq) (rEqD K) := by subst hK; exact op_eqD hu
theorem op_neK (hu : X.A.units + 64 < cLine) (hK : X.K = K := by rfl) : OpR X (compareOp .NotEq) (rNeD K) := by subst hK; exact op_neD hu
theorem op_inDK (hu : X.A.units + 65 < cLine) (hK : X.K = K := by rfl) : OpR X (compareOp .In) (rInD K) := by subst hK; exact op_inD hu
theorem op_notInDK (hu : X.A.units + 65 < cLine) (hK : X.K = K := by rfl) : OpR X (compareOp .NotIn) (rNotInD K) := by subst hK; exact op_notInD hu
theorem mt_joinK (hK : X.K = K := by rfl) : MtR X "str.join" (rJoinK K) := by subst hK; exact mt_join
end
theorem call_listNK {X : Cx} (P : Program) (w : World) (K : PySem.W.Frag) (hc : X.calm = true) (h1 : X.prog = P := by rfl) (h2 : X.w = w := by rfl) (hK : X.K = K := by rfl) : CallR X (.type "list") (rListN P w K) := by subst h1 h2 hK; exact call_listN hc
theorem call_lenNK {X : Cx} (P : Program) (w : World) (K : PySem.W.Frag) (h1 : X.prog = P := by rfl) (h2 : X.w = w := by rfl) (hK : X.K = K := by rfl) : CallR X (.builtin "len") (rLenN P w K) := by subst h1 h2 hK; exact call_lenN
section
variable {X : Cx} {a e o : Expr} {es : List Expr} {ta to td ty te : TE} {t : TA} {tg l : Expr} {tl : TE} {name : Str} {apos cpos pos : Pos} {T id : String} {r : V → List V → Hp → VK → Prop}
theorem pt_truthK (K : PySem.W.Frag) (ha : PE X a ta) (he : ∀ whole, isTrue a X.env whole = (do let v ← whole; standAt a.pos; holding [v] (truthy v)) := by intro _; rfl) (hK : X.K = K := by rfl) : PT X a (tTruK K ta) := by
  subst hK
  exact pt_truth ha he
theorem pi_listK (K : PySem.W.Frag) (hl : PE X l tl) (hK : X.K = K := by rfl) : PI X tg l (iList K tl) := by subst hK; exact pi_list hl
theorem pi_tupK (K : PySem.W.Frag) (hl : PE X l tl) (hK : X.K = K := by rfl) : PI X tg l (iTup K tl) := by subst hK; exact pi_tup hl
theorem pi_enumK {p pos tpos : Pos} {elts : List Expr} {kk : Nat} (K : PySem.W.Frag) (hg : Gl X "enumerate") (hm : X.mg "enumerate" = none) {ta' : TA} (ha : PA X [e] ta') (hs : starEach [e] X.env = [(false, eval e X.env)] := by rfl) (hK : X.K = K := by rfl) :
    PI X (.Tuple elts kk tpos) (.Call (.Name "enumerate" p) [e] [] pos) (iEnum K ta') := by subst hK; exact pi_enum hg hm ha hs
theorem pi_zipK {e2 : Expr} {p pos tpos : Pos} {elts : List Expr} {kk : Nat} (K : PySem.W.Frag) (hg : Gl X "zip") (hm : X.mg "zip" = none) {ta' : TA} (ha : PA X [e, e2] ta')
    (hs : starEach [e, e2] X.env = (false, eval e X.env) :: starEach [e2] X.env := by rfl) (hpl : (backTo pos (starEach [e2] X.env)).any (·.1) = false := by rfl) (hK : X.K = K := by rfl) :
    PI X (.Tuple elts kk tpos) (.Call (.Name "zip" p) [e, e2] [] pos) (RZ.iZipA K ta') := by subst hK; exact RZ.pi_zipA hg hm ha hs hpl
theorem pe_bmK (K : PySem.W.Frag) (pa : PlainAttrs T) (slot : Slot T name id) (hty : typeOf (.builtin id) = pure (.type "method_descriptor")) (hm : MtR X id r) (ho : PE X o to) (ha : PA X (e :: es) t) (hK : X.K = K := by rfl)
    (hbase : attributeBase o name X.env (eval o X.env) = eval o X.env := by rfl)
    (hfew : ((backTo cpos (starEach (e :: es) X.env)).all (fun x => !x.1) && (backToKw cpos (keywordEach [] X.env)).all (fun x => x.1.isSome)
      && decide ((e :: es).length + ([] : List Keyword).length + (if ([] : List Keyword).isEmpty then 0 else 1) < 30)) = true := by rfl)
    (hline : (apos.endLine == cpos.line) = true := by rfl) (hs : starEach (e :: es) X.env = (false, eval e X.env) :: starEach es X.env := by rfl) (hplain : (backTo cpos (starEach es X.env)).any (·.1) = false := by rfl) :
    PE X (.Call (.Attribute o name apos) (e :: es) [] cpos) (tBM K T r to t) := by subst hK; exact pe_bm pa slot hty hm ho ha hbase hfew hline hs hplain
theorem pe_bm0K (K : PySem.W.Frag) (pa : PlainAttrs T) (slot : Slot T name id) (hty : typeOf (.builtin id) = pure (.type "method_descriptor")) (hm : MtR X id r) (ho : PE X o to) (hK : X.K = K := by rfl)
    (hbase : attributeBase o name X.env (eval o X.env) = eval o X.env := by rfl) (hline : (apos.endLine == cpos.line) = true := by rfl) : PE X (.Call (.Attribute o name apos) [] [] cpos) (tBM0 K T r to) := by subst hK; exact pe_bm0 pa slot hty hm ho hbase hline
theorem pe_joinK (K : PySem.W.Frag) (ho : PE X o to) (he : PE X e te) (hK : X.K = K := by rfl) (hs : starEach [e] X.env = [(false, eval e X.env)] := by rfl) (hbase : attributeBase o "join" X.env (eval o X.env) = eval o X.env := by rfl) (hline : (apos.endLine == pos.line) = true := by rfl) :
    PE X (.Call (.Attribute o "join" apos) [e] [] pos) (tM1 (rJoinK K) to te) := by subst hK; exact pe_join ho he hs hbase hline
theorem pg_tupK {k : Nat} {t : TGs} {n : Nat} (K : PySem.W.Frag) (hc : X.calm = true) (h : PGs X es t) (hK : X.K = K := by rfl)
    (hn : (assignEach es X.env).length = n := by rfl) (hst : (assignEach es X.env).findIdx? (·.1) = none := by rfl) : PG X (.Tuple es k pos) (gTup K n t) := by subst hK; exact pg_tup hc h hn hst
end
/-- list of a text: its signs -/
theorem call_listS {X : Cx} (hc : X.calm = true) : CallR X (.type "list") rListS := by
  intro pins s σ H ys us Q I r h
  obtain ⟨z, rfl, hz, q⟩ := h
  obtain ⟨u, rfl, rx⟩ := vals1 r
  obtain ⟨t, rfl⟩ := rx
  refine PySem.call_list_str (I.ok.hd hc) z t (fun h' tk acc' c' kp hS hacc => ?_) hz
  refine ⟨.ref s.heap.objs.size, _, I.laid (a := s.heap.objs.size) (o := .lst (z.cps.toList.map fun c => .str ⟨#[c]⟩)) (t' := tk) kp (Nat.le_refl _) ⟨by rw [List.length_map]; exact hz, acc'.toList, c', ?_, by simpa using hS⟩, rfl, q _ (I.hok.fresh (Nat.le_refl _))⟩
  have all : ∀ (n : Nat) (as : List V) (bs : List Value), as.length = n → bs.length = n → (∀ (j : Nat) (a : V) (b : Value), as[j]? = some a → bs[j]? = some b → RelV a b) → Vals as bs := by
    intro n
    induction n with
    | zero => intro as bs e1 e2 _; cases as <;> cases bs <;> simp_all; exact .nil
    | succ n ih =>
      intro as bs e1 e2 hj
      cases as with
      | nil => simp at e1
      | cons a as =>
        cases bs with
        | nil => simp at e2
        | cons b bs => exact .cons (hj 0 a b rfl rfl) (ih as bs (by simpa using e1) (by simpa using e2) fun j a' b' h1 h2 => hj (j + 1) a' b' (by simpa using h1) (by simpa using h2))
  refine all z.cps.size _ _ (by simp) (by rw [Array.length_toList, hacc.1]) fun j a b ha hb => ?_
  obtain ⟨c, t', hc', eb⟩ := hacc.2 j b (by rw [← Array.getElem?_toList]; exact hb)
  rw [List.getElem?_map, Array.getElem?_toList, hc'] at ha
  cases ha
  exact ⟨t', eb⟩

/-- t + u, as some tuple -/
def rCatP (K : PySem.W.Frag) : R2 := fun x y H Q => ∃ a b xs ys, x = .ref a ∧ y = .ref b ∧ SqT K H a xs ∧ SqT K H b ys ∧ xs.length + ys.length ≤ sizeLine ∧ ∀ (p : Addr) (H' : Hp), TT.Fr [] H H' → SqT K H' p (xs ++ ys) → Q (.ref p) H'
theorem op_catP {X : Cx} (K : PySem.W.Frag) (hK : X.K = K := by rfl) : OpR X (binaryOp .Add) (rCatP K) := by
  subst hK
  intro pins s σ H x y v u Q I rx ry h
  obtain ⟨a, b, xs, ys, rfl, rfl, ha, hb, hz, q⟩ := h
  refine op_catA pins s σ H _ _ v u Q I rx ry ⟨a, b, xs, ys, rfl, rfl, ha, hb, hz, fun e => ?_, fun _ e => ?_, fun _ _ p hp => q p _ (TT.Fr.new hp) (SqT.of upd_same)⟩
  · subst e
    exact q b H (TT.Fr.refl _ _) (by simpa using hb)
  · subst e
    exact q a H (TT.Fr.refl _ _) (by simpa using ha)
/-- t[lo:hi], as some tuple -/
def rSlP (K : PySem.W.Frag) : V → Option Int → Option Int → Hp → VK → Prop := fun x lo hi H Q => ∃ a xs, x = .ref a ∧ SqT K H a xs ∧ ∀ (p : Addr) (H' : Hp), TT.Fr [] H H' → SqT K H' p (cutV xs lo hi) → Q (.ref p) H'
end TT


namespace TT
open PySem L2

theorem BoxAt.fr0 {H H' : Hp} {b q : Addr} (h : BoxAt H b q) (f : Fr [] H H') : BoxAt H' b q := by
  obtain ⟨z, ns, h1, h2, h3⟩ := h
  exact ⟨z, ns, f.keep _ _ (by simp) h1, f.keep _ _ (by simp) h2, h3⟩
theorem BoxAt.fr {S : List Addr} {H H' : Hp} {b q : Addr} (h : BoxAt H b q) (f : Fr S H H') (hb : b ∉ S) (hq : q ∉ S) : BoxAt H' b q := by
  obtain ⟨z, ns, h1, h2, h3⟩ := h
  exact ⟨z, ns, f.keep _ _ hb h1, f.keep _ _ hq h2, h3⟩
theorem BoxAt.upd {H : Hp} {b q a : Addr} {o : HO} (h : BoxAt H b q) (ha : a ∉ [b, q]) : BoxAt (L2.upd H a o) b q := by
  obtain ⟨z, ns, h1, h2, h3⟩ := h
  simp only [List.mem_cons, List.not_mem_nil, or_false, not_or] at ha
  exact ⟨z, ns, by rw [upd_ne (Ne.symm ha.1)]; exact h1, by rw [upd_ne (Ne.symm ha.2)]; exact h2, h3⟩
theorem BoxAt.nb {H : Hp} {b q a : Addr} (h : BoxAt H b q) (ha : H a = none) : a ∉ [b, q] := by
  obtain ⟨z, ns, h1, h2, h3⟩ := h
  simp [(ne_of_none h1 ha).symm, (ne_of_none h2 ha).symm]
def spBegun (K : PySem.W.Frag) : Sp := fun vs H Q _ => ∃ (a : Addr) (ns : List Int), vs = [.ref a] ∧ SqL K H a (ns.map V.int) ∧ ns.length ≤ 63 ∧
  ∀ (b q : Addr) (H' : Hp), Fr [] H H' → H b = none → H q = none → BoxAt H' b q → Q (.ref b) H'
section
variable {P : Program} {w : World} {K : PySem.W.Frag} {mg : Str → Option Value} {base : Heap} {f : Addr} {fd : FuncData}
theorem ok_begun (F : Fun K "_law_begun" "_law_begun" s__law_begun f fd) (T : Txt K mg) : FnOk P w K mg base CX0 1 f fd P__law_begun (spBegun K) := by
  refine F.ok sc__law_begun (fun vs H Q E h => ?_) (fun cdv A outer s H vs Q E hr h => ?_)
  · obtain ⟨a, ns, rfl, _⟩ := h
    rfl
  obtain ⟨a, ns, rfl, hS, hl, k⟩ := h
  have nd := (sc__law_begun).nd
  refine ⟨_, pss_cons (ps_set (i := 1) nd rfl (Or.inl rfl) pe_int)
  (pss_cons (ps_for PassesOwn.never rfl (pi_listK K (pv 0)) (pg_name (i := 2) nd rfl (Or.inl rfl))
    (pss_one (ps_set (i := 1) nd rfl (Or.inl rfl) (pe_op op_mod (pe_op op_add (pe_op op_add (pe_op op_mul (pv 1) pe_int) (pe_op op_mul (pv 2) pe_int)) pe_int) pe_int))))
  (pss_one (ps_ret (pe_lst (pa_cons (pe_callTy (call_listK K) (by rfl) T.list_ (by decide +kernel) (pa_cons (pv 0) pa_nil)) (pa_cons (pe_op op_mul (pv 1) (pe_callTy call_int1 (by rfl) T.int_ (by decide +kernel) (pa_cons (pe_cmpR op_gt (pe_callB (call_lenK K) (by rfl) T.len_ PySem.boot_len (pa_cons (pv 0) pa_nil)) pe_int (nomark _)) pa_nil))) pa_nil)))))), ?_⟩
  refine ⟨_, rfl, a, rfl, ⟨_, hS⟩, for_list (K := K) (a := a) (xs := ns.map V.int) (fun i σ H' => ∃ (z : Int) (v : Option V), σ = [some (.ref a), some (.int z), v] ∧ H' = H ∧ -(2 ^ 64) < z ∧ z < 2 ^ 64)
    ⟨0, none, rfl, rfl, by decide, by decide⟩ (fun i σ H' _ ⟨z, v, _, e, _⟩ => by rw [e]; exact hS) ?_ ?_⟩
  · rintro i y σ H' hi ⟨z, v, rfl, rfl, h1, h2⟩
    obtain ⟨u, rfl⟩ : ∃ u, y = V.int u := by
      rw [List.getElem?_map] at hi
      obtain ⟨u, _, e⟩ := Option.map_eq_some_iff.mp hi
      exact ⟨u, e.symm⟩
    refine ⟨_, rfl, _, _, rfl, rfl, .inr ⟨by decide, by decide⟩, _, rfl, _, _, rfl, rfl, .inr ⟨by decide, by decide⟩, _, _, rfl, rfl, _, _, rfl, rfl, _, _, rfl, rfl, (by show (0 : Int) < 2147483647; decide), ?_⟩
    refine ⟨_, _, rfl, rfl, ?_, ?_⟩
    · have := Int.emod_nonneg (z * 48271 + u * 69621 + 11) (show (2147483647 : Int) ≠ 0 by decide)
      omega
    · have := Int.emod_lt_of_pos (z * 48271 + u * 69621 + 11) (show (0 : Int) < 2147483647 by decide)
      omega
  · rintro σ H' ⟨z, v, rfl, rfl, h1, h2⟩
    refine ⟨_, rfl, a, _, rfl, .inl hS, fun q hq => ?_⟩
    have f1 : Fr [] H' (upd H' q (.lst (ns.map V.int))) := Fr.new hq
    refine ⟨_, rfl, _, rfl, a, _, rfl, .inl (f1.sqL0 hS), _, _, rfl, rfl, .inr ⟨_, rfl, ?_⟩⟩
    refine ⟨_, _, rfl, rfl, .inl ⟨h1, h2⟩, (by show 2 ≤ sizeLine; decide), fun b hb => ?_⟩
    have nqb : q ≠ b := ne_of_none upd_same hb
    refine k b q _ (f1.trans (Fr.new hb)) (f1.free hb) hq ⟨_, ns, upd_same, by rw [upd_ne nqb, upd_same], hl⟩
end

/-! ### the letters of a case: a text of some of a to f -/
def LettersOk (z : Str) : Prop := 1 ≤ z.length ∧ z.length ≤ 6 ∧ ∀ c ∈ z.cps.toList, 97 ≤ c ∧ c ≤ 102
def spLetters (K : PySem.W.Frag) : Sp := fun vs H Q _ => ∃ (b q : Addr), vs = [.ref b] ∧ BoxAt H b q ∧ ∀ (z : Str) (H' : Hp), LettersOk z → Fr [b, q] H H' → BoxAt H' b q → Q (.str z) H'
def signV (c : Nat) : V := .str ⟨#[c]⟩
def lets6 : List Nat := [97, 98, 99, 100, 101, 102]
theorem four_at (i j k l r : Int) (h0 : 0 ≤ r) (h4 : r < 4) : ∃ n, atI [V.int i, .int j, .int k, .int l] r = some (.int n) ∧ (n = i ∨ n = j ∨ n = k ∨ n = l) := by
  have hr : r = 0 ∨ r = 1 ∨ r = 2 ∨ r = 3 := by omega
  rcases hr with rfl | rfl | rfl | rfl
  · exact ⟨i, rfl, .inl rfl⟩
  · exact ⟨j, rfl, .inr (.inl rfl)⟩
  · exact ⟨k, rfl, .inr (.inr (.inl rfl))⟩
  · exact ⟨l, rfl, .inr (.inr (.inr rfl))⟩
theorem map_erase {α β : Type} (f : α → β) : ∀ (l : List α) (i : Nat), (l.eraseIdx i).map f = (l.map f).eraseIdx i
  | [], _ => rfl
  | _ :: _, 0 => rfl
  | a :: l, i + 1 => by simp only [List.eraseIdx_cons_succ, List.map_cons, map_erase f l i]
theorem joinL_nil : ∀ ps : List (List Nat), TL.joinL [] ps = ps.flatten
  | [] => rfl
  | [p] => by simp [TL.joinL]
  | p :: q :: r => by
    show p ++ ([] ++ TL.joinL [] (q :: r)) = _
    rw [joinL_nil (q :: r)]
    simp
theorem join1 (cs : List Nat) : TL.tl (Txt.join (Str.ofString "") (cs.map fun c => (⟨#[c]⟩ : Str))) = cs := by
  rw [TL.join_eq, TL.tl_join]
  have e : TL.tl (Str.ofString "") = [] := by decide +kernel
  rw [e, joinL_nil, List.map_map]
  induction cs with
  | nil => rfl
  | cons c cs ih =>
    rw [List.map_cons, List.flatten_cons, ih]
    rfl
theorem ok_letters (F : Fun K "_law_letters" "_law_letters" s__law_letters f fd) (T : Txt K mg) (c_law_take : Callee P w K mg base 1 "_law_take" P__law_take (spTake K)) : FnOk P w K mg base CX0 2 f fd P__law_letters (spLetters K) := by
  refine F.ok sc__law_letters (fun vs H Q E h => ?_) (fun cdv A outer s H vs Q E hr h => ?_)
  · obtain ⟨b, q, rfl, _⟩ := h
    rfl
  obtain ⟨b, q, rfl, hB, k⟩ := h
  have nd := (sc__law_letters).nd
  refine ⟨_, pss_cons (ps_set (i := 1) nd rfl (Or.inr rfl) (pe_callTy (call_listS rfl) (by rfl) T.list_ (by decide +kernel) (pa_cons pe_str pa_nil)))
  (pss_one (ps_ret (pe_joinK K pe_str (pe_lc (own := [("_law_k", 2)]) (g := gName 2) (tt := tYes) (by rfl) nd (pi_range1 (by rfl) T.range_ (pa_cons (pe_ix (ix_listK K) (pe_lst (pa_cons pe_int (pa_cons pe_int (pa_cons pe_int (pa_cons pe_int pa_nil))))) (pe_own c_law_take hr (pa_cons (pv 0) (pa_cons pe_int pa_nil))) (fun _ _ => rfl)) pa_nil)) (blkOk_by (N := N__law_letters) (sc := defScope s__law_letters) (own := [("_law_k", 2)]) (by decide +kernel)) (fun _ _ _ _ _ => (pg_name (i := 2) nd rfl (Or.inl rfl))) (fun _ _ _ _ _ => pts_nil) (fun _ _ _ _ _ => (pe_bmK K PySem.F.plainAttrs_list PySem.F.slot_list_pop PySem.F.type_list_pop mt_popAt (pv 1) (pa_cons (pe_own c_law_take hr (pa_cons (pv 0) (pa_cons (pe_callB (call_lenK K) (by rfl) T.len_ PySem.boot_len (pa_cons (pv 1) pa_nil)) pa_nil))) pa_nil))))))), ?_⟩
  refine ⟨_, rfl, (by decide +kernel), fun l hl => ?_⟩
  have nbl : b ≠ l := by obtain ⟨z, ns, h1, h2, _⟩ := hB; exact ne_of_none h1 hl
  have nql : q ≠ l := by obtain ⟨z, ns, h1, h2, _⟩ := hB; exact ne_of_none h2 hl
  have f0 : Fr [] H (upd H l (.lst (lets6.map signV))) := Fr.new hl
  have hB0 : BoxAt (upd H l (.lst (lets6.map signV))) b q := hB.fr0 f0
  -- the list [1, 2, 3, 6], its place by a draw
  refine ⟨⟨_, rfl⟩, (by show 4 ≤ sizeLine; decide), fun p hp => ?_⟩
  have f1 := (Fr.new (S := [b, q]) (o := .lst [.int 1, .int 2, .int 3, .int 6]) hp)
  have nlp : l ≠ p := ne_of_none upd_same hp
  refine ⟨_, rfl, b, q, 4, rfl, hB0.fr0 (Fr.new hp), by decide, by decide, fun r H1 h0 h4 f2 hB1 => ?_⟩
  have nbp : p ∉ [b, q] := by
    obtain ⟨z, ns, h1, h2, _⟩ := hB0
    have n1 := ne_of_none h1 hp
    have n2 := ne_of_none h2 hp
    simp [n1.symm, n2.symm]
  have nl : l ∉ [b, q] := by simp [nbl.symm, nql.symm]
  obtain ⟨n, hn, hv⟩ := four_at 1 2 3 6 r h0 h4
  refine ⟨p, _, _, _, rfl, rfl, SqL.of (f2.keep _ _ nbp upd_same), hn, n, rfl, by omega, by omega, fun D hD => ?_⟩
  have fH1 : Fr [b, q] H H1 := (f0.mono0.trans f1).trans f2
  have hl1 : H1 l = some (.lst (lets6.map signV)) := f2.keep _ _ nl (by rw [upd_ne nlp]; exact upd_same)
  have nlD : l ≠ D := ne_of_none hl1 hD
  refine lc_range (lo := 0) (n := n.toNat) (fun i H' => ∃ (left cs : List Nat), Fr [b, q] H H' ∧ BoxAt H' b q ∧ H' l = some (.lst (left.map signV)) ∧ H' D = some (.lst (cs.map signV)) ∧ left.length = 6 - i ∧ cs.length = i ∧ (∀ c ∈ left, 97 ≤ c ∧ c ≤ 102) ∧ ∀ c ∈ cs, 97 ≤ c ∧ c ≤ 102)
    ⟨lets6, [], fH1.trans (Fr.new hD), hB1.fr0 (Fr.new hD), by rw [upd_ne nlD]; exact hl1, upd_same, rfl, rfl, by decide, by simp⟩ ?_ ?_
  · rintro i H' hi ⟨left, cs, ff, hBi, hli, hDi, e1, e2, ok1, ok2⟩
    have hne : 0 < left.length := by omega
    refine ⟨rfl, _, rfl, .inl ⟨rfl, _, SqL.of hli⟩, _, rfl, _, rfl, l, _, rfl, .inl (SqL.of hli), b, q, _, rfl, hBi, ?_, ?_, fun r' H2 g0 g1 f3 hB2 => ?_⟩
    · rw [List.length_map]; omega
    · rw [List.length_map]; omega
    rw [List.length_map] at g1
    have hl2 := f3.keep _ _ nl hli
    have hr' : r'.toNat < left.length := by omega
    have er : r' = ((r'.toNat : Nat) : Int) := by omega
    have nD : D ∉ [b, q] := by
      have hx := hB1
      obtain ⟨z, ns, h1, h2, _⟩ := hx
      simp [(ne_of_none h1 hD).symm, (ne_of_none h2 hD).symm]
    have hD2 := f3.keep _ _ nD hDi
    refine ⟨l, _, r', r'.toNat, signV left[r'.toNat], rfl, rfl, hl2, by omega, by omega, ?_, ?_, _, (by rw [upd_ne nlD.symm]; exact hD2), ?_, ?_⟩
    · rw [List.length_map]
      have := (ixN_seq (ixN_nat hr')).1
      rw [← er] at this
      exact this
    · rw [List.getElem?_map, List.getElem?_eq_getElem hr']; rfl
    · rw [List.length_map]; exact small1000 (by omega)
    · refine ⟨left.eraseIdx r'.toNat, cs ++ [left[r'.toNat]], ?_, ?_, ?_, ?_, ?_, ?_, ?_, ?_⟩
      · exact ((ff.trans f3).mut hl).mut (fH1.freeS nD hD)
      · exact (hB2.upd nl).upd nD
      · rw [upd_ne nlD, upd_same, map_erase]
      · rw [upd_same, List.map_append]; rfl
      · rw [List.length_eraseIdx]; simp [hr']; omega
      · simp [e2]
      · intro c hc
        exact ok1 c (List.mem_of_mem_eraseIdx hc)
      · intro c hc
        rcases List.mem_append.mp hc with hc | hc
        · exact ok2 c hc
        · simp at hc; subst hc; exact ok1 _ (List.getElem_mem _)
  · rintro H' ⟨left, cs, ff, hBi, hli, hDi, e1, e2, ok1, ok2⟩
    refine ⟨_, D, cs.map (fun c => ⟨#[c]⟩), rfl, rfl, .inl ?_, ?_, ?_⟩
    · rw [List.map_map]; exact SqL.of hDi
    · have e3 : ∀ l : List Nat, ((l.map (fun c => (⟨#[c]⟩ : Str))).map (·.length)).sum = l.length := by
        intro l
        induction l with
        | nil => rfl
        | cons c l ih => simp only [List.map_cons, List.sum_cons, List.length_cons, ih]; show 1 + l.length = _; omega
      rw [e3, List.length_map]
      show cs.length + cs.length * 0 ≤ 16777216
      omega
    · have el := join1 cs
      refine k _ _ ⟨?_, ?_, ?_⟩ ff hBi
      · rw [TL.len_tl, el]; omega
      · rw [TL.len_tl, el]; omega
      · intro c hc
        exact ok2 c (by rw [← el]; exact hc)
end TT


namespace TT
open PySem L2

theorem atI_of {α : Type} {xs : List α} {r : Int} (h0 : 0 ≤ r) (h : r < xs.length) : ∃ v, atI xs r = some v ∧ v ∈ xs := by
  obtain ⟨j, rfl⟩ : ∃ j : Nat, r = (j : Int) := ⟨r.toNat, by omega⟩
  have hj : j < xs.length := by omega
  exact ⟨xs[j], atI_nat (List.getElem?_eq_getElem hj), List.getElem_mem _⟩
theorem sub23 {b q e : Addr} : ∀ x ∈ [b, q], x ∈ [b, q, e] := fun x hx => by
  rcases List.mem_cons.mp hx with h | h
  · exact h ▸ List.mem_cons_self
  · exact List.mem_cons_of_mem _ ((List.mem_singleton.mp h) ▸ List.mem_cons_self)
theorem LettersOk.at {z : Str} (h : LettersOk z) {r : Int} (h0 : 0 ≤ r) (h1 : r < z.length) : ∃ c, atI z.cps.toList r = some c ∧ isL ⟨#[c]⟩ := by
  obtain ⟨c, e, hc⟩ := atI_of (xs := z.cps.toList) h0 (by rw [TL.len_tl] at h1; exact h1)
  obtain ⟨a, b⟩ := h.2.2 c hc
  exact ⟨c, e, c, a, b, rfl⟩
theorem LettersOk.len {z : Str} (h : LettersOk z) : z.length ≤ sizeLine := Nat.le_of_lt (small1000 (by have := h.2.1; omega))

def spGrown (K : PySem.W.Frag) (n : Nat) : Sp := fun vs H Q _ => ∃ (b q e : Addr) (z : Str) (d m : Int), vs = [.ref b, .str z, .ref e, .int d] ∧ BoxAt H b q ∧ e ∉ [b, q] ∧ H e = some (.lst [.int m]) ∧ LettersOk z ∧ 1 ≤ d ∧ d ≤ n ∧ 1 ≤ m ∧
  ∀ (g : Ge) (v : V) (H' : Hp), Wf NoTip g → (g.levels : Int) ≤ d → (g.size : Int) ≤ m → Fr [b, q, e] H H' → BoxAt H' b q → H' e = some (.lst [.int (m - g.size)]) → Dp K H' v g.data → Q v H'
theorem ok_grown (F : Fun K "_law_grown" "_law_grown" s__law_grown f fd) (T : Txt K mg) (c_law_take : Callee P w K mg base 1 "_law_take" P__law_take (spTake K)) (mf : mg "_law_grown" = some (.ref f)) (bf : Binds K fd P__law_grown []) :
    ∀ n : Nat, FnOk P w K mg base CX0 (n + 1) f fd P__law_grown (spGrown K n)
  | 0 => by
    have no : ∀ vs H Q E, ¬ spGrown K 0 vs H Q E := fun vs H Q E h => by
      obtain ⟨b, q, e, z, d, m, _, _, _, _, _, h1, h2, _⟩ := h
      omega
    exact ⟨fun vs H Q E h => absurd h (no vs H Q E), fun A outer s H args us vs Q E _ _ _ _ h => absurd h (no vs H Q E)⟩
  | n + 1 => by
    have c_law_grown : Callee P w K mg base (n + 1) "_law_grown" P__law_grown (spGrown K n) := ⟨f, fd, ok_grown F T c_law_take mf bf n, mf, F.kp, bf⟩
    refine F.ok sc__law_grown (fun vs H Q E h => ?_) (fun cdv A outer s H vs Q E hr h => ?_)
    · obtain ⟨b, q, e, z, d, m, rfl, _⟩ := h
      rfl
    obtain ⟨b, q, e, z, d, m, rfl, hB, hne, he, hz, d1, dn, m1, k⟩ := h
    have nd := (sc__law_grown).nd
    refine ⟨_, pss_cons (ps_asg (pe_op op_sub (pe_ix (ix_listK K) (pv 2) pe_int (fun _ _ => rfl)) pe_int) (pg_sub (pv 2) pe_int set_list))
  (pss_cons (ps_set (i := 4) nd rfl (Or.inl rfl) (pe_lst pa_nil))
  (pss_cons (ps_for PassesOwn.never rfl (pi_range1 (by rfl) T.range_ (pa_cons (pe_own c_law_take hr (pa_cons (pv 0) (pa_cons pe_int pa_nil))) pa_nil)) (pg_name (i := 5) nd rfl (Or.inl rfl))
    (pss_one (ps_if (PW.pt (pw_and (pt_cmpR op_gt (pv 3) pe_int (nomark _)) (pw_and1 (pt_cmpR op_gt (pe_ix (ix_listK K) (pv 2) pe_int (fun _ _ => rfl)) pe_int (nomark _)))))
      (pss_one (ps_expr (pe_bmK K PySem.F.plainAttrs_list PySem.F.slot_list_append PySem.F.type_list_append mt_append (pv 4) (pa_cons (pe_own c_law_grown hr (pa_cons (pv 0) (pa_cons (pv 1) (pa_cons (pv 2) (pa_cons (pe_op op_sub (pv 3) pe_int) pa_nil))))) pa_nil))))
      (pss_nil))))
  (pss_one (ps_ret (pe_tup (pa_cons (pe_ix ix_str (pv 1) (pe_own c_law_take hr (pa_cons (pv 0) (pa_cons (pe_callB call_len_str (by rfl) T.len_ PySem.boot_len (pa_cons (pv 1) pa_nil)) pa_nil))) (fun _ _ => rfl)) (pa_cons (pe_callTy (call_tupK K) (by rfl) T.tuple_ (by decide +kernel) (pa_cons (pv 4) pa_nil)) pa_nil))))))), ?_⟩
    have hbe : b ∉ [e] ∧ q ∉ [e] := by
      simp only [List.mem_cons, List.not_mem_nil, or_false, not_or] at hne ⊢
      exact ⟨Ne.symm hne.1, Ne.symm hne.2⟩
    -- left[0] = left[0] - 1; kids = []
    refine ⟨_, rfl, e, _, _, .int m, rfl, rfl, SqL.of he, rfl, _, _, rfl, rfl, _, rfl, e, _, _, 0, rfl, rfl, he, rfl, ?_⟩
    have f1 : Fr [b, q, e] H (upd H e (.lst [.int (m - 1)])) := Fr.lst he (by simp)
    have hB1 : BoxAt (upd H e (.lst [.int (m - 1)])) b q := hB.upd hne
    refine ⟨Nat.zero_le _, fun kd hkd => ?_⟩
    have nek : e ≠ kd := ne_of_none upd_same hkd
    have hkd0 : H kd = none := by rw [upd_ne nek.symm] at hkd; exact hkd
    have nkb : kd ∉ [b, q] := hB.nb hkd0
    refine ⟨_, rfl, b, q, 4, rfl, hB1.upd nkb, by decide, by decide, fun r H2 h0 h4 f2 hB2 => ⟨r, rfl, by omega, by omega, ?_⟩⟩
    refine for_range (lo := 0) (n := r.toNat) (fun i σ H' => ∃ (gs : List Ge) (us : List V) (u : Option V), σ = [some (.ref b), some (.str z), some (.ref e), some (.int d), some (.ref kd), u] ∧ Fr [b, q, e] H H' ∧ BoxAt H' b q ∧
        H' e = some (.lst [.int (m - 1 - Ge.sizes gs)]) ∧ (Ge.sizes gs : Int) ≤ m - 1 ∧ H' kd = some (.lst us) ∧ DpAll K H' us (Ge.datas gs) ∧ gs.length ≤ i ∧ WfAll NoTip gs ∧ (Ge.levelsAll gs : Int) ≤ d - 1) ?_ ?_ ?_
    · refine ⟨[], [], none, rfl, ((f1.mut hkd0)).trans (f2.mono sub23), hB2, ?_, by simp [Ge.sizes] <;> omega, f2.keep _ _ nkb upd_same, by rw [Ge.datas_nil]; exact .nil, by simp, by simp [WfAll], by simp [Ge.levelsAll] <;> omega⟩
      have := f2.keep e _ hne (show upd (upd H e (.lst [.int (m - 1)])) kd (.lst []) e = some (.lst [.int (m - 1)]) by rw [upd_ne nek, upd_same])
      simpa [Ge.sizes] using this
    · rintro i σ H' hi ⟨gs, us, u, rfl, ff, hBi, hei, hsz, hki, hdp, hlen, hwf, hlv⟩
      refine ⟨_, rfl, _, _, rfl, rfl, _, rfl, ?_⟩
      refine ite2 (fun c1 => ?_) (fun _ => ?_)
      · have d2 : 1 < d := of_decide_eq_true c1
        refine ⟨_, rfl, e, _, _, _, rfl, rfl, SqL.of hei, rfl, _, _, rfl, rfl, _, rfl, ?_⟩
        refine ite2 (fun c2 => ?_) (fun _ => ?_)
        · have m2 : 0 < m - 1 - Ge.sizes gs := of_decide_eq_true c2
          refine ⟨_, rfl, .inl ⟨rfl, _, SqL.of hki⟩, _, rfl, _, rfl, _, rfl, _, rfl, _, _, rfl, rfl, b, q, e, z, d - 1, _, rfl, hBi, hne, hei, hz, by omega, by omega, by omega, fun g v H3 wf lv sz f3 hB3 he3 hv => ?_⟩
          have nk3 : kd ∉ [b, q, e] := by simp only [List.mem_cons, List.not_mem_nil, or_false, not_or] at nkb ⊢; exact ⟨nkb.1, nkb.2, nek.symm⟩
          have hk3 := f3.keep _ _ nk3 hki
          have ul : us.length < 1000 := by
            have h7 := ges_len hdp
            omega
          refine ⟨kd, us, v, rfl, rfl, hk3, Nat.lt_of_lt_of_le ul (by decide), ?_⟩
          have ft : Fr [kd] H3 (upd H3 kd (.lst (us ++ [v]))) := Fr.lst hk3 (by simp)
          refine ⟨gs ++ [g], us ++ [v], _, rfl, (ff.trans f3).mut hkd0, hB3.upd nkb, ?_, ?_, upd_same, ?_, ?_, ?_, ?_⟩
          · rw [upd_ne nek, he3, Ge.sizes_append]
            simp [Ge.sizes] <;> omega
          · rw [Ge.sizes_append]; simp [Ge.sizes] <;> omega
          · exact ft.ges (ges_snoc (f3.ges hdp) hv)
          · simp <;> omega
          · exact hwf.append (by simp only [WfAll]; exact ⟨wf, True.intro⟩)
          · rw [Ge.levelsAll_append]; simp [Ge.levelsAll] <;> omega
        · exact ⟨gs, us, _, rfl, ff, hBi, hei, hsz, hki, hdp, by omega, hwf, hlv⟩
      · exact ⟨gs, us, _, rfl, ff, hBi, hei, hsz, hki, hdp, by omega, hwf, hlv⟩
    · rintro σ H' ⟨gs, us, u, rfl, ff, hBi, hei, hsz, hki, hdp, hlen, hwf, hlv⟩
      have z1 := hz.1
      have z2 := hz.2.1
      refine ⟨_, rfl, _, rfl, _, rfl, z, rfl, hz.len, b, q, _, rfl, hBi, by omega, by omega, fun r' H3 g0 g1 f3 hB3 => ?_⟩
      obtain ⟨c, ec, hc⟩ := hz.at g0 g1
      have nk3 : kd ∉ [b, q] := nkb
      have hk3 := f3.keep _ _ nkb hki
      have he3 := f3.keep _ _ hne hei
      refine ⟨z, r', c, rfl, rfl, hz.len, ec, _, rfl, kd, us, rfl, .inl ⟨SqL.of hk3, fun t ht => ⟨(by show 2 ≤ sizeLine; decide), fun p hp => ?_⟩⟩⟩
      have ft : Fr [] H3 (upd H3 t (.tup us)) := Fr.new ht
      have fp : Fr [] (upd H3 t (.tup us)) (upd (upd H3 t (.tup us)) p (.tup [.str ⟨#[c]⟩, .ref t])) := Fr.new hp
      have ntp : t ≠ p := ne_of_none upd_same hp
      have fl := ft.trans fp
      refine k (.node ⟨#[c]⟩ gs) _ _ ?_ ?_ ?_ ((ff.trans (f3.mono sub23)).trans fl.mono0) (hB3.fr0 fl) ?_ ?_
      · simp only [Wf]
        exact ⟨hc, by omega, hwf⟩
      · simp only [Ge.levels]; omega
      · simp only [Ge.size]; omega
      · have e5 := fl.keep _ _ (by simp) he3
        rw [e5]
        simp [Ge.size] <;> omega
      · exact dp_node_of (SqT.of upd_same) (SqT.of (by rw [upd_ne ntp]; exact upd_same)) (fl.ges (f3.ges hdp))

def spTree (K : PySem.W.Frag) : Sp := fun vs H Q _ => ∃ (b q : Addr) (z : Str), vs = [.ref b, .str z] ∧ BoxAt H b q ∧ LettersOk z ∧
  ∀ (g : Ge) (v : V) (H' : Hp), Wf NoTip g → g.levels ≤ 12 → g.size ≤ 60 → Fr [b, q] H H' → BoxAt H' b q → Dp K H' v g.data → Q v H'
theorem two_at (i j r : Int) (h0 : 0 ≤ r) (h4 : r < 2) : ∃ n, atI [V.int i, .int j] r = some (.int n) ∧ (n = i ∨ n = j) := by
  have hr : r = 0 ∨ r = 1 := by omega
  rcases hr with rfl | rfl
  · exact ⟨i, rfl, .inl rfl⟩
  · exact ⟨j, rfl, .inr rfl⟩
theorem ok_tree (F : Fun K "_law_tree" "_law_tree" s__law_tree f fd) (T : Txt K mg) (c_law_take : Callee P w K mg base 1 "_law_take" P__law_take (spTake K)) (c_law_grown : Callee P w K mg base 13 "_law_grown" P__law_grown (spGrown K 12)) :
    FnOk P w K mg base CX0 14 f fd P__law_tree (spTree K) := by
  refine F.ok sc__law_tree (fun vs H Q E h => ?_) (fun cdv A outer s H vs Q E hr h => ?_)
  · obtain ⟨b, q, z, rfl, _⟩ := h
    rfl
  obtain ⟨b, q, z, rfl, hB, hz, k⟩ := h
  have nd := (sc__law_tree).nd
  refine ⟨_, pss_cons (ps_set (i := 2) nd rfl (Or.inl rfl) (pe_ix (ix_listK K) (pe_lst (pa_cons pe_int (pa_cons pe_int (pa_cons pe_int (pa_cons pe_int pa_nil))))) (pe_own c_law_take hr (pa_cons (pv 0) (pa_cons pe_int pa_nil))) (fun _ _ => rfl)))
  (pss_one (ps_ret (pe_own c_law_grown hr (pa_cons (pv 0) (pa_cons (pv 1) (pa_cons (pe_lst (pa_cons (pv 2) pa_nil)) (pa_cons (pe_ix (ix_listK K) (pe_lst (pa_cons pe_int (pa_cons pe_int pa_nil))) (pe_own c_law_take hr (pa_cons (pv 0) (pa_cons pe_int pa_nil))) (fun _ _ => rfl)) pa_nil))))))), ?_⟩
  refine ⟨(by show 4 ≤ sizeLine; decide), fun p hp => ?_⟩
  have n1 := hB.nb hp
  refine ⟨_, rfl, b, q, 4, rfl, hB.upd n1, by decide, by decide, fun r H1 h0 h4 f1 hB1 => ?_⟩
  obtain ⟨m, em, hm⟩ := four_at 1 6 14 60 r h0 h4
  refine ⟨p, _, _, _, rfl, rfl, SqL.of (f1.keep _ _ n1 upd_same), em, ?_⟩
  refine ⟨_, rfl, _, rfl, _, rfl, (by show 1 ≤ sizeLine; decide), fun e he => ?_⟩
  have ne := hB1.nb he
  refine ⟨(by show 2 ≤ sizeLine; decide), fun p2 hp2 => ?_⟩
  have hB2 := hB1.upd (o := .lst [.int m]) ne
  have n2 := hB2.nb hp2
  have nep : e ≠ p2 := ne_of_none upd_same hp2
  refine ⟨_, rfl, b, q, 2, rfl, hB2.upd n2, by decide, by decide, fun r' H2 g0 g2 f2 hB3 => ?_⟩
  obtain ⟨d, ed, hd⟩ := two_at 4 12 r' g0 g2
  have fa : Fr [b, q] H H1 := (Fr.new hp).trans f1
  have fb : Fr [b, q] H1 H2 := ((Fr.new he).trans (Fr.new hp2)).trans f2
  have he2 := f2.keep e _ ne (show upd (upd H1 e (.lst [.int m])) p2 (.lst [.int 4, .int 12]) e = some (.lst [.int m]) by rw [upd_ne nep, upd_same])
  have he0 : H e = none := fa.freeS ne he
  refine ⟨p2, _, _, _, rfl, rfl, SqL.of (f2.keep _ _ n2 upd_same), ed, b, q, e, z, d, m, rfl, hB3, ne, he2, hz, by omega, by omega, by omega, fun g v H' wf lv sz f3 hB4 _ hv => ?_⟩
  refine k g v H' wf (by omega) (by omega) ?_ hB4 hv
  have fc := fa.trans fb
  refine ⟨fun a o na ha => ?_, fun a xs ha => f3.tup _ _ (fc.tup _ _ ha), fun a o u ha => f3.frz _ _ _ (fc.frz _ _ _ ha)⟩
  have nae : a ≠ e := ne_of_none ha he0
  refine f3.keep _ _ ?_ (fc.keep _ _ na ha)
  simp only [List.mem_cons, List.not_mem_nil, or_false, not_or] at na ⊢
  exact ⟨na.1, na.2, nae⟩
end TT


namespace TT
open PySem L2

theorem nkdatas_len : ∀ ks : List NestedKey, (NestedKey.datas ks).length = ks.length
  | [] => by simp [NestedKey.datas]
  | k :: ks => by simp [NestedKey.datas, nkdatas_len ks]
theorem take_succ' {α : Type} {l : List α} {i : Nat} {x : α} (h : l[i]? = some x) : l.take (i + 1) = l.take i ++ [x] := by
  rw [List.take_succ, h]; rfl
theorem isL_do {l : Str} (h : isL l) : ¬ V.str l = V.str "do" := by
  obtain ⟨c, h1, h2, rfl⟩ := h
  intro e
  injection e with e
  have e1 : (⟨#[c]⟩ : Str).length = ("do" : Str).length := by rw [e]
  have e2 : ("do" : Str).length = 2 := by decide +kernel
  rw [e2] at e1
  exact absurd e1 (by show ¬ (1 : Nat) = 2; decide)
theorem sz1000 {n : Nat} (h : n ≤ 1000) : n ≤ sizeLine := Nat.le_of_lt (small1000 h)

/-! ### how many parts -/
abbrev Tip13 : List NestedKey → Prop := fun ks => ks.length = 1 ∨ ks.length = 3
def spParts (K : PySem.W.Frag) (n : Nat) : Sp := fun vs H Q _ => ∃ (v : V) (g : Ge), vs = [v] ∧ Dp K H v g.data ∧ Wf Tip13 g ∧ g.levels ≤ n ∧ ∀ H', Fr [] H H' → Q (.int (g.size : Nat)) H'
theorem ok_parts (F : Fun K "_law_parts" "_law_parts" s__law_parts f fd) (T : Txt K mg) (mf : mg "_law_parts" = some (.ref f)) (bf : Binds K fd P__law_parts []) :
    ∀ n : Nat, FnOk P w K mg base CX0 (n + 1) f fd P__law_parts (spParts K n)
  | 0 => by
    have no : ∀ vs H Q E, ¬ spParts K 0 vs H Q E := fun vs H Q E h => by
      obtain ⟨v, g, _, _, _, h1, _⟩ := h
      have := g.levels_pos
      omega
    exact ⟨fun vs H Q E h => absurd h (no vs H Q E), fun A outer s H args us vs Q E _ _ _ _ h => absurd h (no vs H Q E)⟩
  | n + 1 => by
    have c_law_parts : Callee P w K mg base (n + 1) "_law_parts" P__law_parts (spParts K n) := ⟨f, fd, ok_parts F T mf bf n, mf, F.kp, bf⟩
    refine F.ok sc__law_parts (fun vs H Q E h => ?_) (fun cdv A outer s H vs Q E hr h => ?_)
    · obtain ⟨v, g, rfl, _⟩ := h
      rfl
    obtain ⟨v, g, rfl, hv, wf, lv, k⟩ := h
    have nd := (sc__law_parts).nd
    refine ⟨_, pss_cons (ps_if (PW.pt (pw_or (pt_cmpR op_ne (pe_callB (call_lenK K) (by rfl) T.len_ PySem.boot_len (pa_cons (pv 0) pa_nil)) pe_int (nomark _)) (pw_or1 (pt_cmpR op_eq (pe_ix (ix_tupK K) (pv 0) pe_int (fun _ _ => rfl)) pe_str (nomark _)))))
    (pss_one (ps_ret pe_int))
    (pss_nil))
  (pss_one (ps_ret (pe_op op_add pe_int (pe_callB (cr_sumK K rfl) (by rfl) T.sum_ (by decide +kernel) (pa_cons (pe_lc (own := [("_law_kid", 1)]) (g := gName 1) (tt := tYes) (by rfl) nd (pi_tupK K (pe_ix (ix_tupK K) (pv 0) pe_int (fun _ _ => rfl))) (blkOk_by (N := N__law_parts) (sc := defScope s__law_parts) (own := [("_law_kid", 1)]) (by decide +kernel)) (fun _ _ _ _ _ => (pg_name (i := 1) nd rfl (Or.inl rfl))) (fun _ _ _ _ _ => pts_nil) (fun _ _ _ _ _ => (pe_own c_law_parts hr (pa_cons (pv 1) pa_nil)))) pa_nil))))), ?_⟩
    cases g with
    | tip ks =>
      obtain ⟨a, us, rfl, hs, hd⟩ := dp_tip hv
      have el : us.length = ks.length := by rw [DpAll.length hd, nkdatas_len]
      have k' := k H (Fr.refl _ _)
      simp only [Ge.size] at k'
      simp only [Wf] at wf
      refine ⟨_, rfl, a, _, rfl, .inr hs, rfl, _, rfl, ?_⟩
      refine ite2 (fun _ => iteT k') (fun c => absurd ?_ c)
      rcases wf with h | h <;> (rw [el, h]; decide)
    | node l gs =>
      obtain ⟨a, b, us, rfl, hs, hb, hd⟩ := dp_node hv
      simp only [Wf] at wf
      simp only [Ge.levels] at lv
      refine ⟨_, rfl, a, _, rfl, .inr hs, rfl, _, rfl, ?_⟩
      refine ite2 (fun c => absurd c (by show ¬ (!decide (V.int 2 = V.int 2)) = true; decide)) (fun _ => ?_)
      refine ⟨_, rfl, a, _, _, .str l, rfl, rfl, hs, rfl, rfl, _, rfl, ?_⟩
      refine ite2 (fun c => absurd (of_decide_eq_true c) (isL_do wf.1)) (fun _ => ?_)
      refine ⟨_, rfl, a, _, _, .ref b, rfl, rfl, hs, rfl, b, rfl, ⟨_, hb⟩, fun D hD => ?_⟩
      refine lc_tup (K := K) (a := b) (xs := us) (fun i H' => Fr [] H H' ∧ H' D = some (.lst (((gs.take i).map fun g => ((g.size : Nat) : Int)).map V.int))) ⟨Fr.new hD, upd_same⟩ (fun i H' _ p => p.1.sqT hb) ?_ ?_
      · rintro i x H' hx ⟨ff, hDi⟩
        obtain ⟨g, hg, hgx⟩ := ges_get hd hx
        have hmem : g ∈ gs := List.mem_of_getElem? hg
        have hl := Ge.levels_mem hmem
        refine ⟨rfl, _, rfl, x, g, rfl, ff.ge hgx, wf.2.2.mem hmem, by omega, fun H2 f2 => ?_⟩
        have hD2 := f2.keep D _ (by simp) hDi
        refine ⟨_, hD2, ?_, ((ff.trans f2).mut hD), ?_⟩
        · have h3 := wf.2.1
          rw [List.length_map, List.length_map]
          exact small1000 (by rw [List.length_take]; omega)
        · rw [upd_same, take_succ' hg]
          simp
      · rintro H' ⟨ff, hDi⟩
        have e : us.length = gs.length := ges_len hd
        rw [e, List.take_length] at hDi
        refine ⟨D, _, rfl, SqL.of hDi, _, _, rfl, rfl, ?_⟩
        have k' := k H' ff
        have es : ∀ gs : List Ge, (gs.map fun g => ((g.size : Nat) : Int)).sum = ((Ge.sizes gs : Nat) : Int) := by
          intro gs
          induction gs with
          | nil => simp [Ge.sizes]
          | cons g gs ih => simp only [List.map_cons, List.sum_cons, ih, Ge.sizes]; omega
        rw [es]
        have e2 : ((Ge.size (.node l gs) : Nat) : Int) = 1 + ((Ge.sizes gs : Nat) : Int) := by simp only [Ge.size]; omega
        rw [e2] at k'
        exact k'

/-! ### all parts of a pattern -/
def spWithin (K : PySem.W.Frag) (n : Nat) : Sp := fun vs H Q _ => ∃ (v : V) (g : Ge), vs = [v] ∧ Dp K H v g.data ∧ Wf PatTip g ∧ g.levels ≤ n ∧ g.size ≤ 1000 ∧
  ∀ (l : Addr) (us : List V) H', Fr [] H H' → H l = none → H' l = some (.lst us) → DpAll K H' us (Ge.datas (within g)) → Q (.ref l) H'
theorem within_mem : ∀ {gs : List Ge} {g : Ge}, g ∈ gs → g.size ≤ Ge.sizes gs
  | _ :: _, _, .head _ => by simp only [Ge.sizes]; omega
  | _ :: gs, g, .tail _ h => by
    have := within_mem (gs := gs) h
    simp only [Ge.sizes]; omega
theorem sizes_take : ∀ (gs : List Ge) (i : Nat), Ge.sizes (gs.take i) ≤ Ge.sizes gs
  | [], _ => by simp [Ge.sizes]
  | g :: gs, 0 => by simp [Ge.sizes]
  | g :: gs, i + 1 => by simp only [List.take_succ_cons, Ge.sizes]; have := sizes_take gs i; omega
theorem ok_within (F : Fun K "_law_within" "_law_within" s__law_within f fd) (T : Txt K mg) (mf : mg "_law_within" = some (.ref f)) (bf : Binds K fd P__law_within []) :
    ∀ n : Nat, FnOk P w K mg base CX0 (n + 1) f fd P__law_within (spWithin K n)
  | 0 => by
    have no : ∀ vs H Q E, ¬ spWithin K 0 vs H Q E := fun vs H Q E h => by
      obtain ⟨v, g, _, _, _, h1, _⟩ := h
      have := g.levels_pos
      omega
    exact ⟨fun vs H Q E h => absurd h (no vs H Q E), fun A outer s H args us vs Q E _ _ _ _ h => absurd h (no vs H Q E)⟩
  | n + 1 => by
    have c_law_within : Callee P w K mg base (n + 1) "_law_within" P__law_within (spWithin K n) := ⟨f, fd, ok_within F T mf bf n, mf, F.kp, bf⟩
    refine F.ok sc__law_within (fun vs H Q E h => ?_) (fun cdv A outer s H vs Q E hr h => ?_)
    · obtain ⟨v, g, rfl, _⟩ := h
      rfl
    obtain ⟨v, g, rfl, hv, wf, lv, sz, k⟩ := h
    have nd := (sc__law_within).nd
    refine ⟨_, pss_cons (ps_set (i := 1) nd rfl (Or.inl rfl) (pe_lst (pa_cons (pv 0) pa_nil)))
  (pss_cons (ps_for PassesOwn.never rfl (pi_tupK K (pe_ifExp (pt_cmpR op_eq (pe_callB (call_lenK K) (by rfl) T.len_ PySem.boot_len (pa_cons (pv 0) pa_nil)) pe_int (nomark _)) (pe_ix (ix_tupK K) (pv 0) pe_int (fun _ _ => rfl)) (pe_tup pa_nil))) (pg_name (i := 2) nd rfl (Or.inl rfl))
    (pss_one (ps_set (i := 1) nd rfl (Or.inl rfl) (pe_op op_cat (pv 1) (pe_own c_law_within hr (pa_cons (pv 2) pa_nil))))))
  (pss_one (ps_ret (pv 1)))), ?_⟩
    refine ⟨_, rfl, (by show 1 ≤ sizeLine; decide), fun l0 hl0 => ?_⟩
    have f0 : Fr [] H (upd H l0 (.lst [v])) := Fr.new hl0
    have hv0 := f0.ge hv
    cases g with
    | tip ks =>
      simp only [Wf] at wf
      obtain ⟨a, us, rfl, hs, hd⟩ := dp_tip hv
      have hu1 : us.length = 1 := by
        rw [DpAll.length hd]
        rcases wf with rfl | rfl <;> rfl
      refine ⟨_, rfl, a, _, rfl, .inr (f0.sqT hs), rfl, _, rfl, ?_⟩
      refine ite2 (fun c => absurd (of_decide_eq_true c) (by rw [hu1]; decide)) (fun _ => ?_)
      refine ⟨Nat.zero_le _, fun t ht => ?_⟩
      have f1 : Fr [] (upd H l0 (.lst [.ref a])) (upd (upd H l0 (.lst [.ref a])) t (.tup [])) := Fr.new ht
      have n0t : l0 ≠ t := ne_of_none upd_same ht
      refine ⟨t, rfl, ⟨_, SqT.of upd_same⟩, for_tup (K := K) (a := t) (xs := []) (fun i σ H' => (∃ u, σ = [some (.ref a), some (.ref l0), u]) ∧ H' = upd (upd H l0 (.lst [.ref a])) t (.tup []) ) ⟨⟨none, rfl⟩, rfl⟩ (fun i σ H' _ p => by rw [p.2]; exact SqT.of upd_same) (fun i x σ H' hx _ => by simp at hx) ?_⟩
      rintro σ H' ⟨⟨u, rfl⟩, rfl⟩
      refine ⟨_, rfl, ?_⟩
      refine k l0 [.ref a] _ (f0.trans f1) hl0 (by rw [upd_ne n0t]; exact upd_same) ?_
      rw [show within (.tip ks) = [.tip ks] by simp only [within], Ge.datas_cons, Ge.datas_nil]
      exact .cons (f1.ge hv0) .nil
    | node lb gs =>
      obtain ⟨a, b, us, rfl, hs, hb, hd⟩ := dp_node hv
      simp only [Wf] at wf
      simp only [Ge.levels] at lv
      simp only [Ge.size] at sz
      refine ⟨_, rfl, a, _, rfl, .inr (f0.sqT hs), rfl, _, rfl, ?_⟩
      refine ite2 (fun _ => ?_) (fun c => absurd (by show decide (V.int 2 = V.int 2) = true; decide) c)
      refine ⟨_, rfl, a, _, _, .ref b, rfl, rfl, f0.sqT hs, rfl, b, rfl, ⟨_, f0.sqT hb⟩, ?_⟩
      refine for_tup (K := K) (a := b) (xs := us) (fun i σ H' => ∃ (l : Addr) (xs : List V) (u : Option V), σ = [some (.ref a), some (.ref l), u] ∧ Fr [] H H' ∧ H l = none ∧ H' l = some (.lst xs) ∧ DpAll K H' xs (Ge.datas (.node lb gs :: withinAll (gs.take i))))
        ⟨l0, _, none, rfl, f0, hl0, upd_same, ?_⟩ (fun i σ H' _ ⟨_, _, _, _, ff, _⟩ => ff.sqT hb) ?_ ?_
      · rw [List.take_zero, show withinAll [] = [] by simp only [withinAll], Ge.datas_cons, Ge.datas_nil]
        exact .cons hv0 .nil
      · rintro i x σ H' hx ⟨l, xs, u, rfl, ff, hl, hli, hdp⟩
        obtain ⟨g, hg, hgx⟩ := ges_get hd hx
        have hmem : g ∈ gs := List.mem_of_getElem? hg
        have hlv := Ge.levels_mem hmem
        have hsm := within_mem hmem
        refine ⟨_, rfl, _, rfl, x, g, rfl, ff.ge hgx, wf.2.2.mem hmem, by omega, by omega, fun l2 ys H2 f2 hl2 hl2i hdy => ?_⟩
        have e1 : xs.length = 1 + Ge.sizes (gs.take i) := by
          rw [ges_len hdp, List.length_cons, withinAll_len]; omega
        have e2 : ys.length = g.size := by rw [ges_len hdy, within_len]
        have e3 := sizes_take gs i
        refine ⟨l, l2, _, _, rfl, rfl, f2.keep _ _ (by simp) hli, hl2i, sz1000 ?_, fun p hp => ?_⟩
        · have e4 := sizes_take gs (i + 1)
          rw [take_succ' hg, Ge.sizes_append] at e4
          simp only [Ge.sizes] at e4
          omega
        · have f3 : Fr [] H2 (upd H2 p (.lst (xs ++ ys))) := Fr.new hp
          refine ⟨p, _, _, rfl, (ff.trans f2).trans f3, (ff.trans f2).free hp, upd_same, ?_⟩
          have := DpAll.append (f3.ges (f2.ges hdp)) (f3.ges hdy)
          rw [take_succ' hg, withinAll_append, show withinAll [g] = within g by simp [withinAll], ← List.cons_append, Ge.datas_map, List.map_append, ← Ge.datas_map, ← Ge.datas_map]
          exact this
      · rintro σ H' ⟨l, xs, u, rfl, ff, hl, hli, hdp⟩
        have e : us.length = gs.length := ges_len hd
        rw [e, List.take_length] at hdp
        refine ⟨_, rfl, ?_⟩
        refine k l xs H' ff hl hli ?_
        rw [show within (.node lb gs) = .node lb gs :: withinAll gs by simp only [within]]
        exact hdp
end TT


namespace TT
open PySem L2

/-! ### what data may be compared -/
mutual
theorem lay_ge {T : List NestedKey → Prop} (hT : ∀ ks, T ks → PyData.canLayAll0 (NestedKey.datas ks) = true ∧ PyData.depthAll (NestedKey.datas ks) ≤ 1) : ∀ g : Ge, Wf T g → g.data.canLay0 = true ∧ g.data.depth ≤ 2 * g.levels
  | .tip ks, h => by
    simp only [Wf] at h
    have q := hT ks h
    rw [Ge.data_tip]
    simp only [PyData.canLay0, PyData.depth, Ge.levels]
    exact ⟨q.1, by omega⟩
  | .node l gs, h => by
    simp only [Wf] at h
    have q := lay_ges hT gs h.2.2
    rw [Ge.data_node]
    simp only [PyData.canLay0, PyData.canLayAll0, PyData.depth, PyData.depthAll, Ge.levels, isL_ok h.1, q.1, Bool.and_self, true_and]
    omega
theorem lay_ges {T : List NestedKey → Prop} (hT : ∀ ks, T ks → PyData.canLayAll0 (NestedKey.datas ks) = true ∧ PyData.depthAll (NestedKey.datas ks) ≤ 1) : ∀ gs : List Ge, WfAll T gs → PyData.canLayAll0 (Ge.datas gs) = true ∧ PyData.depthAll (Ge.datas gs) ≤ 2 * Ge.levelsAll gs
  | [], _ => by rw [Ge.datas_nil]; simp [PyData.canLayAll0, PyData.depthAll, Ge.levelsAll]
  | g :: gs, h => by
    simp only [WfAll] at h
    have q1 := lay_ge hT g h.1
    have q2 := lay_ges hT gs h.2
    rw [Ge.datas_cons]
    simp only [PyData.canLayAll0, PyData.depthAll, Ge.levelsAll, q1.1, q2.1, Bool.and_self, true_and]
    omega
end
theorem noTip_lay : ∀ ks, NoTip ks → PyData.canLayAll0 (NestedKey.datas ks) = true ∧ PyData.depthAll (NestedKey.datas ks) ≤ 1 := fun _ h => h.elim
theorem patTip_lay : ∀ ks, PatTip ks → PyData.canLayAll0 (NestedKey.datas ks) = true ∧ PyData.depthAll (NestedKey.datas ks) ≤ 1 := fun ks h => by
  rcases h with rfl | rfl <;> (simp only [NestedKey.datas, NestedKey.data, PyData.canLayAll0, PyData.canLay0, PyData.depthAll, PyData.depth]; decide +kernel)
theorem shaped_ge {T : List NestedKey → Prop} (hT : ∀ ks, T ks → PyData.canLayAll0 (NestedKey.datas ks) = true ∧ PyData.depthAll (NestedKey.datas ks) ≤ 1) {g : Ge} (h : Wf T g) (hl : g.levels ≤ 30) : SeqAt.shaped g.data = true :=
  have q := lay_ge hT g h
  shaped_of q.1 (by omega)
theorem shaped_ges {T : List NestedKey → Prop} (hT : ∀ ks, T ks → PyData.canLayAll0 (NestedKey.datas ks) = true ∧ PyData.depthAll (NestedKey.datas ks) ≤ 1) {gs : List Ge} (h : WfAll T gs) (hl : Ge.levelsAll gs ≤ 30) : SeqAt.shaped (.tuple (Ge.datas gs)) = true :=
  have q := lay_ges hT gs h
  shaped_of (by simp only [PyData.canLay0]; exact q.1) (by simp only [PyData.depth]; omega)
theorem shaped_tup0 : SeqAt.shaped (.tuple []) = true := shaped_of (by simp [PyData.canLay0, PyData.canLayAll0]) (by simp [PyData.depth, PyData.depthAll])
theorem eqv_nil (gs : List Ge) : PyData.eqv (.tuple (Ge.datas gs)) (.tuple []) = gs.isEmpty := by
  cases gs with
  | nil => rw [Ge.datas_nil]; simp [PyData.eqv, PyData.eqvAll]
  | cons g gs => rw [Ge.datas_cons]; simp [PyData.eqv, PyData.eqvAll]
theorem eqv_ints_nil (ns : List Int) : PyData.eqv (.list (ns.map PyData.int)) (.list []) = ns.isEmpty := by
  cases ns with
  | nil => simp [PyData.eqv, PyData.eqvAll]
  | cons n ns => simp [PyData.eqv, PyData.eqvAll]

/-! ### whether a pattern fits -/
theorem fitsAll_snoc : ∀ {ps ts : List Ge} (p t : Ge), ps.length = ts.length → fitsAll (ps ++ [p]) (ts ++ [t]) = (fitsAll ps ts && fits p t)
  | [], [], p, t, _ => by simp [fitsAll]
  | a :: ps, b :: ts, p, t, h => by simp only [List.cons_append, fitsAll, fitsAll_snoc p t (by simpa using h), Bool.and_assoc]
  | [], _ :: _, _, _, h => by simp at h
  | _ :: _, [], _, _, h => by simp at h
def spFits (K : PySem.W.Frag) (n : Nat) : Sp := fun vs H Q _ => ∃ (x y : V) (p t : Ge), vs = [x, y] ∧ Dp K H x p.data ∧ Dp K H y t.data ∧ Wf PatTip p ∧ Wf NoTip t ∧ p.levels ≤ n ∧ t.levels ≤ 30 ∧ ∀ H', Fr [] H H' → Q (.bl (fits p t)) H'
theorem ok_fits (F : Fun K "_law_fits" "_law_fits" s__law_fits f fd) (T : Txt K mg) (mf : mg "_law_fits" = some (.ref f)) (bf : Binds K fd P__law_fits []) :
    ∀ n : Nat, FnOk P w K mg base CX0 (n + 1) f fd P__law_fits (spFits K n)
  | 0 => by
    have no : ∀ vs H Q E, ¬ spFits K 0 vs H Q E := fun vs H Q E h => by
      obtain ⟨x, y, p, t, _, _, _, _, _, h1, _⟩ := h
      have := p.levels_pos
      omega
    exact ⟨fun vs H Q E h => absurd h (no vs H Q E), fun A outer s H args us vs Q E _ _ _ _ h => absurd h (no vs H Q E)⟩
  | n + 1 => by
    have c_law_fits : Callee P w K mg base (n + 1) "_law_fits" P__law_fits (spFits K n) := ⟨f, fd, ok_fits F T mf bf n, mf, F.kp, bf⟩
    refine F.ok sc__law_fits (fun vs H Q E h => ?_) (fun cdv A outer s H vs Q E hr h => ?_)
    · obtain ⟨x, y, p, t, rfl, _⟩ := h
      rfl
    obtain ⟨x, y, p, t, rfl, hx, hy, wp, wt, lv, lt, k⟩ := h
    have nd := (sc__law_fits).nd
    have hu := hr.units
    refine ⟨_, pss_cons (ps_if (pt_cmpR op_eq (pe_callB (call_lenK K) (by rfl) T.len_ PySem.boot_len (pa_cons (pv 0) pa_nil)) pe_int (nomark _))
    (pss_one (ps_ret (pe_or (pe_cmpR op_eq (pe_ix (ix_tupK K) (pv 0) pe_int (fun _ _ => rfl)) pe_str (nomark _)) (pe_one (pe_cmpR (op_eqK K hu) (pe_ix (ix_tupK K) (pv 1) pe_int (fun _ _ => rfl)) (pe_tup pa_nil) (nomark _))))))
    (pss_nil))
  (pss_cons (ps_if (PW.pt (pw_or (pt_cmpR op_ne (pe_ix (ix_tupK K) (pv 0) pe_int (fun _ _ => rfl)) (pe_ix (ix_tupK K) (pv 1) pe_int (fun _ _ => rfl)) (nomark _)) (pw_or1 (pt_cmpR op_ne (pe_callB (call_lenK K) (by rfl) T.len_ PySem.boot_len (pa_cons (pe_ix (ix_tupK K) (pv 0) pe_int (fun _ _ => rfl)) pa_nil)) (pe_callB (call_lenK K) (by rfl) T.len_ PySem.boot_len (pa_cons (pe_ix (ix_tupK K) (pv 1) pe_int (fun _ _ => rfl)) pa_nil)) (nomark _)))))
    (pss_one (ps_ret pe_bl))
    (pss_nil))
  (pss_one (ps_ret (pe_cmpR (op_eqK K hu) (pe_lc (own := [("_law_k", 2)]) (g := gName 2) (by rfl) nd (pi_range1 (by rfl) T.range_ (pa_cons (pe_callB (call_lenK K) (by rfl) T.len_ PySem.boot_len (pa_cons (pe_ix (ix_tupK K) (pv 1) pe_int (fun _ _ => rfl)) pa_nil)) pa_nil)) (blkOk_by (N := N__law_fits) (sc := defScope s__law_fits) (own := [("_law_k", 2)]) (by decide +kernel)) (fun _ _ _ _ _ => (pg_name (i := 2) nd rfl (Or.inl rfl))) (fun _ _ _ _ _ => (pts_one (pt_not (pt_val (pe_own c_law_fits hr (pa_cons (pe_ix (ix_tupK K) (pe_ix (ix_tupK K) (pv 0) pe_int (fun _ _ => rfl)) (pv 2) (fun _ _ => rfl)) (pa_cons (pe_ix (ix_tupK K) (pe_ix (ix_tupK K) (pv 1) pe_int (fun _ _ => rfl)) (pv 2) (fun _ _ => rfl)) pa_nil))))))) (fun _ _ _ _ _ => (pv 2))) (pe_lst pa_nil) (nomark _))))), ?_⟩
    cases t with
    | tip ks => exact False.elim (by simpa [Wf] using wt)
    | node m ts =>
    obtain ⟨c, e, ws, rfl, ht, he, hw⟩ := dp_node hy
    simp only [Wf] at wt
    simp only [Ge.levels] at lt
    cases p with
    | tip ks =>
      simp only [Wf] at wp
      obtain ⟨wd, rfl, hwd⟩ : ∃ wd : Str, ks = [.text wd] ∧ (wd = "any" ∨ wd = "leaf") := by
        rcases wp with rfl | rfl
        · exact ⟨_, rfl, .inl rfl⟩
        · exact ⟨_, rfl, .inr rfl⟩
      obtain ⟨a, rfl, hs⟩ := dp_word hx
      refine ⟨_, rfl, a, _, rfl, .inr hs, rfl, _, rfl, ?_⟩
      refine ite2 (fun _ => ?_) (fun c => absurd (by show decide (V.int 1 = V.int 1) = true; decide) c)
      refine ⟨_, rfl, a, _, _, .str wd, rfl, rfl, hs, rfl, rfl, _, rfl, ?_⟩
      refine ite2 (fun c1 => ?_) (fun c1 => ?_)
      · have ew : wd = "any" := by
          have := of_decide_eq_true c1
          injection this
        subst ew
        have : fits (.tip [.text "any"]) (.node m ts) = true := by simp [fits]
        rw [this] at k
        exact k H (Fr.refl _ _)
      · have ew : wd = "leaf" := by
          rcases hwd with h | h
          · subst h; exact absurd (decide_eq_true rfl) c1
          · exact h
        subst ew
        have ef : fits (.tip [.text "leaf"]) (.node m ts) = ts.isEmpty := by
          have : ¬ ([NestedKey.text "leaf"] = kAny) := by decide +kernel
          simp only [fits, Ge.gs, this, decide_false, Bool.false_or]
        refine ⟨_, rfl, c, _, _, .ref e, rfl, rfl, ht, rfl, Nat.zero_le _, fun q hq => ?_⟩
        have f2 : Fr [] H (upd H q (.tup [])) := Fr.new hq
        refine ⟨.tuple (Ge.datas ts), .tuple [], .tup (f2.sqT he) (f2.ges hw), .tup (SqT.of upd_same) .nil, shaped_ges noTip_lay wt.2.2 (by omega), shaped_tup0, ?_⟩
        rw [eqv_nil, ← ef]
        exact k _ f2
    | node l ps =>
      obtain ⟨a, b, us, rfl, hs, hb, hd⟩ := dp_node hx
      simp only [Wf] at wp
      simp only [Ge.levels] at lv
      have eu : us.length = ps.length := ges_len hd
      have ew : ws.length = ts.length := ges_len hw
      refine ⟨_, rfl, a, _, rfl, .inr hs, rfl, _, rfl, ?_⟩
      refine ite2 (fun c => absurd c (by show ¬ decide (V.int 2 = V.int 1) = true; decide)) (fun _ => ?_)
      refine ⟨_, rfl, a, _, _, .str l, rfl, rfl, hs, rfl, _, rfl, c, _, _, .str m, rfl, rfl, ht, rfl, rfl, _, rfl, ?_⟩
      refine ite2 (fun c1 => ?_) (fun c1 => ?_)
      · have ne : ¬ l = m := fun e => by rw [e] at c1; simp at c1
        have : fits (.node l ps) (.node m ts) = false := by simp only [fits, Ge.lab, ne, decide_false, Bool.false_and]
        rw [this] at k
        exact iteT (k H (Fr.refl _ _))
      · have el : l = m := by
          simp only [Bool.not_eq_true', decide_eq_false_iff_not, Bool.not_eq_true, Bool.not_eq_false', decide_eq_true_eq] at c1
          simpa using c1
        subst el
        refine ⟨_, rfl, a, _, _, .ref b, rfl, rfl, hs, rfl, b, us, rfl, .inr hb, _, rfl, c, _, _, .ref e, rfl, rfl, ht, rfl, e, ws, rfl, .inr he, rfl, _, rfl, ?_⟩
        refine ite2 (fun c2 => ?_) (fun c2 => ?_)
        · have ne : ps.length ≠ ts.length := fun e => by
            rw [eu, ew, e] at c2
            simp at c2
          have : fits (.node l ps) (.node l ts) = false := by simp only [fits, Ge.lab, Ge.gs, fitsAll_len ne, Bool.and_false]
          rw [this] at k
          exact k H (Fr.refl _ _)
        · have hlen : ps.length = ts.length := by
            rw [eu, ew] at c2
            by_cases hh : ps.length = ts.length
            · exact hh
            · exfalso; apply c2
              have : ¬ V.int ((ps.length : Nat) : Int) = V.int ((ts.length : Nat) : Int) := fun e => by injection e with e; omega
              simp [this]
          have efit : fits (.node l ps) (.node l ts) = fitsAll ps ts := by simp only [fits, Ge.lab, Ge.gs, decide_true, Bool.true_and]
          have h3 := wt.2.1
          refine ⟨_, rfl, c, _, _, .ref e, rfl, rfl, ht, rfl, e, ws, rfl, .inr he, _, rfl, by omega, by omega, fun D hD => ?_⟩
          refine lc_range (lo := 0) (n := ws.length) (fun i H' => ∃ ns : List Int, Fr [] H H' ∧ H' D = some (.lst (ns.map V.int)) ∧ ns.length ≤ i ∧ (ns.isEmpty = fitsAll (ps.take i) (ts.take i))) ⟨[], Fr.new hD, upd_same, by simp, by simp [fitsAll]⟩ ?_ ?_
          · rintro i H' hi ⟨ns, ff, hDi, hln, hns⟩
            obtain ⟨x, hxi⟩ : ∃ x, us[i]? = some x := ⟨us[i]'(by omega), List.getElem?_eq_getElem _⟩
            obtain ⟨y, hyi⟩ : ∃ y, ws[i]? = some y := ⟨ws[i]'(by omega), List.getElem?_eq_getElem _⟩
            obtain ⟨p, hp, hpx⟩ := ges_get hd hxi
            obtain ⟨t, htt, hty⟩ := ges_get hw hyi
            have ax : atI us (0 + (i : Int)) = some x := by rw [Int.zero_add]; exact atI_nat hxi
            have ay : atI ws (0 + (i : Int)) = some y := by rw [Int.zero_add]; exact atI_nat hyi
            have mp : p ∈ ps := List.mem_of_getElem? hp
            have mt : t ∈ ts := List.mem_of_getElem? htt
            have lp := Ge.levels_mem mp
            have lt' := Ge.levels_mem mt
            refine ⟨rfl, _, rfl, a, _, _, .ref b, rfl, rfl, ff.sqT hs, rfl, _, rfl, b, us, _, x, rfl, rfl, ff.sqT hb, ax, _, rfl, c, _, _, .ref e, rfl, rfl, ff.sqT ht, rfl, _, rfl, e, ws, _, y, rfl, rfl, ff.sqT he, ay,
              x, y, p, t, rfl, ff.ge hpx, ff.ge hty, wp.2.2.mem mp, wt.2.2.mem mt, by omega, by omega, fun H2 f2 => ⟨_, rfl, ?_⟩⟩
            have hD2 := f2.keep D _ (by simp) hDi
            have snoc : fitsAll (ps.take (i + 1)) (ts.take (i + 1)) = (fitsAll (ps.take i) (ts.take i) && fits p t) := by
              rw [take_succ' hp, take_succ' htt]
              exact fitsAll_snoc p t (by rw [List.length_take, List.length_take, hlen])
            cases hf : fits p t with
            | true =>
              exact ⟨ns, ff.trans f2, hD2, by omega, by rw [snoc, hf, Bool.and_true]; exact hns⟩
            | false =>
              refine ⟨_, rfl, _, hD2, ?_, ns ++ [0 + (i : Int)], (ff.trans f2).mut hD, ?_, ?_, ?_⟩
              · rw [List.length_map]; exact small1000 (by omega)
              · rw [upd_same, List.map_append]; rfl
              · simp; omega
              · rw [snoc, hf, Bool.and_false]; simp
          · rintro H' ⟨ns, ff, hDi, hln, hns⟩
            rw [ew, ← hlen, List.take_length, hlen, List.take_length] at hns
            refine ⟨Nat.zero_le _, fun q hq => ?_⟩
            have f2 : Fr [] H' (upd H' q (.lst [])) := Fr.new hq
            refine ⟨.list (ns.map PyData.int), .list [], .lst (SqL.of (f2.keep _ _ (by simp) hDi)) (ints_dp ns), .lst (SqL.of upd_same) .nil, ints_shaped ns, ints_shaped [], ?_⟩
            rw [eqv_ints_nil, hns, ← efit]
            exact k _ (ff.trans f2)
end TT


namespace TT
open PySem L2

/-! ### all places of a tree, with what stands there -/
def plKey (x : List Nat × Ge) : NestedKey := .tup [.tup (x.1.map fun n => .num (n : Nat)), x.2.key]
def plData (x : List Nat × Ge) : PyData := .tuple [.tuple (x.1.map fun n => .int (n : Nat)), x.2.data]
theorem numsData (p : List Nat) : NestedKey.datas (p.map fun n => NestedKey.num (n : Nat)) = p.map fun n => PyData.int (n : Nat) := by
  induction p with
  | nil => simp [NestedKey.datas]
  | cons n p ih => simp only [List.map_cons, NestedKey.datas, NestedKey.data, ih]
theorem plData_key (x : List Nat × Ge) : plData x = (plKey x).data := by
  unfold plData plKey
  simp only [NestedKey.data, NestedKey.datas, numsData, Ge.data]
theorem tupy_pl (x : List Nat × Ge) : tupy (plData x) = true := by rw [plData_key]; exact nk_tupy _
theorem tupy_pls : ∀ xs : List (List Nat × Ge), tupyAll (xs.map plData) = true
  | [] => rfl
  | x :: xs => by simp only [List.map_cons, tupyAll, tupy_pl x, tupy_pls xs, Bool.and_self]
theorem placesFrom_append : ∀ (k : Nat) (gs hs : List Ge), placesFrom k (gs ++ hs) = placesFrom k gs ++ placesFrom (k + gs.length) hs
  | k, [], hs => by simp [placesFrom]
  | k, g :: gs, hs => by
    simp only [List.cons_append, placesFrom, placesFrom_append (k + 1) gs hs, List.append_assoc, List.length_cons]
    rw [show k + 1 + gs.length = k + (gs.length + 1) by omega]
theorem dp_ints {K : PySem.W.Frag} {H : Hp} {v : V} {p : List Nat} (h : Dp K H v (.tuple (p.map fun n => PyData.int (n : Nat)))) : ∃ a, v = .ref a ∧ SqT K H a (p.map fun n => V.int (n : Nat)) := by
  obtain ⟨a, vs, rfl, hs, ha⟩ := dp_tuple h
  have : ∀ (p : List Nat) (vs : List V), DpAll K H vs (p.map fun n => PyData.int (n : Nat)) → vs = p.map fun n => V.int (n : Nat) := by
    intro p
    induction p with
    | nil => intro vs h; cases h; rfl
    | cons n p ih =>
      intro vs h
      cases h with
      | cons h1 h2 => rw [dp_int h1, ih _ h2]; rfl
  rw [this p vs ha] at hs
  exact ⟨a, rfl, hs⟩
theorem dpAll_ints {K : PySem.W.Frag} {H : Hp} : ∀ p : List Nat, DpAll K H (p.map fun n => V.int (n : Nat)) (p.map fun n => PyData.int (n : Nat))
  | [] => .nil
  | n :: p => .cons (.int _) (dpAll_ints p)
theorem dp_pl {K : PySem.W.Frag} {H : Hp} {v : V} {x : List Nat × Ge} (h : Dp K H v (plData x)) : ∃ a b u, v = .ref a ∧ SqT K H a [.ref b, u] ∧ SqT K H b (x.1.map fun n => V.int (n : Nat)) ∧ Dp K H u x.2.data := by
  obtain ⟨a, vs, rfl, hs, ha⟩ := dp_tuple h
  obtain ⟨x1, x2, rfl, h1, h2⟩ := dpAll_2 ha
  obtain ⟨b, rfl, hb⟩ := dp_ints h1
  exact ⟨a, b, x2, rfl, hs, hb, h2⟩
theorem dp_pl_of {K : PySem.W.Frag} {H : Hp} {a b : Addr} {u : V} {x : List Nat × Ge} (h1 : SqT K H a [.ref b, u]) (h2 : SqT K H b (x.1.map fun n => V.int (n : Nat))) (h3 : Dp K H u x.2.data) : Dp K H (.ref a) (plData x) :=
  .tup h1 (.cons (.tup h2 (dpAll_ints _)) (.cons h3 .nil))
mutual
theorem places_short : ∀ (g : Ge) (x : List Nat × Ge), x ∈ places g → x.1.length + 1 ≤ g.levels
  | .tip ks, x, h => by simp [places] at h; subst h; simp [Ge.levels]
  | .node l gs, x, h => by
    simp only [places, List.mem_cons] at h
    rcases h with rfl | h
    · simp [Ge.levels]
    · have := placesFrom_short 0 gs x h
      simp only [Ge.levels]
      omega
theorem placesFrom_short : ∀ (k : Nat) (gs : List Ge) (x : List Nat × Ge), x ∈ placesFrom k gs → x.1.length ≤ Ge.levelsAll gs
  | _, [], x, h => by simp [placesFrom] at h
  | k, g :: gs, x, h => by
    simp only [placesFrom, List.mem_append, List.mem_map] at h
    simp only [Ge.levelsAll]
    rcases h with ⟨y, hy, rfl⟩ | h
    · have := places_short g y hy
      simp only [List.length_cons]
      omega
    · have := placesFrom_short (k + 1) gs x h
      omega
end
def spPlaces (K : PySem.W.Frag) (n : Nat) : Sp := fun vs H Q _ => ∃ (v : V) (g : Ge), vs = [v] ∧ Dp K H v g.data ∧ Wf NoTip g ∧ g.levels ≤ n ∧ g.levels ≤ 100 ∧ g.size ≤ 1000 ∧
  ∀ (l : Addr) (us : List V) H', Fr [] H H' → H l = none → H' l = some (.lst us) → DpAll K H' us ((places g).map plData) → Q (.ref l) H'
theorem ok_places (F : Fun K "_law_places" "_law_places" s__law_places f fd) (T : Txt K mg) (mf : mg "_law_places" = some (.ref f)) (bf : Binds K fd P__law_places []) :
    ∀ n : Nat, FnOk P w K mg base CX0 (n + 1) f fd P__law_places (spPlaces K n)
  | 0 => by
    have no : ∀ vs H Q E, ¬ spPlaces K 0 vs H Q E := fun vs H Q E h => by
      obtain ⟨v, g, _, _, _, h1, _⟩ := h
      have := g.levels_pos
      omega
    exact ⟨fun vs H Q E h => absurd h (no vs H Q E), fun A outer s H args us vs Q E _ _ _ _ h => absurd h (no vs H Q E)⟩
  | n + 1 => by
    have c_law_places : Callee P w K mg base (n + 1) "_law_places" P__law_places (spPlaces K n) := ⟨f, fd, ok_places F T mf bf n, mf, F.kp, bf⟩
    refine F.ok sc__law_places (fun vs H Q E h => ?_) (fun cdv A outer s H vs Q E hr h => ?_)
    · obtain ⟨v, g, rfl, _⟩ := h
      rfl
    obtain ⟨v, g, rfl, hv, wf, lv, lc, sz, k⟩ := h
    have nd := (sc__law_places).nd
    refine ⟨_, pss_cons (ps_set (i := 1) nd rfl (Or.inl rfl) (pe_lst (pa_cons (pe_tup (pa_cons (pe_tup pa_nil) (pa_cons (pv 0) pa_nil))) pa_nil)))
  (pss_cons (ps_for PassesOwn.never rfl (pi_range1 (by rfl) T.range_ (pa_cons (pe_callB (call_lenK K) (by rfl) T.len_ PySem.boot_len (pa_cons (pe_ix (ix_tupK K) (pv 0) pe_int (fun _ _ => rfl)) pa_nil)) pa_nil)) (pg_name (i := 2) nd rfl (Or.inr rfl))
    (pss_one (ps_expr (pe_bmK K PySem.F.plainAttrs_list PySem.F.slot_list_extend PySem.F.type_list_extend mt_extend (pv 1) (pa_cons (pe_lc (own := [("_law_place", 3), ("_law_part", 4)]) (g := gTup K 2 (gCons (gName 3) (gCons (gName 4) gNil))) (tt := tYes) (by rfl) nd (pi_listK K (pe_own c_law_places hr (pa_cons (pe_ix (ix_tupK K) (pe_ix (ix_tupK K) (pv 0) pe_int (fun _ _ => rfl)) (pv 2) (fun _ _ => rfl)) pa_nil))) (blkOk_by (N := N__law_places) (sc := defScope s__law_places) (own := [("_law_place", 3), ("_law_part", 4)]) (by decide +kernel)) (fun _ _ _ _ _ => (pg_tupK K rfl (pgs_cons (pg_name (i := 3) nd rfl (Or.inl rfl)) (pgs_cons (pg_name (i := 4) nd rfl (Or.inl rfl)) pgs_nil)))) (fun _ _ _ _ _ => pts_nil) (fun _ _ _ _ _ => (pe_tup (pa_cons (pe_op (op_catP K) (pe_tup (pa_cons (pv 2) pa_nil)) (pv 3)) (pa_cons (pv 4) pa_nil))))) pa_nil)))))
  (pss_one (ps_ret (pv 1)))), ?_⟩
    cases g with
    | tip ks => exact False.elim (by simpa [Wf] using wf)
    | node lb gs =>
    obtain ⟨a, b, us, rfl, hs, hb, hd⟩ := dp_node hv
    simp only [Wf] at wf
    simp only [Ge.levels] at lv lc
    simp only [Ge.size] at sz
    have eu : us.length = gs.length := ges_len hd
    have w3 := wf.2.1
    -- found = [((), tree)]
    refine ⟨Nat.zero_le _, fun t0 ht0 => ⟨_, rfl, (by show 2 ≤ sizeLine; decide), fun t1 ht1 => ⟨(by show 1 ≤ sizeLine; decide), fun l hl => ?_⟩⟩⟩
    have f0 : Fr [] H (upd H t0 (.tup [])) := Fr.new ht0
    have f1 : Fr [] (upd H t0 (.tup [])) (upd (upd H t0 (.tup [])) t1 (.tup [.ref t0, .ref a])) := Fr.new ht1
    have f2 : Fr [] (upd (upd H t0 (.tup [])) t1 (.tup [.ref t0, .ref a])) (upd (upd (upd H t0 (.tup [])) t1 (.tup [.ref t0, .ref a])) l (.lst [.ref t1])) := Fr.new hl
    have ff0 := (f0.trans f1).trans f2
    have hl0 : H l = none := (f0.trans f1).free hl
    have n01 : t0 ≠ t1 := ne_of_none upd_same ht1
    refine ⟨_, rfl, a, _, _, .ref b, rfl, rfl, ff0.sqT hs, rfl, b, us, rfl, .inr (ff0.sqT hb), _, rfl, by omega, by omega, ?_⟩
    refine for_range (lo := 0) (n := us.length) (fun i σ H' => ∃ (xs : List V) (u u3 u4 : Option V), σ = [some (.ref a), some (.ref l), u, u3, u4] ∧ Fr [] H H' ∧ H' l = some (.lst xs) ∧ DpAll K H' xs ((([], .node lb gs) :: placesFrom 0 (gs.take i)).map plData)) ?_ ?_ ?_
    · refine ⟨_, none, none, none, rfl, ff0, upd_same, ?_⟩
      rw [List.take_zero, show placesFrom 0 [] = [] by simp only [placesFrom]]
      exact .cons (dp_pl_of (f2.sqT (SqT.of upd_same)) ((f1.trans f2).sqT (SqT.of upd_same)) (ff0.ge hv)) .nil
    · rintro i σ H' hi ⟨xs, u, u3, u4, rfl, ff, hli, hdp⟩
      obtain ⟨x, hxi⟩ : ∃ x, us[i]? = some x := ⟨us[i], List.getElem?_eq_getElem hi⟩
      obtain ⟨g, hg, hgx⟩ := ges_get hd hxi
      have ax : atI us (0 + (i : Int)) = some x := by rw [Int.zero_add]; exact atI_nat hxi
      have mg' : g ∈ gs := List.mem_of_getElem? hg
      have lg := Ge.levels_mem mg'
      have sg := within_mem mg'
      refine ⟨_, rfl, .inl ⟨rfl, _, SqL.of hli⟩, _, rfl, a, _, _, .ref b, rfl, rfl, ff.sqT hs, rfl, _, rfl, b, us, _, x, rfl, rfl, ff.sqT hb, ax, x, g, rfl, ff.ge hgx, wf.2.2.mem mg', by omega, by omega, by omega, fun l2 ys H2 f3 hl2 hl2i hdy => ?_⟩
      refine ⟨l2, rfl, ⟨_, SqL.of hl2i⟩, fun D hD => ?_⟩
      have nlD : l2 ≠ D := ne_of_none hl2i hD
      refine lc_list (K := K) (a := l2) (xs := ys) (fun j H3 => ∃ zs : List V, Fr [] H2 H3 ∧ H3 D = some (.lst zs) ∧ DpAll K H3 zs ((((places g).take j).map fun x => (i :: x.1, x.2)).map plData)) ⟨[], Fr.new hD, upd_same, by simp; exact .nil⟩ (fun j H3 _ p => by obtain ⟨zs, f4, _⟩ := p; exact SqL.of (f4.keep _ _ (by simp) hl2i)) ?_ ?_
      · rintro j y H3 hy ⟨zs, f4, hDz, hdz⟩
        obtain ⟨dy, hdy1, hdy2⟩ := DpAll.get hdy hy
        rw [List.getElem?_map] at hdy1
        obtain ⟨pl, hpl, rfl⟩ := Option.map_eq_some_iff.mp hdy1
        obtain ⟨c, e, q, rfl, hc, he, hq⟩ := dp_pl (f4.dp _ _ (tupy_pl pl) hdy2)
        have hlen : pl.1.length ≤ 100 := by
          have := places_short g pl (List.mem_of_getElem? hpl)
          omega
        refine ⟨c, _, rfl, hc, rfl, _, _, rfl, _, _, rfl, rfl, rfl, ?_⟩
        refine ⟨_, rfl, (by show 1 ≤ sizeLine; decide), fun t ht => ?_⟩
        have f5 : Fr [] H3 (upd H3 t (.tup [.int (0 + (i : Int))])) := Fr.new ht
        refine ⟨_, rfl, t, e, _, _, rfl, rfl, SqT.of upd_same, f5.sqT he, sz1000 (by simp; omega), fun p H4 f6 hp => ?_⟩
        refine ⟨_, rfl, (by show 2 ≤ sizeLine; decide), fun t2 ht2 => ?_⟩
        have f7 : Fr [] H4 (upd H4 t2 (.tup [.ref p, q])) := Fr.new ht2
        have f8 := (f5.trans f6).trans f7
        have hD8 := f8.keep D _ (by simp) hDz
        have zl : zs.length ≤ 1000 := by
          rw [DpAll.length hdz, List.length_map, List.length_map, List.length_take, places_len]
          omega
        refine ⟨zs, hD8, small1000 zl, zs ++ [.ref t2], (f4.trans f8).mut hD, upd_same, ?_⟩
        have fD : Fr [D] (upd H4 t2 (.tup [.ref p, q])) (upd (upd H4 t2 (.tup [.ref p, q])) D (.lst (zs ++ [.ref t2]))) := Fr.lst hD8 (by simp)
        rw [take_succ' hpl, List.map_append, List.map_append]
        refine DpAll.append (fD.dpAll _ _ (tupy_pls _) (f8.dpAll _ _ (tupy_pls _) hdz)) (.cons ?_ .nil)
        have hp' : SqT K H4 p ((i :: pl.1).map fun n => V.int (n : Nat)) := by simpa using hp
        exact dp_pl_of (x := (i :: pl.1, pl.2)) (fD.sqT (SqT.of upd_same)) (fD.sqT (f7.sqT hp')) (fD.ge (f8.ge hq))
      · rintro H3 ⟨zs, f4, hDz, hdz⟩
        have ey : ys.length = (places g).length := by rw [DpAll.length hdy, List.length_map]
        rw [ey, List.take_length] at hdz
        have f9 := (ff.trans f3).trans f4
        have nl2 : l ∉ ([] : List Addr) := by simp
        have hl3 := (f3.trans f4).keep l _ nl2 hli
        have e1 : xs.length = 1 + Ge.sizes (gs.take i) := by
          rw [DpAll.length hdp, List.length_map, List.length_cons, placesFrom_len]; omega
        have e2 : zs.length = g.size := by rw [DpAll.length hdz, List.length_map, List.length_map, places_len]
        have e3 := sizes_take gs (i + 1)
        rw [take_succ' hg, Ge.sizes_append] at e3
        simp only [Ge.sizes] at e3
        refine ⟨l, D, xs, zs, rfl, rfl, hl3, hDz, sz1000 (by omega), ?_⟩
        have fl : Fr [l] H3 (upd H3 l (.lst (xs ++ zs))) := Fr.lst hl3 (by simp)
        refine ⟨xs ++ zs, _, _, _, rfl, f9.mut hl0, upd_same, ?_⟩
        rw [take_succ' hg, placesFrom_append, ← List.cons_append, List.map_append]
        refine DpAll.append (fl.dpAll _ _ (tupy_pls _) ((f3.trans f4).dpAll _ _ (tupy_pls _) hdp)) ?_
        have e4 : placesFrom (0 + (gs.take i).length) [g] = (places g).map fun x => (i :: x.1, x.2) := by
          have : (gs.take i).length = i := by rw [List.length_take]; omega
          rw [this]
          simp [placesFrom]
        rw [e4]
        exact fl.dpAll _ _ (tupy_pls _) hdz
    · rintro σ H' ⟨xs, u, u3, u4, rfl, ff, hli, hdp⟩
      rw [eu, List.take_length] at hdp
      refine ⟨_, rfl, ?_⟩
      refine k l xs H' ff hl0 hli ?_
      rw [show places (.node lb gs) = ([], .node lb gs) :: placesFrom 0 gs by simp only [places]]
      exact hdp
end TT


namespace TT
open PySem L2

/-! ### paths that stand in a pattern -/
def pathData (p : List Nat) : PyData := .tuple (p.map fun n => .int (n : Nat))
theorem tupyAll_ints : ∀ p : List Nat, tupyAll (p.map fun n => PyData.int (n : Nat)) = true
  | [] => rfl
  | n :: p => by simp only [List.map_cons, tupyAll, tupy, tupyAll_ints p, Bool.and_self]
theorem tupy_path (p : List Nat) : tupy (pathData p) = true := by simp only [pathData, tupy, tupyAll_ints]
theorem tupy_paths : ∀ ps : List (List Nat), tupyAll (ps.map pathData) = true
  | [] => rfl
  | p :: ps => by simp only [List.map_cons, tupyAll, tupy_path p, tupy_paths ps, Bool.and_self]
def PathOk (g : Ge) : List Nat → Prop
  | [k] => ∃ h, g.gs[k]? = some h
  | [k, j] => ∃ h i, g.gs[k]? = some h ∧ h.gs[j]? = some i
  | _ => False
def spPaths (K : PySem.W.Frag) : Sp := fun vs H Q _ => ∃ (v : V) (g : Ge), vs = [v] ∧ Dp K H v g.data ∧ Wf PatTip g ∧
  ∀ (l : Addr) (us : List V) (ps : List (List Nat)) H', Fr [] H H' → H l = none → H' l = some (.lst us) → DpAll K H' us (ps.map pathData) → (∀ p ∈ ps, PathOk g p) → ps.length ≤ 12 → Q (.ref l) H'
theorem patTip_1 {ks : List NestedKey} (h : PatTip ks) : ks.length = 1 := by rcases h with rfl | rfl <;> rfl
theorem ok_paths (F : Fun K "_law_paths" "_law_paths" s__law_paths f fd) (T : Txt K mg) : FnOk P w K mg base CX0 1 f fd P__law_paths (spPaths K) := by
  refine F.ok sc__law_paths (fun vs H Q E h => ?_) (fun cdv A outer s H vs Q E hr h => ?_)
  · obtain ⟨v, g, rfl, _⟩ := h
    rfl
  obtain ⟨v, g, rfl, hv, wf, k⟩ := h
  have nd := (sc__law_paths).nd
  refine ⟨_, pss_cons (ps_set (i := 1) nd rfl (Or.inl rfl) (pe_lst pa_nil))
  (pss_cons (ps_if (pt_cmpR op_eq (pe_callB (call_lenK K) (by rfl) T.len_ PySem.boot_len (pa_cons (pv 0) pa_nil)) pe_int (nomark _))
    (pss_one (ps_for PassesOwn.never rfl (pi_range1 (by rfl) T.range_ (pa_cons (pe_callB (call_lenK K) (by rfl) T.len_ PySem.boot_len (pa_cons (pe_ix (ix_tupK K) (pv 0) pe_int (fun _ _ => rfl)) pa_nil)) pa_nil)) (pg_name (i := 2) nd rfl (Or.inr rfl))
      (pss_cons (ps_expr (pe_bmK K PySem.F.plainAttrs_list PySem.F.slot_list_append PySem.F.type_list_append mt_append (pv 1) (pa_cons (pe_tup (pa_cons (pv 2) pa_nil)) pa_nil)))
      (pss_one (ps_if (pt_cmpR op_eq (pe_callB (call_lenK K) (by rfl) T.len_ PySem.boot_len (pa_cons (pe_ix (ix_tupK K) (pe_ix (ix_tupK K) (pv 0) pe_int (fun _ _ => rfl)) (pv 2) (fun _ _ => rfl)) pa_nil)) pe_int (nomark _))
        (pss_one (ps_expr (pe_bmK K PySem.F.plainAttrs_list PySem.F.slot_list_extend PySem.F.type_list_extend mt_extend (pv 1) (pa_cons (pe_lc (own := [("_law_j", 3)]) (g := gName 3) (tt := tYes) (by rfl) nd (pi_range1 (by rfl) T.range_ (pa_cons (pe_callB (call_lenK K) (by rfl) T.len_ PySem.boot_len (pa_cons (pe_ix (ix_tupK K) (pe_ix (ix_tupK K) (pe_ix (ix_tupK K) (pv 0) pe_int (fun _ _ => rfl)) (pv 2) (fun _ _ => rfl)) pe_int (fun _ _ => rfl)) pa_nil)) pa_nil)) (blkOk_by (N := N__law_paths) (sc := defScope s__law_paths) (own := [("_law_j", 3)]) (by decide +kernel)) (fun _ _ _ _ _ => (pg_name (i := 3) nd rfl (Or.inl rfl))) (fun _ _ _ _ _ => pts_nil) (fun _ _ _ _ _ => (pe_tup (pa_cons (pv 2) (pa_cons (pv 3) pa_nil))))) pa_nil))))
        (pss_nil))))))
    (pss_nil))
  (pss_one (ps_ret (pv 1)))), ?_⟩
  refine ⟨Nat.zero_le _, fun l hl => ?_⟩
  have f0 : Fr [] H (upd H l (.lst [])) := Fr.new hl
  cases g with
  | tip ks =>
    obtain ⟨a, us, rfl, hs, hd⟩ := dp_tip hv
    simp only [Wf] at wf
    have hu1 : us.length = 1 := by rw [DpAll.length hd, nkdatas_len, patTip_1 wf]
    refine ⟨_, rfl, a, _, rfl, .inr (f0.sqT hs), rfl, _, rfl, ?_⟩
    refine ite2 (fun c => absurd (of_decide_eq_true c) (by rw [hu1]; decide)) (fun _ => ?_)
    exact ⟨_, rfl, k l [] [] _ f0 hl upd_same .nil (by simp) (by simp)⟩
  | node lb gs =>
    obtain ⟨a, b, us, rfl, hs, hb, hd⟩ := dp_node hv
    simp only [Wf] at wf
    have w3 := wf.2.1
    have eu : us.length = gs.length := ges_len hd
    refine ⟨_, rfl, a, _, rfl, .inr (f0.sqT hs), rfl, _, rfl, ?_⟩
    refine ite2 (fun _ => ?_) (fun c => absurd (by show decide (V.int 2 = V.int 2) = true; decide) c)
    refine ⟨_, rfl, a, _, _, .ref b, rfl, rfl, f0.sqT hs, rfl, b, us, rfl, .inr (f0.sqT hb), _, rfl, by omega, by omega, ?_⟩
    refine for_range (lo := 0) (n := us.length) (fun i σ H' => ∃ (xs : List V) (ps : List (List Nat)) (u u3 : Option V), σ = [some (.ref a), some (.ref l), u, u3] ∧ Fr [] H H' ∧ H' l = some (.lst xs) ∧ DpAll K H' xs (ps.map pathData) ∧ (∀ p ∈ ps, PathOk (.node lb gs) p) ∧ ps.length ≤ 4 * i)
      ⟨[], [], none, none, rfl, f0, upd_same, .nil, by simp, by simp⟩ ?_ ?_
    · rintro i σ H' hi ⟨xs, ps, u, u3, rfl, ff, hli, hdp, hok, hlen⟩
      obtain ⟨x, hxi⟩ : ∃ x, us[i]? = some x := ⟨us[i], List.getElem?_eq_getElem hi⟩
      obtain ⟨g, hg, hgx⟩ := ges_get hd hxi
      have ax : atI us (0 + (i : Int)) = some x := by rw [Int.zero_add]; exact atI_nat hxi
      have mg' : g ∈ gs := List.mem_of_getElem? hg
      have xl : xs.length = ps.length := by rw [DpAll.length hdp, List.length_map]
      refine ⟨_, rfl, .inl ⟨rfl, _, SqL.of hli⟩, _, rfl, (by show 1 ≤ sizeLine; decide), fun t ht => ?_⟩
      have nlt : l ≠ t := ne_of_none hli ht
      have f1 : Fr [] H' (upd H' t (.tup [.int (0 + (i : Int))])) := Fr.new ht
      have hl1 := f1.keep l _ (by simp) hli
      refine ⟨l, xs, .ref t, rfl, rfl, hl1, small1000 (by omega), ?_⟩
      have f2 : Fr [l] (upd H' t (.tup [.int (0 + (i : Int))])) (upd (upd H' t (.tup [.int (0 + (i : Int))])) l (.lst (xs ++ [.ref t]))) := Fr.lst hl1 (by simp)
      generalize hH2 : upd (upd H' t (.tup [.int (0 + (i : Int))])) l (.lst (xs ++ [.ref t])) = H2 at f2
      have ff2 : Fr [] H H2 := by rw [← hH2]; exact (ff.trans f1).mut hl
      have hl2 : H2 l = some (.lst (xs ++ [.ref t])) := by rw [← hH2]; exact upd_same
      have tk : SqT K H2 t [.int ((i : Nat) : Int)] := by have := f2.sqT (K := K) (SqT.of (upd_same (H := H') (a := t) (o := .tup [.int (0 + (i : Int))]))); rwa [Int.zero_add] at this
      have dp2 : DpAll K H2 (xs ++ [.ref t]) ((ps ++ [[i]]).map pathData) := by
        rw [List.map_append]
        exact DpAll.append (f2.dpAll _ _ (tupy_paths _) (f1.dpAll _ _ (tupy_paths _) hdp)) (.cons (.tup tk (.cons (.int _) .nil)) .nil)
      have ok2 : ∀ p ∈ ps ++ [[i]], PathOk (.node lb gs) p := by
        intro p hp
        rcases List.mem_append.mp hp with h | h
        · exact hok p h
        · rw [List.mem_singleton.mp h]
          exact ⟨g, hg⟩
      -- if len(pattern[1][k]) == 2
      have base_end : (∃ (xs' : List V) (ps' : List (List Nat)) (u' u3' : Option V), [some (V.ref a), some (.ref l), some (.int (0 + (i : Int))), u3] = [some (.ref a), some (.ref l), u', u3'] ∧ Fr [] H H2 ∧ H2 l = some (.lst xs') ∧ DpAll K H2 xs' (ps'.map pathData) ∧ (∀ p ∈ ps', PathOk (.node lb gs) p) ∧ ps'.length ≤ 4 * (i + 1)) :=
        ⟨_, ps ++ [[i]], _, _, rfl, ff2, hl2, dp2, ok2, by simp; omega⟩
      refine ⟨_, rfl, a, _, _, .ref b, rfl, rfl, ff2.sqT hs, rfl, _, rfl, b, us, _, x, rfl, rfl, ff2.sqT hb, ax, ?_⟩
      cases g with
      | tip ks =>
        obtain ⟨a2, us2, rfl, hs2, hd2⟩ := dp_tip hgx
        have wg := wf.2.2.mem mg'
        simp only [Wf] at wg
        have hu1 : us2.length = 1 := by rw [DpAll.length hd2, nkdatas_len, patTip_1 wg]
        refine ⟨a2, us2, rfl, .inr (ff2.sqT hs2), rfl, _, rfl, ?_⟩
        refine ite2 (fun c => absurd (of_decide_eq_true c) (by rw [hu1]; decide)) (fun _ => ?_)
        exact base_end
      | node l2 hs' =>
        obtain ⟨a2, b2, us2, rfl, hs2, hb2, hd2⟩ := dp_node hgx
        have wg := wf.2.2.mem mg'
        simp only [Wf] at wg
        have wg3 := wg.2.1
        have eu2 : us2.length = hs'.length := ges_len hd2
        refine ⟨a2, _, rfl, .inr (ff2.sqT hs2), rfl, _, rfl, ?_⟩
        refine ite2 (fun _ => ?_) (fun c => absurd (by show decide (V.int 2 = V.int 2) = true; decide) c)
        refine ⟨_, rfl, .inl ⟨rfl, _, SqL.of hl2⟩, _, rfl, a, _, _, .ref b, rfl, rfl, ff2.sqT hs, rfl, _, rfl, b, us, _, .ref a2, rfl, rfl, ff2.sqT hb, ax, a2, _, _, .ref b2, rfl, rfl, ff2.sqT hs2, rfl, b2, us2, rfl, .inr (ff2.sqT hb2), _, rfl, by omega, by omega, fun D hD => ?_⟩
        refine lc_range (lo := 0) (n := us2.length) (fun j H3 => ∃ zs : List V, Fr [] H2 H3 ∧ H3 D = some (.lst zs) ∧ DpAll K H3 zs (((List.range j).map fun j => [i, j]).map pathData)) ⟨[], Fr.new hD, upd_same, .nil⟩ ?_ ?_
        · rintro j H3 hj ⟨zs, f4, hDz, hdz⟩
          refine ⟨rfl, _, rfl, _, rfl, (by show 2 ≤ sizeLine; decide), fun t2 ht2 => ?_⟩
          have f5 : Fr [] H3 (upd H3 t2 (.tup [.int (0 + (i : Int)), .int (0 + (j : Int))])) := Fr.new ht2
          have hD5 := f5.keep D _ (by simp) hDz
          have zl : zs.length = j := by rw [DpAll.length hdz, List.length_map, List.length_map, List.length_range]
          refine ⟨zs, hD5, small1000 (by omega), zs ++ [.ref t2], (f4.trans f5).mut hD, upd_same, ?_⟩
          have fD : Fr [D] (upd H3 t2 (.tup [.int (0 + (i : Int)), .int (0 + (j : Int))])) (upd (upd H3 t2 (.tup [.int (0 + (i : Int)), .int (0 + (j : Int))])) D (.lst (zs ++ [.ref t2]))) := Fr.lst hD5 (by simp)
          have tk2 := fD.sqT (K := K) (SqT.of (upd_same (H := H3) (a := t2) (o := .tup [.int (0 + (i : Int)), .int (0 + (j : Int))])))
          rw [Int.zero_add, Int.zero_add] at tk2
          rw [List.range_succ, List.map_append, List.map_append]
          rw [Int.zero_add, Int.zero_add] at fD f5 ⊢
          exact DpAll.append (fD.dpAll _ _ (tupy_paths _) (f5.dpAll _ _ (tupy_paths _) hdz)) (.cons (.tup tk2 (.cons (.int _) (.cons (.int _) .nil))) .nil)
        · rintro H3 ⟨zs, f4, hDz, hdz⟩
          have zl : zs.length = us2.length := by rw [DpAll.length hdz, List.length_map, List.length_map, List.length_range]
          have hl3 := f4.keep l _ (by simp) hl2
          refine ⟨l, D, _, zs, rfl, rfl, hl3, hDz, sz1000 (by simp; omega), ?_⟩
          have fl : Fr [l] H3 (upd H3 l (.lst (xs ++ [.ref t] ++ zs))) := Fr.lst hl3 (by simp)
          refine ⟨xs ++ [.ref t] ++ zs, ps ++ [[i]] ++ (List.range us2.length).map (fun j => [i, j]), _, _, rfl, (ff2.trans f4).mut hl, upd_same, ?_, ?_, ?_⟩
          · rw [List.map_append]
            exact DpAll.append (fl.dpAll _ _ (tupy_paths _) (f4.dpAll _ _ (tupy_paths _) dp2)) (fl.dpAll _ _ (tupy_paths _) hdz)
          · intro p hp
            rcases List.mem_append.mp hp with h | h
            · exact ok2 p h
            · obtain ⟨j, hj, rfl⟩ := List.mem_map.mp h
              rw [List.mem_range, eu2] at hj
              exact ⟨_, _, hg, List.getElem?_eq_getElem hj⟩
          · simp; omega
    · rintro σ H' ⟨xs, ps, u, u3, rfl, ff, hli, hdp, hok, hlen⟩
      exact ⟨_, rfl, k l xs ps H' ff hl hli hdp hok (by omega)⟩
end TT


namespace TT
open PySem L2

/-! ### a pattern -/
def spPattern (K : PySem.W.Frag) (n : Nat) : Sp := fun vs H Q _ => ∃ (b q : Addr) (z : Str) (d : Int), vs = [.ref b, .str z, .int d] ∧ BoxAt H b q ∧ LettersOk z ∧ 1 ≤ d ∧ d ≤ n ∧
  ∀ (g : Ge) (v : V) (H' : Hp), Wf PatTip g → (g.levels : Int) ≤ d → Fr [b, q] H H' → BoxAt H' b q → Dp K H' v g.data → Q v H'
theorem four_ref (a b c d : Addr) (r : Int) (h0 : 0 ≤ r) (h4 : r < 4) : ∃ e, atI [V.ref a, .ref b, .ref c, .ref d] r = some (.ref e) ∧ (e = a ∨ e = b ∨ e = c ∨ e = d) := by
  have hr : r = 0 ∨ r = 1 ∨ r = 2 ∨ r = 3 := by omega
  rcases hr with rfl | rfl | rfl | rfl
  · exact ⟨a, rfl, .inl rfl⟩
  · exact ⟨b, rfl, .inr (.inl rfl)⟩
  · exact ⟨c, rfl, .inr (.inr (.inl rfl))⟩
  · exact ⟨d, rfl, .inr (.inr (.inr rfl))⟩
theorem ok_pattern (F : Fun K "_law_pattern" "_law_pattern" s__law_pattern f fd) (T : Txt K mg) (c_law_take : Callee P w K mg base 1 "_law_take" P__law_take (spTake K)) (mf : mg "_law_pattern" = some (.ref f)) (bf : Binds K fd P__law_pattern []) :
    ∀ n : Nat, FnOk P w K mg base CX0 (n + 1) f fd P__law_pattern (spPattern K n)
  | 0 => by
    have no : ∀ vs H Q E, ¬ spPattern K 0 vs H Q E := fun vs H Q E h => by
      obtain ⟨b, q, z, d, _, _, _, h1, h2, _⟩ := h
      omega
    exact ⟨fun vs H Q E h => absurd h (no vs H Q E), fun A outer s H args us vs Q E _ _ _ _ h => absurd h (no vs H Q E)⟩
  | n + 1 => by
    have c_law_pattern : Callee P w K mg base (n + 1) "_law_pattern" P__law_pattern (spPattern K n) := ⟨f, fd, ok_pattern F T c_law_take mf bf n, mf, F.kp, bf⟩
    refine F.ok sc__law_pattern (fun vs H Q E h => ?_) (fun cdv A outer s H vs Q E hr h => ?_)
    · obtain ⟨b, q, z, d, rfl, _⟩ := h
      rfl
    obtain ⟨b, q, z, d, rfl, hB, hz, d1, dn, k⟩ := h
    have nd := (sc__law_pattern).nd
    have z1 := hz.1
    have z2 := hz.2.1
    refine ⟨_, pss_cons (ps_set (i := 3) nd rfl (Or.inl rfl) (pe_own c_law_take hr (pa_cons (pv 0) (pa_cons pe_int pa_nil))))
  (pss_cons (ps_if (PW.pt (pw_or (pt_cmpR op_lt (pv 2) pe_int (nomark _)) (pw_or1 (pt_cmpR op_lt (pv 3) pe_int (nomark _)))))
    (pss_one (ps_ret (pe_ix (ix_listK K) (pe_lst (pa_cons (pe_tup (pa_cons pe_str pa_nil)) (pa_cons (pe_tup (pa_cons pe_str pa_nil)) (pa_cons (pe_tup (pa_cons pe_str pa_nil)) (pa_cons (pe_tup (pa_cons (pe_ix ix_str (pv 1) (pe_own c_law_take hr (pa_cons (pv 0) (pa_cons (pe_callB call_len_str (by rfl) T.len_ PySem.boot_len (pa_cons (pv 1) pa_nil)) pa_nil))) (fun _ _ => rfl)) (pa_cons (pe_tup pa_nil) pa_nil))) pa_nil))))) (pe_own c_law_take hr (pa_cons (pv 0) (pa_cons pe_int pa_nil))) (fun _ _ => rfl))))
    (pss_nil))
  (pss_cons (ps_set (i := 4) nd rfl (Or.inl rfl) (pe_own c_law_take hr (pa_cons (pv 0) (pa_cons pe_int pa_nil))))
  (pss_one (ps_ret (pe_tup (pa_cons (pe_ix ix_str (pv 1) (pe_own c_law_take hr (pa_cons (pv 0) (pa_cons (pe_callB call_len_str (by rfl) T.len_ PySem.boot_len (pa_cons (pv 1) pa_nil)) pa_nil))) (fun _ _ => rfl)) (pa_cons (pe_callTy (call_tupK K) (by rfl) T.tuple_ (by decide +kernel) (pa_cons (pe_lc (own := [("_law_k", 5)]) (g := gName 5) (tt := tYes) (by rfl) nd (pi_range1 (by rfl) T.range_ (pa_cons (pv 4) pa_nil)) (blkOk_by (N := N__law_pattern) (sc := defScope s__law_pattern) (own := [("_law_k", 5)]) (by decide +kernel)) (fun _ _ _ _ _ => (pg_name (i := 5) nd rfl (Or.inl rfl))) (fun _ _ _ _ _ => pts_nil) (fun _ _ _ _ _ => (pe_own c_law_pattern hr (pa_cons (pv 0) (pa_cons (pv 1) (pa_cons (pe_op op_sub (pv 2) pe_int) pa_nil)))))) pa_nil)) pa_nil))))))), ?_⟩
    refine ⟨_, rfl, b, q, 6, rfl, hB, by decide, by decide, fun way H1 w0 w6 f1 hB1 => ?_⟩
    refine ⟨_, rfl, _, _, rfl, rfl, _, rfl, ?_⟩
    refine ite2 (fun _ => iteT ?_) (fun c1 => ⟨_, rfl, _, _, rfl, rfl, _, rfl, ite2 (fun _ => ?_) (fun _ => ?_)⟩)
    rotate_left 2
    · have d2 : 2 ≤ d := by
        have : ¬ d < 2 := fun h => c1 (decide_eq_true h)
        omega
      refine ⟨_, rfl, b, q, 4, rfl, hB1, by decide, by decide, fun many H2 m0 m4 f2 hB2 => ?_⟩
      refine ⟨_, rfl, _, rfl, _, rfl, z, rfl, hz.len, b, q, _, rfl, hB2, by omega, by omega, fun r H3 r0 r1 f3 hB3 => ?_⟩
      obtain ⟨c, ec, hc⟩ := hz.at r0 r1
      refine ⟨z, r, c, rfl, rfl, hz.len, ec, _, rfl, many, rfl, by omega, by omega, fun D hD => ?_⟩
      have nD := hB3.nb hD
      have fH3 := (f1.trans f2).trans f3
      have hD0 := fH3.freeS nD hD
      refine lc_range (lo := 0) (n := many.toNat) (fun i H' => ∃ (gs : List Ge) (us : List V), Fr [b, q] H H' ∧ BoxAt H' b q ∧ H' D = some (.lst us) ∧ DpAll K H' us (Ge.datas gs) ∧ gs.length = i ∧ WfAll PatTip gs ∧ (Ge.levelsAll gs : Int) ≤ d - 1)
        ⟨[], [], fH3.trans (Fr.new hD), hB3.upd nD, upd_same, by rw [Ge.datas_nil]; exact .nil, rfl, by simp [WfAll], by simp [Ge.levelsAll]; omega⟩ ?_ ?_
      · rintro i H' hi ⟨gs, us, ff, hBi, hDi, hdp, hl, hwf, hlv⟩
        refine ⟨rfl, _, rfl, _, rfl, _, rfl, _, _, rfl, rfl, b, q, z, d - 1, rfl, hBi, hz, by omega, by omega, fun g v H4 wg lg f4 hB4 hv => ?_⟩
        have hD4 := f4.keep D _ nD hDi
        have ul : us.length = gs.length := ges_len hdp
        have ft : Fr [D] H4 (upd H4 D (.lst (us ++ [v]))) := Fr.lst hD4 (by simp)
        refine ⟨us, hD4, small1000 (by omega), gs ++ [g], us ++ [v], (ff.trans f4).mut hD0, hB4.upd nD, upd_same, ft.ges (ges_snoc (f4.ges hdp) hv), by simp [hl], hwf.append (by simp only [WfAll]; exact ⟨wg, True.intro⟩), ?_⟩
        rw [Ge.levelsAll_append]; simp [Ge.levelsAll] <;> omega
      · rintro H' ⟨gs, us, ff, hBi, hDi, hdp, hl, hwf, hlv⟩
        refine ⟨D, us, rfl, .inl ⟨SqL.of hDi, fun t ht => ⟨(by show 2 ≤ sizeLine; decide), fun p hp => ?_⟩⟩⟩
        have ft : Fr [] H' (upd H' t (.tup us)) := Fr.new ht
        have fp : Fr [] (upd H' t (.tup us)) (upd (upd H' t (.tup us)) p (.tup [.str ⟨#[c]⟩, .ref t])) := Fr.new hp
        have fl := ft.trans fp
        refine k (.node ⟨#[c]⟩ gs) _ _ ?_ ?_ (ff.trans fl.mono0) (hBi.fr0 fl) ?_
        · simp only [Wf]
          exact ⟨hc, by omega, hwf⟩
        · simp only [Ge.levels]; omega
        · exact dp_node_of (SqT.of upd_same) (fp.sqT (SqT.of upd_same)) (fl.ges hdp)
    all_goals
      refine ⟨(by show 1 ≤ sizeLine; decide), fun t0 h0 => ⟨(by show 1 ≤ sizeLine; decide), fun t1 h1 => ⟨(by show 1 ≤ sizeLine; decide), fun t2 h2 => ?_⟩⟩⟩
      have g0 : Fr [] H1 (upd H1 t0 (.tup [.str "any"])) := Fr.new h0
      have g1 : Fr [] _ (upd (upd H1 t0 (.tup [.str "any"])) t1 (.tup [.str "any"])) := Fr.new h1
      have g2 : Fr [] _ (upd (upd (upd H1 t0 (.tup [.str "any"])) t1 (.tup [.str "any"])) t2 (.tup [.str "leaf"])) := Fr.new h2
      have a0 : Dp K _ (.ref t0) gAny.data := dp_word_of ((g1.trans g2).sqT (SqT.of upd_same))
      have a1 : Dp K _ (.ref t1) gAny.data := dp_word_of (g2.sqT (SqT.of upd_same))
      have a2 : Dp K (upd (upd (upd H1 t0 (.tup [.str "any"])) t1 (.tup [.str "any"])) t2 (.tup [.str "leaf"])) (.ref t2) gLeaf.data := dp_word_of (SqT.of upd_same)
      have gg := (g0.trans g1).trans g2
      have hB2 := hB1.fr0 gg
      have ff2 := f1.trans gg.mono0
      generalize upd (upd (upd H1 t0 (.tup [.str "any"])) t1 (.tup [.str "any"])) t2 (.tup [.str "leaf"]) = H2 at a0 a1 a2 hB2 ff2 ⊢
      refine ⟨_, rfl, _, rfl, _, rfl, z, rfl, hz.len, b, q, _, rfl, hB2, by omega, by omega, fun r H3 r0 r1 f3 hB3 => ?_⟩
      obtain ⟨c, ec, hc⟩ := hz.at r0 r1
      refine ⟨z, r, c, rfl, rfl, hz.len, ec, Nat.zero_le _, fun t3 h3 => ⟨(by show 2 ≤ sizeLine; decide), fun t4 h4 => ⟨(by show 4 ≤ sizeLine; decide), fun L hL => ?_⟩⟩⟩
      have g3 : Fr [] H3 (upd H3 t3 (.tup [])) := Fr.new h3
      have g4 : Fr [] _ (upd (upd H3 t3 (.tup [])) t4 (.tup [.str ⟨#[c]⟩, .ref t3])) := Fr.new h4
      have g5 : Fr [] _ (upd (upd (upd H3 t3 (.tup [])) t4 (.tup [.str ⟨#[c]⟩, .ref t3])) L (.lst [.ref t0, .ref t1, .ref t2, .ref t4])) := Fr.new hL
      have a4 : Dp K _ (.ref t4) (Ge.node ⟨#[c]⟩ []).data := dp_node_of (g5.sqT (SqT.of upd_same)) ((g4.trans g5).sqT (SqT.of upd_same)) (by rw [Ge.datas_nil]; exact .nil)
      have gg2 := (g3.trans g4).trans g5
      have hL2 : upd (upd (upd H3 t3 (.tup [])) t4 (.tup [.str ⟨#[c]⟩, .ref t3])) L (.lst [.ref t0, .ref t1, .ref t2, .ref t4]) L = some (.lst [.ref t0, .ref t1, .ref t2, .ref t4]) := upd_same
      have hB4 := hB3.fr0 gg2
      have ff4 := (ff2.trans f3).trans gg2.mono0
      have nL : L ∉ [b, q] := (hB3.fr0 (g3.trans g4)).nb hL
      have b0 := gg2.ge (f3.ge a0)
      have b1 := gg2.ge (f3.ge a1)
      have b2 := gg2.ge (f3.ge a2)
      generalize upd (upd (upd H3 t3 (.tup [])) t4 (.tup [.str ⟨#[c]⟩, .ref t3])) L (.lst [.ref t0, .ref t1, .ref t2, .ref t4]) = H4 at a4 hL2 hB4 ff4 b0 b1 b2 ⊢
      refine ⟨_, rfl, b, q, 4, rfl, hB4, by decide, by decide, fun r' H5 x0 x4 f5 hB5 => ?_⟩
      obtain ⟨e, ee, he⟩ := four_ref t0 t1 t2 t4 r' x0 x4
      refine ⟨L, _, r', .ref e, rfl, rfl, SqL.of (f5.keep _ _ nL hL2), ee, ?_⟩
      have fin : ∀ g : Ge, Dp K H4 (.ref e) g.data → Wf PatTip g → g.levels = 1 → Q (.ref e) H5 := fun g hg wg lg => k g _ H5 wg (by rw [lg]; exact d1) (ff4.trans f5) hB5 (f5.ge hg)
      rcases he with rfl | rfl | rfl | rfl
      · exact fin gAny b0 (by simp only [Wf]; exact .inl rfl) (by simp only [Ge.levels])
      · exact fin gAny b1 (by simp only [Wf]; exact .inl rfl) (by simp only [Ge.levels])
      · exact fin gLeaf b2 (by simp only [Wf]; exact .inr rfl) (by simp only [Ge.levels])
      · exact fin _ a4 (by simp only [Wf, WfAll]; exact ⟨hc, by simp, True.intro⟩) (by simp only [Ge.levels, Ge.levelsAll])

end TT


namespace TT
open PySem L2

/-! ### a build -/
abbrev BuTip (ss : List Int) (ps : List (List Nat)) : List NestedKey → Prop := fun ks => ∃ s ∈ ss, ∃ p ∈ ps, ks = [.text "do", .num s, .tup (p.map fun n => .num (n : Nat))]
theorem path_lay : ∀ ps : List (List Nat), PyData.canLayAll0 (ps.map pathData) = true ∧ PyData.depthAll (ps.map pathData) ≤ 1
  | [] => by simp [PyData.canLayAll0, PyData.depthAll]
  | p :: ps => by
    have h := path_lay ps
    have e : ∀ p : List Nat, PyData.canLayAll0 (p.map fun n => PyData.int (n : Nat)) = true ∧ PyData.depthAll (p.map fun n => PyData.int (n : Nat)) = 0 := by
      intro p
      induction p with
      | nil => simp [PyData.canLayAll0, PyData.depthAll]
      | cons n p ih => simp [PyData.canLayAll0, PyData.canLay0, PyData.depthAll, PyData.depth, ih.1, ih.2]
    simp only [List.map_cons, PyData.canLayAll0, PyData.depthAll, pathData, PyData.canLay0, PyData.depth, (e p).1, (e p).2, h.1, Bool.and_self, true_and]
    omega
theorem paths_shaped (ps : List (List Nat)) : SeqAt.shaped (.list (ps.map pathData)) = true :=
  shaped_of (by simp only [PyData.canLay0]; exact (path_lay ps).1) (by simp only [PyData.depth]; have := (path_lay ps).2; omega)
theorem eqv_paths (ps : List (List Nat)) : PyData.eqv (.list (ps.map pathData)) (.list []) = ps.isEmpty := by
  cases ps with
  | nil => simp [PyData.eqv, PyData.eqvAll]
  | cons n ns => simp [PyData.eqv, PyData.eqvAll]
def spBuild (K : PySem.W.Frag) (n : Nat) : Sp := fun vs H Q _ => ∃ (b q sA pA : Addr) (z : Str) (d : Int) (ss : List Int) (us : List V) (ps : List (List Nat)), vs = [.ref b, .str z, .ref sA, .ref pA, .int d] ∧ BoxAt H b q ∧ LettersOk z ∧
  H sA = some (.lst (ss.map V.int)) ∧ sA ∉ [b, q] ∧ 1 ≤ ss.length ∧ ss.length ≤ 6 ∧ H pA = some (.lst us) ∧ pA ∉ [b, q] ∧ DpAll K H us (ps.map pathData) ∧ ps.length ≤ 12 ∧ 1 ≤ d ∧ d ≤ n ∧
  ∀ (g : Ge) (v : V) (H' : Hp), Wf (BuTip ss ps) g → (g.levels : Int) ≤ d → Fr [b, q] H H' → BoxAt H' b q → Dp K H' v g.data → Q v H'
theorem ok_build (F : Fun K "_law_build" "_law_build" s__law_build f fd) (T : Txt K mg) (c_law_take : Callee P w K mg base 1 "_law_take" P__law_take (spTake K)) (mf : mg "_law_build" = some (.ref f)) (bf : Binds K fd P__law_build []) :
    ∀ n : Nat, FnOk P w K mg base CX0 (n + 1) f fd P__law_build (spBuild K n)
  | 0 => by
    have no : ∀ vs H Q E, ¬ spBuild K 0 vs H Q E := fun vs H Q E h => by
      obtain ⟨b, q, sA, pA, z, d, ss, us, ps, _, _, _, _, _, _, _, _, _, _, _, h1, h2, _⟩ := h
      omega
    exact ⟨fun vs H Q E h => absurd h (no vs H Q E), fun A outer s H args us vs Q E _ _ _ _ h => absurd h (no vs H Q E)⟩
  | n + 1 => by
    have c_law_build : Callee P w K mg base (n + 1) "_law_build" P__law_build (spBuild K n) := ⟨f, fd, ok_build F T c_law_take mf bf n, mf, F.kp, bf⟩
    refine F.ok sc__law_build (fun vs H Q E h => ?_) (fun cdv A outer s H vs Q E hr h => ?_)
    · obtain ⟨b, q, sA, pA, z, d, ss, us, ps, rfl, _⟩ := h
      rfl
    obtain ⟨b, q, sA, pA, z, d, ss, us, ps, rfl, hB, hz, hs, ns, s1, s6, hp, np, hdp, pl, d1, dn, k⟩ := h
    have nd := (sc__law_build).nd
    have hu := hr.units
    have z1 := hz.1
    have z2 := hz.2.1
    have ul : us.length = ps.length := by rw [DpAll.length hdp, List.length_map]
    refine ⟨_, pss_cons (ps_if (PW.pt (pw_and (pt_cmpR (op_neK K hu) (pv 3) (pe_lst pa_nil) (nomark _)) (pw_and1 (pt_cmpR op_gt (pe_own c_law_take hr (pa_cons (pv 0) (pa_cons pe_int pa_nil))) pe_int (nomark _)))))
    (pss_one (ps_ret (pe_tup (pa_cons pe_str (pa_cons (pe_ix (ix_listK K) (pv 2) (pe_own c_law_take hr (pa_cons (pv 0) (pa_cons (pe_callB (call_lenK K) (by rfl) T.len_ PySem.boot_len (pa_cons (pv 2) pa_nil)) pa_nil))) (fun _ _ => rfl)) (pa_cons (pe_ix (ix_listK K) (pv 3) (pe_own c_law_take hr (pa_cons (pv 0) (pa_cons (pe_callB (call_lenK K) (by rfl) T.len_ PySem.boot_len (pa_cons (pv 3) pa_nil)) pa_nil))) (fun _ _ => rfl)) pa_nil))))))
    (pss_nil))
  (pss_cons (ps_set (i := 5) nd rfl (Or.inl rfl) (pe_op op_mul (pe_own c_law_take hr (pa_cons (pv 0) (pa_cons pe_int pa_nil))) (pe_callTy call_int1 (by rfl) T.int_ (by decide +kernel) (pa_cons (pe_cmpR op_gt (pv 4) pe_int (nomark _)) pa_nil))))
  (pss_cons (ps_setLc (i := 6) (own := [("_law_k", 7)]) (g := gName 7) (tt := tYes) (by rfl) nd rfl rfl (sw_true rfl rfl rfl (by decide +kernel)) (pi_range1 (by rfl) T.range_ (pa_cons (pv 5) pa_nil)) (blkOk_by (N := N__law_build) (sc := defScope s__law_build) (own := [("_law_k", 7)]) (by decide +kernel)) (fun _ _ _ _ _ => (pg_name (i := 7) nd rfl (Or.inl rfl))) (fun _ _ _ _ _ => pts_nil) (fun _ _ _ _ _ => (pe_own c_law_build hr (pa_cons (pv 0) (pa_cons (pv 1) (pa_cons (pv 2) (pa_cons (pv 3) (pa_cons (pe_op op_sub (pv 4) pe_int) pa_nil))))))))
  (pss_one (ps_ret (pe_tup (pa_cons (pe_ix ix_str (pv 1) (pe_own c_law_take hr (pa_cons (pv 0) (pa_cons (pe_callB call_len_str (by rfl) T.len_ PySem.boot_len (pa_cons (pv 1) pa_nil)) pa_nil))) (fun _ _ => rfl)) (pa_cons (pe_callTy (call_tupK K) (by rfl) T.tuple_ (by decide +kernel) (pa_cons (pv 6) pa_nil)) pa_nil))))))), ?_⟩
    refine ⟨_, rfl, Nat.zero_le _, fun e he => ?_⟩
    have f1 : Fr [b, q] H (upd H e (.lst [])) := Fr.new he
    have hB1 := hB.upd (o := .lst []) (hB.nb he)
    have he1 : upd H e (.lst []) e = some (.lst []) := upd_same
    generalize upd H e (.lst []) = H1 at f1 hB1 he1 ⊢
    refine ⟨.list (ps.map pathData), .list [], .lst (SqL.of (f1.keep _ _ np hp)) (f1.dpAll _ _ (tupy_paths _) hdp), .lst (SqL.of he1) .nil, paths_shaped ps, shaped_of (by decide +kernel) (by decide +kernel), _, rfl, ?_⟩
    rw [eqv_paths]
    refine ite2 (fun cp => ⟨_, rfl, b, q, 3, rfl, hB1, by decide, by decide, fun r H2 r0 r3 f2 hB2 => ⟨_, _, rfl, rfl, _, rfl, ?_⟩⟩) (fun _ => ?_)
    replace f1 := f1.trans f2
    replace hB1 := hB2
    refine ite2 (fun _ => ?_) (fun _ => ?_)
    · -- a do
      have hne : 1 ≤ ps.length := by
        cases ps with
        | nil => simp at cp
        | cons p ps => simp
      refine ⟨_, rfl, _, rfl, _, rfl, sA, _, rfl, .inl (SqL.of (f1.keep _ _ ns hs)), b, q, _, rfl, hB1, ?_, ?_, fun r1 H3 x0 x1 f3 hB3 => ?_⟩
      · rw [List.length_map]; omega
      · rw [List.length_map]; omega
      rw [List.length_map] at x1
      obtain ⟨sv, es, ms⟩ := atI_of (xs := ss.map V.int) x0 (by rw [List.length_map]; exact x1)
      obtain ⟨si, msi, rfl⟩ := List.mem_map.mp ms
      replace f1 := f1.trans f3
      refine ⟨sA, _, _, _, rfl, rfl, SqL.of (f1.keep _ _ ns hs), es, _, rfl, _, rfl, _, rfl, pA, us, rfl, .inl (SqL.of (f1.keep _ _ np hp)), b, q, _, rfl, hB3, by omega, by omega, fun r2 H4 y0 y1 f4 hB4 => ?_⟩
      replace f1 := f1.trans f4
      obtain ⟨j, rfl⟩ : ∃ j : Nat, r2 = (j : Int) := ⟨r2.toNat, by omega⟩
      have hj : j < us.length := by omega
      have hj2 : j < ps.length := by omega
      obtain ⟨dj, ej, hdj⟩ := DpAll.get (f1.dpAll _ _ (tupy_paths _) hdp) (List.getElem?_eq_getElem hj)
      rw [List.getElem?_map, List.getElem?_eq_getElem hj2] at ej
      cases ej
      refine ⟨pA, us, _, _, rfl, rfl, SqL.of (f1.keep _ _ np hp), atI_nat (List.getElem?_eq_getElem hj), (by show 3 ≤ sizeLine; decide), fun p0 hp0 => ?_⟩
      have f5 : Fr [] H4 (upd H4 p0 (.tup [.str "do", .int si, us[j]])) := Fr.new hp0
      refine k (.tip [.text "do", .num si, .tup (ps[j].map fun n => .num (n : Nat))]) _ _ ?_ ?_ (f1.trans f5.mono0) (hB4.fr0 f5) ?_
      · simp only [Wf]
        exact ⟨si, msi, ps[j], List.getElem_mem _, rfl⟩
      · simp only [Ge.levels]; exact d1
      · rw [Ge.data_tip]
        simp only [NestedKey.datas, NestedKey.data, numsData]
        exact .tup (SqT.of upd_same) (.cons (.str _) (.cons (.int _) (.cons (f5.dp _ _ (tupy_path _) hdj) .nil)))
    all_goals
      refine ⟨_, rfl, b, q, 4, rfl, hB1, by decide, by decide, fun m H2 m0 m4 f2 hB2 => ⟨_, rfl, _, _, rfl, rfl, .inr ⟨_, rfl, _, _, rfl, rfl, .inl ⟨by omega, by omega⟩, ?_⟩⟩⟩
      replace f1 := f1.trans f2
      have em : ∃ mm : Int, m * (if decide (1 < d) = true then 1 else 0) = mm ∧ 0 ≤ mm ∧ mm ≤ 3 ∧ (0 < mm → 2 ≤ d) := by
        by_cases h : 1 < d
        · rw [if_pos (decide_eq_true h)]
          exact ⟨m, by omega, by omega, by omega, fun _ => by omega⟩
        · rw [if_neg (by rw [decide_eq_false h]; decide)]
          exact ⟨0, by omega, by omega, by omega, fun h => absurd h (by decide)⟩
      obtain ⟨mm, emm, mm0, mm3, mmd⟩ := em
      refine ⟨_, rfl, mm, by rw [← emm], by omega, by omega, fun D hD => ?_⟩
      have nD := hB2.nb hD
      have hD0 := f1.freeS nD hD
      refine lc_range (lo := 0) (n := mm.toNat) (fun i H' => ∃ (gs : List Ge) (ws : List V), Fr [b, q] H H' ∧ BoxAt H' b q ∧ H' D = some (.lst ws) ∧ DpAll K H' ws (Ge.datas gs) ∧ gs.length = i ∧ WfAll (BuTip ss ps) gs ∧ (Ge.levelsAll gs : Int) ≤ d - 1)
        ⟨[], [], f1.trans (Fr.new hD), hB2.upd nD, upd_same, by rw [Ge.datas_nil]; exact .nil, rfl, by simp [WfAll], by simp [Ge.levelsAll]; omega⟩ ?_ ?_
      · rintro i H' hi ⟨gs, ws, ff, hBi, hDi, hdg, hl, hwf, hlv⟩
        have hd2 := mmd (by omega)
        refine ⟨rfl, _, rfl, _, rfl, _, rfl, _, rfl, _, rfl, _, _, rfl, rfl, b, q, sA, pA, z, d - 1, ss, us, ps, rfl, hBi, hz, ff.keep _ _ ns hs, ns, s1, s6, ff.keep _ _ np hp, np, ff.dpAll _ _ (tupy_paths _) hdp, pl, by omega, by omega, fun g v H4 wg lg f4 hB4 hv => ?_⟩
        have hD4 := f4.keep D _ nD hDi
        have wl : ws.length = gs.length := ges_len hdg
        have ft : Fr [D] H4 (upd H4 D (.lst (ws ++ [v]))) := Fr.lst hD4 (by simp)
        refine ⟨ws, hD4, small1000 (by omega), gs ++ [g], ws ++ [v], (ff.trans f4).mut hD0, hB4.upd nD, upd_same, ft.ges (ges_snoc (f4.ges hdg) hv), by simp [hl], hwf.append (by simp only [WfAll]; exact ⟨wg, True.intro⟩), ?_⟩
        rw [Ge.levelsAll_append]; simp [Ge.levelsAll] <;> omega
      · rintro H' ⟨gs, ws, ff, hBi, hDi, hdg, hl, hwf, hlv⟩
        refine ⟨_, rfl, _, rfl, _, rfl, z, rfl, hz.len, b, q, _, rfl, hBi, by omega, by omega, fun r H3 r0 r1 f3 hB3 => ?_⟩
        obtain ⟨c, ec, hc⟩ := hz.at r0 r1
        refine ⟨z, r, c, rfl, rfl, hz.len, ec, _, rfl, D, ws, rfl, .inl ⟨SqL.of (f3.keep _ _ nD hDi), fun t ht => ⟨(by show 2 ≤ sizeLine; decide), fun p hp => ?_⟩⟩⟩
        have ft : Fr [] H3 (upd H3 t (.tup ws)) := Fr.new ht
        have fp : Fr [] (upd H3 t (.tup ws)) (upd (upd H3 t (.tup ws)) p (.tup [.str ⟨#[c]⟩, .ref t])) := Fr.new hp
        have fl := ft.trans fp
        refine k (.node ⟨#[c]⟩ gs) _ _ ?_ ?_ ((ff.trans f3).trans fl.mono0) (hB3.fr0 fl) ?_
        · simp only [Wf]
          exact ⟨hc, by omega, hwf⟩
        · simp only [Ge.levels]; omega
        · exact dp_node_of (SqT.of upd_same) (fp.sqT (SqT.of upd_same)) (fl.ges (f3.ges hdg))
end TT


namespace TT
open PySem L2

theorem cutV_whole {xs : List V} {lo hi : Option Int} (h : HT.sIx xs.length 0 lo = 0 ∧ HT.sIx xs.length xs.length hi = xs.length) : cutV xs lo hi = xs := by
  unfold cutV
  rw [h.1, h.2]
  simp
theorem sl_tupP {X : Cx} (K : PySem.W.Frag) (hK : X.K = K := by rfl) : SlR X (rSlP K) := by
  subst hK
  intro pins s σ H x v vl vu lo hi sl Q I rx hs pl pu h
  obtain ⟨a, xs, rfl, ha, q⟩ := h
  exact sl_tupA pins s σ H _ v vl vu lo hi sl Q I rx hs pl pu ⟨a, xs, rfl, ha, fun hw => q a H (Fr.refl _ _) (by rw [cutV_whole hw]; exact ha), fun _ p hp => q p _ (Fr.new hp) (SqT.of upd_same)⟩

/-! ### a rule -/
structure Ru where
  st : Int
  spot : NestedKey
  pat : Ge
  bu : Ge
def Ru.key (r : Ru) : NestedKey := .tup [.num r.st, r.spot, r.pat.key, r.bu.key]
def Ru.data (r : Ru) : PyData := .tuple [.int r.st, r.spot.data, r.pat.data, r.bu.data]
theorem Ru.data_key (r : Ru) : r.data = r.key.data := by simp only [Ru.data, Ru.key, NestedKey.data, NestedKey.datas, Ge.data]
theorem tupy_ru (r : Ru) : tupy r.data = true := by rw [Ru.data_key]; exact nk_tupy _
theorem tupy_rus : ∀ rs : List Ru, tupyAll (rs.map Ru.data) = true
  | [] => rfl
  | r :: rs => by simp only [List.map_cons, tupyAll, tupy_ru r, tupy_rus rs, Bool.and_self]
abbrev kTop : NestedKey := .tup [.text "top"]
def SpotOk (k : NestedKey) : Prop := k = .none ∨ k = kTop ∨ (∃ l, isL l ∧ k = .tup [.text "under", .text l]) ∨ ∃ j : Int, 0 ≤ j ∧ j ≤ 2 ∧ k = .tup [.text "kid", .num j]
abbrev DoTip (p : Ge) : List NestedKey → Prop := fun ks => ∃ s : Int, 0 ≤ s ∧ s ≤ 5 ∧ ∃ π, PathOk p π ∧ ks = [.text "do", .num s, .tup (π.map fun n => .num (n : Nat))]
structure RuOk (r : Ru) : Prop where
  st0 : 0 ≤ r.st
  st5 : r.st ≤ 5
  spot : SpotOk r.spot
  pat : Wf PatTip r.pat
  ps : r.pat.size ≤ 7
  pl : r.pat.levels ≤ 3
  bu : Wf (DoTip r.pat) r.bu
  bs : r.bu.size ≤ 12
  bl : r.bu.levels ≤ 4
def spRule (K : PySem.W.Frag) : Sp := fun vs H Q _ => ∃ (b q sA : Addr) (z : Str) (ss : List Int), vs = [.ref b, .str z, .ref sA] ∧ BoxAt H b q ∧ LettersOk z ∧ H sA = some (.lst (ss.map V.int)) ∧ sA ∉ [b, q] ∧ 1 ≤ ss.length ∧ ss.length ≤ 6 ∧ (∀ s ∈ ss, 0 ≤ s ∧ s ≤ 5) ∧
  ∀ (r : Ru) (v : V) (H' : Hp), RuOk r → Fr [b, q] H H' → BoxAt H' b q → Dp K H' v r.data → Q v H'
theorem levels_sizes2 {T : List NestedKey → Prop} : ∀ {gs : List Ge}, WfAll T gs → Ge.levelsAll gs ≤ 1 → Ge.sizes gs = gs.length
  | [], _, _ => by simp [Ge.sizes]
  | g :: gs, h, hl => by
    simp only [WfAll] at h
    simp only [Ge.levelsAll] at hl
    have ih := levels_sizes2 h.2 (by omega)
    have : g.size = 1 := by
      cases g with
      | tip ks => simp only [Ge.size]
      | node l hs =>
        have hl2 : (Ge.node l hs).levels ≤ 1 := by omega
        simp only [Ge.levels] at hl2
        cases hs with
        | nil => simp only [Ge.size, Ge.sizes]
        | cons x xs =>
          simp only [Ge.levelsAll] at hl2
          have := x.levels_pos
          omega
    simp only [Ge.sizes, List.length_cons, ih, this]
    omega
theorem size_of_levels2 {T : List NestedKey → Prop} {g : Ge} (h : Wf T g) (hl : g.levels ≤ 2) : g.size ≤ 4 := by
  cases g with
  | tip ks => simp only [Ge.size]; omega
  | node l gs =>
    simp only [Wf] at h
    simp only [Ge.levels] at hl
    have := levels_sizes2 h.2.2 (by omega)
    simp only [Ge.size, this]
    omega
theorem many_kids {T : List NestedKey → Prop} {l : Str} {gs : List Ge} (h : Wf T (.node l gs)) (hl : (Ge.node l gs).levels ≤ 3) (hs : 7 < (Ge.node l gs).size) : 2 ≤ gs.length := by
  simp only [Wf] at h
  simp only [Ge.levels] at hl
  simp only [Ge.size] at hs
  match gs, h, hl, hs with
  | [], _, _, hs => simp [Ge.sizes] at hs
  | [g], h, hl, hs =>
    simp only [Ge.levelsAll] at hl
    have := size_of_levels2 (h.2.2.mem List.mem_cons_self) (by omega)
    simp only [Ge.sizes] at hs
    omega
  | _ :: _ :: _, _, _, _ => simp
theorem six_at (a b c : Addr) (r : Int) (h0 : 0 ≤ r) (h6 : r < 6) : ∃ v, atI [V.non, .non, .non, .ref a, .ref b, .ref c] r = some v ∧ (v = .non ∨ v = .ref a ∨ v = .ref b ∨ v = .ref c) := by
  have hr : r = 0 ∨ r = 1 ∨ r = 2 ∨ r = 3 ∨ r = 4 ∨ r = 5 := by omega
  rcases hr with rfl | rfl | rfl | rfl | rfl | rfl
  · exact ⟨_, rfl, .inl rfl⟩
  · exact ⟨_, rfl, .inl rfl⟩
  · exact ⟨_, rfl, .inl rfl⟩
  · exact ⟨_, rfl, .inr (.inl rfl)⟩
  · exact ⟨_, rfl, .inr (.inr (.inl rfl))⟩
  · exact ⟨_, rfl, .inr (.inr (.inr rfl))⟩
theorem patTip_13 : ∀ ks, PatTip ks → Tip13 ks := fun ks h => .inl (patTip_1 h)
theorem buTip_13 {ss ps} : ∀ ks, BuTip ss ps ks → Tip13 ks := fun ks h => by obtain ⟨s, _, p, _, rfl⟩ := h; exact .inr rfl
theorem flat_rep (k : Nat) (v : V) : (List.replicate k [v]).flatten = List.replicate k v := by
  induction k with
  | zero => rfl
  | succ k ih => rw [List.replicate_succ, List.flatten_cons, ih]; rfl
theorem datas_rep {K : PySem.W.Frag} {H : Hp} {v : V} {g : Ge} (h : Dp K H v g.data) : ∀ k : Nat, DpAll K H (List.replicate k v) (Ge.datas (List.replicate k g))
  | 0 => by rw [show List.replicate 0 g = [] from rfl, Ge.datas_nil]; exact .nil
  | k + 1 => by rw [List.replicate_succ, List.replicate_succ, Ge.datas_cons]; exact .cons h (datas_rep h k)
theorem sizes_rep (g : Ge) : ∀ k : Nat, Ge.sizes (List.replicate k g) = k * g.size
  | 0 => by simp [Ge.sizes]
  | k + 1 => by rw [List.replicate_succ]; simp only [Ge.sizes, sizes_rep g k, Nat.succ_mul]; omega
theorem levels_rep (g : Ge) : ∀ k : Nat, Ge.levelsAll (List.replicate k g) ≤ g.levels
  | 0 => by simp [Ge.levelsAll]
  | k + 1 => by rw [List.replicate_succ]; simp only [Ge.levelsAll]; have := levels_rep g k; omega
theorem dp_spot {K : PySem.W.Frag} {H H' : Hp} {S} (f : Fr S H H') {v : V} {k : NestedKey} (h : Dp K H v k.data) : Dp K H' v k.data := f.dp _ _ (nk_tupy k) h
theorem ok_rule (F : Fun K "_law_rule" "_law_rule" s__law_rule f fd) (T : Txt K mg) (c_law_take : Callee P w K mg base 1 "_law_take" P__law_take (spTake K)) (c_law_pattern : Callee P w K mg base 4 "_law_pattern" P__law_pattern (spPattern K 3))
    (c_law_parts : Callee P w K mg base 5 "_law_parts" P__law_parts (spParts K 4)) (c_law_paths : Callee P w K mg base 1 "_law_paths" P__law_paths (spPaths K)) (c_law_build : Callee P w K mg base 5 "_law_build" P__law_build (spBuild K 4)) :
    FnOk P w K mg base CX0 6 f fd P__law_rule (spRule K) := by
  refine F.ok sc__law_rule (fun vs H Q E h => ?_) (fun cdv A outer s H vs Q E hr h => ?_)
  · obtain ⟨b, q, sA, z, ss, rfl, _⟩ := h
    rfl
  obtain ⟨b, q, sA, z, ss, rfl, hB, hz, hs, ns, s1, s6, sok, k⟩ := h
  have nd := (sc__law_rule).nd
  have z1 := hz.1
  have z2 := hz.2.1
  refine ⟨_, pss_cons (ps_set (i := 3) nd rfl (Or.inl rfl) (pe_own c_law_pattern hr (pa_cons (pv 0) (pa_cons (pv 1) (pa_cons (pe_op op_add pe_int (pe_own c_law_take hr (pa_cons (pv 0) (pa_cons pe_int pa_nil)))) pa_nil)))))
  (pss_cons (ps_if (pt_cmpR op_gt (pe_own c_law_parts hr (pa_cons (pv 3) pa_nil)) pe_int (nomark _))
    (pss_one (ps_set (i := 3) nd rfl (Or.inl rfl) (pe_tup (pa_cons (pe_ix (ix_tupK K) (pv 3) pe_int (fun _ _ => rfl)) (pa_cons (pe_op (op_repK K) (pe_tup (pa_cons (pe_tup (pa_cons pe_str pa_nil)) pa_nil)) (pe_callB (call_lenK K) (by rfl) T.len_ PySem.boot_len (pa_cons (pe_ix (ix_tupK K) (pv 3) pe_int (fun _ _ => rfl)) pa_nil))) pa_nil)))))
    (pss_nil))
  (pss_cons (ps_set (i := 4) nd rfl (Or.inl rfl) (pe_own c_law_paths hr (pa_cons (pv 3) pa_nil)))
  (pss_cons (ps_set (i := 5) nd rfl (Or.inl rfl) (pe_own c_law_build hr (pa_cons (pv 0) (pa_cons (pv 1) (pa_cons (pv 2) (pa_cons (pv 4) (pa_cons (pe_op op_add pe_int (pe_own c_law_take hr (pa_cons (pv 0) (pa_cons pe_int pa_nil)))) pa_nil)))))))
  (pss_cons (ps_if (pt_cmpR op_gt (pe_own c_law_parts hr (pa_cons (pv 5) pa_nil)) pe_int (nomark _))
    (pss_one (ps_set (i := 5) nd rfl (Or.inl rfl) (pe_ifExp (pt_cmpR op_lt (pe_own c_law_parts hr (pa_cons (pe_ix (ix_tupK K) (pe_ix (ix_tupK K) (pv 5) pe_int (fun _ _ => rfl)) pe_int (fun _ _ => rfl)) pa_nil)) pe_int (nomark _)) (pe_tup (pa_cons (pe_ix (ix_tupK K) (pv 5) pe_int (fun _ _ => rfl)) (pa_cons (pe_slice (sl_tupP K) (pe_ix (ix_tupK K) (pv 5) pe_int (fun _ _ => rfl)) po_none (po_some pe_int)) pa_nil))) (pe_tup (pa_cons (pe_ix (ix_tupK K) (pv 5) pe_int (fun _ _ => rfl)) (pa_cons (pe_tup pa_nil) pa_nil))))))
    (pss_nil))
  (pss_cons (ps_set (i := 6) nd rfl (Or.inl rfl) (pe_lst (pa_cons pe_non (pa_cons pe_non (pa_cons pe_non (pa_cons (pe_tup (pa_cons pe_str pa_nil)) (pa_cons (pe_tup (pa_cons pe_str (pa_cons (pe_ix ix_str (pv 1) (pe_own c_law_take hr (pa_cons (pv 0) (pa_cons (pe_callB call_len_str (by rfl) T.len_ PySem.boot_len (pa_cons (pv 1) pa_nil)) pa_nil))) (fun _ _ => rfl)) pa_nil))) (pa_cons (pe_tup (pa_cons pe_str (pa_cons (pe_own c_law_take hr (pa_cons (pv 0) (pa_cons pe_int pa_nil))) pa_nil))) pa_nil))))))))
  (pss_one (ps_ret (pe_tup (pa_cons (pe_ix (ix_listK K) (pv 2) (pe_own c_law_take hr (pa_cons (pv 0) (pa_cons (pe_callB (call_lenK K) (by rfl) T.len_ PySem.boot_len (pa_cons (pv 2) pa_nil)) pa_nil))) (fun _ _ => rfl)) (pa_cons (pe_ix (ix_listK K) (pv 6) (pe_own c_law_take hr (pa_cons (pv 0) (pa_cons pe_int pa_nil))) (fun _ _ => rfl)) (pa_cons (pv 3) (pa_cons (pv 5) pa_nil)))))))))))), ?_⟩
  refine ⟨_, rfl, _, rfl, _, rfl, b, q, 3, rfl, hB, by decide, by decide, fun r0 H1 r00 r03 f1 hB1 => ⟨_, _, rfl, rfl, b, q, z, 1 + r0, rfl, hB1, hz, by omega, by omega, fun g v H2 wf lg f2 hB2 hv => ?_⟩⟩
  replace f1 := f1.trans f2
  have lg3 : g.levels ≤ 3 := by omega
  refine ⟨_, rfl, v, g, rfl, hv, wf.imp patTip_13, by omega, fun H3 f3 => ⟨_, _, rfl, rfl, _, rfl, ?_⟩⟩
  replace f1 := f1.trans f3.mono0
  replace hB1 := hB2.fr0 f3
  replace hv := f3.ge hv
  refine ite2 (fun c7 => ?_) (fun c7 => ?_)
  have s7 : 7 < g.size := by have := of_decide_eq_true c7; omega
  obtain ⟨l, gs, rfl⟩ : ∃ l gs, g = .node l gs := by
    cases g with
    | tip ks => simp only [Ge.size] at s7; omega
    | node l gs => exact ⟨l, gs, rfl⟩
  have h2 := many_kids wf lg3 s7
  obtain ⟨a, b', us, rfl, hsa, hsb, hd⟩ := dp_node hv
  have wf0 := wf
  simp only [Wf] at wf
  have w3 := wf.2.1
  have eu : us.length = gs.length := ges_len hd
  refine ⟨_, rfl, a, _, _, .str l, rfl, rfl, hsa, rfl, (by show 1 ≤ sizeLine; decide), fun t0 h0 => ⟨(by show 1 ≤ sizeLine; decide), fun t1 h1 => ?_⟩⟩
  have g0 : Fr [] H3 (upd H3 t0 (.tup [.str "any"])) := Fr.new h0
  have g1 : Fr [] (upd H3 t0 (.tup [.str "any"])) (upd (upd H3 t0 (.tup [.str "any"])) t1 (.tup [.ref t0])) := Fr.new h1
  have gg := g0.trans g1
  refine ⟨_, rfl, a, _, _, .ref b', rfl, rfl, gg.sqT hsa, rfl, b', us, rfl, .inr (gg.sqT hsb), t1, _, [.ref t0], rfl, rfl, SqT.of upd_same, by simp, by omega, by omega, by simp, fun p hp => ⟨(by show 2 ≤ sizeLine; decide), fun p2 hp2 => ?_⟩⟩
  rw [flat_rep] at hp2 ⊢
  have g2 : Fr [] (upd (upd H3 t0 (.tup [.str "any"])) t1 (.tup [.ref t0])) (upd (upd (upd H3 t0 (.tup [.str "any"])) t1 (.tup [.ref t0])) p (.tup (List.replicate ((us.length : Nat) : Int).toNat (.ref t0)))) := Fr.new hp
  have g3 : Fr [] _ (upd (upd (upd (upd H3 t0 (.tup [.str "any"])) t1 (.tup [.ref t0])) p (.tup (List.replicate ((us.length : Nat) : Int).toNat (.ref t0)))) p2 (.tup [.str l, .ref p])) := Fr.new hp2
  have a0 : Dp K (upd H3 t0 (.tup [.str "any"])) (.ref t0) gAny.data := dp_word_of (SqT.of upd_same)
  have hv2 : Dp K (upd (upd (upd (upd H3 t0 (.tup [.str "any"])) t1 (.tup [.ref t0])) p (.tup (List.replicate ((us.length : Nat) : Int).toNat (.ref t0)))) p2 (.tup [.str l, .ref p])) (.ref p2) (Ge.node l (List.replicate ((us.length : Nat) : Int).toNat gAny)).data :=
    dp_node_of (SqT.of upd_same) (g3.sqT (SqT.of upd_same)) (datas_rep (((g1.trans g2).trans g3).ge a0) _)
  have wf2 : Wf PatTip (Ge.node l (List.replicate ((us.length : Nat) : Int).toNat gAny)) := by
    simp only [Wf]
    exact ⟨wf.1, by rw [List.length_replicate]; omega, WfAll.of fun g hg => by rw [(List.mem_replicate.mp hg).2]; simp only [Wf]; exact .inl rfl⟩
  have sz2 : (Ge.node l (List.replicate ((us.length : Nat) : Int).toNat gAny)).size ≤ 7 := by
    simp only [Ge.size, sizes_rep]
    omega
  have lv2 : (Ge.node l (List.replicate ((us.length : Nat) : Int).toNat gAny)).levels ≤ 3 := by
    have := levels_rep gAny ((us.length : Nat) : Int).toNat
    simp only [Ge.levels] at this ⊢
    omega
  replace f1 := f1.trans ((gg.trans g2).trans g3).mono0
  replace hB1 := hB1.fr0 ((gg.trans g2).trans g3)
  clear hv wf lg lg3 s7 c7
  generalize upd (upd (upd (upd H3 t0 (.tup [.str "any"])) t1 (.tup [.ref t0])) p (.tup (List.replicate ((us.length : Nat) : Int).toNat (.ref t0)))) p2 (.tup [.str l, .ref p]) = H4 at hv2 f1 hB1 ⊢
  generalize Ge.node l (List.replicate ((us.length : Nat) : Int).toNat gAny) = g at hv2 wf2 sz2 lv2
  generalize V.ref p2 = v at hv2 ⊢
  have hv := hv2
  have wf := wf2
  have lg3 := lv2
  have sg := sz2
  rotate_left
  have sg : g.size ≤ 7 := by
    have : ¬ (7 : Int) < ((g.size : Nat) : Int) := fun h => c7 (decide_eq_true h)
    omega
  all_goals
    refine ⟨_, rfl, v, g, rfl, hv, wf, fun l us ps H2 f2 hl hli hdp hok hlen => ?_⟩
    have nl := hB1.nb hl
    replace f1 := f1.trans f2.mono0
    replace hB1 := hB1.fr0 f2
    replace hv := f2.ge hv
    refine ⟨_, rfl, _, rfl, _, rfl, _, rfl, _, rfl, b, q, 4, rfl, hB1, by decide, by decide, fun r0 H3 r00 r04 f3 hB3 => ⟨_, _, rfl, rfl, b, q, sA, l, z, 1 + r0, ss, us, ps, rfl, hB3, hz, (f1.trans f3).keep _ _ ns hs, ns, s1, s6, f3.keep _ _ nl hli, nl, f3.dpAll _ _ (tupy_paths _) hdp, hlen, by omega, by omega, fun bu x H4 wb lb f4 hB4 hx => ?_⟩⟩
    replace f1 := (f1.trans f3).trans f4
    replace hB1 := hB4
    replace hv := f4.ge (f3.ge hv)
    have wb' : Wf (DoTip g) bu := wb.imp fun ks hk => by
      obtain ⟨s, ms, π, mp, rfl⟩ := hk
      exact ⟨s, (sok s ms).1, (sok s ms).2, π, hok π mp, rfl⟩
    have w13 : Wf Tip13 bu := wb.imp buTip_13
    have lb4 : bu.levels ≤ 4 := by omega
    refine ⟨_, rfl, x, bu, rfl, hx, w13, lb4, fun H5 f5 => ⟨_, _, rfl, rfl, _, rfl, ?_⟩⟩
    replace f1 := f1.trans f5.mono0
    replace hB1 := hB1.fr0 f5
    replace hv := f5.ge hv
    replace hx := f5.ge hx
    clear wb lb f4 hB4
    refine ite2 (fun c12 => ?_) (fun c12 => ?_)
    have s12 : 12 < bu.size := by have := of_decide_eq_true c12; omega
    obtain ⟨l2, g2, gs2, rfl⟩ : ∃ l g gs, bu = .node l (g :: gs) := by
      cases bu with
      | tip ks => simp only [Ge.size] at s12; omega
      | node l gs =>
        cases gs with
        | nil => simp only [Ge.size, Ge.sizes] at s12; omega
        | cons g gs => exact ⟨l, g, gs, rfl⟩
    obtain ⟨a, b', us, rfl, hsa, hsb, hd⟩ := dp_node hx
    simp only [Wf, WfAll] at wb' w13
    simp only [Ge.levels, Ge.levelsAll] at lb4
    obtain ⟨x0, us0, rfl⟩ : ∃ x us0, us = x :: us0 := by
      rw [Ge.datas_cons] at hd
      cases hd with
      | cons h t => exact ⟨_, _, rfl⟩
    have hx0 : Dp K H5 x0 g2.data := by
      rw [Ge.datas_cons] at hd
      cases hd with
      | cons h t => exact h
    refine ⟨_, rfl, a, _, _, .ref b', rfl, rfl, hsa, rfl, b', _, 0, x0, rfl, rfl, hsb, atI_zero _ _, x0, g2, rfl, hx0, w13.2.2.1, by omega, fun H6 f6 => ⟨_, _, rfl, rfl, _, rfl, ?_⟩⟩
    replace f1 := f1.trans f6.mono0
    replace hB1 := hB1.fr0 f6
    replace hv := f6.ge hv
    replace hsa := f6.sqT hsa
    replace hsb := f6.sqT hsb
    replace hx0 := f6.ge hx0
    refine ite2 (fun c2 => ?_) (fun _ => ?_)
    have sg2 : g2.size < 12 := by have := of_decide_eq_true c2; omega
    refine ⟨_, rfl, a, _, _, .str l2, rfl, rfl, hsa, rfl, _, rfl, a, _, _, .ref b', rfl, rfl, hsa, rfl, 1, rfl, b', _, rfl, hsb, fun p H7 f7 hp => ⟨(by show 2 ≤ sizeLine; decide), fun p2 hp2 => ?_⟩⟩
    have ec : cutV (x0 :: us0) none (some 1) = [x0] := by
      unfold cutV
      have e1 : HT.sIx (x0 :: us0).length (x0 :: us0).length (some 1) = 1 := by
        exact (HT.sIx_nat (x0 :: us0).length (x0 :: us0).length 1).trans (by simp)
      rw [e1]
      rfl
    rw [ec] at hp
    have g7 : Fr [] H7 (upd H7 p2 (.tup [.str l2, .ref p])) := Fr.new hp2
    have hy : Dp K (upd H7 p2 (.tup [.str l2, .ref p])) (.ref p2) (Ge.node l2 [g2]).data := dp_node_of (SqT.of upd_same) (g7.sqT hp) (by rw [Ge.datas_cons, Ge.datas_nil]; exact .cons ((f7.trans g7).ge hx0) .nil)
    have wy : Wf (DoTip g) (Ge.node l2 [g2]) := by simp only [Wf, WfAll]; exact ⟨wb'.1, by simp, wb'.2.2.1, True.intro⟩
    have sy : (Ge.node l2 [g2]).size ≤ 12 := by simp only [Ge.size, Ge.sizes]; omega
    have ly : (Ge.node l2 [g2]).levels ≤ 4 := by simp only [Ge.levels, Ge.levelsAll]; omega
    replace f1 := f1.trans (f7.trans g7).mono0
    replace hB1 := hB1.fr0 (f7.trans g7)
    replace hv := (f7.trans g7).ge hv
    generalize upd H7 p2 (.tup [.str l2, .ref p]) = H8 at f1 hB1 hv hy ⊢
    generalize Ge.node l2 [g2] = bu at hy wy sy ly
    generalize V.ref p2 = x at hy ⊢
    rotate_left
    refine ⟨_, rfl, a, _, _, .str l2, rfl, rfl, hsa, rfl, Nat.zero_le _, fun t ht => ⟨(by show 2 ≤ sizeLine; decide), fun p2 hp2 => ?_⟩⟩
    have g6 : Fr [] H6 (upd H6 t (.tup [])) := Fr.new ht
    have g7 : Fr [] (upd H6 t (.tup [])) (upd (upd H6 t (.tup [])) p2 (.tup [.str l2, .ref t])) := Fr.new hp2
    have hy : Dp K (upd (upd H6 t (.tup [])) p2 (.tup [.str l2, .ref t])) (.ref p2) (Ge.node l2 []).data := dp_node_of (SqT.of upd_same) (g7.sqT (SqT.of upd_same)) (by rw [Ge.datas_nil]; exact .nil)
    have wy : Wf (DoTip g) (Ge.node l2 []) := by simp only [Wf, WfAll]; exact ⟨wb'.1, by simp, True.intro⟩
    have sy : (Ge.node l2 []).size ≤ 12 := by simp only [Ge.size, Ge.sizes]; omega
    have ly : (Ge.node l2 []).levels ≤ 4 := by simp only [Ge.levels, Ge.levelsAll]; omega
    replace f1 := f1.trans (g6.trans g7).mono0
    replace hB1 := hB1.fr0 (g6.trans g7)
    replace hv := (g6.trans g7).ge hv
    generalize upd (upd H6 t (.tup [])) p2 (.tup [.str l2, .ref t]) = H8 at f1 hB1 hv hy ⊢
    generalize Ge.node l2 [] = bu at hy wy sy ly
    generalize V.ref p2 = x at hy ⊢
    rotate_left
    have hy := hx
    have wy := wb'
    have ly := lb4
    have sy : bu.size ≤ 12 := by
      have : ¬ (12 : Int) < ((bu.size : Nat) : Int) := fun h => c12 (decide_eq_true h)
      omega
    all_goals
      refine ⟨(by show 1 ≤ sizeLine; decide), fun t0 h0 => ⟨_, rfl, _, rfl, _, rfl, z, rfl, hz.len, b, q, _, rfl, hB1.fr0 (Fr.new h0), by omega, by omega, fun r H9 r0 r1 f9 hB9 => ?_⟩⟩
      obtain ⟨c, ec, hc⟩ := hz.at r0 r1
      refine ⟨z, r, c, rfl, rfl, hz.len, ec, (by show 2 ≤ sizeLine; decide), fun t1 h1 => ⟨_, rfl, b, q, 3, rfl, hB9.fr0 (Fr.new h1), by decide, by decide, fun j H10 j0 j3 f10 hB10 => ⟨(by show 2 ≤ sizeLine; decide), fun t2 h2 => ⟨(by show 6 ≤ sizeLine; decide), fun L hL => ?_⟩⟩⟩⟩
      have a0 := (Fr.new (S := [b, q]) (o := .tup [.str "top"]) h0)
      have a1 := (Fr.new (S := [b, q]) (o := .tup [.str "under", .str ⟨#[c]⟩]) h1)
      have a2 := (Fr.new (S := [b, q]) (o := .tup [.str "kid", .int j]) h2)
      have a3 := (Fr.new (S := [b, q]) (o := .lst [.non, .non, .non, .ref t0, .ref t1, .ref t2]) hL)
      have d0 := (((f9.trans a1).trans f10).trans a2).trans a3
      have s0 : SqT K _ t0 [.str "top"] := d0.sqT (SqT.of upd_same)
      have s1' : SqT K _ t1 [.str "under", .str ⟨#[c]⟩] := ((f10.trans a2).trans a3).sqT (SqT.of upd_same)
      have s2' : SqT K _ t2 [.str "kid", .int j] := a3.sqT (SqT.of upd_same)
      have nL := ((hB10.fr0 (Fr.new h2)).nb hL)
      have hBL := (hB10.fr0 (Fr.new (o := .tup [.str "kid", .int j]) h2)).upd (o := .lst [.non, .non, .non, .ref t0, .ref t1, .ref t2]) nL
      have hL2 : upd (upd H10 t2 (.tup [.str "kid", .int j])) L (.lst [.non, .non, .non, .ref t0, .ref t1, .ref t2]) L = some (.lst [.non, .non, .non, .ref t0, .ref t1, .ref t2]) := upd_same
      replace f1 := (f1.trans a0).trans d0
      replace hv := (a0.trans d0).ge hv
      replace hy := (a0.trans d0).ge hy
      generalize upd (upd H10 t2 (.tup [.str "kid", .int j])) L (.lst [.non, .non, .non, .ref t0, .ref t1, .ref t2]) = H11 at f1 hv hy s0 s1' s2' hBL hL2 ⊢
      refine ⟨_, rfl, _, rfl, _, rfl, sA, _, rfl, .inl (SqL.of (f1.keep _ _ ns hs)), b, q, _, rfl, hBL, ?_, ?_, fun m H12 m0 m1 f12 hB12 => ?_⟩
      · rw [List.length_map]; omega
      · rw [List.length_map]; omega
      rw [List.length_map] at m1
      obtain ⟨sv, es, ms⟩ := atI_of (xs := ss.map V.int) m0 (by rw [List.length_map]; exact m1)
      obtain ⟨si, msi, rfl⟩ := List.mem_map.mp ms
      refine ⟨sA, _, _, _, rfl, rfl, SqL.of ((f1.trans f12).keep _ _ ns hs), es, _, rfl, _, rfl, b, q, 6, rfl, hB12, by decide, by decide, fun o H13 o0 o6 f13 hB13 => ?_⟩
      obtain ⟨sp, e6, hsp⟩ := six_at t0 t1 t2 o o0 o6
      refine ⟨L, _, o, sp, rfl, rfl, SqL.of (f13.keep _ _ nL (f12.keep _ _ nL hL2)), e6, _, rfl, _, rfl, (by show 4 ≤ sizeLine; decide), fun p hp => ?_⟩
      have g14 : Fr [b, q] H13 (upd H13 p (.tup [.int si, sp, v, x])) := Fr.new hp
      have dd := (f12.trans f13).trans g14
      have hspot : ∃ kspot, SpotOk kspot ∧ Dp K H11 sp kspot.data := by
        rcases hsp with rfl | rfl | rfl | rfl
        · exact ⟨.none, .inl rfl, by simp only [NestedKey.data]; exact .non⟩
        · exact ⟨kTop, .inr (.inl rfl), by simp only [NestedKey.data, NestedKey.datas]; exact .tup s0 (.cons (.str _) .nil)⟩
        · exact ⟨.tup [.text "under", .text ⟨#[c]⟩], .inr (.inr (.inl ⟨_, hc, rfl⟩)), by simp only [NestedKey.data, NestedKey.datas]; exact .tup s1' (.cons (.str _) (.cons (.str _) .nil))⟩
        · exact ⟨.tup [.text "kid", .num j], .inr (.inr (.inr ⟨j, j0, by omega, rfl⟩)), by simp only [NestedKey.data, NestedKey.datas]; exact .tup s2' (.cons (.str _) (.cons (.int _) .nil))⟩
      obtain ⟨ks, hks, hdk⟩ := hspot
      refine k ⟨si, ks, g, bu⟩ _ _ ⟨(sok si msi).1, (sok si msi).2, hks, wf, sg, lg3, wy, sy, ly⟩ (f1.trans dd) (hB13.fr0 (Fr.new hp)) ?_
      exact .tup (SqT.of upd_same) (.cons (.int _) (.cons (dp_spot dd hdk) (.cons (dd.ge hv) (.cons (dd.ge hy) .nil))))
end TT


namespace TT
open PySem L2

theorem tyx_tup {K : PySem.W.Frag} {H : Hp} {a : Addr} {xs : List V} (h : SqT K H a xs) : TyX K H (.ref a) (.type "tuple") := by
  rcases h with (h | ⟨o, h⟩) | ⟨o, its, n, h, hc, _⟩
  · exact .base (.tup h)
  · exact .fTuple h
  · exact .kTuple h hc
abbrev vL6 : List V := [.str "a", .str "b", .str "c", .str "d", .str "e", .str "f"]
theorem inV_letters {l : Str} (h : isL l) : inV (.str l) vL6 = true := by
  have := isL_mem h
  unfold letters6 at this
  simp only [List.mem_cons, List.not_mem_nil, or_false] at this
  rcases this with rfl | rfl | rfl | rfl | rfl | rfl <;> decide +kernel

/-! ### numbers -/
def spNumber : Sp := fun vs H Q _ => ∃ (i m : Int), vs = [.int i, .int m] ∧ 0 ≤ i ∧ i ≤ m ∧ Q (.bl true) H
theorem ok_number (F : Fun K "is_number" "is_number" s_is_number f fd) (T : Txt K mg) : FnOk P w K mg base CX0 1 f fd P_is_number spNumber := by
  refine F.ok sc_is_number (fun vs H Q E h => ?_) (fun cdv A outer s H vs Q E hr h => ?_)
  · obtain ⟨i, m, rfl, _⟩ := h
    rfl
  obtain ⟨i, m, rfl, h0, h1, k⟩ := h
  have nd := (sc_is_number).nd
  refine ⟨_, pss_one (ps_ret (pe_and (pe_callB (call_isiK' K) (by rfl) T.isinstance_ (by decide +kernel) (pa_cons (pv 0) (pa_cons (pe_bltn (v := .ty "int") (by rfl) T.int_ (by decide +kernel) rfl) pa_nil))) (pe_and (pe_not (pe_callB (call_isiK' K) (by rfl) T.isinstance_ (by decide +kernel) (pa_cons (pv 0) (pa_cons (pe_bltn (v := .ty "bool") (by rfl) T.bool_ (by decide +kernel) rfl) pa_nil)))) (pe_one (pe_chain op_le op_le pe_int (pv 0) (pv 1)))))), ?_⟩
  refine ⟨_, rfl, _, .ty "int", _, _, true, rfl, .ty _, .base (.int i), kit_ty (by decide +kernel), _, rfl, iteT ?_⟩
  refine ⟨_, rfl, _, .ty "bool", _, _, false, rfl, .ty _, .base (.int i), kit_ty (by decide +kernel), _, rfl, _, rfl, iteT ?_⟩
  refine ⟨_, rfl, _, _, rfl, rfl, _, rfl, ?_⟩
  rw [decide_eq_true h0]
  refine iteT ⟨_, rfl, _, _, rfl, rfl, ?_⟩
  show Q (.bl (decide (i ≤ m))) H
  rw [decide_eq_true h1]
  exact k

/-! ### forms -/
def spForm (K : PySem.W.Frag) : Sp := fun vs H Q _ => ∃ (v : V) (l : Str) (gs : List Ge), vs = [v] ∧ Dp K H v (Ge.node l gs).data ∧ isL l ∧ gs.length ≤ 3 ∧ Q (.bl true) H
theorem ok_form (F : Fun K "has_form" "has_form" s_has_form f fd) (T : Txt K mg) : FnOk P w K mg base CX0 1 f fd P_has_form (spForm K) := by
  refine F.ok sc_has_form (fun vs H Q E h => ?_) (fun cdv A outer s H vs Q E hr h => ?_)
  · obtain ⟨v, l, gs, rfl, _⟩ := h
    rfl
  obtain ⟨v, l, gs, rfl, hv, hl, h3, k⟩ := h
  have nd := (sc_has_form).nd
  obtain ⟨aL, mL, sL⟩ := T.LETTERS
  obtain ⟨a, b, us, rfl, hs, hb, hd⟩ := dp_node hv
  have eu : us.length = gs.length := ges_len hd
  refine ⟨_, pss_cons (ps_if (PW.pt (pw_or (pt_not (pt_val (pe_callB (call_isiK' K) (by rfl) T.isinstance_ (by decide +kernel) (pa_cons (pv 0) (pa_cons (pe_bltn (v := .ty "tuple") (by rfl) T.tuple_ (by decide +kernel) rfl) pa_nil))))) (pw_or1 (pt_cmpR op_ne (pe_callB (call_lenK K) (by rfl) T.len_ PySem.boot_len (pa_cons (pv 0) pa_nil)) pe_int (nomark _)))))
    (pss_one (ps_ret pe_bl))
    (pss_nil))
  (pss_cons (ps_asg (pv 0) (pg_tupK K rfl (pgs_cons (pg_name (i := 1) nd rfl (Or.inl rfl)) (pgs_cons (pg_name (i := 2) nd rfl (Or.inl rfl)) pgs_nil))))
  (pss_one (ps_ret (pe_and (pe_cmpR (op_inK K) (pv 1) (pe_globR mL) (by rfl)) (pe_and (pe_callB (call_isiK' K) (by rfl) T.isinstance_ (by decide +kernel) (pa_cons (pv 2) (pa_cons (pe_bltn (v := .ty "tuple") (by rfl) T.tuple_ (by decide +kernel) rfl) pa_nil))) (pe_one (pe_cmpR op_le (pe_callB (call_lenK K) (by rfl) T.len_ PySem.boot_len (pa_cons (pv 2) pa_nil)) (pe_globI T.MOST_KIDS) (nomark _)))))))), ?_⟩
  refine ⟨_, rfl, _, .ty "tuple", _, _, true, rfl, .ty _, tyx_tup hs, kit_ty (by decide +kernel), _, rfl, iteF ?_⟩
  refine ⟨_, rfl, a, _, rfl, .inr hs, rfl, _, rfl, ?_⟩
  refine ite2 (fun c => absurd c (by show ¬ (!decide (V.int 2 = V.int 2)) = true; decide)) (fun _ => ?_)
  refine ⟨_, rfl, a, _, rfl, hs, rfl, _, _, rfl, _, _, rfl, rfl, ?_⟩
  refine ⟨_, rfl, aL, vL6, rfl, .inr (sL H), rfl, rfl, _, rfl, ?_⟩
  have e1 : (if false = true then !inV (.str l) vL6 else inV (.str l) vL6) = true := by rw [if_neg (by decide)]; exact inV_letters hl
  rw [e1]
  refine iteT ⟨_, rfl, _, .ty "tuple", _, _, true, rfl, .ty _, tyx_tup hb, kit_ty (by decide +kernel), _, rfl, iteT ?_⟩
  refine ⟨_, rfl, b, us, rfl, .inr hb, _, _, rfl, rfl, ?_⟩
  show Q (.bl (decide (((us.length : Nat) : Int) ≤ 3))) H
  rw [decide_eq_true (show ((us.length : Nat) : Int) ≤ 3 by omega)]
  exact k

/-! ### bare patterns, kids within -/
def isTip : Ge → Bool
  | .tip _ => true
  | .node _ _ => false
def spBare (K : PySem.W.Frag) : Sp := fun vs H Q _ => ∃ (v : V) (g : Ge), vs = [v] ∧ Dp K H v g.data ∧ Wf PatTip g ∧ g.levels ≤ 30 ∧ Q (.bl (isTip g)) H
theorem eqv_ge (g h : Ge) : PyData.eqv g.data h.data = decide (g.key = h.key) := nk_eqv' _ _
theorem ok_bare (F : Fun K "is_bare" "is_bare" s_is_bare f fd) (T : Txt K mg) : FnOk P w K mg base CX0 1 f fd P_is_bare (spBare K) := by
  refine F.ok sc_is_bare (fun vs H Q E h => ?_) (fun cdv A outer s H vs Q E hr h => ?_)
  · obtain ⟨v, g, rfl, _⟩ := h
    rfl
  obtain ⟨v, g, rfl, hv, wf, hl, k⟩ := h
  have nd := (sc_is_bare).nd
  have hu := hr.units
  obtain ⟨aA, mA, sA⟩ := T.ANY
  obtain ⟨aF, mF, sF⟩ := T.LEAF
  have dA : Dp K H (.ref aA) gAny.data := dp_word_of (sA H)
  have dF : Dp K H (.ref aF) gLeaf.data := dp_word_of (sF H)
  have shA : SeqAt.shaped gAny.data = true := shaped_ge patTip_lay (T := PatTip) (by simp only [Wf]; exact .inl rfl) (by simp only [Ge.levels]; decide)
  have shF : SeqAt.shaped gLeaf.data = true := shaped_ge patTip_lay (T := PatTip) (by simp only [Wf]; exact .inr rfl) (by simp only [Ge.levels]; decide)
  have shg := shaped_ge patTip_lay wf hl
  refine ⟨_, pss_one (ps_ret (pe_or (pe_cmpR (op_eqK K hu) (pv 0) (pe_globR mA) (nomark _)) (pe_one (pe_cmpR (op_eqK K hu) (pv 0) (pe_globR mF) (nomark _))))), ?_⟩
  refine ⟨_, rfl, g.data, gAny.data, hv, dA, shg, shA, _, rfl, ?_⟩
  rw [eqv_ge]
  cases g with
  | tip ks =>
    simp only [Wf] at wf
    rcases wf with rfl | rfl
    · rw [decide_eq_true rfl]
      exact iteT k
    · rw [decide_eq_false (by decide +kernel)]
      refine iteF ⟨_, rfl, _, gLeaf.data, hv, dF, shg, shF, ?_⟩
      rw [eqv_ge, decide_eq_true rfl]
      exact k
  | node l gs =>
    have ne : ∀ x : Str, ¬ (Ge.node l gs).key = (Ge.tip [.text x]).key := by
      intro x e
      simp only [Ge.key] at e
      injection e with e
      injection e with _ e
      cases e
    rw [decide_eq_false (ne _)]
    refine iteF ⟨_, rfl, _, gLeaf.data, hv, dF, shg, shF, ?_⟩
    rw [eqv_ge, decide_eq_false (ne _)]
    exact k
def spKids (K : PySem.W.Frag) : Sp := fun vs H Q _ => ∃ (v : V) (g : Ge), vs = [v] ∧ Dp K H v g.data ∧ Wf PatTip g ∧ g.levels ≤ 30 ∧ ∀ (c : Addr) (us : List V) H', Fr [] H H' → SqT K H' c us → DpAll K H' us (Ge.datas g.gs) → Q (.ref c) H'
theorem ok_kids (F : Fun K "kids_within" "kids_within" s_kids_within f fd) (T : Txt K mg) (cis_bare : Callee P w K mg base 1 "is_bare" P_is_bare (spBare K)) : FnOk P w K mg base CX0 2 f fd P_kids_within (spKids K) := by
  refine F.ok sc_kids_within (fun vs H Q E h => ?_) (fun cdv A outer s H vs Q E hr h => ?_)
  · obtain ⟨v, g, rfl, _⟩ := h
    rfl
  obtain ⟨v, g, rfl, hv, wf, hl, k⟩ := h
  have nd := (sc_kids_within).nd
  refine ⟨_, pss_one (ps_ret (pe_ifExp (pt_val (pe_own cis_bare hr (pa_cons (pv 0) pa_nil))) (pe_tup pa_nil) (pe_ix (ix_tupK K) (pv 0) pe_int (fun _ _ => rfl)))), ?_⟩
  refine ⟨_, rfl, v, g, rfl, hv, wf, hl, _, rfl, ?_⟩
  cases g with
  | tip ks =>
    refine iteT ⟨Nat.zero_le _, fun p hp => ?_⟩
    exact k p [] _ (Fr.new hp) (SqT.of upd_same) (by rw [show (Ge.tip ks).gs = [] from rfl, Ge.datas_nil]; exact .nil)
  | node l gs =>
    obtain ⟨a, b, us, rfl, hs, hb, hd⟩ := dp_node hv
    refine iteF ⟨_, rfl, a, _, _, .ref b, rfl, rfl, hs, rfl, ?_⟩
    exact k b us H (Fr.refl _ _) hb hd

/-! ### paths, dos -/
def RestOk : Ge → List Nat → Prop
  | _, [] => True
  | g, k :: r => ∃ h, g.gs[k]? = some h ∧ RestOk h r
theorem PathOk.rest {g : Ge} : ∀ {p : List Nat}, PathOk g p → RestOk g p ∧ 1 ≤ p.length ∧ p.length ≤ 2
  | [k], h => by obtain ⟨x, hx⟩ := h; exact ⟨⟨x, hx, True.intro⟩, by simp, by simp⟩
  | [k, j], h => by obtain ⟨x, y, hx, hy⟩ := h; exact ⟨⟨x, hx, y, hy, True.intro⟩, by simp, by simp⟩
  | [], h => h.elim
  | _ :: _ :: _ :: _, h => h.elim
theorem gs_mem {T : List NestedKey → Prop} {g h : Ge} {k : Nat} (wf : Wf T g) (e : g.gs[k]? = some h) : Wf T h ∧ h.levels < g.levels := by
  cases g with
  | tip ks => simp [Ge.gs] at e
  | node l gs =>
    simp only [Ge.gs] at e
    simp only [Wf] at wf
    have m := List.mem_of_getElem? e
    have := Ge.levels_mem m
    exact ⟨wf.2.2.mem m, by simp only [Ge.levels]; omega⟩
def spPath (K : PySem.W.Frag) : Sp := fun vs H Q _ => ∃ (x v : V) (p : List Nat) (g : Ge), vs = [x, v] ∧ Dp K H x (pathData p) ∧ Dp K H v g.data ∧ Wf PatTip g ∧ g.levels ≤ 30 ∧ PathOk g p ∧ ∀ H', Fr [] H H' → Q (.bl true) H'
theorem ok_path (F : Fun K "is_path" "is_path" s_is_path f fd) (T : Txt K mg) (ckids_within : Callee P w K mg base 2 "kids_within" P_kids_within (spKids K)) (cis_number : Callee P w K mg base 1 "is_number" P_is_number spNumber) : FnOk P w K mg base CX0 3 f fd P_is_path (spPath K) := by
  refine F.ok sc_is_path (fun vs H Q E h => ?_) (fun cdv A outer s H vs Q E hr h => ?_)
  · obtain ⟨x, v, p, g, rfl, _⟩ := h
    rfl
  obtain ⟨x, v, p, g, rfl, hx, hv, wf, hl, hp, k⟩ := h
  have nd := (sc_is_path).nd
  obtain ⟨a, rfl, hs⟩ := dp_ints hx
  obtain ⟨hrest, p1, p2⟩ := hp.rest
  have el : (p.map fun n => V.int ((n : Nat) : Int)).length = p.length := List.length_map _
  refine ⟨_, pss_cons (ps_if (PW.pt (pw_or (pt_not (pt_val (pe_callB (call_isiK' K) (by rfl) T.isinstance_ (by decide +kernel) (pa_cons (pv 0) (pa_cons (pe_bltn (v := .ty "tuple") (by rfl) T.tuple_ (by decide +kernel) rfl) pa_nil))))) (pw_or1 (pt_not (pt_chain op_le op_le pe_int (pe_callB (call_lenK K) (by rfl) T.len_ PySem.boot_len (pa_cons (pv 0) pa_nil)) (pe_globI T.MOST_PATH))))))
    (pss_one (ps_ret pe_bl))
    (pss_nil))
  (pss_cons (ps_set (i := 2) nd rfl (Or.inl rfl) (pv 1))
  (pss_cons (ps_for PassesOwn.never rfl (pi_tupK K (pv 0)) (pg_name (i := 3) nd rfl (Or.inl rfl))
    (pss_cons (ps_set (i := 4) nd rfl (Or.inl rfl) (pe_own ckids_within hr (pa_cons (pv 2) pa_nil)))
    (pss_cons (ps_if (pt_not (pt_val (pe_own cis_number hr (pa_cons (pv 3) (pa_cons (pe_op op_sub (pe_callB (call_lenK K) (by rfl) T.len_ PySem.boot_len (pa_cons (pv 4) pa_nil)) pe_int) pa_nil)))))
      (pss_one (ps_ret pe_bl))
      (pss_nil))
    (pss_one (ps_set (i := 2) nd rfl (Or.inl rfl) (pe_ix (ix_tupK K) (pv 4) (pv 3) (fun _ _ => rfl)))))))
  (pss_one (ps_ret pe_bl)))), ?_⟩
  refine ⟨_, rfl, _, .ty "tuple", _, _, true, rfl, .ty _, tyx_tup hs, kit_ty (by decide +kernel), _, rfl, iteF ?_⟩
  refine ⟨_, rfl, a, _, rfl, .inr hs, _, _, rfl, rfl, _, rfl, ?_⟩
  rw [decide_eq_true (show (1 : Int) ≤ (((p.map fun n => V.int ((n : Nat) : Int)).length : Nat) : Int) by rw [el]; omega)]
  refine iteT ⟨_, _, rfl, rfl, _, rfl, ?_⟩
  rw [decide_eq_true (show (((p.map fun n => V.int ((n : Nat) : Int)).length : Nat) : Int) ≤ 2 by rw [el]; omega)]
  refine iteF ?_
  refine ⟨_, rfl, _, rfl, a, rfl, ⟨_, hs⟩, ?_⟩
  refine for_tup (K := K) (a := a) (xs := p.map fun n => V.int ((n : Nat) : Int)) (fun i σ H' => ∃ (u : V) (h : Ge) (u3 u4 : Option V), σ = [some (.ref a), some v, some u, u3, u4] ∧ Fr [] H H' ∧ Dp K H' u h.data ∧ Wf PatTip h ∧ h.levels ≤ 30 ∧ RestOk h (p.drop i))
    ⟨v, g, none, none, rfl, Fr.refl _ _, hv, wf, hl, hrest⟩ (fun i σ H' _ ⟨_, _, _, _, _, ff, _⟩ => ff.sqT hs) ?_ ?_
  · rintro i y σ H' hy ⟨u, h, u3, u4, rfl, ff, hu, wh, lh, hr'⟩
    rw [List.getElem?_map] at hy
    obtain ⟨n, hn, rfl⟩ := Option.map_eq_some_iff.mp hy
    have hi : i < p.length := (List.getElem?_eq_some_iff.mp hn).1
    have ed : p.drop i = n :: p.drop (i + 1) := by
      rw [List.drop_eq_getElem_cons hi]
      rw [List.getElem?_eq_getElem hi] at hn
      cases hn
      rfl
    rw [ed] at hr'
    obtain ⟨h2, e2, hr2⟩ := hr'
    obtain ⟨w2, l2⟩ := gs_mem wh e2
    refine ⟨_, rfl, u, h, rfl, hu, wh, lh, fun c us H2 f2 hc hd => ?_⟩
    have eu : us.length = h.gs.length := ges_len hd
    have hn2 : n < h.gs.length := (List.getElem?_eq_some_iff.mp e2).1
    obtain ⟨z, hz, hdz⟩ := ges_get' hd e2
    refine ⟨_, rfl, _, rfl, c, us, rfl, .inr hc, _, _, rfl, rfl, ((n : Nat) : Int), _, rfl, by omega, by omega, _, rfl, iteF ?_⟩
    exact ⟨_, rfl, _, rfl, c, us, _, z, rfl, rfl, hc, atI_nat hz, z, h2, _, _, rfl, ff.trans f2, hdz, w2, by omega, hr2⟩
  · rintro σ H' ⟨u, h, u3, u4, rfl, ff, _⟩
    exact k H' ff
abbrev DoT (p : Ge) : List NestedKey → Prop := DoTip p
def spDo (K : PySem.W.Frag) : Sp := fun vs H Q _ => ∃ (x v : V) (h g : Ge), vs = [x, v] ∧ Dp K H x h.data ∧ Dp K H v g.data ∧ Wf PatTip g ∧ g.levels ≤ 30 ∧ Wf (DoTip g) h ∧ ∀ H', Fr [] H H' → Q (.bl (isTip h)) H'
theorem ok_do (F : Fun K "is_do" "is_do" s_is_do f fd) (T : Txt K mg) (cis_number : Callee P w K mg base 1 "is_number" P_is_number spNumber) (cis_path : Callee P w K mg base 3 "is_path" P_is_path (spPath K)) : FnOk P w K mg base CX0 4 f fd P_is_do (spDo K) := by
  refine F.ok sc_is_do (fun vs H Q E h => ?_) (fun cdv A outer s H vs Q E hr h => ?_)
  · obtain ⟨x, v, p, g, rfl, _⟩ := h
    rfl
  obtain ⟨x, v, h, g, rfl, hx, hv, wf, hl, hd, k⟩ := h
  have nd := (sc_is_do).nd
  refine ⟨_, pss_cons (ps_if (PW.pt (pw_or (pt_not (pt_val (pe_callB (call_isiK' K) (by rfl) T.isinstance_ (by decide +kernel) (pa_cons (pv 0) (pa_cons (pe_bltn (v := .ty "tuple") (by rfl) T.tuple_ (by decide +kernel) rfl) pa_nil))))) (pw_or1 (pt_cmpR op_ne (pe_callB (call_lenK K) (by rfl) T.len_ PySem.boot_len (pa_cons (pv 0) pa_nil)) pe_int (nomark _)))))
    (pss_one (ps_ret pe_bl))
    (pss_nil))
  (pss_cons (ps_asg (pv 0) (pg_tupK K rfl (pgs_cons (pg_name (i := 2) nd rfl (Or.inl rfl)) (pgs_cons (pg_name (i := 3) nd rfl (Or.inl rfl)) (pgs_cons (pg_name (i := 4) nd rfl (Or.inl rfl)) pgs_nil)))))
  (pss_one (ps_ret (pe_and (pe_cmpR op_eq (pv 2) pe_str (nomark _)) (pe_and (pe_own cis_number hr (pa_cons (pv 3) (pa_cons (pe_globI T.MOST_STATE) pa_nil))) (pe_one (pe_own cis_path hr (pa_cons (pv 4) (pa_cons (pv 1) pa_nil))))))))), ?_⟩
  cases h with
  | node l gs =>
    obtain ⟨a, b, us, rfl, hs, _, _⟩ := dp_node hx
    refine ⟨_, rfl, _, .ty "tuple", _, _, true, rfl, .ty _, tyx_tup hs, kit_ty (by decide +kernel), _, rfl, iteF ?_⟩
    refine ⟨_, rfl, a, _, rfl, .inr hs, rfl, _, rfl, ?_⟩
    refine ite2 (fun _ => ?_) (fun c => absurd (by show (!decide (V.int 2 = V.int 3)) = true; decide) c)
    exact k H (Fr.refl _ _)
  | tip ks =>
  simp only [Wf] at hd
  obtain ⟨st, s0, s5, p, hp, rfl⟩ := hd
  obtain ⟨a, us, rfl, hs, hu⟩ := dp_tip hx
  simp only [NestedKey.datas, NestedKey.data, numsData] at hu
  obtain ⟨v1, v2, v3, rfl, h1, h2, h3⟩ := dpAll_3 hu
  cases dp_str h1
  cases dp_int h2
  refine ⟨_, rfl, _, .ty "tuple", _, _, true, rfl, .ty _, tyx_tup hs, kit_ty (by decide +kernel), _, rfl, iteF ?_⟩
  refine ⟨_, rfl, a, _, rfl, .inr hs, rfl, _, rfl, ?_⟩
  refine ite2 (fun c => absurd c (by show ¬ (!decide (V.int 3 = V.int 3)) = true; decide)) (fun _ => ?_)
  refine ⟨_, rfl, a, _, rfl, hs, rfl, _, _, rfl, _, _, rfl, _, _, rfl, rfl, ?_⟩
  refine ⟨_, rfl, rfl, _, rfl, ?_⟩
  rw [decide_eq_true rfl]
  refine iteT ⟨_, rfl, st, 5, rfl, s0, s5, _, rfl, iteT ?_⟩
  exact ⟨_, rfl, _, rfl, v3, v, p, g, rfl, h3, hv, wf, hl, hp, k⟩

/-! ### spots -/
def spSpot (K : PySem.W.Frag) : Sp := fun vs H Q _ => ∃ (v : V) (ks : NestedKey), vs = [v] ∧ Dp K H v ks.data ∧ SpotOk ks ∧ ∀ H', Fr [] H H' → Q (.bl true) H'
theorem spot_shaped {ks : NestedKey} (h : SpotOk ks) : SeqAt.shaped ks.data = true := by
  rcases h with rfl | rfl | ⟨l, hl, rfl⟩ | ⟨j, _, _, rfl⟩
  · decide +kernel
  · decide +kernel
  · refine shaped_of ?_ ?_
    · simp only [NestedKey.data, NestedKey.datas, PyData.canLay0, PyData.canLayAll0, isL_ok hl, Bool.and_true]
      decide +kernel
    · simp only [NestedKey.data, NestedKey.datas, PyData.depth, PyData.depthAll]; omega
  · refine shaped_of ?_ ?_
    · simp only [NestedKey.data, NestedKey.datas, PyData.canLay0, PyData.canLayAll0, Bool.and_true]
      decide +kernel
    · simp only [NestedKey.data, NestedKey.datas, PyData.depth, PyData.depthAll]; omega
theorem ok_spot (F : Fun K "is_spot" "is_spot" s_is_spot f fd) (T : Txt K mg) (cis_number : Callee P w K mg base 1 "is_number" P_is_number spNumber) : FnOk P w K mg base CX0 2 f fd P_is_spot (spSpot K) := by
  refine F.ok sc_is_spot (fun vs H Q E h => ?_) (fun cdv A outer s H vs Q E hr h => ?_)
  · obtain ⟨v, ks, rfl, _⟩ := h
    rfl
  obtain ⟨v, ks, rfl, hv, hok, k⟩ := h
  have nd := (sc_is_spot).nd
  have hu := hr.units
  obtain ⟨aL, mL, sL⟩ := T.LETTERS
  obtain ⟨aT, mT, sT⟩ := T.TOP
  have dT : Dp K H (.ref aT) kTop.data := by simp only [NestedKey.data, NestedKey.datas]; exact .tup (sT H) (.cons (.str _) .nil)
  have sh := spot_shaped hok
  have shT : SeqAt.shaped kTop.data = true := by decide +kernel
  refine ⟨_, pss_cons (ps_if (PW.pt (pw_or (pt_cmp (pc_isN (pv 0)) rfl) (pw_or1 (pt_cmpR (op_eqK K hu) (pv 0) (pe_globR mT) (nomark _)))))
    (pss_one (ps_ret pe_bl))
    (pss_nil))
  (pss_cons (ps_if (PW.pt (pw_or (pt_not (pt_val (pe_callB (call_isiK' K) (by rfl) T.isinstance_ (by decide +kernel) (pa_cons (pv 0) (pa_cons (pe_bltn (v := .ty "tuple") (by rfl) T.tuple_ (by decide +kernel) rfl) pa_nil))))) (pw_or1 (pt_cmpR op_ne (pe_callB (call_lenK K) (by rfl) T.len_ PySem.boot_len (pa_cons (pv 0) pa_nil)) pe_int (nomark _)))))
    (pss_one (ps_ret pe_bl))
    (pss_nil))
  (pss_cons (ps_asg (pv 0) (pg_tupK K rfl (pgs_cons (pg_name (i := 1) nd rfl (Or.inl rfl)) (pgs_cons (pg_name (i := 2) nd rfl (Or.inl rfl)) pgs_nil))))
  (pss_cons (ps_if (pt_cmpR op_eq (pv 1) pe_str (nomark _))
    (pss_one (ps_ret (pe_cmpR (op_inK K) (pv 2) (pe_globR mL) (by rfl))))
    (pss_nil))
  (pss_one (ps_ret (pe_and (pe_cmpR op_eq (pv 1) pe_str (nomark _)) (pe_one (pe_own cis_number hr (pa_cons (pv 2) (pa_cons (pe_op op_sub (pe_globI T.MOST_KIDS) pe_int) pa_nil)))))))))), ?_⟩
  have k0 := k H (Fr.refl _ _)
  rcases hok with rfl | rfl | ⟨l, hl, rfl⟩ | ⟨j, j0, j2, rfl⟩
  · simp only [NestedKey.data] at hv
    cases dp_non hv
    exact ⟨_, rfl, _, rfl, iteT k0⟩
  · obtain ⟨a, us, rfl, hs, _⟩ := dp_tuple (by simpa only [NestedKey.data] using hv)
    refine ⟨_, rfl, _, rfl, iteF ⟨_, rfl, _, _, hv, dT, sh, shT, _, rfl, ?_⟩⟩
    rw [nk_eqv', decide_eq_true rfl]
    exact iteT k0
  · have hv' := hv
    simp only [NestedKey.data, NestedKey.datas] at hv'
    obtain ⟨a, us, rfl, hs, hd⟩ := dp_tuple hv'
    obtain ⟨v1, v2, rfl, h1, h2⟩ := dpAll_2 hd
    cases dp_str h1
    cases dp_str h2
    refine ⟨_, rfl, _, rfl, iteF ⟨_, rfl, _, _, hv, dT, sh, shT, _, rfl, ?_⟩⟩
    rw [nk_eqv', decide_eq_false (fun e => by injection e with e; injection e with _ e; cases e)]
    refine iteF ?_
    refine ⟨_, rfl, _, .ty "tuple", _, _, true, rfl, .ty _, tyx_tup hs, kit_ty (by decide +kernel), _, rfl, iteF ?_⟩
    refine ⟨_, rfl, a, _, rfl, .inr hs, rfl, _, rfl, ?_⟩
    refine ite2 (fun c => absurd c (by show ¬ (!decide (V.int 2 = V.int 2)) = true; decide)) (fun _ => ?_)
    refine ⟨_, rfl, a, _, rfl, hs, rfl, _, _, rfl, _, _, rfl, rfl, ?_⟩
    refine ⟨_, rfl, rfl, _, rfl, ?_⟩
    rw [decide_eq_true rfl]
    refine iteT ⟨_, rfl, aL, vL6, rfl, .inr (sL H), rfl, rfl, ?_⟩
    have e1 : (if false = true then !inV (.str l) vL6 else inV (.str l) vL6) = true := by rw [if_neg (by decide)]; exact inV_letters hl
    rw [e1]
    exact k0
  · have hv' := hv
    simp only [NestedKey.data, NestedKey.datas] at hv'
    obtain ⟨a, us, rfl, hs, hd⟩ := dp_tuple hv'
    obtain ⟨v1, v2, rfl, h1, h2⟩ := dpAll_2 hd
    cases dp_str h1
    cases dp_int h2
    refine ⟨_, rfl, _, rfl, iteF ⟨_, rfl, _, _, hv, dT, sh, shT, _, rfl, ?_⟩⟩
    rw [nk_eqv', decide_eq_false (fun e => by injection e with e; injection e with _ e; cases e)]
    refine iteF ?_
    refine ⟨_, rfl, _, .ty "tuple", _, _, true, rfl, .ty _, tyx_tup hs, kit_ty (by decide +kernel), _, rfl, iteF ?_⟩
    refine ⟨_, rfl, a, _, rfl, .inr hs, rfl, _, rfl, ?_⟩
    refine ite2 (fun c => absurd c (by show ¬ (!decide (V.int 2 = V.int 2)) = true; decide)) (fun _ => ?_)
    refine ⟨_, rfl, a, _, rfl, hs, rfl, _, _, rfl, _, _, rfl, rfl, ?_⟩
    refine ⟨_, rfl, rfl, _, rfl, ?_⟩
    rw [decide_eq_false (by decide +kernel)]
    refine iteF ⟨_, rfl, rfl, _, rfl, ?_⟩
    rw [decide_eq_true rfl]
    exact iteT ⟨_, rfl, _, _, rfl, rfl, j, _, rfl, j0, by omega, k0⟩
end TT


namespace TT
open PySem PySem.Spec PyProof.Rows L2

/-! ### labels over labels and ends -/
def wpData (x : Ge × Nat) : PyData := .tuple [x.1.data, .int (x.2 : Nat)]
def wpKey (x : Ge × Nat) : NestedKey := .tup [x.1.key, .num (x.2 : Nat)]
theorem wpData_key (x : Ge × Nat) : wpData x = (wpKey x).data := by simp only [wpData, wpKey, NestedKey.data, NestedKey.datas, Ge.data]
theorem tupy_wp (x : Ge × Nat) : tupy (wpData x) = true := by rw [wpData_key]; exact nk_tupy _
theorem tupy_wps : ∀ xs : List (Ge × Nat), tupyAll (xs.map wpData) = true
  | [] => rfl
  | x :: xs => by simp only [List.map_cons, tupyAll, tupy_wp x, tupy_wps xs, Bool.and_self]
theorem dp_wp {K : PySem.W.Frag} {H : Hp} {v : V} {x : Ge × Nat} (h : Dp K H v (wpData x)) : ∃ a u, v = .ref a ∧ SqT K H a [u, .int (x.2 : Nat)] ∧ Dp K H u x.1.data := by
  obtain ⟨a, vs, rfl, hs, hd⟩ := dp_tuple h
  obtain ⟨v1, v2, rfl, h1, h2⟩ := dpAll_2 hd
  cases dp_int h2
  exact ⟨a, v1, rfl, hs, h1⟩
theorem dp_wp_of {K : PySem.W.Frag} {H : Hp} {a : Addr} {u : V} {x : Ge × Nat} (h1 : SqT K H a [u, .int (x.2 : Nat)]) (h2 : Dp K H u x.1.data) : Dp K H (.ref a) (wpData x) := .tup h1 (.cons h2 (.cons (.int _) .nil))
def sizesW (xs : List (Ge × Nat)) : Nat := (xs.map fun x => x.1.size).sum
/-- an end's reading: what the callable in the second slot tells of a part -/
def EndOk (K : PySem.W.Frag) (T : List NestedKey → Prop) (ER : V → Hp → VK → Prop) (H : Hp) : Prop :=
  ∀ (u : V) (g : Ge) (H' : Hp) (Q : VK), Fr [] H H' → Dp K H' u g.data → Wf T g → g.levels ≤ 30 → (∀ H2, Fr [] H' H2 → Q (.bl (isTip g)) H2) → ER u H' Q
def tEnd (fe : Addr) (ER : V → Hp → VK → Prop) : TE := fun σ H Q => σ[1]? = some (some (.ref fe)) ∧ ∃ u, σ[6]? = some (some u) ∧ ER u H Q
theorem dpAll_pop {K : PySem.W.Frag} {H : Hp} {d : PyData} : ∀ {ds : List PyData} {us : List V}, DpAll K H us (ds ++ [d]) → ∃ us' u, us = us' ++ [u] ∧ DpAll K H us' ds ∧ Dp K H u d
  | [], us, h => by
    obtain ⟨v, rfl, hv⟩ := dpAll_1 (by simpa using h)
    exact ⟨[], v, rfl, .nil, hv⟩
  | e :: ds, us, h => by
    rw [List.cons_append] at h
    cases h with
    | cons a b =>
      obtain ⟨us', u, rfl, h1, h2⟩ := dpAll_pop b
      exact ⟨_ :: us', u, rfl, .cons a h1, h2⟩
theorem sizesW_append (xs ys : List (Ge × Nat)) : sizesW (xs ++ ys) = sizesW xs + sizesW ys := by simp [sizesW]
theorem sizesW_kids (l : Nat) : ∀ gs : List Ge, sizesW (gs.map fun g => (g, l)) = Ge.sizes gs
  | [] => rfl
  | g :: gs => by
    have := sizesW_kids l gs
    simp only [sizesW, List.map_cons, List.sum_cons, Ge.sizes] at this ⊢
    omega
def muW (m : Nat) (σ : L2.St) : Nat := match σ[4]? with
  | some (some (V.int n)) => m - n.toNat
  | _ => 0
section
variable {P : Program} {w : World} {K : PySem.W.Frag} {mg : Str → Option Value} {base : Heap} {f : Addr} {cdv : Value} {A : Around} {outer : List Env} {s : Shared} {H : Hp} {E : XK}
theorem body_within (T : Txt K mg) (chas_form : Callee P w K mg base 1 "has_form" P_has_form (spForm K)) (hr : Room 1 (A.deeper (envOfC "is_within" (defScope s_is_within) s.heap.objs.size f cdv)))
    {fe : Addr} {ER : V → Hp → VK → Prop} {Tp : List NestedKey → Prop} {v : V} {g : Ge} {m lv : Nat} {Q : VK}
    (act : ∀ p1 p2 p3, PE (cxOf CX0 P w K mg base N_is_within "is_within" (defScope s_is_within) f cdv A outer s H E).nox (.Call (.Name "is_end" p1) [.Name "part" p2] [] p3) (tEnd fe ER))
    (ho : EndOk K Tp ER H) (hv : Dp K H v g.data) (wf : Wf Tp g) (hs : g.size ≤ m) (hl : g.levels ≤ lv) (hm : m ≤ 30) (h30 : lv ≤ 29) (k : ∀ H', Fr [] H H' → Q (.bl true) H') :
    ∃ t, PSs (cxOf CX0 P w K mg base N_is_within "is_within" (defScope s_is_within) f cdv A outer s H E).nox (defBody s_is_within) t ∧ t { nx := fun _ H' => Q .non H', rt := Q } (start N_is_within [v, .ref fe, .int (m : Nat), .int (lv : Nat)]) H := by
  have nd := (sc_is_within).nd
  refine ⟨_, pss_cons (ps_set (i := 4) nd rfl (Or.inl rfl) pe_int)
  (pss_cons (ps_set (i := 5) nd rfl (Or.inl rfl) (pe_lst (pa_cons (pe_tup (pa_cons (pv 0) (pa_cons pe_int pa_nil))) pa_nil)))
  (pss_cons (ps_while PassesOwn.never (pt_truthK K (pv 5))
    (pss_cons (ps_asg (pe_bm0K K PySem.F.plainAttrs_list PySem.F.slot_list_pop PySem.F.type_list_pop mt_pop (pv 5)) (pg_tupK K rfl (pgs_cons (pg_name (i := 6) nd rfl (Or.inl rfl)) (pgs_cons (pg_name (i := 7) nd rfl (Or.inr rfl)) pgs_nil))))
    (pss_cons (ps_aug (i := 4) nd rfl (Or.inl rfl) pe_int ip_add)
    (pss_cons (ps_if (PW.pt (pw_or (pt_cmpR op_gt (pv 4) (pv 2) (nomark _)) (pw_or1 (pt_cmpR op_gt (pv 7) (pv 3) (nomark _)))))
      (pss_one (ps_ret pe_bl))
      (pss_nil))
    (pss_one (ps_if (pt_not (pt_val (act _ _ _)))
      (pss_cons (ps_if (pt_not (pt_val (pe_own chas_form hr (pa_cons (pv 6) pa_nil))))
        (pss_one (ps_ret pe_bl))
        (pss_nil))
      (pss_one (ps_expr (pe_bmK K PySem.F.plainAttrs_list PySem.F.slot_list_extend PySem.F.type_list_extend mt_extend (pv 5) (pa_cons (pe_lc (own := [("kid", 8)]) (g := gName 8) (tt := tYes) (by rfl) nd (pi_tupK K (pe_ix (ix_tupK K) (pv 6) pe_int (fun _ _ => rfl))) (blkOk_by (N := N_is_within) (sc := defScope s_is_within) (own := [("kid", 8)]) (by decide +kernel)) (fun _ _ _ _ _ => (pg_name (i := 8) nd rfl (Or.inl rfl))) (fun _ _ _ _ _ => pts_nil) (fun _ _ _ _ _ => (pe_tup (pa_cons (pv 8) (pa_cons (pe_op op_add (pv 7) pe_int) pa_nil))))) pa_nil)))))
      (pss_nil)))))))
  (pss_one (ps_ret pe_bl)))), ?_⟩
  refine ⟨_, rfl, (by show 2 ≤ sizeLine; decide), fun t0 ht0 => ⟨by show 1 ≤ sizeLine; decide, fun L hL => ?_⟩⟩
  have f0 : Fr [] H (upd H t0 (.tup [v, .int 1])) := Fr.new ht0
  have hLH : H L = none := f0.free hL
  have f1 : Fr [] H (upd (upd H t0 (.tup [v, .int 1])) L (.lst [.ref t0])) := f0.trans (Fr.new hL)
  have s1 : SqT K (upd (upd H t0 (.tup [v, .int 1])) L (.lst [.ref t0])) t0 [v, .int ((1 : Nat) : Int)] := (Fr.new (S := []) hL).sqT (SqT.of upd_same)
  refine while_by (fun σ H' => ∃ (xs : List (Ge × Nat)) (us : List V) (n : Nat) (u6 u7 u8 : Option V), σ = [some v, some (.ref fe), some (.int (m : Nat)), some (.int (lv : Nat)), some (.int (n : Nat)), some (.ref L), u6, u7, u8] ∧ Fr [] H H' ∧ H' L = some (.lst us) ∧ DpAll K H' us (xs.map wpData) ∧ n + sizesW xs ≤ m ∧
    (∀ x ∈ xs, Wf Tp x.1 ∧ x.1.levels + x.2 ≤ lv + 1)) (fun σ _ => muW m σ) ⟨[(g, 1)], [.ref t0], 0, none, none, none, rfl, f1, upd_same, .cons (dp_wp_of (x := (g, 1)) s1 (f1.ge hv)) .nil, by simp [sizesW]; omega, fun x hx => by
      rw [List.mem_singleton.mp hx]
      exact ⟨wf, by show g.levels + 1 ≤ lv + 1; omega⟩⟩ ?_ ?_
  · rintro σ H' ⟨xs, us, n, u6, u7, u8, rfl, ff, hL', hd, hn, hx⟩
    have lu : us.length = xs.length := by rw [DpAll.length hd, List.length_map]
    have lx : xs.length ≤ sizesW xs := by
      clear hd hn hx lu
      induction xs with
      | nil => exact Nat.zero_le _
      | cons x xs ih =>
        have := x.1.size_pos
        simp only [sizesW, List.map_cons, List.sum_cons, List.length_cons] at ih ⊢
        omega
    have ul0 : us.length ≤ 30 := by omega
    refine ⟨_, rfl, !us.isEmpty, .inl ⟨us, SqL.of hL', rfl⟩, ?_⟩
    refine ite2 (fun c => ?_) (fun c => ?_)
    · have une : us.length ≠ 0 := by
        intro e
        rw [List.eq_nil_of_length_eq_zero e] at c
        simp at c
      obtain ⟨ys, x, rfl⟩ : ∃ ys x, xs = ys ++ [x] := by
        rcases List.eq_nil_or_concat xs with rfl | ⟨ys, x, rfl⟩
        · exact absurd lu (by simpa using une)
        · exact ⟨ys, x, by simp⟩
      rw [List.map_append] at hd
      obtain ⟨us', u, rfl, hd1, hu1⟩ := dpAll_pop hd
      obtain ⟨a, p, rfl, hsa, hp⟩ := dp_wp hu1
      rw [sizesW_append] at hn
      have hx1 := hx x (by simp)
      have sx : sizesW [x] = x.1.size := by simp [sizesW]
      have spos := x.1.size_pos
      refine ⟨_, rfl, .inl ⟨rfl, _, SqL.of hL'⟩, L, _, .ref a, rfl, rfl, hL', by simp, ?_⟩
      rw [List.dropLast_concat]
      have fL : Fr [L] H' (upd H' L (.lst us')) := Fr.lst hL' (by simp)
      have f2 : Fr [] H (upd H' L (.lst us')) := ff.mut hLH
      have hL2 : upd H' L (.lst us') L = some (.lst us') := upd_same
      have hsa2 := fL.sqT hsa
      have hp2 := fL.ge hp
      have hd2 := fL.dpAll _ _ (tupy_wps _) hd1
      generalize upd H' L (.lst us') = H2 at fL f2 hL2 hsa2 hp2 hd2
      refine ⟨a, _, rfl, hsa2, rfl, _, _, rfl, _, _, rfl, rfl, ?_⟩
      refine ⟨_, rfl, _, _, rfl, rfl, ?_⟩
      refine ⟨_, rfl, _, rfl, _, _, rfl, rfl, _, rfl, ?_⟩
      rw [decide_eq_false (show ¬ ((m : Nat) : Int) < ((n : Nat) : Int) + 1 by omega)]
      refine iteF ⟨_, rfl, _, rfl, _, _, rfl, rfl, _, rfl, ?_⟩
      have lp := x.1.levels_pos
      rw [decide_eq_false (show ¬ ((lv : Nat) : Int) < ((x.2 : Nat) : Int) by omega)]
      refine iteF ⟨rfl, p, rfl, ho p x.1 H2 _ f2 hp2 hx1.1 (by omega) fun H3 f3 => ⟨_, rfl, ?_⟩⟩
      have hL3 := f3.keep L _ (by simp) hL2
      have hd3 := f3.dpAll _ _ (tupy_wps _) hd2
      have f03 := f2.trans f3
      have mu : ∀ u6' u7' u8', muW m [some v, some (V.ref fe), some (.int (m : Nat)), some (.int (lv : Nat)), some (.int ((n : Nat) + 1 : Int)), some (.ref L), u6', u7', u8'] < muW m [some v, some (V.ref fe), some (.int (m : Nat)), some (.int (lv : Nat)), some (.int (n : Nat)), some (.ref L), u6, u7, u8] := by
        intro _ _ _
        show m - ((n : Nat) + 1 : Int).toNat < m - ((n : Nat) : Int).toNat
        omega
      obtain ⟨g0, l0⟩ := x
      cases g0 with
      | tip ks =>
        refine iteF ⟨⟨ys, us', n + 1, _, _, _, rfl, f03, hL3, hd3, by omega, fun y hy => hx y (by simp [hy])⟩, mu _ _ _⟩
      | node l gs =>
        refine iteT ?_
        have hp3 := f3.ge hp2
        have wn := hx1.1
        simp only [Wf] at wn
        refine ⟨_, rfl, p, l, gs, rfl, hp3, wn.1, wn.2.1, _, rfl, iteF ?_⟩
        obtain ⟨a2, b2, ks2, rfl, hs2, hb2, hk2⟩ := dp_node hp3
        have ek : ks2.length = gs.length := ges_len hk2
        have w3 := wn.2.1
        refine ⟨_, rfl, .inl ⟨rfl, _, SqL.of hL3⟩, _, rfl, a2, _, _, .ref b2, rfl, rfl, hs2, rfl, b2, rfl, ⟨_, hb2⟩, fun D hD => ?_⟩
        have hDL : D ≠ L := fun e => by rw [e, hL3] at hD; cases hD
        refine lc_tup (K := K) (a := b2) (xs := ks2) (fun i H4 => ∃ zs : List V, Fr [] H3 H4 ∧ H4 D = some (.lst zs) ∧ DpAll K H4 zs (((gs.take i).map fun g => (g, l0 + 1)).map wpData)) ⟨[], Fr.new hD, upd_same, .nil⟩ (fun i H4 _ ⟨_, f4, _⟩ => f4.sqT hb2) ?_ ?_
        · rintro i y H4 hy ⟨zs, f4, hDz, hdz⟩
          obtain ⟨gy, hgy, hdy⟩ := ges_get hk2 hy
          have zl : zs.length ≤ gs.length := by rw [DpAll.length hdz, List.length_map, List.length_map, List.length_take]; omega
          refine ⟨rfl, y, rfl, _, rfl, _, _, rfl, rfl, (by show 2 ≤ sizeLine; decide), fun t2 ht2 => ?_⟩
          have f5 : Fr [] H4 (upd H4 t2 (.tup [y, .int (((l0 : Nat) : Int) + 1)])) := Fr.new ht2
          have hD5 := f5.keep D _ (by simp) hDz
          refine ⟨zs, hD5, small1000 (by omega), zs ++ [.ref t2], (f4.trans f5).mut hD, upd_same, ?_⟩
          have fD : Fr [D] (upd H4 t2 (.tup [y, .int (((l0 : Nat) : Int) + 1)])) (upd (upd H4 t2 (.tup [y, .int (((l0 : Nat) : Int) + 1)])) D (.lst (zs ++ [.ref t2]))) := Fr.lst hD5 (by simp)
          have tk2 := fD.sqT (K := K) (SqT.of (upd_same (H := H4) (a := t2) (o := .tup [y, .int (((l0 : Nat) : Int) + 1)])))
          rw [take_succ' hgy, List.map_append, List.map_append]
          refine DpAll.append (fD.dpAll _ _ (tupy_wps _) (f5.dpAll _ _ (tupy_wps _) hdz)) (.cons (dp_wp_of (x := (gy, l0 + 1)) (u := y) tk2 ?_) .nil)
          exact fD.ge ((f4.trans f5).ge hdy)
        · rintro H4 ⟨zs, f4, hDz, hdz⟩
          rw [ek, List.take_length] at hdz
          have hL4 := f4.keep L _ (by simp) hL3
          have zl : zs.length = gs.length := by rw [DpAll.length hdz, List.length_map, List.length_map]
          have ul : us'.length ≤ 30 := by rw [List.length_append] at ul0; omega
          refine ⟨L, D, us', zs, rfl, rfl, hL4, hDz, sz1000 (by omega), ?_⟩
          have fl : Fr [L] H4 (upd H4 L (.lst (us' ++ zs))) := Fr.lst hL4 (by simp)
          refine ⟨⟨ys ++ gs.map (fun g => (g, l0 + 1)), us' ++ zs, n + 1, _, _, _, rfl, (f03.trans f4).mut hLH, upd_same, ?_, ?_, ?_⟩, mu _ _ _⟩
          · rw [List.map_append]
            exact DpAll.append (fl.dpAll _ _ (tupy_wps _) (f4.dpAll _ _ (tupy_wps _) hd3)) (fl.dpAll _ _ (tupy_wps _) hdz)
          · rw [sizesW_append, sizesW_kids]
            simp only [sizesW, List.map_cons, List.map_nil, List.sum_cons, List.sum_nil, Ge.size] at hn ⊢
            omega
          · intro y hy
            rcases List.mem_append.mp hy with h | h
            · exact hx y (by simp [h])
            · obtain ⟨g1, hg1, rfl⟩ := List.mem_map.mp h
              have := Ge.levels_mem hg1
              have h2 := hx1.2
              simp only [Ge.levels] at h2
              exact ⟨wn.2.2.mem hg1, by show g1.levels + (l0 + 1) ≤ lv + 1; omega⟩
    · exact k H' ff
  · rintro σ H' Q Q' h ⟨u, hu, b, hb, q⟩
    exact ⟨u, hu, b, hb, h _ _ q⟩
end
end TT

namespace TT
open PySem PySem.Spec PyProof.Rows L2

/-! ### a lambda with one parameter, called in the def that got it -/
theorem CellsAt.keep1 {cl : List (Str × Addr)} {fr : List Str} {ws : List (Option V)} {h h' : Heap} {H H' : Hp} {fs : List Addr} (C : NdefX.CellsAt cl fr ws h H) (un : Un fs [] H H' h h') : NdefX.CellsAt cl fr ws h' H' := by
  have st : ∀ (y : Str) (c : Addr), cl.lookup y = some c → ∀ z, h.IsCell c z → h'.IsCell c z := by
    rintro y c hy z ⟨ob, g1, g2⟩
    obtain ⟨sl, g3⟩ := un.any g1 (C.all y c hy).1 (fun z => nomatch z)
    exact ⟨_, g3, g2⟩
  refine ⟨C.len, ?_, C.inj, ?_⟩
  · intro y c hy
    obtain ⟨n, z, hz⟩ := C.all y c hy
    refine ⟨?_, z, st y c hy z hz⟩
    obtain ⟨ob, g1, _⟩ := hz
    exact un.free c ob g1 n (fun z => nomatch z)
  · intro i y hi
    obtain ⟨c, hc, hw⟩ := C.has i y hi
    refine ⟨c, hc, ?_⟩
    intro v hv
    obtain ⟨u, g1, g2⟩ := hw v hv
    exact ⟨u, g1, st y c hc _ g2⟩
section
variable {P : Program} {w : World} {K : PySem.W.Frag} {mg : Str → Option Value} {base : Heap} {Ng N fr : List Str} {qg : Str} {sg : Scope} {g f : Addr} {cdg pm ctv : Value} {A : Around} {outer : List Env} {s : Shared} {H : Hp} {Eg : XK} {F : NdefX.NF} {nm one : Str} {params : Arguments} {body : Expr}
  {ws : List (Option V)} {k i j : Nat} {a b : Str} {tb : TE} {p1 p2 p3 : Pos}
theorem act_lam (ho : s.heap.get? f = some (PySem.W.kla_obj nm F.qual params body F.scope F.cl pm F.c ctv)) (hf : H f = none) (S : NdefX.NScope N [one] fr F.scope)
    (hbind : ∀ u : Value, bindArgs (PySem.W.kla_fn nm F.qual params body F.scope F.cl pm (.ref F.c) ctv) ⟨[u], []⟩ = pure [(one, u)]) (C : NdefX.CellsAt F.cl fr ws s.heap H)
    (hr : Room (k + 1) (A.deeper (envOfC qg sg s.heap.objs.size g cdg)))
    (hbody : ∀ (A' : Around) (outer' : List Env) (s' : Shared) (H' : Hp), Room k (A'.deeper (NdefX.envF F f s'.heap.objs.size)) → PE (NdefX.ncx CX0 P w K mg base N F f A' outer' s' H' E0) body tb)
    (hN : Ng[i]? = some a) (hv : Vis sg a) (hN2 : Ng[j]? = some b) (hv2 : Vis sg b)
    (d1 : (a == ("__debug__" : Str)) = false) (d2 : (a == ("__classdict__" : Str)) = false) (d3 : (b == ("__debug__" : Str)) = false) (d4 : (b == ("__classdict__" : Str)) = false) :
    PE (cxOf CX0 P w K mg base Ng qg sg g cdg A outer s H Eg).nox (.Call (.Name a p1) [.Name b p2] [] p3)
      (fun σ' H' Q => σ'[i]? = some (some (.ref f)) ∧ ∃ u, σ'[j]? = some (some u) ∧ H' F.c = some (LamX.CodeO F.c F.qual) ∧ tb (NdefX.startF N [u] ws) H' Q) := by
  refine ⟨?_⟩
  rintro pins t σ' H' Q I ⟨hs, u, hu, hc, ht⟩
  have pa : PE (cxOf CX0 P w K mg base Ng qg sg g cdg A outer s H Eg).nox (.Name a p1) (tVar i) := pe_var hN hv d1 d2
  have pb : PE (cxOf CX0 P w K mg base Ng qg sg g cdg A outer s H Eg).nox (.Name b p2) (tVar j) := pe_var hN2 hv2 d3 d4
  have qa := pa.run pins t σ' H' (fun v H1 => v = .ref f ∧ H1 = H') I ⟨_, hs, rfl, rfl⟩
  refine wpAny_Call_Name_kw (thn qa ?_)
  rintro x s1 ⟨v, H1, I1, r1, rfl, rfl⟩
  cases r1
  have live : ∀ {s2 : Shared} {H2 : Hp} {σ2 : L2.St} {pins2}, Inv (cxOf CX0 P w K mg base Ng qg sg g cdg A outer s H Eg).nox pins2 σ2 H2 s2 → ∃ sl, s2.heap.get? f = some { PySem.W.kla_obj nm F.qual params body F.scope F.cl pm F.c ctv with slots := sl } := by
    intro s2 H2 σ2 pins2 J
    have un : Un _ [] H H2 s.heap s2.heap := J.base
    exact un.any ho hf (fun z => nomatch z)
  obtain ⟨sl1, o1⟩ := live I1
  have qb := (pa_cons pb pa_nil).run p3 pins s1 σ' H1 (fun vs H2 => vs = [u] ∧ H2 = H1) I1 ⟨u, hu, rfl, rfl⟩
  refine PySem.W.callWith_F (first := []) ⟨_, _, _, _, o1⟩ (thn qb ?_) (by rfl) (by rfl)
  rintro us s2 ⟨vs, H2, I2, r2, rfl, rfl⟩
  obtain ⟨sl2, o2⟩ := live I2
  refine ⟨⟨_, _, _, _, o2⟩, ?_⟩
  obtain ⟨u1, rfl, ru⟩ := vals1 r2
  show wpAny _ _ (call (.ref f) [u1]) _ _ _
  have un2 : Un _ [] H H2 s.heap s2.heap := I2.base
  have C2 := CellsAt.keep1 C un2
  have lim : s2.heap.NoLimit := I2.nolimit
  have e0 := I2.env0
  refine wpAny_call (codeAny_mono (R := CR CX0 (envOfC qg sg s.heap.objs.size g cdg :: outer) P w H2 s2 Q E0) ?_ ?_)
  · refine PySem.W.kla_callFunE hr.depth o2 rfl S.co S.gen rfl (NdefX.codeO_at I2.hok hc) ?_
    rw [hbind u1]
    refine wpAny_pure (wpAny_newFunctionEnv S.nocell ?_ ?_ S.kind)
    · intro y hy
      rw [List.mem_singleton.mp hy]
      exact S.par one (by simp)
    intro h₁ hns hsb
    refine ⟨lim.fresh _ hsb, ?_⟩
    have kp : ∀ b o, s2.heap.get? b = some o → h₁.get? b = some o := fun b o e => hsb.extBut b o (Nat.ne_of_lt (Heap.lt_size e)) (Heap.get?_push_of_some _ e)
    show codeAny _ _ (.expr body (NdefX.envF F f s2.heap.objs.size)) _ _
    have J : Inv (NdefX.ncx CX0 P w K mg base N F f (A.deeper (envOfC qg sg s.heap.objs.size g cdg)) (envOfC qg sg s.heap.objs.size g cdg :: outer) s2 H2 E0) [] (NdefX.startF N [u] ws) H2 { s2 with heap := h₁, toks := s2.toks + [(one, u1)].length } :=
      NdefX.inv_startN (us := [u1]) S hr.hd e0 rfl r2 C2 hns kp
    have run := (hbody _ _ s2 H2 (hr.deeper _)).run [] _ _ H2 Q J ht
    refine PySem.W.kla_codeExpr (wpAny_mono run ?_ fun _ _ z => z)
    rintro x s' ⟨w', H'', J', rv, q⟩
    exact ⟨w', H'', J'.os, J'.bare, J'.base, J'.hok, rv, q⟩
  · intro r s' hq
    cases r with
    | error e => exact (show False from hq).elim
    | ok fl =>
      cases fl with
      | ret x => exact I2.after hq
      | next => exact False.elim hq
      | brk => exact False.elim hq
      | cont => exact False.elim hq
end
end TT


namespace TT
open PySem PySem.Spec PyProof.Rows L2

/-! ### all but tables stay -/
abbrev Ex (H H' : Hp) : Prop := LamX.ExtN H H'
theorem Fr.ex {H H' : Hp} (f : Fr [] H H') : Ex H H' := fun b o e _ => f.keep b o (by simp) e
theorem Ex.lst {H H' : Hp} {a : Addr} {xs : List V} (e : Ex H H') (h : H a = some (.lst xs)) : H' a = some (.lst xs) := e a _ h (fun _ z => nomatch z)
theorem Ex.sqT {K : PySem.W.Frag} {H H' : Hp} {a : Addr} {xs : List V} (e : Ex H H') (h : SqT K H a xs) : SqT K H' a xs := by
  rcases h with (h | ⟨o, h⟩) | h
  · exact .inl (.inl (e _ _ h (fun _ z => nomatch z)))
  · exact .inl (.inr ⟨o, e _ _ h (fun _ z => nomatch z)⟩)
  · exact .inr h
theorem Ex.sqL {K : PySem.W.Frag} {H H' : Hp} {a : Addr} {xs : List V} (e : Ex H H') (h : SqL K H a xs) : SqL K H' a xs := by
  rcases h with (h | ⟨o, h⟩) | h
  · exact .inl (.inl (e _ _ h (fun _ z => nomatch z)))
  · exact .inl (.inr ⟨o, e _ _ h (fun _ z => nomatch z)⟩)
  · exact .inr h
mutual
theorem Ex.dp {K : PySem.W.Frag} {H H' : Hp} (e : Ex H H') : ∀ (d : PyData) (v : V), tupy d = true → Dp K H v d → Dp K H' v d
  | .none, _, _, h => by cases h; exact .non
  | .bool b, _, _, h => by cases h; exact .bl _
  | .int i, _, _, h => by cases h; exact .int _
  | .str x, _, _, h => by cases h; exact .str _
  | .list ds, _, t, h => by simp [tupy] at t
  | .tuple ds, _, t, h => by
    cases h with
    | tup hs ha => exact .tup (e.sqT hs) (Ex.dpAll e ds _ (by simpa [tupy] using t) ha)
  | .dict _, _, t, h => by cases h
theorem Ex.dpAll {K : PySem.W.Frag} {H H' : Hp} (e : Ex H H') : ∀ (ds : List PyData) (vs : List V), tupyAll ds = true → DpAll K H vs ds → DpAll K H' vs ds
  | [], _, _, h => by cases h; exact .nil
  | d :: ds, _, t, h => by
    rw [tupyAll, Bool.and_eq_true] at t
    cases h with
    | cons h1 h2 => exact .cons (Ex.dp e d _ t.1 h1) (Ex.dpAll e ds _ t.2 h2)
end
theorem Ex.ge {K : PySem.W.Frag} {H H' : Hp} {v : V} {g : Ge} (e : Ex H H') (h : Dp K H v g.data) : Dp K H' v g.data := e.dp _ _ g.tupy_data h
theorem BoxAt.ex {H H' : Hp} {b q : Addr} (h : BoxAt H b q) (e : Ex H H') : BoxAt H' b q := by
  obtain ⟨z, ns, h1, h2, h3⟩ := h
  exact ⟨z, ns, e.lst h1, e.lst h2, h3⟩

section
variable {P : Program} {w : World} {K : PySem.W.Frag} {mg : Str → Option Value} {base : Heap} {f : Addr} {fd : FuncData}
/-! ### patterns -/
def spIsPat (K : PySem.W.Frag) : Sp := fun vs H Q _ => ∃ (v : V) (g : Ge), vs = [v] ∧ Dp K H v g.data ∧ Wf PatTip g ∧ g.size ≤ 7 ∧ g.levels ≤ 3 ∧ ∀ H', Fr [] H H' → Q (.bl true) H'
def spWithB (K : PySem.W.Frag) (fe : Addr) : Sp := fun vs H Q _ => ∃ (v : V) (g : Ge) (m l : Nat), vs = [v, .ref fe, .int (m : Nat), .int (l : Nat)] ∧ Dp K H v g.data ∧ Wf PatTip g ∧ g.size ≤ m ∧ g.levels ≤ l ∧ m ≤ 30 ∧ l ≤ 29 ∧ ∀ H', Fr [] H H' → Q (.bl true) H'
theorem ok_withB (F : Fun K "is_within" "is_within" s_is_within f fd) (T : Txt K mg) (chas_form : Callee P w K mg base 1 "has_form" P_has_form (spForm K)) (cb : Callee P w K mg base 1 "is_bare" P_is_bare (spBare K)) : FnOk P w K mg base CX0 2 f fd P_is_within (spWithB K cb.f) := by
  refine F.ok sc_is_within (fun vs H Q E h => ?_) (fun cdv A outer s H vs Q E hr h => ?_)
  · obtain ⟨v, g, m, l, rfl, _⟩ := h
    rfl
  obtain ⟨v, g, m, l, rfl, hv, wf, h1, h2, h3, h4, k⟩ := h
  refine body_within (fe := cb.f) (ER := fun u H' Q' => spBare K [u] H' Q' E0) (Tp := PatTip) T chas_form hr (fun p1 p2 p3 => ?_) ?_ hv wf h1 h2 h3 h4 k
  · have q := pe_callL (i := 1) (p := p1) (pos := p3) (X := (cxOf CX0 P w K mg base N_is_within "is_within" (defScope s_is_within) f cdv A outer s H E).nox) cb.ok (hr.mono (by decide)) (x := "is_end") rfl (.inl rfl) cb.kp cb.b .nil pass0 (pa_cons (pv 6 (x := "part") (pos := p2)) pa_nil)
    refine ⟨fun pins s σ H Q I h => q.run pins s σ H Q I ?_⟩
    obtain ⟨e1, u, e2, h⟩ := h
    exact ⟨e1, u, e2, h⟩
  · intro u g' H' Q' fr hu wf' hl k'
    exact ⟨u, g', rfl, hu, wf', hl, k' H' (Fr.refl _ _)⟩
theorem ok_isPat (F : Fun K "is_pattern" "is_pattern" s_is_pattern f fd) (T : Txt K mg) {fe : Addr} (mB : mg "is_bare" = some (.ref fe)) (cis_within : Callee P w K mg base 2 "is_within" P_is_within (spWithB K fe)) : FnOk P w K mg base CX0 3 f fd P_is_pattern (spIsPat K) := by
  refine F.ok sc_is_pattern (fun vs H Q E h => ?_) (fun cdv A outer s H vs Q E hr h => ?_)
  · obtain ⟨v, g, rfl, _⟩ := h
    rfl
  obtain ⟨v, g, rfl, hv, wf, h1, h2, k⟩ := h
  refine ⟨_, pss_one (ps_ret (pe_own cis_within hr (pa_cons (pv 0) (pa_cons (pe_globR mB) (pa_cons (pe_globI T.MOST_PATTERN_PARTS) (pa_cons (pe_globI T.PATTERN_LEVELS) pa_nil)))))), ?_⟩
  exact ⟨v, rfl, v, g, 7, 3, rfl, hv, wf, h1, h2, by decide, by decide, k⟩

/-! ### builds -/
abbrev qLam : Str := "is_build.<locals>.<lambda>"
abbrev TT1 (PT : Addr) : List (Addr × Str) := [(PT, qLam)]
def spIsBuild (K : PySem.W.Frag) (PT : Addr) : Sp := fun vs H Q _ => ∃ (x v : V) (h g : Ge), vs = [x, v] ∧ Dp K H x h.data ∧ Dp K H v g.data ∧ Wf PatTip g ∧ g.levels ≤ 30 ∧ Wf (DoTip g) h ∧ h.size ≤ 12 ∧ h.levels ≤ 4 ∧ LamX.Tabs (TT1 PT) H ∧
  ∀ H', Ex H H' → LamX.Tabs (TT1 PT) H' → Q (.bl true) H'
def tWB (K : PySem.W.Frag) (PT : Addr) : TE := fun σ H Q => ∃ x v, σ = [some x, some v] ∧ spIsBuild K PT [x, v] H Q E0
theorem pe_wb {g : Addr} {fdg : FuncData} {c PT : Addr} {A : Around} {outer : List Env} {s : Shared} {H : Hp} {E : XK} (FW : Fun K "is_within" "is_within" s_is_within g fdg) (mgw : mg "is_within" = some (.ref g)) (bw : Binds K fdg P_is_within [])
    (T : Txt K mg) (chas_form : Callee P w K mg base 1 "has_form" P_has_form (spForm K)) (cis_do : Callee P w K mg base 4 "is_do" P_is_do (spDo K)) (TB : LamX.TabB base mg c PT)
    (hr : Room 6 (A.deeper (envOfC "is_build" (defScope s_is_build) s.heap.objs.size f (.ref c)))) {params : Arguments} {body : Expr} {scope : Scope} {p p1 p2 p3 lpos pos : Pos}
    (S : NdefX.NScope ["part", "pattern"] ["part"] ["pattern"] scope) (hfree : ∀ y ∈ scope.names, y.2 = .free → (defScope s_is_build).names.lookup y.1 = some .cell ∨ (defScope s_is_build).names.lookup y.1 = some .free) (hfr : (("pattern" : Str), NameKind.free) ∈ scope.names)
    (hdef : defaultsOf params (cxOf CX0 P w K mg base N_is_build "is_build" (defScope s_is_build) f (.ref c) A outer s H E).nox.env = ([], []))
    (hbind : ∀ (q : Str) (cl : List (Str × Addr)) (pm cv ctv u : Value), bindArgs (PySem.W.kla_fn "<lambda>" q params body scope cl pm cv ctv) ⟨[u], []⟩ = pure [(("part" : Str), u)])
    (hbody : ∀ (F : NdefX.NF) (f : Addr) (A' : Around) (outer' : List Env) (s' : Shared) (H' : Hp), F.scope = scope → Room 4 (A'.deeper (NdefX.envF F f s'.heap.objs.size)) → PE (NdefX.ncx CX0 P w K mg base ["part", "pattern"] F f A' outer' s' H' E0) body (tCall (spDo K) [] E0 (tCons (tVar 0) (tCons (tVar 1) tNil)))) :
    PE (cxOf CX0 P w K mg base N_is_build "is_build" (defScope s_is_build) f (.ref c) A outer s H E).nox (.Call (.Name "is_within" p) [.Name "build" p1, .Lambda params body scope lpos, .Name "MOST_BUILD_PARTS" p2, .Name "BUILD_LEVELS" p3] [] pos) (tWB K PT) := by
  obtain ⟨oc, od, kV, doc, pm, an, cdvg, ct, osl, rfl, lkg, hcg⟩ := FW.ex
  refine ⟨?_⟩
  rintro pins t σ H' Q I ⟨x, v, rfl, x1, v1, h, gp, e0, hx, hv, wfp, hlp, wfh, hs, hl, hT, k⟩
  cases e0
  obtain ⟨t1, m1⟩ := T.MOST_BUILD_PARTS
  obtain ⟨t2, m2⟩ := T.BUILD_LEVELS
  refine wpAny_Call_Name_kw (ld_glob I (by rfl) mgw ?_ (by decide))
  refine PySem.W.callWith_K (h₀ := base) I.ok.mod.kin FW.kp ?_ (by rfl) (by rfl)
  refine Calls.spliced_cons ?_
  have pb : PE (cxOf CX0 P w K mg base N_is_build "is_build" (defScope s_is_build) f (.ref c) A outer s H E).nox (.Name "build" p1) (tVar 0) := pv 0
  refine thn (pb.run pins t _ H' (fun a H1 => a = x ∧ H1 = H') I ⟨_, rfl, rfl, rfl⟩) ?_
  rintro ub s1 ⟨a1, H1, I1, r1, rfl, rfl⟩
  refine Calls.spliced_cons (LamX.lam_make2 (T := TT1 PT) (P := PT) (c := c) I1 TB rfl (by simp [TT1, qLam]; rfl) ?_ hT hdef ?_ ?_)
  · rintro y hy _
    rw [List.mem_singleton.mp hy]
    rfl
  · intro y hy e
    exact (hfree y hy e).elim (fun z => I1.ok.has _ (.inl z)) fun z => I1.ok.has _ (.inr z)
  intro f' c' pm' ctv H2 s2 I2 eN T2 ho hf hfr' hco
  refine Calls.spliced_cons (ld_glob I2 (by rfl) m1 ?_ (by decide))
  refine Calls.spliced_cons (ld_glob I2 (by rfl) m2 ?_ (by decide))
  refine Calls.spliced_nil ⟨I2.kIn, ?_⟩
  have hv2 := Ex.ge eN hv
  have hx2 := Ex.ge eN hx
  let F : NdefX.NF := { name := "<lambda>", qual := qLam, params := params, body := [], scope := scope, cl := cloFrom (cxOf CX0 P w K mg base N_is_build "is_build" (defScope s_is_build) f (.ref c) A outer s H E).nox.env.cells scope.names [], c := c' }
  have cap : NdefX.Caps (cxOf CX0 P w K mg base N_is_build "is_build" (defScope s_is_build) f (.ref c) A outer s H E).nox F.cl ["pattern"] [1] := NdefX.Caps.made (scope := scope) I2.ok hfree (fun y hy => by rw [List.mem_singleton.mp hy]; exact hfr) rfl
  have C2 := NdefX.cells_of I2 cap
  refine wpAny_call (codeAny_mono (R := CR CX0 (cxOf CX0 P w K mg base N_is_build "is_build" (defScope s_is_build) f (.ref c) A outer s H E).nox.stack P w H2 s2 Q E0) ?_ ?_)
  · refine LamX.run_ofS (N := N_is_within) (ps := P_is_within) (us := [ub, .ref f', .int 12 t1, .int 4 t2]) (vs := [a1, .ref f', .int (12 : Nat), .int (4 : Nat)]) lkg hcg sc_is_within (k := 5) hr I2.env0 (bw s2 [ub, .ref f', .int 12 t1, .int 4 t2] I2.kIn rfl) (.cons r1 (.cons rfl (.cons ⟨_, rfl⟩ (.cons ⟨_, rfl⟩ .nil)))) rfl ?_
    intro hr'
    have act := fun q1 q2 q3 => act_lam (Eg := E0) (g := g) (cdg := cdvg) (outer := (cxOf CX0 P w K mg base N_is_build "is_build" (defScope s_is_build) f (.ref c) A outer s H E).nox.stack) (A := (cxOf CX0 P w K mg base N_is_build "is_build" (defScope s_is_build) f (.ref c) A outer s H E).nox.A) (p1 := q1) (p2 := q2) (p3 := q3) (F := F) (nm := "<lambda>") (one := "part") (params := params) (body := body) (pm := pm') (ctv := ctv) (k := 4) (Ng := N_is_within) (i := 1) (j := 6) (a := "is_end") (b := "part") (qg := "is_within") (sg := defScope s_is_within)
      (tb := tCall (spDo K) [] E0 (tCons (tVar 0) (tCons (tVar 1) tNil))) ho hf S (hbind _ _ _ _ _) C2 hr' (fun A' outer' s' H' r => hbody F f' A' outer' s' H' rfl r) rfl (.inl rfl) rfl (.inl rfl) (by decide) (by decide) (by decide) (by decide)
    obtain ⟨tt, ht, hq⟩ := body_within (Q := Q) (m := 12) (lv := 4) (g := h) (v := a1) (Tp := DoTip gp) (fe := f') (ER := fun u HZ Q => HZ c' = some (LamX.CodeO c' qLam) ∧ tCall (spDo K) [] E0 (tCons (tVar 0) (tCons (tVar 1) tNil)) (NdefX.startF ["part", "pattern"] [u] [some v]) HZ Q) T chas_form (hr'.mono (by decide)) act
      (fun u g' HZ Q' fr hu wf' _ k' => ⟨fr.keep c' _ (by simp) hco, u, rfl, v, rfl, u, v, g', gp, rfl, hu, fr.ge hv2, wfp, hlp, wf', k'⟩) hx2 wfh hs hl (by decide) (by decide) (fun H3 f3 => k H3 (LamX.ExtN.trans eN f3.ex) (T2.ext fun b o e => f3.keep b o (by simp) e))
    exact ⟨tt, ht.nox, hq⟩
  · intro r s' hq
    cases r with
    | error e => exact (show False from hq).elim
    | ok fl =>
      cases fl with
      | ret y => exact I2.after hq
      | next => exact False.elim hq
      | brk => exact False.elim hq
      | cont => exact False.elim hq
theorem ok_isBuild {oc : Value} {od an : Option Addr} {osl : Array (Option Value)} {kV doc pm ct : Value} {g : Addr} {fdg : FuncData} {c PT : Addr}
    (lk : K.lookup f = some ⟨oc, od, .func (PySem.W.fnOf "is_build" "is_build" (defArgs s_is_build) (defBody s_is_build) (defScope s_is_build) .none kV doc pm an (.ref c) ct), osl⟩) (hcd : PySem.W.codeIn K (.ref c) "is_build" = true)
    (FW : Fun K "is_within" "is_within" s_is_within g fdg) (mgw : mg "is_within" = some (.ref g)) (bw : Binds K fdg P_is_within [])
    (T : Txt K mg) (chas_form : Callee P w K mg base 1 "has_form" P_has_form (spForm K)) (cis_do : Callee P w K mg base 4 "is_do" P_is_do (spDo K)) (TB : LamX.TabB base mg c PT) :
    FnOk P w K mg base CX0 7 f (PySem.W.fnOf "is_build" "is_build" (defArgs s_is_build) (defBody s_is_build) (defScope s_is_build) .none kV doc pm an (.ref c) ct) P_is_build (spIsBuild K PT) := by
  refine fn_of lk hcd sc_is_build (fun vs H Q E h => ?_) (fun A outer s H vs Q E hr h => ?_)
  · obtain ⟨x, v, h, g, rfl, _⟩ := h
    rfl
  have h' := h
  obtain ⟨x, v, _, _, rfl, _⟩ := h'
  refine ⟨_, (pss_one (ps_ret (pe_wb FW mgw bw T chas_form cis_do TB hr (NdefX.nscope_by (by decide +kernel)) (NdefX.ndef_free (fr := ["pattern"]) (by decide +kernel)) (by decide +kernel) rfl (fun _ _ _ _ _ _ => rfl) ?_))).nox, ?_⟩
  · intro F1 f1 A' outer' s' H' es r
    obtain ⟨_, _, _, _, sc1, _, _⟩ := F1
    cases es
    exact pe_own cis_do r (pa_cons (pv 0) (pa_cons (pv 1) pa_nil))
  · exact ⟨x, v, rfl, h⟩
end
end TT


namespace TT
open PySem PySem.Spec PyProof.Rows L2
section
variable {P : Program} {w : World} {K : PySem.W.Frag} {mg : Str → Option Value} {base : Heap} {f : Addr} {fd : FuncData}
/-! ### rules -/
def spIsRule (K : PySem.W.Frag) (PT : Addr) : Sp := fun vs H Q _ => ∃ (v : V) (r : Ru), vs = [v] ∧ Dp K H v r.data ∧ RuOk r ∧ LamX.Tabs (TT1 PT) H ∧ ∀ H', Ex H H' → LamX.Tabs (TT1 PT) H' → Q (.bl true) H'
theorem ok_isRule {PT : Addr} (F : Fun K "is_rule" "is_rule" s_is_rule f fd) (T : Txt K mg) (cis_number : Callee P w K mg base 1 "is_number" P_is_number spNumber) (cis_spot : Callee P w K mg base 2 "is_spot" P_is_spot (spSpot K))
    (cis_pattern : Callee P w K mg base 3 "is_pattern" P_is_pattern (spIsPat K)) (cis_build : Callee P w K mg base 7 "is_build" P_is_build (spIsBuild K PT)) : FnOk P w K mg base CX0 8 f fd P_is_rule (spIsRule K PT) := by
  refine F.ok sc_is_rule (fun vs H Q E h => ?_) (fun cdv A outer s H vs Q E hr h => ?_)
  · obtain ⟨v, r, rfl, _⟩ := h
    rfl
  obtain ⟨v, r, rfl, hv, ro, hT, k⟩ := h
  have nd := (sc_is_rule).nd
  obtain ⟨a, us, rfl, hs, hd⟩ := dp_tuple hv
  obtain ⟨v1, v2, v3, v4, rfl, h1, h2, h3, h4⟩ := dpAll_4 hd
  cases dp_int h1
  have pl := ro.pl
  refine ⟨_, pss_cons (ps_if (PW.pt (pw_or (pt_not (pt_val (pe_callB (call_isiK' K) (by rfl) T.isinstance_ (by decide +kernel) (pa_cons (pv 0) (pa_cons (pe_bltn (v := .ty "tuple") (by rfl) T.tuple_ (by decide +kernel) rfl) pa_nil))))) (pw_or1 (pt_cmpR op_ne (pe_callB (call_lenK K) (by rfl) T.len_ PySem.boot_len (pa_cons (pv 0) pa_nil)) pe_int (nomark _)))))
    (pss_one (ps_ret pe_bl))
    (pss_nil))
  (pss_cons (ps_asg (pv 0) (pg_tupK K rfl (pgs_cons (pg_name (i := 1) nd rfl (Or.inl rfl)) (pgs_cons (pg_name (i := 2) nd rfl (Or.inl rfl)) (pgs_cons (pg_name (i := 3) nd rfl (Or.inl rfl)) (pgs_cons (pg_name (i := 4) nd rfl (Or.inl rfl)) pgs_nil))))))
  (pss_one (ps_ret (pe_and (pe_own cis_number hr (pa_cons (pv 1) (pa_cons (pe_globI T.MOST_STATE) pa_nil))) (pe_and (pe_own cis_spot hr (pa_cons (pv 2) pa_nil)) (pe_and (pe_own cis_pattern hr (pa_cons (pv 3) pa_nil)) (pe_one (pe_own cis_build hr (pa_cons (pv 4) (pa_cons (pv 3) pa_nil)))))))))), ?_⟩
  refine ⟨_, rfl, _, .ty "tuple", _, _, true, rfl, .ty _, tyx_tup hs, kit_ty (by decide +kernel), _, rfl, iteF ?_⟩
  refine ⟨_, rfl, a, _, rfl, .inr hs, rfl, _, rfl, ?_⟩
  refine ite2 (fun c => absurd c (by show ¬ (!decide (V.int 4 = V.int 4)) = true; decide)) (fun _ => ?_)
  refine ⟨_, rfl, a, _, rfl, hs, rfl, _, _, rfl, _, _, rfl, _, _, rfl, _, _, rfl, rfl, ?_⟩
  refine ⟨_, rfl, _, 5, rfl, ro.st0, ro.st5, _, rfl, iteT ?_⟩
  refine ⟨_, rfl, _, _, rfl, h2, ro.spot, fun H1 f1 => ⟨_, rfl, iteT ?_⟩⟩
  refine ⟨_, rfl, _, _, rfl, f1.ge h3, ro.pat, ro.ps, pl, fun H2 f2 => ⟨_, rfl, iteT ?_⟩⟩
  have f12 := f1.trans f2
  exact ⟨_, rfl, _, rfl, _, _, _, _, rfl, f12.ge h4, f12.ge h3, ro.pat, by omega, ro.bu, ro.bs, ro.bl, hT.ext fun b o e => f12.keep b o (by simp) e, fun H3 e3 T3 => k H3 (LamX.ExtN.trans f12.ex e3) T3⟩
def spCheck (K : PySem.W.Frag) (PT : Addr) : Sp := fun vs H Q _ => ∃ (bA : Addr) (us : List V) (rs : List Ru), vs = [.ref bA] ∧ H bA = some (.lst us) ∧ DpAll K H us (rs.map Ru.data) ∧ (∀ r ∈ rs, RuOk r) ∧ rs.length ≤ 16 ∧ LamX.Tabs (TT1 PT) H ∧ ∀ H', Ex H H' → LamX.Tabs (TT1 PT) H' → Q .non H'
theorem ok_check {PT : Addr} (F : Fun K "check_book" "check_book" s_check_book f fd) (T : Txt K mg) (cis_rule : Callee P w K mg base 8 "is_rule" P_is_rule (spIsRule K PT)) : FnOk P w K mg base CX0 9 f fd P_check_book (spCheck K PT) := by
  refine F.ok sc_check_book (fun vs H Q E h => ?_) (fun cdv A outer s H vs Q E hr h => ?_)
  · obtain ⟨bA, us, rs, rfl, _⟩ := h
    rfl
  obtain ⟨bA, us, rs, rfl, hb, hd, ho, hn, hT, k⟩ := h
  have nd := (sc_check_book).nd
  have lu : us.length = rs.length := by rw [DpAll.length hd, List.length_map]
  refine ⟨_, pss_cons (ps_if (pt_not (pt_val (pe_callB (call_isiK' K) (by rfl) T.isinstance_ (by decide +kernel) (pa_cons (pv 0) (pa_cons (pe_bltn (v := .ty "list") (by rfl) T.list_ (by decide +kernel) rfl) pa_nil)))))
    (pss_one (ps_never))
    (pss_nil))
  (pss_one (ps_for PassesOwn.never rfl (pi_enumK K (by rfl) T.enumerate_ (pa_cons (pv 0) pa_nil)) (pg_tupK K rfl (pgs_cons (pg_name (i := 1) nd rfl (Or.inl rfl)) (pgs_cons (pg_name (i := 2) nd rfl (Or.inl rfl)) pgs_nil)))
    (pss_one (ps_if (PW.pt (pw_or (pt_cmpR op_eq (pv 1) (pe_globI T.MOST_RULES) (nomark _)) (pw_or1 (pt_not (pt_val (pe_own cis_rule hr (pa_cons (pv 2) pa_nil)))))))
      (pss_one (ps_never))
      (pss_nil))))), ?_⟩
  refine ⟨_, rfl, _, .ty "list", _, _, true, rfl, .ty _, .base (.lst hb), kit_ty (by decide +kernel), _, rfl, iteF ?_⟩
  refine ⟨_, rfl, bA, us, rfl, SqL.of hb, ?_⟩
  refine for_it walk_enum (fun i σ H' => ∃ u1 u2 : Option V, σ = [some (.ref bA), u1, u2] ∧ Ex H H' ∧ LamX.Tabs (TT1 PT) H') ⟨none, none, rfl, LamX.ExtN.refl H, hT⟩ (fun i σ H' _ ⟨_, _, _, e, _⟩ => SqL.of (e.lst hb)) ?_ ?_
  · rintro i x σ H1 H' hi ⟨u1, u2, rfl, e, T1⟩ ⟨t, x1, y, rfl, ht, rfl, ex, ey⟩
    cases ex
    obtain ⟨d, hdi, hy⟩ := DpAll.get hd ey
    rw [List.getElem?_map] at hdi
    obtain ⟨r, hri, rfl⟩ := Option.map_eq_some_iff.mp hdi
    have f1 : Fr [] H1 (upd H1 t (.tup [.int (i : Nat), y])) := Fr.new ht
    have e2 : Ex H (upd H1 t (.tup [.int (i : Nat), y])) := LamX.ExtN.trans e f1.ex
    refine ⟨t, _, rfl, SqT.of upd_same, rfl, _, _, rfl, _, _, rfl, rfl, ?_⟩
    refine ⟨_, rfl, rfl, _, rfl, ?_⟩
    rw [decide_eq_false (show ¬ V.int ((i : Nat) : Int) = V.int 16 by intro z; injection z with z; omega)]
    refine iteF ⟨_, rfl, y, r, rfl, e2.dp _ _ (tupy_ru r) hy, ho r (List.mem_of_getElem? hri), T1.ext fun b o q => f1.keep b o (by simp) q, fun H3 e3 T3 => ⟨_, rfl, iteF ?_⟩⟩
    exact ⟨_, _, rfl, LamX.ExtN.trans e2 e3, T3⟩
  · rintro σ H' ⟨u1, u2, rfl, e, T1⟩
    exact k H' e T1
end
end TT

namespace TT
open PySem PySem.Spec PyProof.Rows L2
section
variable {X : Cx} {o i value e tg : Expr} {pos pos' : Pos} {td ty tv : TE}
theorem pe_nnewK (P : Program) (w : World) (h1 : X.prog = P := by rfl) (h2 : X.w = w := by rfl) : PE X (.Dict [] [] pos) (tNNew P w) := by subst h1 h2; exact pe_nnew
theorem pe_ngetK (P : Program) (w : World) (K : PySem.W.Frag) (hu : X.A.units + 64 < cLine) (ho : PE X o td) (hi : PE X i ty) (hs : NoSl i) (h1 : X.prog = P := by rfl) (h2 : X.w = w := by rfl) (h3 : X.K = K := by rfl) : PE X (.Subscript o i pos) (tNGet P w K td ty) := by subst h1 h2 h3; exact pe_nget hu ho hi hs
theorem ps_nputK (P : Program) (w : World) (K : PySem.W.Frag) (hu : X.A.units + 64 < cLine) (ho : PE X o td) (hi : PE X i ty) (hv : PE X value tv) (hs : swapsWith value (some (.Subscript o i pos')) pos.line X.env = pure false := by rfl) (h1 : X.prog = P := by rfl) (h2 : X.w = w := by rfl) (h3 : X.K = K := by rfl) :
    PS X (.Assign [.Subscript o i pos'] value pos) (sNPut P w K td ty tv) := by subst h1 h2 h3; exact ps_nput hu ho hi hv hs
theorem pi_keysNK (P : Program) (w : World) (he : PE X e td) (h1 : X.prog = P := by rfl) (h2 : X.w = w := by rfl) : PI X tg e (iKeysN P w td) := by subst h1 h2; exact pi_keysN he
/-- a read of a dict that a walk has locked -/
def tNGetF (P : Program) (w : World) (K : PySem.W.Frag) (td ty : TE) : TE := fun σ H Q => td σ H fun x H1 => ty σ H1 fun y H2 => ∃ a od xs b k v, x = .ref a ∧ y = .ref b ∧ H2 a = some (.frz od (NdO P w a xs)) ∧ (∀ x ∈ xs, IsNk K H2 x.2.1 x.1) ∧ IsNk K H2 b k ∧ nval xs k = some v ∧ Q v H2
end
theorem nd_rdF {X : Cx} {pins : List (Addr × Obj)} {σ : L2.St} {H : Hp} {s : Shared} {d : Addr} {od : Obj} {xs : List NEnt} (I : Inv X pins σ H s) (h : H d = some (.frz od (NdO X.prog X.w d xs))) (hall : ∀ p ∈ xs, IsNk X.K H p.2.1 p.1) :
    ∃ vs, Paired NRel xs vs ∧ s.heap.DictOfH (nestedKind X.prog X.w) d vs := by
  obtain ⟨_, ⟨_, z1, vs, r, ob, es, ep, e, h2, h3, h4, h5⟩, z2⟩ := (show ObjOk X.prog X.w H s.heap d (.frz od (NdO X.prog X.w d xs)) from I.hok d _ h)
  refine ⟨vs, r, ob, es, ep, e, h2, h3, h4, ?_, h5⟩
  clear h h4 h5 z1 z2
  intro x hx
  induction r with
  | nil => exact nomatch hx
  | @cons p q ps qs hq t ih =>
    rcases List.mem_cons.mp hx with e | hx
    · subst e
      have q1 := (hall p List.mem_cons_self).is I
      rw [hq.1, hq.2.1] at q1
      exact q1
    · exact ih (fun p' hp' => hall p' (List.mem_cons_of_mem _ hp')) hx
theorem pe_ngetF {X : Cx} {o i : Expr} {pos : Pos} {td ty : TE} (hu : X.A.units + 64 < cLine) (ho : PE X o td) (hi : PE X i ty) (hs : NoSl i) : PE X (.Subscript o i pos) (tNGetF X.prog X.w X.K td ty) := by
  refine ⟨fun pins s σ H Q I h => ?_⟩
  refine subD_of PySem.F.slot_dict_getitem.lookup hs (thn (ho.run pins s σ H _ I h) ?_)
  rintro u s1 ⟨x, H1, I1, rx, q1⟩
  refine thn (hi.run pins s1 σ H1 _ I1 q1) ?_
  rintro iv s2 ⟨y, H2, I2, ry, a, od, xs, b, k, v, ex, ey, g, hall, hk, hv, q2⟩
  subst ex ey
  obtain rfl : u = Value.ref a := rx
  obtain rfl : iv = Value.ref b := ry
  obtain ⟨vs, rel, dd⟩ := nd_rdF I2 g hall
  refine ⟨dd.typeIs, ?_⟩
  have q := nrel_find rel k
  rw [hv] at q
  cases hp : atKey vs k with
  | none => rw [hp] at q; exact q.elim
  | some p =>
    rw [hp] at q
    exact wpAny_getItem_heap (nroom hu) (hk.is I2) dd hp ⟨v, H2, I2.tok _, q, q2⟩
theorem pe_ngetFK {X : Cx} {o i : Expr} {pos : Pos} {td ty : TE} (P : Program) (w : World) (K : PySem.W.Frag) (hu : X.A.units + 64 < cLine) (ho : PE X o td) (hi : PE X i ty) (hs : NoSl i) (h1 : X.prog = P := by rfl) (h2 : X.w = w := by rfl) (h3 : X.K = K := by rfl) : PE X (.Subscript o i pos) (tNGetF P w K td ty) := by subst h1 h2 h3; exact pe_ngetF hu ho hi hs
end TT


namespace TT
open PySem PySem.Spec PyProof.Rows L2
/-! ### places by a stack -/
def shift (p : List Nat) (x : List Nat × Ge) : List Nat × Ge := (p ++ x.1, x.2)
def outst (ws : List (List Nat × Ge)) : List (List Nat × Ge) := ws.flatMap fun x => (places x.2).map (shift x.1)
def kidsFrom (p : List Nat) : Nat → List Ge → List (List Nat × Ge)
  | _, [] => []
  | k, g :: gs => (p ++ [k], g) :: kidsFrom p (k + 1) gs
theorem outst_cons (x : List Nat × Ge) (ws : List (List Nat × Ge)) : outst (x :: ws) = (places x.2).map (shift x.1) ++ outst ws := by simp [outst]
theorem outst_app (xs ws : List (List Nat × Ge)) : outst (xs ++ ws) = outst xs ++ outst ws := by simp [outst]
theorem outst_kids (p : List Nat) : ∀ (k : Nat) (gs : List Ge), outst (kidsFrom p k gs) = (placesFrom k gs).map (shift p)
  | _, [] => by simp [kidsFrom, outst, placesFrom]
  | k, g :: gs => by
    rw [kidsFrom, outst_cons, outst_kids p (k + 1) gs, placesFrom, List.map_append, List.map_map]
    congr 1
    apply List.map_congr_left
    intro x _
    simp [shift]
theorem outst_node (p : List Nat) (l : Str) (gs : List Ge) (ws : List (List Nat × Ge)) : outst ((p, .node l gs) :: ws) = (p, .node l gs) :: outst (kidsFrom p 0 gs ++ ws) := by
  rw [outst_cons, outst_app, outst_kids]
  simp [places, shift]
theorem shift_nil (xs : List (List Nat × Ge)) : xs.map (shift []) = xs := by
  conv => rhs; rw [← List.map_id xs]
  apply List.map_congr_left
  intro x _
  simp [shift]
theorem kids_get (p : List Nat) : ∀ (k : Nat) (gs : List Ge) (i : Nat), (kidsFrom p k gs)[i]? = gs[i]?.map fun g => (p ++ [k + i], g)
  | _, [], i => by simp [kidsFrom]
  | k, g :: gs, 0 => by simp [kidsFrom]
  | k, g :: gs, i + 1 => by
    rw [kidsFrom, List.getElem?_cons_succ, List.getElem?_cons_succ, kids_get p (k + 1) gs i]
    congr 1
    funext g
    rw [show k + 1 + i = k + (i + 1) by omega]
theorem kids_len (p : List Nat) : ∀ (k : Nat) (gs : List Ge), (kidsFrom p k gs).length = gs.length
  | _, [] => rfl
  | k, g :: gs => by simp only [kidsFrom, List.length_cons, kids_len p (k + 1) gs]
theorem kids_mem {p : List Nat} {k : Nat} {gs : List Ge} {x : List Nat × Ge} (h : x ∈ kidsFrom p k gs) : x.2 ∈ gs := by
  obtain ⟨i, hi⟩ := List.mem_iff_getElem?.mp h
  rw [kids_get] at hi
  obtain ⟨g, hg, rfl⟩ := Option.map_eq_some_iff.mp hi
  exact List.mem_of_getElem? hg
theorem placesFrom_head : ∀ (k : Nat) (gs : List Ge) (x : List Nat × Ge), x ∈ placesFrom k gs → ∃ j r, x.1 = j :: r ∧ k ≤ j
  | _, [], x, h => by simp [placesFrom] at h
  | k, g :: gs, x, h => by
    simp only [placesFrom, List.mem_append, List.mem_map] at h
    rcases h with ⟨y, _, rfl⟩ | h
    · exact ⟨k, y.1, rfl, Nat.le_refl _⟩
    · obtain ⟨j, r, e, hj⟩ := placesFrom_head (k + 1) gs x h
      exact ⟨j, r, e, by omega⟩
mutual
theorem places_nodup : ∀ g : Ge, ((places g).map (·.1)).Nodup
  | .tip ks => by simp [places]
  | .node l gs => by
    simp only [places, List.map_cons, List.nodup_cons]
    refine ⟨?_, placesFrom_nodup 0 gs⟩
    intro h
    obtain ⟨x, hx, e⟩ := List.mem_map.mp h
    obtain ⟨j, r, e2, _⟩ := placesFrom_head 0 gs x hx
    rw [e2] at e
    cases e
theorem placesFrom_nodup : ∀ (k : Nat) (gs : List Ge), ((placesFrom k gs).map (·.1)).Nodup
  | _, [] => by simp [placesFrom]
  | k, g :: gs => by
    rw [placesFrom, List.map_append, List.map_map]
    refine List.nodup_append.mpr ⟨?_, placesFrom_nodup (k + 1) gs, ?_⟩
    · have h := places_nodup g
      have e : (places g).map ((fun x : List Nat × Ge => x.1) ∘ fun x => (k :: x.1, x.2)) = ((places g).map (·.1)).map (fun p => k :: p) := by rw [List.map_map]; rfl
      rw [e]
      exact List.Pairwise.map _ (fun a b hab e => hab (by injection e)) h
    · intro a ha b hb e
      subst e
      obtain ⟨x, _, rfl⟩ := List.mem_map.mp ha
      obtain ⟨y, hy, e⟩ := List.mem_map.mp hb
      obtain ⟨j, r, e2, hj⟩ := placesFrom_head (k + 1) gs y hy
      rw [e2] at e
      simp only [Function.comp] at e
      injection e with e _
      omega
end
def pkey (p : List Nat) : NestedKey := .tup (p.map fun n => .num (n : Nat))
theorem pkey_inj : ∀ {p q : List Nat}, pkey p = pkey q → p = q := by
  intro p q h
  unfold pkey at h
  injection h with h
  induction p generalizing q with
  | nil => cases q with
    | nil => rfl
    | cons a q => simp at h
  | cons a p ih => cases q with
    | nil => simp at h
    | cons b q =>
      simp only [List.map_cons] at h
      injection h with h1 h2
      injection h1 with h1
      rw [ih h2, show a = b by omega]
theorem pkey_data (p : List Nat) : (pkey p).data = .tuple (p.map fun n => PyData.int (n : Nat)) := by simp only [pkey, NestedKey.data, numsData]
theorem nums_depth : ∀ p : List Nat, NestedKey.depthAll (p.map fun n => NestedKey.num (n : Nat)) = 0
  | [] => by simp [NestedKey.depthAll]
  | n :: p => by simp [NestedKey.depthAll, NestedKey.depth, nums_depth p]
theorem pkey_depth (p : List Nat) : (pkey p).depth ≤ 8 := by simp [pkey, NestedKey.depth, nums_depth p]
theorem pkey_is {K : PySem.W.Frag} {H : Hp} {b : Addr} {p : List Nat} (h : SqT K H b (p.map fun n => V.int (n : Nat))) : IsNk K H b (pkey p) := ⟨by rw [pkey_data]; exact .tup h (dpAll_ints p), pkey_depth p⟩
/-- a dict's entries: places and the trees there -/
def Ents (K : PySem.W.Frag) (H : Hp) (xs : List NEnt) (pl : List (List Nat × Ge)) : Prop := xs.map (·.1) = pl.map (fun x => pkey x.1) ∧ DpAll K H (xs.map (·.2.2)) (pl.map fun x => x.2.data)
theorem tupy_pld : ∀ pl : List (List Nat × Ge), tupyAll (pl.map fun x => x.2.data) = true
  | [] => rfl
  | x :: pl => by simp only [List.map_cons, tupyAll, x.2.tupy_data, tupy_pld pl, Bool.and_self]
theorem Ents.fr {S : List Addr} {K : PySem.W.Frag} {H H' : Hp} {xs : List NEnt} {pl : List (List Nat × Ge)} (e : Fr S H H') (h : Ents K H xs pl) : Ents K H' xs pl := ⟨h.1, e.dpAll _ _ (tupy_pld pl) h.2⟩
theorem Ents.len {K : PySem.W.Frag} {H : Hp} {xs : List NEnt} {pl : List (List Nat × Ge)} (h : Ents K H xs pl) : xs.length = pl.length := by
  have := congrArg List.length h.1
  simpa using this
theorem nval_none {xs : List NEnt} {k : NestedKey} (h : k ∉ xs.map (·.1)) : nval xs k = none := by
  unfold nval
  rw [List.find?_eq_none.mpr]
  · rfl
  · intro x hx e
    exact h (List.mem_map.mpr ⟨x, hx, of_decide_eq_true e⟩)
theorem Ents.put {K : PySem.W.Frag} {H : Hp} {xs : List NEnt} {pl : List (List Nat × Ge)} {x : List Nat × Ge} {b : Addr} {u : V} (h : Ents K H xs pl) (hn : x.1 ∉ pl.map (·.1)) (hu : Dp K H u x.2.data) : nput xs (pkey x.1) b u = xs ++ [(pkey x.1, b, u)] ∧ Ents K H (xs ++ [(pkey x.1, b, u)]) (pl ++ [x]) := by
  have e : nval xs (pkey x.1) = none := nval_none (by
    rw [h.1]
    intro z
    obtain ⟨y, hy, e⟩ := List.mem_map.mp z
    exact hn (List.mem_map.mpr ⟨y, hy, pkey_inj e⟩))
  refine ⟨by unfold nput; rw [e]; rfl, ?_, ?_⟩
  · rw [List.map_append, List.map_append, h.1]; rfl
  · rw [List.map_append, List.map_append]
    exact DpAll.append h.2 (.cons hu .nil)
theorem while_m {c : TT} {tb : TS} {D : Ends} {σ : L2.St} {H : Hp} (W : Nat → L2.St → Hp → Prop) (m0 : Nat) (h0 : W m0 σ H)
    (hs : ∀ m σ H, W m σ H → c σ H fun b H1 => if b = true then tb { D with nx := fun σ' H' => ∃ m', m' < m ∧ W m' σ' H', ct := fun σ' H' => ∃ m', m' < m ∧ W m' σ' H', bk := D.nx } σ H1 else D.nx σ H1)
    (mono : ∀ σ H Q Q', (∀ b H1, Q b H1 → Q' b H1) → c σ H Q → c σ H Q') : tWhile c tb D σ H := by
  refine ⟨W, ⟨m0, h0⟩, ?_⟩
  intro m σ H hw
  refine mono σ H _ _ ?_ (hs m σ H hw)
  intro b H1 q
  cases b with
  | true => exact ⟨_, fun σ' H' z => z, q⟩
  | false => exact q
theorem Fr.off {H H3 H4 : Hp} {L : Addr} (a : Fr [] H H3) (b : Fr [L] H3 H4) (h : H L = none) : Fr [] H H4 := by
  refine ⟨fun p o _ e => ?_, fun p xs e => b.tup _ _ (a.tup _ _ e), fun p o u e => b.frz _ _ _ (a.frz _ _ _ e)⟩
  exact b.keep p o (by
    intro z
    rw [List.mem_singleton.mp z, h] at e
    cases e) (a.keep p o (by simp) e)
def szO (ws : List (List Nat × Ge)) : Nat := (outst ws).length
section
variable {P : Program} {w : World} {K : PySem.W.Frag} {mg : Str → Option Value} {base : Heap} {f : Addr} {fd : FuncData}
def spPlacesOf (P : Program) (w : World) (K : PySem.W.Frag) : Sp := fun vs H Q _ => ∃ (v : V) (g : Ge), vs = [v] ∧ Dp K H v g.data ∧ Wf NoTip g ∧ g.size ≤ 60 ∧ g.levels ≤ 12 ∧
  ∀ (d : Addr) (xs : List NEnt) H', Fr [] H H' → H d = none → Nd P w K H' d xs → Ents K H' xs (places g) → Q (.ref d) H'
theorem ok_placesOf (F : Fun K "places_of" "places_of" s_places_of f fd) (T : Txt K mg) (chas_form : Callee P w K mg base 1 "has_form" P_has_form (spForm K)) : FnOk P w K mg base CX0 2 f fd P_places_of (spPlacesOf P w K) := by
  refine F.ok sc_places_of (fun vs H Q E h => ?_) (fun cdv A outer s H vs Q E hr h => ?_)
  · obtain ⟨v, g, rfl, _⟩ := h
    rfl
  obtain ⟨v, g, rfl, hv, wf, sz, lv, k⟩ := h
  have nd := (sc_places_of).nd
  have hu := hr.units
  refine ⟨_, pss_cons (ps_set (i := 1) nd rfl (Or.inl rfl) (pe_nnewK P w))
  (pss_cons (ps_set (i := 2) nd rfl (Or.inl rfl) (pe_lst (pa_cons (pe_tup (pa_cons (pe_tup pa_nil) (pa_cons (pv 0) pa_nil))) pa_nil)))
  (pss_cons (ps_while PassesOwn.never (pt_truthK K (pv 2))
    (pss_cons (ps_asg (pe_bm0K K PySem.F.plainAttrs_list PySem.F.slot_list_pop PySem.F.type_list_pop mt_pop (pv 2)) (pg_tupK K rfl (pgs_cons (pg_name (i := 3) nd rfl (Or.inl rfl)) (pgs_cons (pg_name (i := 4) nd rfl (Or.inl rfl)) pgs_nil))))
    (pss_cons (ps_if (PW.pt (pw_or (pt_cmpR op_eq (pe_callB (call_lenNK P w K) (by rfl) T.len_ PySem.boot_len (pa_cons (pv 1) pa_nil)) (pe_globI T.MOST_PLACES) (nomark _)) (pw_or (pt_cmpR op_ge (pe_callB (call_lenK K) (by rfl) T.len_ PySem.boot_len (pa_cons (pv 3) pa_nil)) (pe_globI T.TREE_LEVELS) (nomark _)) (pw_or1 (pt_not (pt_val (pe_own chas_form hr (pa_cons (pv 4) pa_nil))))))))
      (pss_one (ps_never))
      (pss_nil))
    (pss_cons (ps_nputK P w K hu (pv 1) (pv 3) (pv 4))
    (pss_cons (ps_set (i := 5) nd rfl (Or.inl rfl) (pe_ix (ix_tupK K) (pv 4) pe_int (fun _ _ => rfl)))
    (pss_one (ps_for PassesOwn.never rfl (pi_revR (by rfl) T.reversed_ (prg_1 (by rfl) T.range_ (pe_callB (call_lenK K) (by rfl) T.len_ PySem.boot_len (pa_cons (pv 5) pa_nil)))) (pg_name (i := 6) nd rfl (Or.inl rfl))
      (pss_one (ps_expr (pe_bmK K PySem.F.plainAttrs_list PySem.F.slot_list_append PySem.F.type_list_append mt_append (pv 2) (pa_cons (pe_tup (pa_cons (pe_op (op_catP K) (pv 3) (pe_tup (pa_cons (pv 6) pa_nil))) (pa_cons (pe_ix (ix_tupK K) (pv 5) (pv 6) (fun _ _ => rfl)) pa_nil))) pa_nil)))))))))))
  (pss_one (ps_ret (pv 1))))), ?_⟩
  intro d hdn
  have fd0 : Fr [] H (upd H d (NdO P w d [])) := Fr.new hdn
  refine ⟨Nat.zero_le _, fun t0 ht0 => ⟨_, rfl, (by show 2 ≤ sizeLine; decide), fun t1 ht1 => ⟨(by show 1 ≤ sizeLine; decide), fun L hL => ?_⟩⟩⟩
  have f0 : Fr [] (upd H d (NdO P w d [])) (upd (upd H d (NdO P w d [])) t0 (.tup [])) := Fr.new ht0
  have f1 : Fr [] (upd (upd H d (NdO P w d [])) t0 (.tup [])) (upd (upd (upd H d (NdO P w d [])) t0 (.tup [])) t1 (.tup [.ref t0, v])) := Fr.new ht1
  have f2 : Fr [] (upd (upd (upd H d (NdO P w d [])) t0 (.tup [])) t1 (.tup [.ref t0, v])) (upd (upd (upd (upd H d (NdO P w d [])) t0 (.tup [])) t1 (.tup [.ref t0, v])) L (.lst [.ref t1])) := Fr.new hL
  have ff0 := fd0.trans ((f0.trans f1).trans f2)
  have hL0 : H L = none := (fd0.trans (f0.trans f1)).free hL
  have hd0 : (upd (upd (upd (upd H d (NdO P w d [])) t0 (.tup [])) t1 (.tup [.ref t0, v])) L (.lst [.ref t1])) d = some (NdO P w d []) := ((f0.trans f1).trans f2).keep d _ (by simp) upd_same
  have ndL : d ≠ L := fun e => by
    rw [e] at hd0
    rw [upd_same] at hd0
    cases hd0
  have lt0 := f2.sqT (SqT.of (K := K) (upd_same (H := upd (upd H d (NdO P w d [])) t0 (.tup [])) (a := t1) (o := .tup [.ref t0, v])))
  have lt1 := (f1.trans f2).sqT (SqT.of (K := K) (upd_same (H := upd H d (NdO P w d [])) (a := t0) (o := .tup [])))
  have hLL : (upd (upd (upd (upd H d (NdO P w d [])) t0 (.tup [])) t1 (.tup [.ref t0, v])) L (.lst [.ref t1])) L = some (.lst [.ref t1]) := upd_same
  generalize upd (upd (upd (upd H d (NdO P w d [])) t0 (.tup [])) t1 (.tup [.ref t0, v])) L (.lst [.ref t1]) = H0 at ff0 hd0 lt0 lt1 hLL
  refine while_m (fun m σ H' => ∃ (ws dn : List (List Nat × Ge)) (us : List V) (xs : List NEnt) (u3 u4 u5 u6 : Option V), m = szO ws.reverse ∧ σ = [some v, some (.ref d), some (.ref L), u3, u4, u5, u6] ∧ Fr [] H H' ∧ H' L = some (.lst us) ∧ DpAll K H' us (ws.map plData) ∧
    Nd P w K H' d xs ∧ Ents K H' xs dn ∧ dn ++ outst ws.reverse = places g ∧ ∀ x ∈ ws, Wf NoTip x.2) (szO [([], g)]) ⟨[([], g)], [], [.ref t1], [], none, none, none, none, rfl, rfl, ff0, hLL, .cons (dp_pl_of (x := ([], g)) lt0 lt1 (ff0.ge hv)) .nil, ⟨hd0, by simp⟩, ⟨rfl, .nil⟩, by simp [outst, shift_nil], fun x hx => by rw [List.mem_singleton.mp hx]; exact wf⟩ ?_ ?_
  · rintro m σ H' ⟨ws, dn, us, xs, u3, u4, u5, u6, rfl, rfl, ff, hL', hds, hnd, hen, hpl, hwf⟩
    have lu : us.length = ws.length := by rw [DpAll.length hds, List.length_map]
    have lpl : (places g).length = g.size := places_len g
    have lw : ws.length ≤ (outst ws.reverse).length := by
      have : ∀ zs : List (List Nat × Ge), zs.length ≤ (outst zs).length := by
        intro zs
        induction zs with
        | nil => exact Nat.zero_le _
        | cons z zs ih =>
          rw [outst_cons, List.length_append, List.length_map, places_len, List.length_cons]
          have := z.2.size_pos
          omega
      have q := this ws.reverse
      rwa [List.length_reverse] at q
    have lall : dn.length + (outst ws.reverse).length = g.size := by rw [← lpl, ← hpl, List.length_append]
    refine ⟨_, rfl, !us.isEmpty, .inl ⟨us, SqL.of hL', rfl⟩, ?_⟩
    refine ite2 (fun c => ?_) (fun c => ?_)
    · have une : us.length ≠ 0 := by
        intro e
        rw [List.eq_nil_of_length_eq_zero e] at c
        simp at c
      obtain ⟨ys, x, rfl⟩ : ∃ ys x, ws = ys ++ [x] := by
        rcases List.eq_nil_or_concat ws with rfl | ⟨ys, x, rfl⟩
        · exact absurd lu (by simpa using une)
        · exact ⟨ys, x, by simp⟩
      rw [List.map_append] at hds
      obtain ⟨us', u, rfl, hd1, hu1⟩ := dpAll_pop hds
      obtain ⟨a, b, q, rfl, hsa, hb, hq⟩ := dp_pl hu1
      have hx1 := hwf x (by simp)
      obtain ⟨p, tr⟩ := x
      cases tr with
      | tip ks => exact False.elim (by simpa [Wf] using hx1)
      | node l gs =>
      simp only at hsa hb hq
      have wn := hx1
      simp only [Wf] at wn
      rw [List.reverse_append, List.reverse_singleton, List.singleton_append] at hpl lall lw
      rw [outst_node] at hpl lall
      rw [List.length_cons] at lall
      have hin : (p, Ge.node l gs) ∈ places g := by rw [← hpl]; simp
      have hsh := places_short g _ hin
      simp only at hsh
      have hnew : p ∉ dn.map (·.1) := by
        have q := places_nodup g
        rw [← hpl, List.map_append, List.map_cons] at q
        intro z
        exact (List.nodup_append.mp q).2.2 p z p (by simp) rfl
      refine ⟨_, rfl, .inl ⟨rfl, _, SqL.of hL'⟩, L, _, .ref a, rfl, rfl, hL', by simp, ?_⟩
      rw [List.dropLast_concat]
      have fL : Fr [L] H' (upd H' L (.lst us')) := Fr.lst hL' (by simp)
      have g2 : Fr [] H (upd H' L (.lst us')) := ff.mut hL0
      have hL2 : upd H' L (.lst us') L = some (.lst us') := upd_same
      have hsa2 := fL.sqT hsa
      have hb2 := fL.sqT hb
      have hq2 := fL.ge hq
      have hd2 := fL.dpAll _ _ (tupy_pls _) hd1
      have hnd2 := fL.nd (by simpa using ndL) hnd
      have hen2 := hen.fr fL
      generalize upd H' L (.lst us') = H2 at fL g2 hL2 hsa2 hb2 hq2 hd2 hnd2 hen2
      refine ⟨a, _, rfl, hsa2, rfl, _, _, rfl, _, _, rfl, rfl, ?_⟩
      refine ⟨_, rfl, d, xs, rfl, hnd2, rfl, _, rfl, ?_⟩
      rw [decide_eq_false (show ¬ V.int ((xs.length : Nat) : Int) = V.int 60 by intro z; injection z with z; rw [hen.len] at z; omega)]
      refine iteF ⟨_, rfl, b, _, rfl, .inr hb2, _, _, rfl, rfl, _, rfl, ?_⟩
      rw [decide_eq_false (show ¬ (12 : Int) ≤ (((p.map fun n => V.int (n : Nat)).length : Nat) : Int) by rw [List.length_map]; omega)]
      refine iteF ⟨_, rfl, q, l, gs, rfl, hq2, wn.1, wn.2.1, _, rfl, iteF ?_⟩
      -- standing[place] = here
      refine ⟨_, rfl, _, rfl, _, rfl, d, xs, b, pkey p, rfl, rfl, hnd2, pkey_is hb2, small1000 (by rw [hen.len]; omega), ?_⟩
      obtain ⟨ep, hen3⟩ := hen2.put (x := (p, Ge.node l gs)) (b := b) hnew hq2
      rw [show nput xs (pkey p) b q = xs ++ [(pkey p, b, q)] from ep]
      have fd3 : Fr [d] H2 (upd H2 d (NdO P w d (xs ++ [(pkey p, b, q)]))) := by
        refine ⟨fun a o ha e => ?_, fun a zs e => ?_, fun a o u e => ?_⟩
        · rw [upd_ne (by simpa using ha)]; exact e
        · rw [upd_ne (fun z => by rw [z, hnd2.1] at e; cases e)]; exact e
        · rw [upd_ne (fun z => by rw [z, hnd2.1] at e; cases e)]; exact e
      have g3 : Fr [] H (upd H2 d (NdO P w d (xs ++ [(pkey p, b, q)]))) := g2.mut hdn
      have hd3 := fd3.dpAll _ _ (tupy_pls _) hd2
      have hL3 := fd3.keep L _ (by simpa using ndL.symm) hL2
      have hb3 := fd3.sqT hb2
      have hq3 := fd3.ge hq2
      have hen4 := hen3.fr fd3
      have hnd3 : Nd P w K (upd H2 d (NdO P w d (xs ++ [(pkey p, b, q)]))) d (xs ++ [(pkey p, b, q)]) := by
        refine ⟨upd_same, fun y hy => ?_⟩
        rcases List.mem_append.mp hy with h | h
        · exact fd3.nk (hnd2.2 y h)
        · rw [List.mem_singleton.mp h]
          exact pkey_is hb3
      generalize upd H2 d (NdO P w d (xs ++ [(pkey p, b, q)])) = H3 at fd3 g3 hd3 hL3 hb3 hq3 hen4 hnd3
      obtain ⟨a2, b2, ks2, rfl, hs2, hkb, hk2⟩ := dp_node hq3
      have ek : ks2.length = gs.length := ges_len hk2
      have w3 := wn.2.1
      refine ⟨_, rfl, a2, _, _, .ref b2, rfl, rfl, hs2, rfl, ?_⟩
      refine ⟨_, rfl, b2, ks2, rfl, .inr hkb, _, rfl, by decide, by decide, by omega, by omega, ?_⟩
      have en : (((ks2.length : Nat) : Int) - 0).toNat = gs.length := by omega
      rw [en]
      refine for_rangeC (fun i σ H4 => ∃ (us4 : List V) (u6' : Option V), σ = [some v, some (.ref d), some (.ref L), some (.ref b), some (.ref a2), some (.ref b2), u6'] ∧ Fr [L] H3 H4 ∧ H4 L = some (.lst us4) ∧ DpAll K H4 us4 ((ys ++ ((kidsFrom p 0 gs).drop (gs.length - i)).reverse).map plData)) ?_ ?_ ?_
      · refine ⟨us', u6, rfl, Fr.refl _ _, hL3, ?_⟩
        rw [Nat.sub_zero, List.drop_eq_nil_of_le (by rw [kids_len]; exact Nat.le_refl _), List.reverse_nil, List.append_nil]
        exact hd3
      · rintro i σ H4 hi ⟨us4, u6', rfl, f4, hL4, hd4⟩
        have hj : gs.length - 1 - i < gs.length := by omega
        obtain ⟨g1, hg1⟩ : ∃ g1, gs[gs.length - 1 - i]? = some g1 := ⟨gs[gs.length - 1 - i], List.getElem?_eq_getElem hj⟩
        obtain ⟨z, hz, hdz⟩ := ges_get' hk2 hg1
        have ei : (0 : Int) + ((gs.length : Nat) : Int) - 1 + ((i : Nat) : Int) * -1 = ((gs.length - 1 - i : Nat) : Int) := by omega
        rw [ei]
        generalize hjj : gs.length - 1 - i = j at hj hg1 hz
        have u4l : us4.length ≤ 100 := by
          rw [DpAll.length hd4, List.length_map, List.length_append, List.length_reverse, List.length_drop, kids_len]
          simp only [List.length_append, List.length_cons, List.length_nil] at lw
          rw [outst_cons, List.length_append, List.length_map, places_len] at lw
          have : (outst ys.reverse).length ≤ 60 := by
            rw [outst_app, List.length_append] at lall
            omega
          have l2 : ys.length ≤ (outst ys.reverse).length := by
            have : ∀ zs : List (List Nat × Ge), zs.length ≤ (outst zs).length := by
              intro zs
              induction zs with
              | nil => exact Nat.zero_le _
              | cons z zs ih =>
                rw [outst_cons, List.length_append, List.length_map, places_len, List.length_cons]
                have := z.2.size_pos
                omega
            have q := this ys.reverse
            rwa [List.length_reverse] at q
          omega
        refine ⟨_, rfl, .inl ⟨rfl, _, SqL.of hL4⟩, _, rfl, _, rfl, (by show 1 ≤ sizeLine; decide), fun t ht => ?_⟩
        have f5 : Fr [] H4 (upd H4 t (.tup [.int (j : Nat)])) := Fr.new ht
        refine ⟨b, t, _, _, rfl, rfl, f5.sqT (f4.sqT hb3), SqT.of upd_same, sz1000 (by rw [List.length_map]; simp; omega), fun p2 H5 f6 hp2 => ?_⟩
        have f46 := f5.trans f6
        refine ⟨_, rfl, _, rfl, b2, ks2, _, z, rfl, rfl, f46.sqT (f4.sqT hkb), atI_nat hz, (by show 2 ≤ sizeLine; decide), fun t2 ht2 => ?_⟩
        have f7 : Fr [] H5 (upd H5 t2 (.tup [.ref p2, z])) := Fr.new ht2
        have f8 := f46.trans f7
        have hL8 := f8.keep L _ (by simp) hL4
        refine ⟨L, us4, .ref t2, rfl, rfl, hL8, small1000 (by omega), ?_⟩
        have fl : Fr [L] (upd H5 t2 (.tup [.ref p2, z])) (upd (upd H5 t2 (.tup [.ref p2, z])) L (.lst (us4 ++ [.ref t2]))) := Fr.lst hL8 (by simp)
        refine ⟨us4 ++ [.ref t2], _, rfl, (f4.trans f8.mono0).trans fl, upd_same, ?_⟩
        have ed : (kidsFrom p 0 gs).drop j = (p ++ [j], g1) :: (kidsFrom p 0 gs).drop (j + 1) := by
          have hk : j < (kidsFrom p 0 gs).length := by rw [kids_len]; exact hj
          rw [List.drop_eq_getElem_cons hk]
          have q := kids_get p 0 gs j
          rw [List.getElem?_eq_getElem hk, hg1] at q
          simp only [Option.map_some, Nat.zero_add] at q
          rw [Option.some.inj q]
        rw [show gs.length - (i + 1) = j by omega, ed, List.reverse_cons, ← List.append_assoc, List.map_append, show j + 1 = gs.length - i by omega]
        refine DpAll.append (fl.dpAll _ _ (tupy_pls _) (f8.dpAll _ _ (tupy_pls _) hd4)) (.cons ?_ .nil)
        have hp2' : SqT K H5 p2 ((p ++ [j]).map fun n => V.int (n : Nat)) := by rw [List.map_append]; exact hp2
        exact dp_pl_of (x := (p ++ [j], g1)) (fl.sqT (SqT.of upd_same)) (fl.sqT (f7.sqT hp2')) (fl.ge (f8.ge (f4.ge hdz)))
      · rintro σ H4 ⟨us4, u6', rfl, f4, hL4, hd4⟩
        rw [Nat.sub_self, List.drop_zero] at hd4
        refine ⟨_, ?_, ys ++ (kidsFrom p 0 gs).reverse, dn ++ [(p, .node l gs)], us4, _, _, _, _, _, rfl, rfl, g3.off f4 hL0, hL4, hd4, f4.nd (by simpa using ndL) hnd3, hen4.fr f4, ?_, ?_⟩
        · unfold szO
          rw [List.reverse_append, List.reverse_reverse, List.reverse_append, List.reverse_singleton, List.singleton_append, outst_node, List.length_cons]
          exact Nat.lt_succ_self _
        · rw [List.reverse_append, List.reverse_reverse, List.append_assoc, List.singleton_append]
          exact hpl
        · intro y hy
          rcases List.mem_append.mp hy with h | h
          · exact hwf y (by simp [h])
          · exact wn.2.2.mem (kids_mem (List.mem_reverse.mp h))
    · have e0 : ws = [] := by
        cases us with
        | nil => exact List.eq_nil_of_length_eq_zero (by rw [← lu]; rfl)
        | cons u us => exact absurd rfl c
      subst e0
      simp [outst] at hpl
      rw [hpl] at hen
      exact ⟨_, rfl, k d xs H' ff hdn hnd hen⟩
  · rintro σ H' Q Q' h ⟨u, hu, b, hb, q⟩
    exact ⟨u, hu, b, hb, h _ _ q⟩
end
end TT


namespace TT
open PySem PySem.Spec PyProof.Rows L2
theorem walk_zipT {K : PySem.W.Frag} {a b : Addr} {xs ys : List V} {n : Nat} (h1 : xs.length = n) (h2 : ys.length = n) : Walk (RZ.ItzT K a b) n (fun H => SqT K H a xs ∧ SqT K H b ys) (YPair (fun i => xs[i]?) (fun i => ys[i]?)) := by
  subst h1
  refine ⟨?_, ?_, ?_⟩
  · rintro i H hi ⟨q1, q2⟩
    have h3 : i < ys.length := by omega
    exact ⟨xs, ys, xs[i], ys[i], q1, q2, by simp [hi], by simp [h3]⟩
  · rintro H ⟨q1, q2⟩
    exact ⟨xs, ys, q1, q2, .inl (Nat.le_refl _)⟩
  · rintro i H v H' hi ⟨q1, q2⟩ y
    obtain ⟨T, x, z, h1, h2, h3, h4, h5⟩ := y
    exact ⟨T, x, z, h1, h2, h3, h4 xs q1, h5 ys q2⟩
section
variable {P : Program} {w : World} {K : PySem.W.Frag} {mg : Str → Option Value} {base : Heap} {f : Addr} {fd : FuncData}
def spPF (K : PySem.W.Frag) (n : Nat) : Sp := fun vs H Q _ => ∃ (x y : V) (p t : Ge), vs = [x, y] ∧ Dp K H x p.data ∧ Dp K H y t.data ∧ Wf PatTip p ∧ Wf NoTip t ∧ p.levels ≤ n ∧ p.levels ≤ 30 ∧ t.levels ≤ 30 ∧ ∀ H', Fr [] H H' → Q (.bl (fits p t)) H'
theorem ok_pfits (F : Fun K "pattern_fits" "pattern_fits" s_pattern_fits f fd) (T : Txt K mg) (mf : mg "pattern_fits" = some (.ref f)) (bf : Binds K fd P_pattern_fits []) :
    ∀ n : Nat, FnOk P w K mg base CX0 (n + 1) f fd P_pattern_fits (spPF K n)
  | 0 => by
    have no : ∀ vs H Q E, ¬ spPF K 0 vs H Q E := fun vs H Q E h => by
      obtain ⟨x, y, p, t, _, _, _, _, _, h1, _⟩ := h
      have := p.levels_pos
      omega
    exact ⟨fun vs H Q E h => absurd h (no vs H Q E), fun A outer s H args us vs Q E _ _ _ _ h => absurd h (no vs H Q E)⟩
  | n + 1 => by
    have cpattern_fits : Callee P w K mg base (n + 1) "pattern_fits" P_pattern_fits (spPF K n) := ⟨f, fd, ok_pfits F T mf bf n, mf, F.kp, bf⟩
    refine F.ok sc_pattern_fits (fun vs H Q E h => ?_) (fun cdv A outer s H vs Q E hr h => ?_)
    · obtain ⟨x, y, p, t, rfl, _⟩ := h
      rfl
    obtain ⟨x, y, p, t, rfl, hx, hy, wp, wt, lv, l30, lt, k⟩ := h
    have nd := (sc_pattern_fits).nd
    have hu := hr.units
    obtain ⟨aA, mA, sA⟩ := T.ANY
    obtain ⟨aF, mF, sF⟩ := T.LEAF
    refine ⟨_, pss_cons (ps_if (pt_cmpR (op_eqK K hu) (pv 0) (pe_globR mA) (nomark _))
    (pss_one (ps_ret pe_bl))
    (pss_nil))
  (pss_cons (ps_asg (pv 1) (pg_tupK K rfl (pgs_cons (pg_name (i := 2) nd rfl (Or.inl rfl)) (pgs_cons (pg_name (i := 3) nd rfl (Or.inl rfl)) pgs_nil))))
  (pss_cons (ps_if (pt_cmpR (op_eqK K hu) (pv 0) (pe_globR mF) (nomark _))
    (pss_one (ps_ret (pe_notT (pv 3))))
    (pss_nil))
  (pss_cons (ps_asg (pv 0) (pg_tupK K rfl (pgs_cons (pg_name (i := 4) nd rfl (Or.inl rfl)) (pgs_cons (pg_name (i := 5) nd rfl (Or.inl rfl)) pgs_nil))))
  (pss_cons (ps_if (PW.pt (pw_or (pt_cmpR op_ne (pv 4) (pv 2) (nomark _)) (pw_or1 (pt_cmpR op_ne (pe_callB (call_lenK K) (by rfl) T.len_ PySem.boot_len (pa_cons (pv 5) pa_nil)) (pe_callB (call_lenK K) (by rfl) T.len_ PySem.boot_len (pa_cons (pv 3) pa_nil)) (nomark _)))))
    (pss_one (ps_ret pe_bl))
    (pss_nil))
  (pss_one (ps_ret (pe_callB (cr_allK K rfl) (by rfl) T.all_ (by decide +kernel) (pa_cons (pe_lc (own := [("part", 6), ("kid", 7)]) (g := gTup K 2 (gCons (gName 6) (gCons (gName 7) gNil))) (tt := tYes) (by rfl) nd (pi_zipK K (by rfl) T.zip_ (pa_cons (pv 5) (pa_cons (pv 3) pa_nil))) (blkOk_by (N := N_pattern_fits) (sc := defScope s_pattern_fits) (own := [("part", 6), ("kid", 7)]) (by decide +kernel)) (fun _ _ _ _ _ => (pg_tupK K rfl (pgs_cons (pg_name (i := 6) nd rfl (Or.inl rfl)) (pgs_cons (pg_name (i := 7) nd rfl (Or.inl rfl)) pgs_nil)))) (fun _ _ _ _ _ => pts_nil) (fun _ _ _ _ _ => (pe_own cpattern_fits hr (pa_cons (pv 6) (pa_cons (pv 7) pa_nil))))) pa_nil)))))))), ?_⟩
    cases t with
    | tip ks => exact False.elim (by simpa [Wf] using wt)
    | node m ts =>
    have dA : Dp K H (.ref aA) gAny.data := dp_word_of (sA H)
    have dF : Dp K H (.ref aF) gLeaf.data := dp_word_of (sF H)
    have shA : SeqAt.shaped gAny.data = true := shaped_ge patTip_lay (T := PatTip) (by simp only [Wf]; exact .inl rfl) (by simp only [Ge.levels]; decide)
    have shF : SeqAt.shaped gLeaf.data = true := shaped_ge patTip_lay (T := PatTip) (by simp only [Wf]; exact .inr rfl) (by simp only [Ge.levels]; decide)
    have shp := shaped_ge patTip_lay wp l30
    obtain ⟨c, e, ws, rfl, ht, he, hw⟩ := dp_node hy
    have ew : ws.length = ts.length := ges_len hw
    refine ⟨_, rfl, p.data, gAny.data, hx, dA, shp, shA, _, rfl, ?_⟩
    rw [eqv_ge]
    cases p with
    | tip ks =>
      simp only [Wf] at wp
      rcases wp with rfl | rfl
      · rw [decide_eq_true rfl]
        refine iteT ?_
        have : fits gAny (.node m ts) = true := by simp [fits]
        rw [this] at k
        exact k H (Fr.refl _ _)
      · rw [decide_eq_false (by decide +kernel)]
        refine iteF ⟨_, rfl, c, _, rfl, ht, rfl, _, _, rfl, _, _, rfl, rfl, ?_⟩
        refine ⟨_, rfl, _, gLeaf.data, hx, dF, shp, shF, _, rfl, ?_⟩
        rw [eqv_ge, decide_eq_true rfl]
        have ef : fits gLeaf (.node m ts) = ts.isEmpty := by
          have : ¬ (kLeaf = kAny) := by decide +kernel
          simp only [fits, Ge.gs, this, decide_false, Bool.false_or]
        rw [ef] at k
        refine iteT ⟨_, rfl, !ws.isEmpty, .inr (.inl ⟨ws, he, rfl⟩), ?_⟩
        have e2 : (!(!ws.isEmpty)) = ts.isEmpty := by
          rw [Bool.not_not]
          cases ws <;> cases ts <;> first | rfl | (simp at ew)
        rw [e2]
        exact k H (Fr.refl _ _)
    | node l ps =>
      have ne : ∀ z : Str, ¬ (Ge.node l ps).key = (Ge.tip [.text z]).key := by
        intro z e
        simp only [Ge.key] at e
        injection e with e
        injection e with _ e
        cases e
      rw [decide_eq_false (ne _)]
      refine iteF ⟨_, rfl, c, _, rfl, ht, rfl, _, _, rfl, _, _, rfl, rfl, ?_⟩
      refine ⟨_, rfl, _, gLeaf.data, hx, dF, shp, shF, _, rfl, ?_⟩
      rw [eqv_ge, decide_eq_false (ne _)]
      obtain ⟨a, b, us, rfl, hs, hb, hd⟩ := dp_node hx
      have eu : us.length = ps.length := ges_len hd
      simp only [Wf] at wp wt
      simp only [Ge.levels] at lv l30 lt
      refine iteF ⟨_, rfl, a, _, rfl, hs, rfl, _, _, rfl, _, _, rfl, rfl, ?_⟩
      refine ⟨_, rfl, _, rfl, rfl, _, rfl, ?_⟩
      refine ite2 (fun c1 => ?_) (fun c1 => ?_)
      · have nl : ¬ l = m := fun e => by rw [e] at c1; simp at c1
        have : fits (.node l ps) (.node m ts) = false := by simp only [fits, Ge.lab, nl, decide_false, Bool.false_and]
        rw [this] at k
        exact iteT (k H (Fr.refl _ _))
      · have el : l = m := by
          simp only [Bool.not_eq_true', decide_eq_false_iff_not, Bool.not_eq_true, Bool.not_eq_false', decide_eq_true_eq] at c1
          simpa using c1
        subst el
        refine ⟨_, rfl, b, us, rfl, .inr hb, _, rfl, e, ws, rfl, .inr he, rfl, _, rfl, ?_⟩
        refine ite2 (fun c2 => ?_) (fun c2 => ?_)
        · have nl : ps.length ≠ ts.length := fun e => by
            rw [eu, ew, e] at c2
            simp at c2
          have : fits (.node l ps) (.node l ts) = false := by simp only [fits, Ge.lab, Ge.gs, fitsAll_len nl, Bool.and_false]
          rw [this] at k
          exact k H (Fr.refl _ _)
        · have hlen : ps.length = ts.length := by
            rw [eu, ew] at c2
            by_cases hh : ps.length = ts.length
            · exact hh
            · exfalso; apply c2
              have : ¬ V.int ((ps.length : Nat) : Int) = V.int ((ts.length : Nat) : Int) := fun e => by injection e with e; omega
              simp [this]
          have efit : fits (.node l ps) (.node l ts) = fitsAll ps ts := by simp only [fits, Ge.lab, Ge.gs, decide_true, Bool.true_and]
          have h3 := wt.2.1
          refine ⟨_, rfl, _, rfl, b, e, us, ws, rfl, .inr ⟨hb, he, fun D hD => ?_⟩⟩
          refine lc_it (walk_zipT (xs := us) (ys := ws) (n := ts.length) (by omega) ew) (fun i H' => ∃ bs : List Bool, Fr [] H H' ∧ H' D = some (.lst (bs.map V.bl)) ∧ bs.length = i ∧ bs.all id = fitsAll (ps.take i) (ts.take i)) ⟨[], Fr.new hD, upd_same, rfl, by simp [fitsAll]⟩ (fun i H' _ ⟨_, ff, _⟩ => ⟨ff.sqT hb, ff.sqT he⟩) ?_ ?_
          · rintro i z H1 H' hi ⟨bs, ff, hDi, hln, hbs⟩ ⟨t0, x1, y1, rfl, ht0, rfl, ex, ey⟩
            obtain ⟨p1, hp1, hpx⟩ := ges_get hd ex
            obtain ⟨t1, ht1, hty⟩ := ges_get hw ey
            have lp := Ge.levels_mem (List.mem_of_getElem? hp1)
            have lt1 := Ge.levels_mem (List.mem_of_getElem? ht1)
            have f1 : Fr [] H1 (upd H1 t0 (.tup [x1, y1])) := Fr.new ht0
            have g1 := ff.trans f1
            refine ⟨t0, _, rfl, SqT.of upd_same, rfl, _, _, rfl, _, _, rfl, rfl, rfl, ?_⟩
            refine ⟨_, rfl, _, rfl, x1, y1, p1, t1, rfl, g1.ge hpx, g1.ge hty, wp.2.2.mem (List.mem_of_getElem? hp1), wt.2.2.mem (List.mem_of_getElem? ht1), by omega, by omega, by omega, fun H2 f2 => ?_⟩
            have hD2 := (f1.trans f2).keep D _ (by simp) hDi
            refine ⟨_, hD2, small1000 (by rw [List.length_map]; omega), bs ++ [fits p1 t1], (g1.trans f2).mut hD, by rw [upd_same, List.map_append]; rfl, by simp [hln], ?_⟩
            rw [take_succ' hp1, take_succ' ht1, fitsAll_snoc p1 t1 (by rw [List.length_take, List.length_take, hlen]), ← hbs, List.all_append]
            simp
          · rintro H' ⟨bs, ff, hDi, hln, hbs⟩
            rw [← hlen, List.take_length, hlen, List.take_length] at hbs
            refine ⟨D, bs, rfl, SqL.of hDi, ?_⟩
            rw [hbs, ← efit]
            exact k H' ff
end
end TT


namespace TT
open PySem PySem.Spec PyProof.Rows L2
theorem within_eq : ∀ g : Ge, within g = g :: withinAll g.gs
  | .tip ks => by simp [within, Ge.gs, withinAll]
  | .node l gs => by simp [within, Ge.gs]
theorem withinAll_snoc (gs : List Ge) (g : Ge) : withinAll (gs ++ [g]) = withinAll gs ++ within g := by rw [withinAll_append]; simp [withinAll]
theorem size_gs {g h : Ge} (e : h ∈ g.gs) : h.size < g.size := by
  cases g with
  | tip ks => simp [Ge.gs] at e
  | node l gs =>
    have := within_mem e
    simp only [Ge.size, Ge.gs] at this ⊢
    omega
/-! ### each once, as they are met first -/
def addU (acc : List Ge) (x : Ge) : List Ge := if x.key ∈ acc.map Ge.key then acc else acc ++ [x]
def partsAt (rs : List Ru) : List Ge := rs.foldl (fun acc r => (within r.pat).foldl addU acc) []
theorem addU_len (acc : List Ge) (x : Ge) : (addU acc x).length ≤ acc.length + 1 := by
  unfold addU
  split
  · omega
  · simp
theorem addUs_len : ∀ (l acc : List Ge), (l.foldl addU acc).length ≤ acc.length + l.length
  | [], acc => Nat.le_refl _
  | x :: l, acc => by
    rw [List.foldl_cons]
    have := addUs_len l (addU acc x)
    have := addU_len acc x
    simp only [List.length_cons]
    omega
theorem addU_mem {acc : List Ge} {x y : Ge} (h : y ∈ addU acc x) : y ∈ acc ∨ y = x := by
  unfold addU at h
  split at h
  · exact .inl h
  · rcases List.mem_append.mp h with h | h
    · exact .inl h
    · exact .inr (List.mem_singleton.mp h)
theorem addUs_mem : ∀ {l acc : List Ge} {y : Ge}, y ∈ l.foldl addU acc → y ∈ acc ∨ y ∈ l
  | [], acc, y, h => .inl h
  | x :: l, acc, y, h => by
    rw [List.foldl_cons] at h
    rcases addUs_mem h with h | h
    · rcases addU_mem h with h | rfl
      · exact .inl h
      · exact .inr List.mem_cons_self
    · exact .inr (List.mem_cons_of_mem _ h)
theorem parts_snoc {rs : List Ru} {i : Nat} {r : Ru} (h : rs[i]? = some r) : partsAt (rs.take (i + 1)) = (within r.pat).foldl addU (partsAt (rs.take i)) := by
  rw [take_succ' h]
  unfold partsAt
  rw [List.foldl_append]
  rfl
theorem within_wf {T : List NestedKey → Prop} : ∀ {g h : Ge}, Wf T g → h ∈ within g → Wf T h ∧ h.levels ≤ g.levels := by
  have aux : ∀ (n : Nat) (g h : Ge), g.size ≤ n → Wf T g → h ∈ within g → Wf T h ∧ h.levels ≤ g.levels := by
    intro n
    induction n with
    | zero => intro g h hn; have := g.size_pos; omega
    | succ n ih =>
      intro g h hn wf hh
      rw [within_eq] at hh
      rcases List.mem_cons.mp hh with rfl | hh
      · exact ⟨wf, Nat.le_refl _⟩
      · have : ∀ (gs : List Ge), (∀ x ∈ gs, x ∈ g.gs) → h ∈ withinAll gs → ∃ x ∈ g.gs, h ∈ within x := by
          intro gs
          induction gs with
          | nil => intro _ q; simp [withinAll] at q
          | cons y ys ih2 =>
            intro hs q
            simp only [withinAll, List.mem_append] at q
            rcases q with q | q
            · exact ⟨y, hs y (by simp), q⟩
            · exact ih2 (fun x hx => hs x (by simp [hx])) q
        obtain ⟨x, hx, q⟩ := this g.gs (fun _ h => h) hh
        have hsz := size_gs hx
        obtain ⟨k, hk⟩ := List.mem_iff_getElem?.mp hx
        obtain ⟨w1, w2⟩ := gs_mem wf hk
        obtain ⟨a, b⟩ := ih x h (by omega) w1 q
        exact ⟨a, by omega⟩
  intro g h
  exact aux g.size g h (Nat.le_refl _)
theorem parts_wf {rs : List Ru} (h : ∀ r ∈ rs, RuOk r) : ∀ g ∈ partsAt rs, Wf PatTip g ∧ g.levels ≤ 3 := by
  have aux : ∀ (rs : List Ru) (acc : List Ge), (∀ r ∈ rs, RuOk r) → (∀ g ∈ acc, Wf PatTip g ∧ g.levels ≤ 3) → ∀ g ∈ rs.foldl (fun acc r => (within r.pat).foldl addU acc) acc, Wf PatTip g ∧ g.levels ≤ 3 := by
    intro rs
    induction rs with
    | nil => intro acc _ h g hg; exact h g hg
    | cons r rs ih =>
      intro acc h1 h2 g hg
      rw [List.foldl_cons] at hg
      refine ih _ (fun x hx => h1 x (by simp [hx])) ?_ g hg
      intro y hy
      rcases addUs_mem hy with hy | hy
      · exact h2 y hy
      · have ro := h1 r (by simp)
        obtain ⟨a, b⟩ := within_wf ro.pat hy
        have := ro.pl
        exact ⟨a, by omega⟩
  exact aux rs [] h (by simp)
theorem parts_len {rs : List Ru} (h : ∀ r ∈ rs, RuOk r) : (partsAt rs).length ≤ 7 * rs.length := by
  have aux : ∀ (rs : List Ru) (acc : List Ge), (∀ r ∈ rs, RuOk r) → (rs.foldl (fun acc r => (within r.pat).foldl addU acc) acc).length ≤ acc.length + 7 * rs.length := by
    intro rs
    induction rs with
    | nil => intro acc _; simp
    | cons r rs ih =>
      intro acc h1
      rw [List.foldl_cons]
      have q1 := ih ((within r.pat).foldl addU acc) (fun x hx => h1 x (by simp [hx]))
      have q2 := addUs_len (within r.pat) acc
      have q3 := (h1 r (by simp)).ps
      rw [within_len] at q2
      simp only [List.length_cons]
      omega
  have := aux rs [] h
  rw [List.length_nil, Nat.zero_add] at this
  exact this
def fitIdx (ps : List Ge) (t : Ge) (n : Nat) : List Nat := (List.range n).filter fun k => match ps[k]? with
  | some p => fits p t
  | none => false
theorem fitIdx_succ {ps : List Ge} {t p : Ge} {n : Nat} (h : ps[n]? = some p) : fitIdx ps t (n + 1) = if fits p t = true then fitIdx ps t n ++ [n] else fitIdx ps t n := by
  unfold fitIdx
  rw [List.range_succ, List.filter_append]
  simp only [List.filter_cons, List.filter_nil, h]
  split <;> simp
theorem fitIdx_len (ps : List Ge) (t : Ge) (n : Nat) : (fitIdx ps t n).length ≤ n := by
  unfold fitIdx
  have := List.length_filter_le (fun k => match ps[k]? with
    | some p => fits p t
    | none => false) (List.range n)
  rwa [List.length_range] at this
section
variable {P : Program} {w : World} {K : PySem.W.Frag} {mg : Str → Option Value} {base : Heap} {f : Addr} {fd : FuncData}
def spPW (K : PySem.W.Frag) (n : Nat) : Sp := fun vs H Q _ => ∃ (v : V) (g : Ge), vs = [v] ∧ Dp K H v g.data ∧ Wf PatTip g ∧ g.levels ≤ n ∧ g.levels ≤ 30 ∧ g.size ≤ 1000 ∧
  ∀ (l : Addr) (us : List V) H', Fr [] H H' → H l = none → H' l = some (.lst us) → DpAll K H' us (Ge.datas (within g)) → Q (.ref l) H'
theorem ok_pwithin (F : Fun K "parts_within" "parts_within" s_parts_within f fd) (T : Txt K mg) (ck : Callee P w K mg base 2 "kids_within" P_kids_within (spKids K)) (mf : mg "parts_within" = some (.ref f)) (bf : Binds K fd P_parts_within []) :
    ∀ n : Nat, FnOk P w K mg base CX0 (n + 3) f fd P_parts_within (spPW K n)
  | 0 => by
    have no : ∀ vs H Q E, ¬ spPW K 0 vs H Q E := fun vs H Q E h => by
      obtain ⟨v, g, _, _, _, h1, _⟩ := h
      have := g.levels_pos
      omega
    exact ⟨fun vs H Q E h => absurd h (no vs H Q E), fun A outer s H args us vs Q E _ _ _ _ h => absurd h (no vs H Q E)⟩
  | n + 1 => by
    have cparts_within : Callee P w K mg base (n + 3) "parts_within" P_parts_within (spPW K n) := ⟨f, fd, ok_pwithin F T ck mf bf n, mf, F.kp, bf⟩
    have ckids_within := ck
    refine F.ok sc_parts_within (fun vs H Q E h => ?_) (fun cdv A outer s H vs Q E hr h => ?_)
    · obtain ⟨v, g, rfl, _⟩ := h
      rfl
    obtain ⟨v, g, rfl, hv, wf, lv, l30, sz, k⟩ := h
    have nd := (sc_parts_within).nd
    have wl := within_len g
    rw [within_eq, List.length_cons] at wl
    refine ⟨_, pss_cons (ps_set (i := 1) nd rfl (Or.inl rfl) (pe_lst (pa_cons (pv 0) pa_nil)))
  (pss_cons (ps_for PassesOwn.never rfl (pi_tupK K (pe_own ckids_within hr (pa_cons (pv 0) pa_nil))) (pg_name (i := 2) nd rfl (Or.inl rfl))
    (pss_one (ps_expr (pe_bmK K PySem.F.plainAttrs_list PySem.F.slot_list_extend PySem.F.type_list_extend mt_extend (pv 1) (pa_cons (pe_own cparts_within hr (pa_cons (pv 2) pa_nil)) pa_nil)))))
  (pss_one (ps_ret (pv 1)))), ?_⟩
    refine ⟨_, rfl, (by show 1 ≤ sizeLine; decide), fun L hL => ?_⟩
    have f0 : Fr [] H (upd H L (.lst [v])) := Fr.new hL
    have hL0 : upd H L (.lst [v]) L = some (.lst [v]) := upd_same
    generalize upd H L (.lst [v]) = H0 at f0 hL0
    refine ⟨_, rfl, v, g, rfl, f0.ge hv, wf, l30, fun c us H1 f1 hc hd => ⟨c, rfl, ⟨us, hc⟩, ?_⟩⟩
    have eu : us.length = g.gs.length := ges_len hd
    refine for_tup (K := K) (a := c) (xs := us) (fun i σ H' => ∃ (xs : List V) (u2 : Option V), σ = [some v, some (.ref L), u2] ∧ Fr [] H H' ∧ Fr [L] H1 H' ∧ H' L = some (.lst xs) ∧ DpAll K H' xs (Ge.datas (g :: withinAll (g.gs.take i))))
      ⟨[v], none, rfl, f0.trans f1, Fr.refl _ _, f1.keep L _ (by simp) hL0, by rw [List.take_zero]; simp only [withinAll, Ge.datas_cons, Ge.datas_nil]; exact .cons ((f0.trans f1).ge hv) .nil⟩ (fun i σ H' _ ⟨_, _, _, _, fL, _⟩ => fL.sqT hc) ?_ ?_
    · rintro i y σ H' hy ⟨xs, u2, rfl, ff, fL, hL', hx⟩
      obtain ⟨g1, hg1, hdy⟩ := ges_get hd hy
      obtain ⟨w1, w2⟩ := gs_mem wf hg1
      have hs1 := size_gs (List.mem_of_getElem? hg1)
      refine ⟨_, rfl, .inl ⟨rfl, _, SqL.of hL'⟩, _, rfl, y, g1, rfl, fL.ge hdy, w1, by omega, by omega, by omega, fun l2 zs H2 f2 hl2 hl2' hz => ?_⟩
      have hL2 := f2.keep L _ (by simp) hL'
      have exs : xs.length = 1 + (withinAll (g.gs.take i)).length := by rw [ges_len hx, List.length_cons]; omega
      have ezs : zs.length = g1.size := by rw [ges_len hz, within_len]
      have htot : (withinAll (g.gs.take (i + 1))).length + 1 ≤ g.size := by
        rw [withinAll_len]
        have := sizes_take g.gs (i + 1)
        rw [withinAll_len] at wl
        omega
      rw [take_succ' hg1, withinAll_snoc, List.length_append, within_len] at htot
      refine ⟨L, l2, xs, zs, rfl, rfl, hL2, hl2', sz1000 (by rw [withinAll_len] at exs htot; omega), ?_⟩
      have fl : Fr [L] H2 (upd H2 L (.lst (xs ++ zs))) := Fr.lst hL2 (by simp)
      refine ⟨xs ++ zs, _, rfl, (ff.trans f2).mut hL, (fL.trans f2.mono0).trans fl, upd_same, ?_⟩
      rw [take_succ' hg1, withinAll_snoc, ← List.cons_append, Ge.datas_map, List.map_append, ← Ge.datas_map, ← Ge.datas_map]
      exact DpAll.append (fl.ges (f2.ges hx)) (fl.ges hz)
    · rintro σ H' ⟨xs, u2, rfl, ff, fL, hL', hx⟩
      rw [eu, List.take_length, ← within_eq] at hx
      exact ⟨_, rfl, k L xs H' ff hL hL' hx⟩
end
end TT


namespace TT
open PySem PySem.Spec PyProof.Rows L2
theorem nval_some {xs : List NEnt} {k : NestedKey} (h : k ∈ xs.map (·.1)) : (nval xs k).isSome = true := by
  obtain ⟨x, hx, e⟩ := List.mem_map.mp h
  unfold nval
  cases q : xs.find? (fun x => decide (x.1 = k)) with
  | none => exact absurd (decide_eq_true e) (by simpa using List.find?_eq_none.mp q x hx)
  | some y => rfl
theorem nput_addU {xs : List NEnt} {acc : List Ge} {g : Ge} {a : Addr} {v : V} (h : xs.map (·.1) = acc.map Ge.key) : (nput xs g.key a v).map (·.1) = (addU acc g).map Ge.key ∧ ∀ y ∈ nput xs g.key a v, (∃ x ∈ xs, x.1 = y.1 ∧ x.2.1 = y.2.1) ∨ (y.1 = g.key ∧ y.2.1 = a) := by
  unfold nput addU
  by_cases hk : g.key ∈ acc.map Ge.key
  · rw [if_pos (nval_some (by rw [h]; exact hk)), if_pos hk]
    refine ⟨?_, ?_⟩
    · rw [List.map_map, ← h]
      apply List.map_congr_left
      intro x _
      simp only [Function.comp]
      split <;> rfl
    · intro y hy
      obtain ⟨x, hx, e⟩ := List.mem_map.mp hy
      refine .inl ⟨x, hx, ?_⟩
      rw [← e]
      split <;> exact ⟨rfl, rfl⟩
  · rw [nval_none (by rw [h]; exact hk), if_neg hk]
    refine ⟨?_, ?_⟩
    · show (xs ++ [(g.key, a, v)]).map (·.1) = _
      rw [List.map_append, List.map_append, h]
      rfl
    · intro y hy
      have hy : y ∈ xs ++ [(g.key, a, v)] := hy
      rcases List.mem_append.mp hy with q | q
      · exact .inl ⟨y, q, rfl, rfl⟩
      · rw [List.mem_singleton.mp q]
        exact .inr ⟨rfl, rfl⟩
mutual
theorem pat_depth : ∀ g : Ge, Wf PatTip g → g.key.depth ≤ 2 * g.levels
  | .tip ks, h => by
    simp only [Wf] at h
    simp only [Ge.key, Ge.levels]
    rcases h with rfl | rfl <;> simp [NestedKey.depth, NestedKey.depthAll]
  | .node l gs, h => by
    simp only [Wf] at h
    have := pat_depths gs h.2.2
    simp only [Ge.key, Ge.levels, NestedKey.depth, NestedKey.depthAll]
    omega
theorem pat_depths : ∀ gs : List Ge, WfAll PatTip gs → NestedKey.depthAll (Ge.keys gs) ≤ 2 * Ge.levelsAll gs
  | [], _ => by simp [Ge.keys, NestedKey.depthAll, Ge.levelsAll]
  | g :: gs, h => by
    simp only [WfAll] at h
    have q1 := pat_depth g h.1
    have q2 := pat_depths gs h.2
    simp only [Ge.keys, NestedKey.depthAll, Ge.levelsAll]
    omega
end
theorem fold_take {g : Ge} {l : List Ge} {acc : List Ge} {i : Nat} (h : l[i]? = some g) : (l.take (i + 1)).foldl addU acc = addU ((l.take i).foldl addU acc) g := by
  rw [take_succ' h, List.foldl_append]
  rfl
section
variable {P : Program} {w : World} {K : PySem.W.Frag} {mg : Str → Option Value} {base : Heap} {f : Addr} {fd : FuncData}
def spPO (K : PySem.W.Frag) : Sp := fun vs H Q _ => ∃ (bA : Addr) (us : List V) (rs : List Ru), vs = [.ref bA] ∧ H bA = some (.lst us) ∧ DpAll K H us (rs.map Ru.data) ∧ (∀ r ∈ rs, RuOk r) ∧ rs.length ≤ 16 ∧
  ∀ (l : Addr) (zs : List V) H', Fr [] H H' → H l = none → H' l = some (.lst zs) → DpAll K H' zs (Ge.datas (partsAt rs)) → Q (.ref l) H'
theorem ok_partsOf (F : Fun K "parts_of" "parts_of" s_parts_of f fd) (T : Txt K mg) (cparts_within : Callee P w K mg base 6 "parts_within" P_parts_within (spPW K 3)) : FnOk P w K mg base CX0 7 f fd P_parts_of (spPO K) := by
  refine F.ok sc_parts_of (fun vs H Q E h => ?_) (fun cdv A outer s H vs Q E hr h => ?_)
  · obtain ⟨bA, us, rs, rfl, _⟩ := h
    rfl
  obtain ⟨bA, us, rs, rfl, hb, hd, ho, hn, k⟩ := h
  have nd := (sc_parts_of).nd
  have hu := hr.units
  have lu : us.length = rs.length := by rw [DpAll.length hd, List.length_map]
  refine ⟨_, pss_cons (ps_set (i := 1) nd rfl (Or.inl rfl) (pe_nnewK P w))
  (pss_cons (ps_for PassesOwn.never rfl (pi_listK K (pv 0)) (pg_name (i := 2) nd rfl (Or.inl rfl))
    (pss_one (ps_for PassesOwn.never rfl (pi_listK K (pe_own cparts_within hr (pa_cons (pe_ix (ix_tupK K) (pv 2) pe_int (fun _ _ => rfl)) pa_nil))) (pg_name (i := 3) nd rfl (Or.inl rfl))
      (pss_one (ps_nputK P w K hu (pv 1) (pv 3) pe_bl)))))
  (pss_one (ps_ret (pe_callTy (call_listNK P w K rfl) (by rfl) T.list_ (by decide +kernel) (pa_cons (pv 1) pa_nil))))), ?_⟩
  intro d hdn
  have f0 : Fr [] H (upd H d (NdO P w d [])) := Fr.new hdn
  have hd0 : upd H d (NdO P w d []) d = some (NdO P w d []) := upd_same
  have nbd : bA ≠ d := fun e => by rw [← e, hb] at hdn; cases hdn
  generalize upd H d (NdO P w d []) = H0 at f0 hd0
  refine ⟨_, rfl, bA, rfl, ⟨us, SqL.of (f0.keep _ _ (by simp) hb)⟩, ?_⟩
  refine for_list (K := K) (a := bA) (xs := us) (fun i σ H' => ∃ (xs : List NEnt) (u2 u3 : Option V), σ = [some (.ref bA), some (.ref d), u2, u3] ∧ Fr [] H H' ∧ Nd P w K H' d xs ∧ xs.map (·.1) = (partsAt (rs.take i)).map Ge.key)
    ⟨[], none, none, rfl, f0, ⟨hd0, by simp⟩, by simp [partsAt]⟩ (fun i σ H' _ ⟨_, _, _, _, ff, _⟩ => SqL.of (ff.keep _ _ (by simp) hb)) ?_ ?_
  · rintro i y σ H' hy ⟨xs, u2, u3, rfl, ff, hnd, hk⟩
    obtain ⟨dy, hdi, hdy⟩ := DpAll.get hd hy
    rw [List.getElem?_map] at hdi
    obtain ⟨r, hri, rfl⟩ := Option.map_eq_some_iff.mp hdi
    have ro := ho r (List.mem_of_getElem? hri)
    have hi : i < rs.length := (List.getElem?_eq_some_iff.mp hri).1
    obtain ⟨a, vs4, rfl, hs, hvs⟩ := dp_tuple (ff.dp _ _ (tupy_ru r) hdy)
    obtain ⟨v1, v2, v3, v4, rfl, h1, h2, h3, h4⟩ := dpAll_4 hvs
    have pl := ro.pl
    have psz := ro.ps
    refine ⟨_, rfl, a, _, _, v3, rfl, rfl, hs, rfl, v3, r.pat, rfl, h3, ro.pat, pl, by omega, by omega, fun l2 zs H1 f1 hl2 hl2' hz => ⟨l2, rfl, ⟨zs, SqL.of hl2'⟩, ?_⟩⟩
    have ez : zs.length = (within r.pat).length := ges_len hz
    have wl := within_len r.pat
    have plen : (partsAt (rs.take i)).length ≤ 7 * i := by
      have := parts_len (rs := rs.take i) (fun x hx => ho x (List.mem_of_mem_take hx))
      rw [List.length_take] at this
      omega
    have nld : l2 ≠ d := fun e => by rw [e, hnd.1] at hl2; cases hl2
    refine for_list (K := K) (a := l2) (xs := zs) (fun j σ H2 => ∃ (ys : List NEnt) (u3 : Option V), σ = [some (.ref bA), some (.ref d), some (.ref a), u3] ∧ Fr [] H H2 ∧ Fr [d] H1 H2 ∧ Nd P w K H2 d ys ∧ ys.map (·.1) = (((within r.pat).take j).foldl addU (partsAt (rs.take i))).map Ge.key)
      ⟨xs, _, rfl, ff.trans f1, Fr.refl _ _, f1.nd (by simp) hnd, by rw [List.take_zero]; exact hk⟩ (fun j σ H2 _ ⟨_, _, _, _, fd', _⟩ => SqL.of (fd'.keep _ _ (by simpa using nld) hl2')) ?_ ?_
    · rintro j z σ H2 hzj ⟨ys, u3, rfl, fa, fd', hnd2, hk2⟩
      obtain ⟨g, hg, hgz⟩ := ges_get hz hzj
      have hgz2 := fd'.ge hgz
      obtain ⟨b, vsb, rfl, _⟩ := dp_ref hgz2
      obtain ⟨wg, lg⟩ := within_wf ro.pat (List.mem_of_getElem? hg)
      have hkey : IsNk K H2 b g.key := ⟨hgz2, by have := pat_depth g wg; omega⟩
      have ylen : ys.length ≤ 200 := by
        have := congrArg List.length hk2
        rw [List.length_map, List.length_map] at this
        have q := addUs_len ((within r.pat).take j) (partsAt (rs.take i))
        rw [List.length_take] at q
        omega
      refine ⟨_, rfl, _, rfl, d, ys, b, g.key, rfl, rfl, hnd2, hkey, small1000 (by omega), ?_⟩
      obtain ⟨e1, e2⟩ := nput_addU (a := b) (v := .bl true) (g := g) hk2
      have fn : Fr [d] H2 (upd H2 d (NdO P w d (nput ys g.key b (.bl true)))) := by
        refine ⟨fun a o ha e => ?_, fun a zs e => ?_, fun a o u e => ?_⟩
        · rw [upd_ne (by simpa using ha)]; exact e
        · rw [upd_ne (fun z => by rw [z, hnd2.1] at e; cases e)]; exact e
        · rw [upd_ne (fun z => by rw [z, hnd2.1] at e; cases e)]; exact e
      refine ⟨nput ys g.key b (.bl true), _, rfl, fa.mut hdn, fd'.trans fn, ⟨upd_same, fun y hy => ?_⟩, ?_⟩
      · rcases e2 y hy with ⟨x, hx, q1, q2⟩ | ⟨q1, q2⟩
        · rw [← q1, ← q2]
          exact fn.nk (hnd2.2 x hx)
        · rw [q1, q2]
          exact fn.nk hkey
      · rw [fold_take hg]
        exact e1
    · rintro σ H2 ⟨ys, u3, rfl, fa, fd', hnd2, hk2⟩
      rw [ez, List.take_length, ← parts_snoc hri] at hk2
      exact ⟨ys, _, _, rfl, fa, hnd2, hk2⟩
  · rintro σ H' ⟨xs, u2, u3, rfl, ff, hnd, hk⟩
    rw [lu, List.take_length] at hk
    refine ⟨_, rfl, d, xs, rfl, hnd, fun l hl => ?_⟩
    have f1 : Fr [] H' (upd H' l (.lst (xs.map fun x => .ref x.2.1))) := Fr.new hl
    refine k l _ _ (ff.trans f1) (ff.free hl) upd_same ?_
    have key : ∀ (zs : List NEnt) (gs : List Ge), zs.map (·.1) = gs.map Ge.key → (∀ x ∈ zs, IsNk K (upd H' l (.lst (xs.map fun x => .ref x.2.1))) x.2.1 x.1) → DpAll K (upd H' l (.lst (xs.map fun x => .ref x.2.1))) (zs.map fun x => .ref x.2.1) (Ge.datas gs) := by
      intro zs
      induction zs with
      | nil =>
        intro gs e _
        cases gs with
        | nil => rw [Ge.datas_nil]; exact .nil
        | cons g gs => simp at e
      | cons z zs ih =>
        intro gs e q
        cases gs with
        | nil => simp at e
        | cons g gs =>
          simp only [List.map_cons] at e ⊢
          injection e with e1 e2
          rw [Ge.datas_cons]
          refine .cons ?_ (ih gs e2 fun x hx => q x (by simp [hx]))
          have := (q z (by simp)).1
          rw [e1] at this
          exact this
    exact key xs _ hk fun x hx => f1.nk (hnd.2 x hx)
/-! ### which fit -/
def ixData (is : List Nat) : PyData := .tuple (is.map fun n => .int (n : Nat))
def spFP (K : PySem.W.Frag) : Sp := fun vs H Q _ => ∃ (pA : Addr) (v : V) (us : List V) (ps : List Ge) (t : Ge), vs = [.ref pA, v] ∧ H pA = some (.lst us) ∧ DpAll K H us (Ge.datas ps) ∧ (∀ g ∈ ps, Wf PatTip g ∧ g.levels ≤ 3) ∧ ps.length ≤ 200 ∧ Dp K H v t.data ∧ Wf NoTip t ∧ t.levels ≤ 30 ∧
  ∀ (a : Addr) H', Fr [] H H' → SqT K H' a ((fitIdx ps t ps.length).map fun n => V.int (n : Nat)) → Q (.ref a) H'
theorem ok_fparts (F : Fun K "fitting_parts" "fitting_parts" s_fitting_parts f fd) (T : Txt K mg) (cpattern_fits : Callee P w K mg base 4 "pattern_fits" P_pattern_fits (spPF K 3)) : FnOk P w K mg base CX0 5 f fd P_fitting_parts (spFP K) := by
  refine F.ok sc_fitting_parts (fun vs H Q E h => ?_) (fun cdv A outer s H vs Q E hr h => ?_)
  · obtain ⟨pA, v, us, ps, t, rfl, _⟩ := h
    rfl
  obtain ⟨pA, v, us, ps, t, rfl, hp, hd, hw, hl, hv, wt, lt, k⟩ := h
  have nd := (sc_fitting_parts).nd
  have eu : us.length = ps.length := ges_len hd
  refine ⟨_, pss_one (ps_ret (pe_callTy (call_tupK K) (by rfl) T.tuple_ (by decide +kernel) (pa_cons (pe_lc (own := [("number", 2), ("part", 3)]) (g := gTup K 2 (gCons (gName 2) (gCons (gName 3) gNil))) (by rfl) nd (pi_enumK K (by rfl) T.enumerate_ (pa_cons (pv 0) pa_nil)) (blkOk_by (N := N_fitting_parts) (sc := defScope s_fitting_parts) (own := [("number", 2), ("part", 3)]) (by decide +kernel)) (fun _ _ _ _ _ => (pg_tupK K rfl (pgs_cons (pg_name (i := 2) nd rfl (Or.inl rfl)) (pgs_cons (pg_name (i := 3) nd rfl (Or.inl rfl)) pgs_nil)))) (fun _ _ _ _ _ => (pts_one (pt_val (pe_own cpattern_fits hr (pa_cons (pv 3) (pa_cons (pv 1) pa_nil)))))) (fun _ _ _ _ _ => (pv 2))) pa_nil))), ?_⟩
  refine ⟨_, rfl, pA, us, rfl, SqL.of hp, fun D hD => ?_⟩
  refine lc_it walk_enum (fun i H' => Fr [] H H' ∧ H' D = some (.lst ((fitIdx ps t i).map fun n => V.int (n : Nat)))) ⟨Fr.new hD, by rw [upd_same]; simp [fitIdx]⟩ (fun i H' _ ⟨ff, _⟩ => SqL.of (ff.keep _ _ (by simp) hp)) ?_ ?_
  · rintro i z H1 H' hi ⟨ff, hDi⟩ ⟨t0, x1, y, rfl, ht0, rfl, ex, ey⟩
    cases ex
    obtain ⟨p1, hp1, hpy⟩ := ges_get hd ey
    obtain ⟨w1, l1⟩ := hw p1 (List.mem_of_getElem? hp1)
    have f1 : Fr [] H1 (upd H1 t0 (.tup [.int (i : Nat), y])) := Fr.new ht0
    have g1 := ff.trans f1
    refine ⟨t0, _, rfl, SqT.of upd_same, rfl, _, _, rfl, _, _, rfl, rfl, rfl, ?_⟩
    refine ⟨_, rfl, _, rfl, y, v, p1, t, rfl, g1.ge hpy, g1.ge hv, w1, wt, l1, by omega, lt, fun H2 f2 => ⟨_, rfl, ?_⟩⟩
    have hD2 := (f1.trans f2).keep D _ (by simp) hDi
    rw [fitIdx_succ hp1]
    cases hf : fits p1 t with
    | true =>
      refine iteT ⟨_, rfl, _, hD2, ?_, ?_⟩
      · rw [List.length_map]
        exact small1000 (by have := fitIdx_len ps t i; omega)
      · refine ⟨(g1.trans f2).mut hD, ?_⟩
        rw [upd_same, if_pos rfl, List.map_append]
        rfl
    | false =>
      refine iteF ⟨g1.trans f2, ?_⟩
      rw [if_neg (by decide)]
      exact hD2
  · rintro H' ⟨ff, hDi⟩
    rw [eu] at hDi
    refine ⟨D, _, rfl, .inl ⟨SqL.of hDi, fun l hl => ?_⟩⟩
    exact k l _ (ff.trans (Fr.new hl)) (SqT.of upd_same)
end
end TT


namespace TT
open PySem PySem.Spec PyProof.Rows L2
mutual
theorem dp_of {K : PySem.W.Frag} {H H' : Hp} (e : ∀ a xs, SqT K H a xs → SqT K H' a xs) : ∀ (d : PyData) (v : V), tupy d = true → Dp K H v d → Dp K H' v d
  | .none, _, _, h => by cases h; exact .non
  | .bool b, _, _, h => by cases h; exact .bl _
  | .int i, _, _, h => by cases h; exact .int _
  | .str x, _, _, h => by cases h; exact .str _
  | .list ds, _, t, h => by simp [tupy] at t
  | .tuple ds, _, t, h => by
    cases h with
    | tup hs ha => exact .tup (e _ _ hs) (dpAll_of e ds _ (by simpa [tupy] using t) ha)
  | .dict _, _, t, h => by cases h
theorem dpAll_of {K : PySem.W.Frag} {H H' : Hp} (e : ∀ a xs, SqT K H a xs → SqT K H' a xs) : ∀ (ds : List PyData) (vs : List V), tupyAll ds = true → DpAll K H vs ds → DpAll K H' vs ds
  | [], _, _, h => by cases h; exact .nil
  | d :: ds, _, t, h => by
    rw [tupyAll, Bool.and_eq_true] at t
    cases h with
    | cons h1 h2 => exact .cons (dp_of e d _ t.1 h1) (dpAll_of e ds _ t.2 h2)
end
theorem tupy_ix (is : List Nat) : tupy (ixData is) = true := by simp only [ixData, tupy, tupyAll_ints]
theorem tupy_ixs (f : List Nat × Ge → List Nat) : ∀ pl : List (List Nat × Ge), tupyAll (pl.map fun x => ixData (f x)) = true
  | [] => rfl
  | x :: pl => by simp only [List.map_cons, tupyAll, tupy_ix, tupy_ixs f pl, Bool.and_self]
theorem walk_keysN {P : Program} {w : World} {d : Addr} {o : Obj} {xs : List NEnt} : Walk (Itn P w d o xs) xs.length (fun H => H d = some (.frz o (NdO P w d xs))) (fun i H x H' => H' = H ∧ ∃ p, xs[i]? = some p ∧ x = .ref p.2.1) :=
  ⟨fun _ _ hi q => ⟨q, hi⟩, fun _ q => ⟨q, Nat.le_refl _⟩, fun _ _ _ _ _ _ y => y⟩
theorem nval_at : ∀ {xs : List NEnt} {i : Nat} {p : NEnt}, (xs.map (·.1)).Nodup → xs[i]? = some p → nval xs p.1 = some p.2.2
  | [], i, p, _, h => by simp at h
  | x :: xs, 0, p, _, h => by
    simp at h
    subst h
    simp [nval, List.find?_cons]
  | x :: xs, i + 1, p, nd, h => by
    rw [List.map_cons, List.nodup_cons] at nd
    have h : xs[i]? = some p := by simpa using h
    have ne : ¬ x.1 = p.1 := fun e => nd.1 (by rw [e]; exact List.mem_map.mpr ⟨p, List.mem_of_getElem? h, rfl⟩)
    have := nval_at nd.2 h
    unfold nval at this ⊢
    rw [List.find?_cons]
    simp only [ne, decide_false]
    exact this
theorem Ents.nodup {K : PySem.W.Frag} {H : Hp} {xs : List NEnt} {g : Ge} (h : Ents K H xs (places g)) : (xs.map (·.1)).Nodup := by
  rw [h.1]
  have e : (places g).map (fun x => pkey x.1) = ((places g).map (·.1)).map pkey := by rw [List.map_map]; rfl
  rw [e]
  exact List.Pairwise.map _ (fun a b hab e => hab (pkey_inj e)) (places_nodup g)
mutual
theorem within_place {T : List NestedKey → Prop} : ∀ {g : Ge} {x : List Nat × Ge}, Wf T g → x ∈ places g → Wf T x.2 ∧ x.2.levels ≤ g.levels
  | .tip ks, x, wf, h => by
    simp only [places, List.mem_singleton] at h
    subst h
    exact ⟨wf, Nat.le_refl _⟩
  | .node l gs, x, wf, h => by
    simp only [places, List.mem_cons] at h
    rcases h with rfl | h
    · exact ⟨wf, Nat.le_refl _⟩
    · simp only [Wf] at wf
      have := within_placeFrom wf.2.2 h
      simp only [Ge.levels]
      exact ⟨this.1, by omega⟩
theorem within_placeFrom {T : List NestedKey → Prop} : ∀ {gs : List Ge} {k : Nat} {x : List Nat × Ge}, WfAll T gs → x ∈ placesFrom k gs → Wf T x.2 ∧ x.2.levels ≤ Ge.levelsAll gs
  | [], k, x, _, h => by simp [placesFrom] at h
  | g :: gs, k, x, wf, h => by
    simp only [placesFrom, List.mem_append, List.mem_map] at h
    simp only [WfAll] at wf
    simp only [Ge.levelsAll]
    rcases h with ⟨y, hy, rfl⟩ | h
    · have := within_place wf.1 hy
      exact ⟨this.1, by have := this.2; simp only; omega⟩
    · have := within_placeFrom wf.2 h
      exact ⟨this.1, by omega⟩
end
def Fresh (H : Hp) (l : Addr) : Prop := ∀ o, H l = some o → ∃ ps, o = .tbl ps
theorem Ex.fresh {H H' : Hp} {l : Addr} (e : Ex H H') (h : H' l = none) : Fresh H l := by
  intro o ho
  cases o with
  | tbl ps => exact ⟨ps, rfl⟩
  | _ => exact absurd (e l _ ho (fun _ z => nomatch z)) (by rw [h]; exact fun z => nomatch z)
theorem Fresh.ex {H H' : Hp} {l : Addr} (e : Ex H H') (h : Fresh H' l) : Fresh H l := by
  intro o ho
  cases o with
  | tbl ps => exact ⟨ps, rfl⟩
  | _ => exact h _ (e l _ ho (fun _ z => nomatch z))
theorem Ex.mut {H H' : Hp} {l : Addr} {o : HO} (e : Ex H H') (h : Fresh H l) : Ex H (upd H' l o) := by
  intro b u hb hn
  rw [upd_ne]
  · exact e b u hb hn
  · rintro rfl
    obtain ⟨ps, q⟩ := h u hb
    exact hn ps q
theorem Fresh.ne {H : Hp} {l a : Addr} {xs : List V} (h : Fresh H l) (ha : H a = some (.lst xs)) : a ≠ l := by
  rintro rfl
  obtain ⟨ps, q⟩ := h _ ha
  cases q
section
variable {P : Program} {w : World} {K : PySem.W.Frag} {mg : Str → Option Value} {base : Heap} {f : Addr} {fd : FuncData}
def setsData (ps : List Ge) (g : Ge) : List PyData := (places g).map fun x => ixData (fitIdx ps x.2 ps.length)
def spSets (K : PySem.W.Frag) (PT : Addr) : Sp := fun vs H Q _ => ∃ (bA : Addr) (v : V) (us : List V) (rs : List Ru) (g : Ge), vs = [.ref bA, v] ∧ H bA = some (.lst us) ∧ DpAll K H us (rs.map Ru.data) ∧ (∀ r ∈ rs, RuOk r) ∧ rs.length ≤ 16 ∧ Dp K H v g.data ∧ Wf NoTip g ∧ g.size ≤ 60 ∧ g.levels ≤ 12 ∧ LamX.Tabs (TT1 PT) H ∧
  ∀ (l : Addr) (zs : List V) H', Ex H H' → LamX.Tabs (TT1 PT) H' → Fresh H l → H' l = some (.lst zs) → DpAll K H' zs (setsData (partsAt rs) g) → Q (.ref l) H'
theorem ok_sets {PT : Addr} (F : Fun K "sets_at" "sets_at" s_sets_at f fd) (T : Txt K mg) (ccheck_book : Callee P w K mg base 9 "check_book" P_check_book (spCheck K PT)) (cplaces_of : Callee P w K mg base 2 "places_of" P_places_of (spPlacesOf P w K))
    (cparts_of : Callee P w K mg base 7 "parts_of" P_parts_of (spPO K)) (cfitting_parts : Callee P w K mg base 5 "fitting_parts" P_fitting_parts (spFP K)) : FnOk P w K mg base CX0 10 f fd P_sets_at (spSets K PT) := by
  refine F.ok sc_sets_at (fun vs H Q E h => ?_) (fun cdv A outer s H vs Q E hr h => ?_)
  · obtain ⟨bA, v, us, rs, g, rfl, _⟩ := h
    rfl
  obtain ⟨bA, v, us, rs, g, rfl, hb, hd, ho, hn, hv, wg, sg, lg, hT, k⟩ := h
  have nd := (sc_sets_at).nd
  have hu := hr.units
  refine ⟨_, pss_cons (ps_expr (pe_own ccheck_book hr (pa_cons (pv 0) pa_nil)))
  (pss_cons (ps_set (i := 2) nd rfl (Or.inr rfl) (pe_own cplaces_of hr (pa_cons (pv 1) pa_nil)))
  (pss_cons (ps_set (i := 3) nd rfl (Or.inr rfl) (pe_own cparts_of hr (pa_cons (pv 0) pa_nil)))
  (pss_one (ps_ret (pe_lock (pe_lc (own := [("place", 4)]) (g := gName 4) (tt := tYes) (by rfl) nd (pi_keysNK P w (pv 2)) (blkOk_by (N := N_sets_at) (sc := defScope s_sets_at) (own := [("place", 4)]) (by decide +kernel)) (fun _ _ _ _ _ => (pg_name (i := 4) nd rfl (Or.inl rfl))) (fun _ _ _ _ _ => pts_nil) (fun _ _ _ _ _ => (pe_own cfitting_parts hr (pa_cons (pv 3) (pa_cons (pe_ngetFK P w K hu (pv 2) (pv 4) (fun _ _ => rfl)) pa_nil)))))))))), ?_⟩
  refine ⟨_, rfl, bA, us, rs, rfl, hb, hd, ho, hn, hT, fun H1 e1 T1 => ?_⟩
  have hb1 := e1.lst hb
  have hd1 := e1.dpAll _ _ (tupy_rus rs) hd
  have hv1 := e1.ge hv
  refine ⟨_, rfl, v, g, rfl, hv1, wg, sg, lg, fun d xs H2 f2 hdn hnd hen => ?_⟩
  refine ⟨_, rfl, bA, us, rs, rfl, f2.keep _ _ (by simp) hb1, f2.dpAll _ _ (tupy_rus rs) hd1, ho, hn, fun pA ws H3 f3 hpn hp hw => ?_⟩
  have hnd3 := f3.nd (by simp) hnd
  have hen3 := hen.fr f3
  have xl : xs.length = g.size := by rw [hen.len, places_len]
  have plen := parts_len ho
  have pwf := parts_wf ho
  have npd : pA ≠ d := fun e => by rw [e, hnd.1] at hpn; cases hpn
  refine ⟨d, _, hnd3.1, True.intro, fun od => ?_⟩
  have fk : Fr [d] H3 (upd H3 d (.frz od (NdO P w d xs))) := by
    refine ⟨fun a o ha e => ?_, fun a zs e => ?_, fun a o u e => ?_⟩
    · rw [upd_ne (by simpa using ha)]; exact e
    · rw [upd_ne (fun z => by rw [z, hnd3.1] at e; cases e)]; exact e
    · rw [upd_ne (fun z => by rw [z, hnd3.1] at e; cases e)]; exact e
  have hz0 : upd H3 d (.frz od (NdO P w d xs)) d = some (.frz od (NdO P w d xs)) := upd_same
  have hp4 := fk.keep pA _ (by simpa using npd) hp
  have hw4 := fk.ges hw
  have hen4 := hen3.fr fk
  have hall4 : ∀ x ∈ xs, IsNk K (upd H3 d (.frz od (NdO P w d xs))) x.2.1 x.1 := fun x hx => fk.nk (hnd3.2 x hx)
  generalize hH4 : upd H3 d (.frz od (NdO P w d xs)) = H4 at fk hz0 hp4 hw4 hen4 hall4
  refine ⟨_, rfl, d, od, xs, rfl, hz0, ?_⟩
  intro D hD
  refine lc_it walk_keysN (fun i H' => ∃ zs : List V, Fr [] H4 H' ∧ H' D = some (.lst zs) ∧ DpAll K H' zs (((places g).take i).map fun x => ixData (fitIdx (partsAt rs) x.2 (partsAt rs).length))) ⟨[], Fr.new hD, upd_same, .nil⟩ (fun i H' _ ⟨_, ff, _⟩ => ff.keep d _ (by simp) hz0) ?_ ?_
  · rintro i x H5 H' hi ⟨zs, ff, hDz, hdz⟩ ⟨rfl, p, hp', rfl⟩
    have hi2 : i < (places g).length := by rw [places_len]; omega
    obtain ⟨pl, hpl⟩ : ∃ pl, (places g)[i]? = some pl := ⟨(places g)[i], List.getElem?_eq_getElem hi2⟩
    have hval : nval xs p.1 = some p.2.2 := nval_at hen.nodup hp'
    obtain ⟨dd, hdd, hdv⟩ := DpAll.get hen4.2 (show (xs.map (·.2.2))[i]? = some p.2.2 by rw [List.getElem?_map, hp']; rfl)
    rw [List.getElem?_map, hpl] at hdd
    cases hdd
    have hwf := within_place wg (List.mem_of_getElem? hpl)
    refine ⟨rfl, _, rfl, _, rfl, _, rfl, d, od, xs, p.2.1, p.1, p.2.2, rfl, rfl, ff.keep d _ (by simp) hz0, fun y hy => ff.nk (hall4 y hy), ff.nk (hall4 p (List.mem_of_getElem? hp')), hval, ?_⟩
    refine ⟨pA, _, ws, partsAt rs, pl.2, rfl, ff.keep _ _ (by simp) hp4, ff.ges hw4, pwf, by omega, ff.ge hdv, hwf.1, by omega, fun a H6 f6 ha => ?_⟩
    have hD6 := f6.keep D _ (by simp) hDz
    have zl : zs.length ≤ 60 := by rw [DpAll.length hdz, List.length_map, List.length_take]; omega
    refine ⟨zs, hD6, small1000 (by omega), zs ++ [.ref a], (ff.trans f6).mut hD, upd_same, ?_⟩
    have fD : Fr [D] H6 (upd H6 D (.lst (zs ++ [.ref a]))) := Fr.lst hD6 (by simp)
    rw [take_succ' hpl, List.map_append]
    exact DpAll.append (fD.dpAll _ _ (tupy_ixs (fun x => fitIdx (partsAt rs) x.2 (partsAt rs).length) _) (f6.dpAll _ _ (tupy_ixs (fun x => fitIdx (partsAt rs) x.2 (partsAt rs).length) _) hdz)) (.cons (.tup (fD.sqT ha) (dpAll_ints _)) .nil)
  · rintro H5 ⟨zs, ff, hDz, hdz⟩
    rw [xl, ← places_len, List.take_length] at hdz
    have hz5 := ff.keep d _ (by simp) hz0
    have nDd : D ≠ d := fun e => by rw [e, hz5] at hDz; cases hDz
    refine ⟨hz5, ?_⟩
    have f23 := f2.trans f3
    have ffin : Fr [] H1 (upd H5 d (NdO P w d xs)) := by
      have nb : ∀ {b o}, H1 b = some o → b ≠ d := fun e z => by rw [z, hdn] at e; cases e
      refine ⟨fun b o _ e => ?_, fun b zs e => ?_, fun b o u e => ?_⟩
      · rw [upd_ne (nb e)]
        exact ff.keep b _ (by simp) (fk.keep b _ (by simpa using nb e) (f23.keep b _ (by simp) e))
      · rw [upd_ne (nb e)]
        exact ff.tup _ _ (fk.tup _ _ (f23.tup _ _ e))
      · rw [upd_ne (nb e)]
        exact ff.frz _ _ _ (fk.frz _ _ _ (f23.frz _ _ _ e))
    have hDn : H1 D = none := by
      have q1 : H3 D = none := by
        rw [← hH4, upd_ne nDd] at hD
        exact hD
      exact f23.free q1
    have un : ∀ a ys, SqT K H5 a ys → SqT K (upd H5 d (NdO P w d xs)) a ys := by
      rintro a ys ((h | ⟨o, h⟩) | h)
      · exact .inl (.inl (by rw [upd_ne (fun z => by rw [z, hz5] at h; cases h)]; exact h))
      · exact .inl (.inr ⟨o, by rw [upd_ne (fun z => by rw [z, hz5] at h; injection h with h; injection h with _ h; cases h)]; exact h⟩)
      · exact .inr h
    exact k D zs _ (LamX.ExtN.trans e1 ffin.ex) (T1.ext fun b o e => ffin.keep b o (by simp) e) (Ex.fresh e1 hDn) (by rw [upd_ne nDd]; exact hDz) (dpAll_of un _ _ (tupy_ixs (fun x => fitIdx (partsAt rs) x.2 (partsAt rs).length) _) hdz)
end
end TT

namespace TT
open PySem L2

/-! ### alike: the same data -/
def tyName : PyData → String
  | .none => "NoneType"
  | .bool _ => "bool"
  | .int _ => "int"
  | .str _ => "str"
  | .list _ => "list"
  | .tuple _ => "tuple"
  | .dict _ => "dict"
theorem dp_ty {K : PySem.W.Frag} {H : Hp} {v : V} {d : PyData} (h : Dp K H v d) : TyX K H v (.type (tyName d)) := by
  cases h with
  | non => exact .base .non
  | bl b => exact .base (.bl b)
  | int i => exact .base (.int i)
  | str x => exact .base (.str x)
  | lst hs _ =>
    rcases hs with (h | ⟨o, h⟩) | ⟨o, its, n, h, hc, _⟩
    · exact .base (.lst h)
    · exact .base (.frz h)
    · exact .kList h hc
  | tup hs _ =>
    rcases hs with (h | ⟨o, h⟩) | ⟨o, its, n, h, hc, _⟩
    · exact .base (.tup h)
    · exact .fTuple h
    · exact .kTuple h hc
theorem depth_mem : ∀ {ds : List PyData} {d : PyData}, d ∈ ds → d.depth ≤ PyData.depthAll ds
  | _ :: _, _, .head _ => by simp only [PyData.depthAll]; omega
  | _ :: ds, d, .tail _ h => by
    have := depth_mem (ds := ds) h
    simp only [PyData.depthAll]; omega
mutual
def fewB : PyData → Bool
  | .none => true
  | .bool _ => true
  | .int _ => true
  | .str _ => true
  | .list ds => decide (ds.length ≤ 100000) && fewAll ds
  | .tuple ds => decide (ds.length ≤ 100000) && fewAll ds
  | .dict _ => true
def fewAll : List PyData → Bool
  | [] => true
  | d :: ds => fewB d && fewAll ds
end
theorem few_mem : ∀ {ds : List PyData} {d : PyData}, d ∈ ds → fewAll ds = true → fewB d = true
  | _ :: _, _, .head _, h => by simp only [fewAll, Bool.and_eq_true] at h; exact h.1
  | _ :: ds, d, .tail _ m, h => by simp only [fewAll, Bool.and_eq_true] at h; exact few_mem m h.2
def spAlike (K : PySem.W.Frag) (n : Nat) : Sp := fun vs H Q _ => ∃ (x y : V) (d : PyData), vs = [x, y] ∧ Dp K H x d ∧ Dp K H y d ∧ d.depth + 1 ≤ n ∧ fewB d = true ∧ ∀ H', Fr [] H H' → Q (.bl true) H'
mutual
theorem fr_dp0 {K : PySem.W.Frag} {H H' : Hp} (e : Fr [] H H') : ∀ (d : PyData) (v : V), Dp K H v d → Dp K H' v d
  | .none, _, h => by cases h; exact .non
  | .bool b, _, h => by cases h; exact .bl _
  | .int i, _, h => by cases h; exact .int _
  | .str x, _, h => by cases h; exact .str _
  | .list ds, _, h => by
    cases h with
    | lst hs ha => exact .lst (e.sqL0 hs) (fr_dpAll0 e ds _ ha)
  | .tuple ds, _, h => by
    cases h with
    | tup hs ha => exact .tup (e.sqT hs) (fr_dpAll0 e ds _ ha)
  | .dict _, _, h => by cases h
theorem fr_dpAll0 {K : PySem.W.Frag} {H H' : Hp} (e : Fr [] H H') : ∀ (ds : List PyData) (vs : List V), DpAll K H vs ds → DpAll K H' vs ds
  | [], _, h => by cases h; exact .nil
  | d :: ds, _, h => by
    cases h with
    | cons h1 h2 => exact .cons (fr_dp0 e d _ h1) (fr_dpAll0 e ds _ h2)
end
theorem ok_alike (F : Fun K "_law_alike" "_law_alike" s__law_alike f fd) (T : Txt K mg) (mf : mg "_law_alike" = some (.ref f)) (bf : Binds K fd P__law_alike []) :
    ∀ n : Nat, FnOk P w K mg base CX0 (n + 1) f fd P__law_alike (spAlike K n)
  | 0 => by
    have no : ∀ vs H Q E, ¬ spAlike K 0 vs H Q E := fun vs H Q E h => by
      obtain ⟨x, y, d, _, _, _, h1, _⟩ := h
      omega
    exact ⟨fun vs H Q E h => absurd h (no vs H Q E), fun A outer s H args us vs Q E _ _ _ _ h => absurd h (no vs H Q E)⟩
  | n + 1 => by
    have c_law_alike : Callee P w K mg base (n + 1) "_law_alike" P__law_alike (spAlike K n) := ⟨f, fd, ok_alike F T mf bf n, mf, F.kp, bf⟩
    refine F.ok sc__law_alike (fun vs H Q E h => ?_) (fun cdv A outer s H vs Q E hr h => ?_)
    · obtain ⟨x, y, d, rfl, _⟩ := h
      rfl
    obtain ⟨x, y, d, rfl, hx, hy, hd, hf, k⟩ := h
    have nd := (sc__law_alike).nd
    have tx := dp_ty hx
    have ty := dp_ty hy
    have k0 := k H (Fr.refl _ _)
    cases d with
    | dict _ => cases hx
    | none =>
      cases dp_non hx
      cases dp_non hy
      refine ⟨_, pss_cons (ps_if (pt_cmp (pc_isN (pv 1)) rfl)
    (pss_one (ps_ret (pe_cmp (pc_isN (pv 0)) rfl)))
    (pss_nil))
  (pss_cons (ps_if (pt_val (pe_callB (call_isiK' K) (by rfl) T.isinstance_ (by decide +kernel) (pa_cons (pv 1) (pa_cons (pe_bltn (v := .ty "bool") (by rfl) T.bool_ (by decide +kernel) rfl) pa_nil))))
    (pss_one (ps_ret (pe_and (pe_callB (call_isiK' K) (by rfl) T.isinstance_ (by decide +kernel) (pa_cons (pv 0) (pa_cons (pe_bltn (v := .ty "bool") (by rfl) T.bool_ (by decide +kernel) rfl) pa_nil))) (pe_one (pe_cmpR op_eq (pv 0) (pv 1) (nomark _))))))
    (pss_nil))
  (pss_cons (ps_if (pt_val (pe_callB (call_isiK' K) (by rfl) T.isinstance_ (by decide +kernel) (pa_cons (pv 1) (pa_cons (pe_bltn (v := .ty "int") (by rfl) T.int_ (by decide +kernel) rfl) pa_nil))))
    (pss_one (ps_ret (pe_and (pe_callB (call_isiK' K) (by rfl) T.isinstance_ (by decide +kernel) (pa_cons (pv 0) (pa_cons (pe_bltn (v := .ty "int") (by rfl) T.int_ (by decide +kernel) rfl) pa_nil))) (pe_and (pe_not (pe_callB (call_isiK' K) (by rfl) T.isinstance_ (by decide +kernel) (pa_cons (pv 0) (pa_cons (pe_bltn (v := .ty "bool") (by rfl) T.bool_ (by decide +kernel) rfl) pa_nil)))) (pe_one (pe_cmpR op_eq (pv 0) (pv 1) (nomark _)))))))
    (pss_nil))
  (pss_cons (ps_if (pt_val (pe_callB (call_isiK' K) (by rfl) T.isinstance_ (by decide +kernel) (pa_cons (pv 1) (pa_cons (pe_bltn (v := .ty "str") (by rfl) T.str_ (by decide +kernel) rfl) pa_nil))))
    (pss_one (ps_ret (pe_and (pe_callB (call_isiK' K) (by rfl) T.isinstance_ (by decide +kernel) (pa_cons (pv 0) (pa_cons (pe_bltn (v := .ty "str") (by rfl) T.str_ (by decide +kernel) rfl) pa_nil))) (pe_one (pe_cmpR op_eq (pv 0) (pv 1) (nomark _))))))
    (pss_nil))
  (pss_cons (ps_if (PW.pt (pw_or (pt_cmpR op_ne (pe_callB (call_isiK' K) (by rfl) T.isinstance_ (by decide +kernel) (pa_cons (pv 1) (pa_cons (pe_bltn (v := .ty "tuple") (by rfl) T.tuple_ (by decide +kernel) rfl) pa_nil))) (pe_callB (call_isiK' K) (by rfl) T.isinstance_ (by decide +kernel) (pa_cons (pv 0) (pa_cons (pe_bltn (v := .ty "tuple") (by rfl) T.tuple_ (by decide +kernel) rfl) pa_nil))) (nomark _)) (pw_or1 (pt_cmpR op_ne (pe_callB (call_isiK' K) (by rfl) T.isinstance_ (by decide +kernel) (pa_cons (pv 1) (pa_cons (pe_bltn (v := .ty "list") (by rfl) T.list_ (by decide +kernel) rfl) pa_nil))) (pe_callB (call_isiK' K) (by rfl) T.isinstance_ (by decide +kernel) (pa_cons (pv 0) (pa_cons (pe_bltn (v := .ty "list") (by rfl) T.list_ (by decide +kernel) rfl) pa_nil))) (nomark _)))))
    (pss_one (ps_ret pe_bl))
    (pss_nil))
  (pss_cons (ps_if (pt_cmpR op_ne (pe_callB (call_lenK K) (by rfl) T.len_ PySem.boot_len (pa_cons (pv 0) pa_nil)) (pe_callB (call_lenK K) (by rfl) T.len_ PySem.boot_len (pa_cons (pv 1) pa_nil)) (nomark _))
    (pss_one (ps_ret pe_bl))
    (pss_nil))
  (pss_cons (ps_for PassesOwn.never rfl (pi_range1 (by rfl) T.range_ (pa_cons (pe_callB (call_lenK K) (by rfl) T.len_ PySem.boot_len (pa_cons (pv 1) pa_nil)) pa_nil)) (pg_name (i := 2) nd rfl (Or.inl rfl))
    (pss_one (ps_if (pt_not (pt_val (pe_own c_law_alike hr (pa_cons (pe_ix (ix_listK K) (pv 0) (pv 2) (fun _ _ => rfl)) (pa_cons (pe_ix (ix_listK K) (pv 1) (pv 2) (fun _ _ => rfl)) pa_nil)))))
      (pss_one (ps_ret pe_bl))
      (pss_nil))))
  (pss_one (ps_ret pe_bl)))))))), ?_⟩
      exact ⟨_, rfl, _, rfl, iteT ⟨_, rfl, k0⟩⟩
    | bool b =>
      change TyX K H _ (.type "bool") at tx ty
      cases hx
      cases hy
      refine ⟨_, pss_cons (ps_if (pt_cmp (pc_isN (pv 1)) rfl)
    (pss_one (ps_ret (pe_cmp (pc_isN (pv 0)) rfl)))
    (pss_nil))
  (pss_cons (ps_if (pt_val (pe_callB (call_isiK' K) (by rfl) T.isinstance_ (by decide +kernel) (pa_cons (pv 1) (pa_cons (pe_bltn (v := .ty "bool") (by rfl) T.bool_ (by decide +kernel) rfl) pa_nil))))
    (pss_one (ps_ret (pe_and (pe_callB (call_isiK' K) (by rfl) T.isinstance_ (by decide +kernel) (pa_cons (pv 0) (pa_cons (pe_bltn (v := .ty "bool") (by rfl) T.bool_ (by decide +kernel) rfl) pa_nil))) (pe_one (pe_cmpR op_eq (pv 0) (pv 1) (nomark _))))))
    (pss_nil))
  (pss_cons (ps_if (pt_val (pe_callB (call_isiK' K) (by rfl) T.isinstance_ (by decide +kernel) (pa_cons (pv 1) (pa_cons (pe_bltn (v := .ty "int") (by rfl) T.int_ (by decide +kernel) rfl) pa_nil))))
    (pss_one (ps_ret (pe_and (pe_callB (call_isiK' K) (by rfl) T.isinstance_ (by decide +kernel) (pa_cons (pv 0) (pa_cons (pe_bltn (v := .ty "int") (by rfl) T.int_ (by decide +kernel) rfl) pa_nil))) (pe_and (pe_not (pe_callB (call_isiK' K) (by rfl) T.isinstance_ (by decide +kernel) (pa_cons (pv 0) (pa_cons (pe_bltn (v := .ty "bool") (by rfl) T.bool_ (by decide +kernel) rfl) pa_nil)))) (pe_one (pe_cmpR op_eq (pv 0) (pv 1) (nomark _)))))))
    (pss_nil))
  (pss_cons (ps_if (pt_val (pe_callB (call_isiK' K) (by rfl) T.isinstance_ (by decide +kernel) (pa_cons (pv 1) (pa_cons (pe_bltn (v := .ty "str") (by rfl) T.str_ (by decide +kernel) rfl) pa_nil))))
    (pss_one (ps_ret (pe_and (pe_callB (call_isiK' K) (by rfl) T.isinstance_ (by decide +kernel) (pa_cons (pv 0) (pa_cons (pe_bltn (v := .ty "str") (by rfl) T.str_ (by decide +kernel) rfl) pa_nil))) (pe_one (pe_cmpR op_eq (pv 0) (pv 1) (nomark _))))))
    (pss_nil))
  (pss_cons (ps_if (PW.pt (pw_or (pt_cmpR op_ne (pe_callB (call_isiK' K) (by rfl) T.isinstance_ (by decide +kernel) (pa_cons (pv 1) (pa_cons (pe_bltn (v := .ty "tuple") (by rfl) T.tuple_ (by decide +kernel) rfl) pa_nil))) (pe_callB (call_isiK' K) (by rfl) T.isinstance_ (by decide +kernel) (pa_cons (pv 0) (pa_cons (pe_bltn (v := .ty "tuple") (by rfl) T.tuple_ (by decide +kernel) rfl) pa_nil))) (nomark _)) (pw_or1 (pt_cmpR op_ne (pe_callB (call_isiK' K) (by rfl) T.isinstance_ (by decide +kernel) (pa_cons (pv 1) (pa_cons (pe_bltn (v := .ty "list") (by rfl) T.list_ (by decide +kernel) rfl) pa_nil))) (pe_callB (call_isiK' K) (by rfl) T.isinstance_ (by decide +kernel) (pa_cons (pv 0) (pa_cons (pe_bltn (v := .ty "list") (by rfl) T.list_ (by decide +kernel) rfl) pa_nil))) (nomark _)))))
    (pss_one (ps_ret pe_bl))
    (pss_nil))
  (pss_cons (ps_if (pt_cmpR op_ne (pe_callB (call_lenK K) (by rfl) T.len_ PySem.boot_len (pa_cons (pv 0) pa_nil)) (pe_callB (call_lenK K) (by rfl) T.len_ PySem.boot_len (pa_cons (pv 1) pa_nil)) (nomark _))
    (pss_one (ps_ret pe_bl))
    (pss_nil))
  (pss_cons (ps_for PassesOwn.never rfl (pi_range1 (by rfl) T.range_ (pa_cons (pe_callB (call_lenK K) (by rfl) T.len_ PySem.boot_len (pa_cons (pv 1) pa_nil)) pa_nil)) (pg_name (i := 2) nd rfl (Or.inl rfl))
    (pss_one (ps_if (pt_not (pt_val (pe_own c_law_alike hr (pa_cons (pe_ix (ix_listK K) (pv 0) (pv 2) (fun _ _ => rfl)) (pa_cons (pe_ix (ix_listK K) (pv 1) (pv 2) (fun _ _ => rfl)) pa_nil)))))
      (pss_one (ps_ret pe_bl))
      (pss_nil))))
  (pss_one (ps_ret pe_bl)))))))), ?_⟩
      refine ⟨_, rfl, _, rfl, iteF ?_⟩
      refine ⟨_, rfl, _, .ty "bool", _, _, true, rfl, .ty _, ty, kit_ty (by decide +kernel), _, rfl, iteT ?_⟩
      refine ⟨_, rfl, _, .ty "bool", _, _, true, rfl, .ty _, tx, kit_ty (by decide +kernel), _, rfl, iteT ?_⟩
      refine ⟨_, rfl, _, rfl, rfl, ?_⟩
      rw [decide_eq_true rfl]
      exact k0
    | int i =>
      change TyX K H _ (.type "int") at tx ty
      cases hx
      cases hy
      refine ⟨_, pss_cons (ps_if (pt_cmp (pc_isN (pv 1)) rfl)
    (pss_one (ps_ret (pe_cmp (pc_isN (pv 0)) rfl)))
    (pss_nil))
  (pss_cons (ps_if (pt_val (pe_callB (call_isiK' K) (by rfl) T.isinstance_ (by decide +kernel) (pa_cons (pv 1) (pa_cons (pe_bltn (v := .ty "bool") (by rfl) T.bool_ (by decide +kernel) rfl) pa_nil))))
    (pss_one (ps_ret (pe_and (pe_callB (call_isiK' K) (by rfl) T.isinstance_ (by decide +kernel) (pa_cons (pv 0) (pa_cons (pe_bltn (v := .ty "bool") (by rfl) T.bool_ (by decide +kernel) rfl) pa_nil))) (pe_one (pe_cmpR op_eq (pv 0) (pv 1) (nomark _))))))
    (pss_nil))
  (pss_cons (ps_if (pt_val (pe_callB (call_isiK' K) (by rfl) T.isinstance_ (by decide +kernel) (pa_cons (pv 1) (pa_cons (pe_bltn (v := .ty "int") (by rfl) T.int_ (by decide +kernel) rfl) pa_nil))))
    (pss_one (ps_ret (pe_and (pe_callB (call_isiK' K) (by rfl) T.isinstance_ (by decide +kernel) (pa_cons (pv 0) (pa_cons (pe_bltn (v := .ty "int") (by rfl) T.int_ (by decide +kernel) rfl) pa_nil))) (pe_and (pe_not (pe_callB (call_isiK' K) (by rfl) T.isinstance_ (by decide +kernel) (pa_cons (pv 0) (pa_cons (pe_bltn (v := .ty "bool") (by rfl) T.bool_ (by decide +kernel) rfl) pa_nil)))) (pe_one (pe_cmpR op_eq (pv 0) (pv 1) (nomark _)))))))
    (pss_nil))
  (pss_cons (ps_if (pt_val (pe_callB (call_isiK' K) (by rfl) T.isinstance_ (by decide +kernel) (pa_cons (pv 1) (pa_cons (pe_bltn (v := .ty "str") (by rfl) T.str_ (by decide +kernel) rfl) pa_nil))))
    (pss_one (ps_ret (pe_and (pe_callB (call_isiK' K) (by rfl) T.isinstance_ (by decide +kernel) (pa_cons (pv 0) (pa_cons (pe_bltn (v := .ty "str") (by rfl) T.str_ (by decide +kernel) rfl) pa_nil))) (pe_one (pe_cmpR op_eq (pv 0) (pv 1) (nomark _))))))
    (pss_nil))
  (pss_cons (ps_if (PW.pt (pw_or (pt_cmpR op_ne (pe_callB (call_isiK' K) (by rfl) T.isinstance_ (by decide +kernel) (pa_cons (pv 1) (pa_cons (pe_bltn (v := .ty "tuple") (by rfl) T.tuple_ (by decide +kernel) rfl) pa_nil))) (pe_callB (call_isiK' K) (by rfl) T.isinstance_ (by decide +kernel) (pa_cons (pv 0) (pa_cons (pe_bltn (v := .ty "tuple") (by rfl) T.tuple_ (by decide +kernel) rfl) pa_nil))) (nomark _)) (pw_or1 (pt_cmpR op_ne (pe_callB (call_isiK' K) (by rfl) T.isinstance_ (by decide +kernel) (pa_cons (pv 1) (pa_cons (pe_bltn (v := .ty "list") (by rfl) T.list_ (by decide +kernel) rfl) pa_nil))) (pe_callB (call_isiK' K) (by rfl) T.isinstance_ (by decide +kernel) (pa_cons (pv 0) (pa_cons (pe_bltn (v := .ty "list") (by rfl) T.list_ (by decide +kernel) rfl) pa_nil))) (nomark _)))))
    (pss_one (ps_ret pe_bl))
    (pss_nil))
  (pss_cons (ps_if (pt_cmpR op_ne (pe_callB (call_lenK K) (by rfl) T.len_ PySem.boot_len (pa_cons (pv 0) pa_nil)) (pe_callB (call_lenK K) (by rfl) T.len_ PySem.boot_len (pa_cons (pv 1) pa_nil)) (nomark _))
    (pss_one (ps_ret pe_bl))
    (pss_nil))
  (pss_cons (ps_for PassesOwn.never rfl (pi_range1 (by rfl) T.range_ (pa_cons (pe_callB (call_lenK K) (by rfl) T.len_ PySem.boot_len (pa_cons (pv 1) pa_nil)) pa_nil)) (pg_name (i := 2) nd rfl (Or.inl rfl))
    (pss_one (ps_if (pt_not (pt_val (pe_own c_law_alike hr (pa_cons (pe_ix (ix_listK K) (pv 0) (pv 2) (fun _ _ => rfl)) (pa_cons (pe_ix (ix_listK K) (pv 1) (pv 2) (fun _ _ => rfl)) pa_nil)))))
      (pss_one (ps_ret pe_bl))
      (pss_nil))))
  (pss_one (ps_ret pe_bl)))))))), ?_⟩
      refine ⟨_, rfl, _, rfl, iteF ?_⟩
      refine ⟨_, rfl, _, .ty "bool", _, _, false, rfl, .ty _, ty, kit_ty (by decide +kernel), _, rfl, iteF ?_⟩
      refine ⟨_, rfl, _, .ty "int", _, _, true, rfl, .ty _, ty, kit_ty (by decide +kernel), _, rfl, iteT ?_⟩
      refine ⟨_, rfl, _, .ty "int", _, _, true, rfl, .ty _, tx, kit_ty (by decide +kernel), _, rfl, iteT ?_⟩
      refine ⟨_, rfl, _, .ty "bool", _, _, false, rfl, .ty _, tx, kit_ty (by decide +kernel), _, rfl, _, rfl, iteT ?_⟩
      refine ⟨_, rfl, _, rfl, rfl, ?_⟩
      rw [decide_eq_true rfl]
      exact k0
    | str z =>
      change TyX K H _ (.type "str") at tx ty
      cases hx
      cases hy
      refine ⟨_, pss_cons (ps_if (pt_cmp (pc_isN (pv 1)) rfl)
    (pss_one (ps_ret (pe_cmp (pc_isN (pv 0)) rfl)))
    (pss_nil))
  (pss_cons (ps_if (pt_val (pe_callB (call_isiK' K) (by rfl) T.isinstance_ (by decide +kernel) (pa_cons (pv 1) (pa_cons (pe_bltn (v := .ty "bool") (by rfl) T.bool_ (by decide +kernel) rfl) pa_nil))))
    (pss_one (ps_ret (pe_and (pe_callB (call_isiK' K) (by rfl) T.isinstance_ (by decide +kernel) (pa_cons (pv 0) (pa_cons (pe_bltn (v := .ty "bool") (by rfl) T.bool_ (by decide +kernel) rfl) pa_nil))) (pe_one (pe_cmpR op_eq (pv 0) (pv 1) (nomark _))))))
    (pss_nil))
  (pss_cons (ps_if (pt_val (pe_callB (call_isiK' K) (by rfl) T.isinstance_ (by decide +kernel) (pa_cons (pv 1) (pa_cons (pe_bltn (v := .ty "int") (by rfl) T.int_ (by decide +kernel) rfl) pa_nil))))
    (pss_one (ps_ret (pe_and (pe_callB (call_isiK' K) (by rfl) T.isinstance_ (by decide +kernel) (pa_cons (pv 0) (pa_cons (pe_bltn (v := .ty "int") (by rfl) T.int_ (by decide +kernel) rfl) pa_nil))) (pe_and (pe_not (pe_callB (call_isiK' K) (by rfl) T.isinstance_ (by decide +kernel) (pa_cons (pv 0) (pa_cons (pe_bltn (v := .ty "bool") (by rfl) T.bool_ (by decide +kernel) rfl) pa_nil)))) (pe_one (pe_cmpR op_eq (pv 0) (pv 1) (nomark _)))))))
    (pss_nil))
  (pss_cons (ps_if (pt_val (pe_callB (call_isiK' K) (by rfl) T.isinstance_ (by decide +kernel) (pa_cons (pv 1) (pa_cons (pe_bltn (v := .ty "str") (by rfl) T.str_ (by decide +kernel) rfl) pa_nil))))
    (pss_one (ps_ret (pe_and (pe_callB (call_isiK' K) (by rfl) T.isinstance_ (by decide +kernel) (pa_cons (pv 0) (pa_cons (pe_bltn (v := .ty "str") (by rfl) T.str_ (by decide +kernel) rfl) pa_nil))) (pe_one (pe_cmpR op_eq (pv 0) (pv 1) (nomark _))))))
    (pss_nil))
  (pss_cons (ps_if (PW.pt (pw_or (pt_cmpR op_ne (pe_callB (call_isiK' K) (by rfl) T.isinstance_ (by decide +kernel) (pa_cons (pv 1) (pa_cons (pe_bltn (v := .ty "tuple") (by rfl) T.tuple_ (by decide +kernel) rfl) pa_nil))) (pe_callB (call_isiK' K) (by rfl) T.isinstance_ (by decide +kernel) (pa_cons (pv 0) (pa_cons (pe_bltn (v := .ty "tuple") (by rfl) T.tuple_ (by decide +kernel) rfl) pa_nil))) (nomark _)) (pw_or1 (pt_cmpR op_ne (pe_callB (call_isiK' K) (by rfl) T.isinstance_ (by decide +kernel) (pa_cons (pv 1) (pa_cons (pe_bltn (v := .ty "list") (by rfl) T.list_ (by decide +kernel) rfl) pa_nil))) (pe_callB (call_isiK' K) (by rfl) T.isinstance_ (by decide +kernel) (pa_cons (pv 0) (pa_cons (pe_bltn (v := .ty "list") (by rfl) T.list_ (by decide +kernel) rfl) pa_nil))) (nomark _)))))
    (pss_one (ps_ret pe_bl))
    (pss_nil))
  (pss_cons (ps_if (pt_cmpR op_ne (pe_callB (call_lenK K) (by rfl) T.len_ PySem.boot_len (pa_cons (pv 0) pa_nil)) (pe_callB (call_lenK K) (by rfl) T.len_ PySem.boot_len (pa_cons (pv 1) pa_nil)) (nomark _))
    (pss_one (ps_ret pe_bl))
    (pss_nil))
  (pss_cons (ps_for PassesOwn.never rfl (pi_range1 (by rfl) T.range_ (pa_cons (pe_callB (call_lenK K) (by rfl) T.len_ PySem.boot_len (pa_cons (pv 1) pa_nil)) pa_nil)) (pg_name (i := 2) nd rfl (Or.inl rfl))
    (pss_one (ps_if (pt_not (pt_val (pe_own c_law_alike hr (pa_cons (pe_ix (ix_listK K) (pv 0) (pv 2) (fun _ _ => rfl)) (pa_cons (pe_ix (ix_listK K) (pv 1) (pv 2) (fun _ _ => rfl)) pa_nil)))))
      (pss_one (ps_ret pe_bl))
      (pss_nil))))
  (pss_one (ps_ret pe_bl)))))))), ?_⟩
      refine ⟨_, rfl, _, rfl, iteF ?_⟩
      refine ⟨_, rfl, _, .ty "bool", _, _, false, rfl, .ty _, ty, kit_ty (by decide +kernel), _, rfl, iteF ?_⟩
      refine ⟨_, rfl, _, .ty "int", _, _, false, rfl, .ty _, ty, kit_ty (by decide +kernel), _, rfl, iteF ?_⟩
      refine ⟨_, rfl, _, .ty "str", _, _, true, rfl, .ty _, ty, kit_ty (by decide +kernel), _, rfl, iteT ?_⟩
      refine ⟨_, rfl, _, .ty "str", _, _, true, rfl, .ty _, tx, kit_ty (by decide +kernel), _, rfl, iteT ?_⟩
      refine ⟨_, rfl, _, rfl, rfl, ?_⟩
      rw [decide_eq_true rfl]
      exact k0
    | list ds =>
      change TyX K H _ (.type "list") at tx ty
      cases hx with
      | @lst a xs _ hxs hxd =>
      cases hy with
      | @lst b ys _ hys hyd =>
      simp only [PyData.depth] at hd
      simp only [fewB, Bool.and_eq_true, decide_eq_true_eq] at hf
      refine ⟨_, pss_cons (ps_if (pt_cmp (pc_isN (pv 1)) rfl)
    (pss_one (ps_ret (pe_cmp (pc_isN (pv 0)) rfl)))
    (pss_nil))
  (pss_cons (ps_if (pt_val (pe_callB (call_isiK' K) (by rfl) T.isinstance_ (by decide +kernel) (pa_cons (pv 1) (pa_cons (pe_bltn (v := .ty "bool") (by rfl) T.bool_ (by decide +kernel) rfl) pa_nil))))
    (pss_one (ps_ret (pe_and (pe_callB (call_isiK' K) (by rfl) T.isinstance_ (by decide +kernel) (pa_cons (pv 0) (pa_cons (pe_bltn (v := .ty "bool") (by rfl) T.bool_ (by decide +kernel) rfl) pa_nil))) (pe_one (pe_cmpR op_eq (pv 0) (pv 1) (nomark _))))))
    (pss_nil))
  (pss_cons (ps_if (pt_val (pe_callB (call_isiK' K) (by rfl) T.isinstance_ (by decide +kernel) (pa_cons (pv 1) (pa_cons (pe_bltn (v := .ty "int") (by rfl) T.int_ (by decide +kernel) rfl) pa_nil))))
    (pss_one (ps_ret (pe_and (pe_callB (call_isiK' K) (by rfl) T.isinstance_ (by decide +kernel) (pa_cons (pv 0) (pa_cons (pe_bltn (v := .ty "int") (by rfl) T.int_ (by decide +kernel) rfl) pa_nil))) (pe_and (pe_not (pe_callB (call_isiK' K) (by rfl) T.isinstance_ (by decide +kernel) (pa_cons (pv 0) (pa_cons (pe_bltn (v := .ty "bool") (by rfl) T.bool_ (by decide +kernel) rfl) pa_nil)))) (pe_one (pe_cmpR op_eq (pv 0) (pv 1) (nomark _)))))))
    (pss_nil))
  (pss_cons (ps_if (pt_val (pe_callB (call_isiK' K) (by rfl) T.isinstance_ (by decide +kernel) (pa_cons (pv 1) (pa_cons (pe_bltn (v := .ty "str") (by rfl) T.str_ (by decide +kernel) rfl) pa_nil))))
    (pss_one (ps_ret (pe_and (pe_callB (call_isiK' K) (by rfl) T.isinstance_ (by decide +kernel) (pa_cons (pv 0) (pa_cons (pe_bltn (v := .ty "str") (by rfl) T.str_ (by decide +kernel) rfl) pa_nil))) (pe_one (pe_cmpR op_eq (pv 0) (pv 1) (nomark _))))))
    (pss_nil))
  (pss_cons (ps_if (PW.pt (pw_or (pt_cmpR op_ne (pe_callB (call_isiK' K) (by rfl) T.isinstance_ (by decide +kernel) (pa_cons (pv 1) (pa_cons (pe_bltn (v := .ty "tuple") (by rfl) T.tuple_ (by decide +kernel) rfl) pa_nil))) (pe_callB (call_isiK' K) (by rfl) T.isinstance_ (by decide +kernel) (pa_cons (pv 0) (pa_cons (pe_bltn (v := .ty "tuple") (by rfl) T.tuple_ (by decide +kernel) rfl) pa_nil))) (nomark _)) (pw_or1 (pt_cmpR op_ne (pe_callB (call_isiK' K) (by rfl) T.isinstance_ (by decide +kernel) (pa_cons (pv 1) (pa_cons (pe_bltn (v := .ty "list") (by rfl) T.list_ (by decide +kernel) rfl) pa_nil))) (pe_callB (call_isiK' K) (by rfl) T.isinstance_ (by decide +kernel) (pa_cons (pv 0) (pa_cons (pe_bltn (v := .ty "list") (by rfl) T.list_ (by decide +kernel) rfl) pa_nil))) (nomark _)))))
    (pss_one (ps_ret pe_bl))
    (pss_nil))
  (pss_cons (ps_if (pt_cmpR op_ne (pe_callB (call_lenK K) (by rfl) T.len_ PySem.boot_len (pa_cons (pv 0) pa_nil)) (pe_callB (call_lenK K) (by rfl) T.len_ PySem.boot_len (pa_cons (pv 1) pa_nil)) (nomark _))
    (pss_one (ps_ret pe_bl))
    (pss_nil))
  (pss_cons (ps_for PassesOwn.never rfl (pi_range1 (by rfl) T.range_ (pa_cons (pe_callB (call_lenK K) (by rfl) T.len_ PySem.boot_len (pa_cons (pv 1) pa_nil)) pa_nil)) (pg_name (i := 2) nd rfl (Or.inl rfl))
    (pss_one (ps_if (pt_not (pt_val (pe_own c_law_alike hr (pa_cons (pe_ix (ix_listK K) (pv 0) (pv 2) (fun _ _ => rfl)) (pa_cons (pe_ix (ix_listK K) (pv 1) (pv 2) (fun _ _ => rfl)) pa_nil)))))
      (pss_one (ps_ret pe_bl))
      (pss_nil))))
  (pss_one (ps_ret pe_bl)))))))), ?_⟩
      refine ⟨_, rfl, _, rfl, iteF ?_⟩
      refine ⟨_, rfl, _, .ty "bool", _, _, false, rfl, .ty _, ty, kit_ty (by decide +kernel), _, rfl, iteF ?_⟩
      refine ⟨_, rfl, _, .ty "int", _, _, false, rfl, .ty _, ty, kit_ty (by decide +kernel), _, rfl, iteF ?_⟩
      refine ⟨_, rfl, _, .ty "str", _, _, false, rfl, .ty _, ty, kit_ty (by decide +kernel), _, rfl, iteF ?_⟩
      refine ⟨_, rfl, _, .ty "tuple", _, _, false, rfl, .ty _, ty, kit_ty (by decide +kernel), _, rfl, _, .ty "tuple", _, _, false, rfl, .ty _, tx, kit_ty (by decide +kernel), rfl, _, rfl, iteF ?_⟩
      refine ⟨_, rfl, _, .ty "list", _, _, true, rfl, .ty _, ty, kit_ty (by decide +kernel), _, rfl, _, .ty "list", _, _, true, rfl, .ty _, tx, kit_ty (by decide +kernel), rfl, _, rfl, iteF ?_⟩
      have e1 := DpAll.length hxd
      have e2 := DpAll.length hyd
      refine ⟨_, rfl, a, xs, rfl, .inl hxs, _, rfl, b, ys, rfl, .inl hys, rfl, _, rfl, ?_⟩
      refine ite2 (fun c => absurd c (by rw [e1, e2]; simp)) (fun _ => ?_)
      refine ⟨_, rfl, b, ys, rfl, .inl hys, _, rfl, by omega, by omega, ?_⟩
      refine for_range (lo := 0) (n := ys.length) (fun i σ H' => (∃ u, σ = [some (.ref a), some (.ref b), u]) ∧ Fr [] H H') ⟨⟨none, rfl⟩, Fr.refl _ _⟩ ?_ ?_
      · rintro i σ H' hi ⟨⟨u, rfl⟩, ff⟩
        obtain ⟨x, hxi⟩ : ∃ x, xs[i]? = some x := ⟨xs[i]'(by omega), List.getElem?_eq_getElem _⟩
        obtain ⟨y, hyi⟩ : ∃ y, ys[i]? = some y := ⟨ys[i]'(by omega), List.getElem?_eq_getElem _⟩
        obtain ⟨d1, g1, hd1⟩ := DpAll.get hxd hxi
        obtain ⟨d2, g2, hd2⟩ := DpAll.get hyd hyi
        have : d2 = d1 := by rw [g1] at g2; exact (Option.some.inj g2).symm
        subst this
        have ax : atI xs (0 + (i : Int)) = some x := by rw [Int.zero_add]; exact atI_nat hxi
        have ay : atI ys (0 + (i : Int)) = some y := by rw [Int.zero_add]; exact atI_nat hyi
        have md := List.mem_of_getElem? g1
        have dm := depth_mem md
        refine ⟨_, rfl, _, rfl, a, xs, _, x, rfl, rfl, ff.sqL0 hxs, ax, _, rfl, _, rfl, b, ys, _, y, rfl, rfl, ff.sqL0 hys, ay, x, y, _, rfl, fr_dp0 ff _ _ hd1, fr_dp0 ff _ _ hd2, by omega, few_mem md hf.2, fun H2 f2 => ⟨_, rfl, ?_⟩⟩
        exact ⟨⟨_, rfl⟩, ff.trans f2⟩
      · rintro σ H' ⟨_, ff⟩
        exact k H' ff
    | tuple ds =>
      change TyX K H _ (.type "tuple") at tx ty
      cases hx with
      | @tup a xs _ hxs hxd =>
      cases hy with
      | @tup b ys _ hys hyd =>
      simp only [PyData.depth] at hd
      simp only [fewB, Bool.and_eq_true, decide_eq_true_eq] at hf
      refine ⟨_, pss_cons (ps_if (pt_cmp (pc_isN (pv 1)) rfl)
    (pss_one (ps_ret (pe_cmp (pc_isN (pv 0)) rfl)))
    (pss_nil))
  (pss_cons (ps_if (pt_val (pe_callB (call_isiK' K) (by rfl) T.isinstance_ (by decide +kernel) (pa_cons (pv 1) (pa_cons (pe_bltn (v := .ty "bool") (by rfl) T.bool_ (by decide +kernel) rfl) pa_nil))))
    (pss_one (ps_ret (pe_and (pe_callB (call_isiK' K) (by rfl) T.isinstance_ (by decide +kernel) (pa_cons (pv 0) (pa_cons (pe_bltn (v := .ty "bool") (by rfl) T.bool_ (by decide +kernel) rfl) pa_nil))) (pe_one (pe_cmpR op_eq (pv 0) (pv 1) (nomark _))))))
    (pss_nil))
  (pss_cons (ps_if (pt_val (pe_callB (call_isiK' K) (by rfl) T.isinstance_ (by decide +kernel) (pa_cons (pv 1) (pa_cons (pe_bltn (v := .ty "int") (by rfl) T.int_ (by decide +kernel) rfl) pa_nil))))
    (pss_one (ps_ret (pe_and (pe_callB (call_isiK' K) (by rfl) T.isinstance_ (by decide +kernel) (pa_cons (pv 0) (pa_cons (pe_bltn (v := .ty "int") (by rfl) T.int_ (by decide +kernel) rfl) pa_nil))) (pe_and (pe_not (pe_callB (call_isiK' K) (by rfl) T.isinstance_ (by decide +kernel) (pa_cons (pv 0) (pa_cons (pe_bltn (v := .ty "bool") (by rfl) T.bool_ (by decide +kernel) rfl) pa_nil)))) (pe_one (pe_cmpR op_eq (pv 0) (pv 1) (nomark _)))))))
    (pss_nil))
  (pss_cons (ps_if (pt_val (pe_callB (call_isiK' K) (by rfl) T.isinstance_ (by decide +kernel) (pa_cons (pv 1) (pa_cons (pe_bltn (v := .ty "str") (by rfl) T.str_ (by decide +kernel) rfl) pa_nil))))
    (pss_one (ps_ret (pe_and (pe_callB (call_isiK' K) (by rfl) T.isinstance_ (by decide +kernel) (pa_cons (pv 0) (pa_cons (pe_bltn (v := .ty "str") (by rfl) T.str_ (by decide +kernel) rfl) pa_nil))) (pe_one (pe_cmpR op_eq (pv 0) (pv 1) (nomark _))))))
    (pss_nil))
  (pss_cons (ps_if (PW.pt (pw_or (pt_cmpR op_ne (pe_callB (call_isiK' K) (by rfl) T.isinstance_ (by decide +kernel) (pa_cons (pv 1) (pa_cons (pe_bltn (v := .ty "tuple") (by rfl) T.tuple_ (by decide +kernel) rfl) pa_nil))) (pe_callB (call_isiK' K) (by rfl) T.isinstance_ (by decide +kernel) (pa_cons (pv 0) (pa_cons (pe_bltn (v := .ty "tuple") (by rfl) T.tuple_ (by decide +kernel) rfl) pa_nil))) (nomark _)) (pw_or1 (pt_cmpR op_ne (pe_callB (call_isiK' K) (by rfl) T.isinstance_ (by decide +kernel) (pa_cons (pv 1) (pa_cons (pe_bltn (v := .ty "list") (by rfl) T.list_ (by decide +kernel) rfl) pa_nil))) (pe_callB (call_isiK' K) (by rfl) T.isinstance_ (by decide +kernel) (pa_cons (pv 0) (pa_cons (pe_bltn (v := .ty "list") (by rfl) T.list_ (by decide +kernel) rfl) pa_nil))) (nomark _)))))
    (pss_one (ps_ret pe_bl))
    (pss_nil))
  (pss_cons (ps_if (pt_cmpR op_ne (pe_callB (call_lenK K) (by rfl) T.len_ PySem.boot_len (pa_cons (pv 0) pa_nil)) (pe_callB (call_lenK K) (by rfl) T.len_ PySem.boot_len (pa_cons (pv 1) pa_nil)) (nomark _))
    (pss_one (ps_ret pe_bl))
    (pss_nil))
  (pss_cons (ps_for PassesOwn.never rfl (pi_range1 (by rfl) T.range_ (pa_cons (pe_callB (call_lenK K) (by rfl) T.len_ PySem.boot_len (pa_cons (pv 1) pa_nil)) pa_nil)) (pg_name (i := 2) nd rfl (Or.inl rfl))
    (pss_one (ps_if (pt_not (pt_val (pe_own c_law_alike hr (pa_cons (pe_ix (ix_tupK K) (pv 0) (pv 2) (fun _ _ => rfl)) (pa_cons (pe_ix (ix_tupK K) (pv 1) (pv 2) (fun _ _ => rfl)) pa_nil)))))
      (pss_one (ps_ret pe_bl))
      (pss_nil))))
  (pss_one (ps_ret pe_bl)))))))), ?_⟩
      refine ⟨_, rfl, _, rfl, iteF ?_⟩
      refine ⟨_, rfl, _, .ty "bool", _, _, false, rfl, .ty _, ty, kit_ty (by decide +kernel), _, rfl, iteF ?_⟩
      refine ⟨_, rfl, _, .ty "int", _, _, false, rfl, .ty _, ty, kit_ty (by decide +kernel), _, rfl, iteF ?_⟩
      refine ⟨_, rfl, _, .ty "str", _, _, false, rfl, .ty _, ty, kit_ty (by decide +kernel), _, rfl, iteF ?_⟩
      refine ⟨_, rfl, _, .ty "tuple", _, _, true, rfl, .ty _, ty, kit_ty (by decide +kernel), _, rfl, _, .ty "tuple", _, _, true, rfl, .ty _, tx, kit_ty (by decide +kernel), rfl, _, rfl, iteF ?_⟩
      refine ⟨_, rfl, _, .ty "list", _, _, false, rfl, .ty _, ty, kit_ty (by decide +kernel), _, rfl, _, .ty "list", _, _, false, rfl, .ty _, tx, kit_ty (by decide +kernel), rfl, _, rfl, iteF ?_⟩
      have e1 := DpAll.length hxd
      have e2 := DpAll.length hyd
      refine ⟨_, rfl, a, xs, rfl, .inr hxs, _, rfl, b, ys, rfl, .inr hys, rfl, _, rfl, ?_⟩
      refine ite2 (fun c => absurd c (by rw [e1, e2]; simp)) (fun _ => ?_)
      refine ⟨_, rfl, b, ys, rfl, .inr hys, _, rfl, by omega, by omega, ?_⟩
      refine for_range (lo := 0) (n := ys.length) (fun i σ H' => (∃ u, σ = [some (.ref a), some (.ref b), u]) ∧ Fr [] H H') ⟨⟨none, rfl⟩, Fr.refl _ _⟩ ?_ ?_
      · rintro i σ H' hi ⟨⟨u, rfl⟩, ff⟩
        obtain ⟨x, hxi⟩ : ∃ x, xs[i]? = some x := ⟨xs[i]'(by omega), List.getElem?_eq_getElem _⟩
        obtain ⟨y, hyi⟩ : ∃ y, ys[i]? = some y := ⟨ys[i]'(by omega), List.getElem?_eq_getElem _⟩
        obtain ⟨d1, g1, hd1⟩ := DpAll.get hxd hxi
        obtain ⟨d2, g2, hd2⟩ := DpAll.get hyd hyi
        have : d2 = d1 := by rw [g1] at g2; exact (Option.some.inj g2).symm
        subst this
        have ax : atI xs (0 + (i : Int)) = some x := by rw [Int.zero_add]; exact atI_nat hxi
        have ay : atI ys (0 + (i : Int)) = some y := by rw [Int.zero_add]; exact atI_nat hyi
        have md := List.mem_of_getElem? g1
        have dm := depth_mem md
        refine ⟨_, rfl, _, rfl, a, xs, _, x, rfl, rfl, ff.sqT hxs, ax, _, rfl, _, rfl, b, ys, _, y, rfl, rfl, ff.sqT hys, ay, x, y, _, rfl, fr_dp0 ff _ _ hd1, fr_dp0 ff _ _ hd2, by omega, few_mem md hf.2, fun H2 f2 => ⟨_, rfl, ?_⟩⟩
        exact ⟨⟨_, rfl⟩, ff.trans f2⟩
      · rintro σ H' ⟨_, ff⟩
        exact k H' ff
end TT


namespace TT
open PySem L2

def spBook (K : PySem.W.Frag) : Sp := fun vs H Q _ => ∃ (b q : Addr) (z : Str), vs = [.ref b, .str z] ∧ BoxAt H b q ∧ LettersOk z ∧
  ∀ (l : Addr) (us : List V) (rs : List Ru) (H' : Hp), Fr [b, q] H H' → BoxAt H' b q → H l = none → l ∉ [b, q] → H' l = some (.lst us) → DpAll K H' us (rs.map Ru.data) → (∀ r ∈ rs, RuOk r) → rs.length ≤ 16 → Q (.ref l) H'
theorem ok_book (F : Fun K "_law_book" "_law_book" s__law_book f fd) (T : Txt K mg) (c_law_take : Callee P w K mg base 1 "_law_take" P__law_take (spTake K)) (c_law_rule : Callee P w K mg base 6 "_law_rule" P__law_rule (spRule K)) :
    FnOk P w K mg base CX0 7 f fd P__law_book (spBook K) := by
  refine F.ok sc__law_book (fun vs H Q E h => ?_) (fun cdv A outer s H vs Q E hr h => ?_)
  · obtain ⟨b, q, z, rfl, _⟩ := h
    rfl
  obtain ⟨b, q, z, rfl, hB, hz, k⟩ := h
  have nd := (sc__law_book).nd
  have z1 := hz.1
  have z2 := hz.2.1
  refine ⟨_, pss_cons (ps_set (i := 2) nd rfl (Or.inr rfl) (pe_listRg rfl (by rfl) T.list_ (prg_2 (by rfl) T.range_ pe_int pe_int)))
  (pss_cons (ps_set (i := 3) nd rfl (Or.inr rfl) (pe_op op_cat (pe_lst (pa_cons pe_int pa_nil)) (pe_lc (own := [("_law_k", 6)]) (g := gName 6) (tt := tYes) (by rfl) nd (pi_range1 (by rfl) T.range_ (pa_cons (pe_ix (ix_listK K) (pe_lst (pa_cons pe_int (pa_cons pe_int (pa_cons pe_int (pa_cons pe_int pa_nil))))) (pe_own c_law_take hr (pa_cons (pv 0) (pa_cons pe_int pa_nil))) (fun _ _ => rfl)) pa_nil)) (blkOk_by (N := N__law_book) (sc := defScope s__law_book) (own := [("_law_k", 6)]) (by decide +kernel)) (fun _ _ _ _ _ => (pg_name (i := 6) nd rfl (Or.inl rfl))) (fun _ _ _ _ _ => pts_nil) (fun _ _ _ _ _ => (pe_bmK K PySem.F.plainAttrs_list PySem.F.slot_list_pop PySem.F.type_list_pop mt_popAt (pv 2) (pa_cons (pe_own c_law_take hr (pa_cons (pv 0) (pa_cons (pe_callB (call_lenK K) (by rfl) T.len_ PySem.boot_len (pa_cons (pv 2) pa_nil)) pa_nil))) pa_nil))))))
  (pss_cons (ps_setLc (i := 4) (own := [("_law_k", 6)]) (g := gName 6) (tt := tYes) (by rfl) nd rfl rfl (sw_true rfl rfl rfl (by decide +kernel)) (pi_range1 (by rfl) T.range_ (pa_cons (pe_own c_law_take hr (pa_cons (pv 0) (pa_cons (pe_ix (ix_listK K) (pe_lst (pa_cons pe_int (pa_cons pe_int pa_nil))) (pe_own c_law_take hr (pa_cons (pv 0) (pa_cons pe_int pa_nil))) (fun _ _ => rfl)) pa_nil))) pa_nil)) (blkOk_by (N := N__law_book) (sc := defScope s__law_book) (own := [("_law_k", 6)]) (by decide +kernel)) (fun _ _ _ _ _ => (pg_name (i := 6) nd rfl (Or.inl rfl))) (fun _ _ _ _ _ => pts_nil) (fun _ _ _ _ _ => (pe_own c_law_rule hr (pa_cons (pv 0) (pa_cons (pv 1) (pa_cons (pv 3) pa_nil))))))
  (pss_cons (ps_for PassesOwn.never rfl (pi_listK K (pv 3)) (pg_name (i := 5) nd rfl (Or.inl rfl))
    (pss_one (ps_if (pt_cmpR op_gt (pe_own c_law_take hr (pa_cons (pv 0) (pa_cons pe_int pa_nil))) pe_int (nomark _))
      (pss_one (ps_expr (pe_bmK K PySem.F.plainAttrs_list PySem.F.slot_list_append PySem.F.type_list_append mt_append (pv 4) (pa_cons (pe_tup (pa_cons (pv 5) (pa_cons pe_non (pa_cons (pe_tup (pa_cons pe_str pa_nil)) (pa_cons (pe_tup (pa_cons (pe_ix ix_str (pv 1) (pe_own c_law_take hr (pa_cons (pv 0) (pa_cons (pe_callB call_len_str (by rfl) T.len_ PySem.boot_len (pa_cons (pv 1) pa_nil)) pa_nil))) (fun _ _ => rfl)) (pa_cons (pe_tup pa_nil) pa_nil))) pa_nil))))) pa_nil))))
      (pss_nil))))
  (pss_one (ps_ret (pv 4)))))), ?_⟩
  refine ⟨1, 6, rfl, rfl, .of_le (by decide) (by decide) (by decide) (by decide), fun l0 hl0 => ?_⟩
  have nl0 := hB.nb hl0
  have f0 : Fr [] H (upd H l0 (.lst (([1, 2, 3, 4, 5] : List Int).map V.int))) := Fr.new hl0
  have hB0 := hB.fr0 f0
  have el0 : upd H l0 (.lst (([1, 2, 3, 4, 5] : List Int).map V.int)) l0 = some (.lst (([1, 2, 3, 4, 5] : List Int).map V.int)) := upd_same
  have erg : rgV 1 6 = (([1, 2, 3, 4, 5] : List Int).map V.int) := by decide +kernel
  rw [erg]
  generalize upd H l0 (.lst (([1, 2, 3, 4, 5] : List Int).map V.int)) = H0 at f0 hB0 el0 ⊢
  -- states
  refine ⟨(by show 1 ≤ sizeLine; decide), fun s0 hs0 => ⟨(by show 4 ≤ sizeLine; decide), fun p hp => ?_⟩⟩
  have f1 : Fr [] H0 (upd H0 s0 (.lst [.int 0])) := Fr.new hs0
  have n0s : l0 ≠ s0 := ne_of_none el0 hs0
  have ns0 := hB0.nb hs0
  have f2 : Fr [] (upd H0 s0 (.lst [.int 0])) (upd (upd H0 s0 (.lst [.int 0])) p (.lst [.int 0, .int 1, .int 2, .int 5])) := Fr.new hp
  have np := (hB0.fr0 f1).nb hp
  refine ⟨_, rfl, b, q, 4, rfl, (hB0.fr0 f1).fr0 f2, by decide, by decide, fun r H1 r0 r4 f3 hB1 => ?_⟩
  obtain ⟨m, em, hm⟩ := four_at 0 1 2 5 r r0 r4
  refine ⟨p, _, _, _, rfl, rfl, SqL.of (f3.keep _ _ np upd_same), em, m, rfl, by omega, by omega, fun D hD => ?_⟩
  have fa : Fr [b, q] H H1 := ((f0.trans f1).trans f2).mono0.trans f3
  have hl1 : H1 l0 = some (.lst (([1, 2, 3, 4, 5] : List Int).map V.int)) := f3.keep _ _ nl0 ((f1.trans f2).keep _ _ (by simp) el0)
  have hs1 : H1 s0 = some (.lst [.int 0]) := f3.keep _ _ ns0 (f2.keep _ _ (by simp) upd_same)
  have hs00 : H s0 = none := f0.free hs0
  have nD := hB1.nb hD
  have hD0 := fa.freeS nD hD
  have nlD : l0 ≠ D := ne_of_none hl1 hD
  have nsD : s0 ≠ D := ne_of_none hs1 hD
  refine lc_range (lo := 0) (n := m.toNat) (fun i H' => ∃ (left ss : List Int), Fr [b, q] H H' ∧ BoxAt H' b q ∧ H' l0 = some (.lst (left.map V.int)) ∧ H' s0 = some (.lst [.int 0]) ∧ H' D = some (.lst (ss.map V.int)) ∧ left.length = 5 - i ∧ ss.length = i ∧ (∀ c ∈ left, 0 ≤ c ∧ c ≤ 5) ∧ ∀ c ∈ ss, 0 ≤ c ∧ c ≤ 5)
    ⟨[1, 2, 3, 4, 5], [], fa.trans (Fr.new hD), hB1.upd nD, by rw [upd_ne nlD]; exact hl1, by rw [upd_ne nsD]; exact hs1, upd_same, rfl, rfl, by decide, by simp⟩ ?_ ?_
  · rintro i H' hi ⟨left, ss, ff, hBi, hli, hsi, hDi, e1, e2, ok1, ok2⟩
    have hne : 0 < left.length := by omega
    refine ⟨rfl, _, rfl, .inl ⟨rfl, _, SqL.of hli⟩, _, rfl, _, rfl, l0, _, rfl, .inl (SqL.of hli), b, q, _, rfl, hBi, ?_, ?_, fun r' H2 g0 g1 f4 hB2 => ?_⟩
    · rw [List.length_map]; omega
    · rw [List.length_map]; omega
    rw [List.length_map] at g1
    have hl2 := f4.keep _ _ nl0 hli
    have hD2 := f4.keep _ _ nD hDi
    have hs2 := f4.keep _ _ ns0 hsi
    have hr' : r'.toNat < left.length := by omega
    have er : r' = ((r'.toNat : Nat) : Int) := by omega
    refine ⟨l0, _, r', r'.toNat, V.int left[r'.toNat], rfl, rfl, hl2, by omega, by omega, ?_, ?_, _, (by rw [upd_ne nlD.symm]; exact hD2), ?_, ?_⟩
    · rw [List.length_map]
      have := (ixN_seq (ixN_nat hr')).1
      rw [← er] at this
      exact this
    · rw [List.getElem?_map, List.getElem?_eq_getElem hr']; rfl
    · rw [List.length_map]; exact small1000 (by omega)
    · refine ⟨left.eraseIdx r'.toNat, ss ++ [left[r'.toNat]], ((ff.trans f4).mut hl0).mut hD0, (hB2.upd nl0).upd nD, ?_, ?_, ?_, ?_, ?_, ?_, ?_⟩
      · rw [upd_ne nlD, upd_same, map_erase]
      · rw [upd_ne nsD, upd_ne n0s.symm]; exact hs2
      · rw [upd_same, List.map_append]; rfl
      · rw [List.length_eraseIdx]; simp [hr']; omega
      · simp [e2]
      · intro c hc
        exact ok1 c (List.mem_of_mem_eraseIdx hc)
      · intro c hc
        rcases List.mem_append.mp hc with hc | hc
        · exact ok2 c hc
        · simp at hc; subst hc; exact ok1 _ (List.getElem_mem _)
  rintro H' ⟨left, ss, ff, hBi, hli, hsi, hDi, e1, e2, ok1, ok2⟩
  refine ⟨s0, D, _, _, rfl, rfl, hsi, hDi, sz1000 (by simp; omega), fun sA hsA => ?_⟩
  have nsA := hBi.nb hsA
  have hsA0 := ff.freeS nsA hsA
  have ess : upd H' sA (.lst ([.int 0] ++ ss.map V.int)) sA = some (.lst ((0 :: ss).map V.int)) := upd_same
  replace ff := ff.trans (Fr.new (S := [b, q]) (o := .lst ([.int 0] ++ ss.map V.int)) hsA)
  have hB2 := hBi.upd (o := .lst ([.int 0] ++ ss.map V.int)) nsA
  generalize upd H' sA (.lst ([.int 0] ++ ss.map V.int)) = H2 at ess ff hB2 ⊢
  have sok : ∀ s ∈ (0 :: ss), 0 ≤ s ∧ s ≤ 5 := by
    intro s hs
    rcases List.mem_cons.mp hs with rfl | h
    · omega
    · exact ok2 s h
  have sl : (0 :: ss).length ≤ 6 := by simp; omega
  -- the rules drawn
  refine ⟨_, rfl, (by show 2 ≤ sizeLine; decide), fun p2 hp2 => ?_⟩
  have np2 := hB2.nb hp2
  refine ⟨_, rfl, b, q, 2, rfl, hB2.upd np2, by decide, by decide, fun r1 H3 r10 r12 f5 hB3 => ?_⟩
  obtain ⟨m2, em2, hm2⟩ := two_at 5 11 r1 r10 r12
  refine ⟨p2, _, _, _, rfl, rfl, SqL.of (f5.keep _ _ np2 upd_same), em2, b, q, m2, rfl, hB3, by omega, by omega, fun r2 H4 r20 r22 f6 hB4 => ⟨r2, rfl, by omega, by omega, fun fA hfA => ?_⟩⟩
  have ff4 : Fr [b, q] H H4 := (((ff.trans (Fr.new hp2)).trans f5).trans f6)
  have es4 : H4 sA = some (.lst ((0 :: ss).map V.int)) := f6.keep _ _ nsA (f5.keep _ _ nsA ((Fr.new (S := []) hp2).keep _ _ (by simp) ess))
  have nfA := hB4.nb hfA
  have hfA0 := ff4.freeS nfA hfA
  have nAf : sA ≠ fA := ne_of_none es4 hfA
  refine lc_range (lo := 0) (n := r2.toNat) (fun i H' => ∃ (rs : List Ru) (us : List V), Fr [b, q] H H' ∧ BoxAt H' b q ∧ H' sA = some (.lst ((0 :: ss).map V.int)) ∧ H' fA = some (.lst us) ∧ DpAll K H' us (rs.map Ru.data) ∧ (∀ r ∈ rs, RuOk r) ∧ rs.length = i)
    ⟨[], [], ff4.trans (Fr.new hfA), hB4.upd nfA, by rw [upd_ne nAf]; exact es4, upd_same, .nil, by simp, rfl⟩ ?_ ?_
  · rintro i H' hi ⟨rs, us, gf, hBi, hsi, hfi, hdp, hok, hl⟩
    refine ⟨rfl, _, rfl, _, rfl, _, rfl, b, q, sA, z, (0 :: ss), rfl, hBi, hz, hsi, nsA, by simp, sl, sok, fun r v H5 hro f7 hB5 hv => ?_⟩
    have ul : us.length = rs.length := by rw [DpAll.length hdp, List.length_map]
    have hf5 := f7.keep _ _ nfA hfi
    have ft : Fr [fA] H5 (upd H5 fA (.lst (us ++ [v]))) := Fr.lst hf5 (by simp)
    refine ⟨us, hf5, small1000 (by omega), rs ++ [r], us ++ [v], (gf.trans f7).mut hfA0, hB5.upd nfA, by rw [upd_ne nAf]; exact f7.keep _ _ nsA hsi, upd_same, ?_, ?_, by simp [hl]⟩
    · rw [List.map_append]
      exact DpAll.append (ft.dpAll _ _ (tupy_rus _) (f7.dpAll _ _ (tupy_rus _) hdp)) (.cons (ft.dp _ _ (tupy_ru r) hv) .nil)
    · intro r' hr'
      rcases List.mem_append.mp hr' with h | h
      · exact hok r' h
      · rw [List.mem_singleton.mp h]; exact hro
  rintro H5 ⟨rs, us, gf, hB5, hs5, hf5, hdp, hok, hl⟩
  refine ⟨_, rfl, sA, rfl, ⟨_, SqL.of hs5⟩, ?_⟩
  refine for_list (K := K) (a := sA) (xs := (0 :: ss).map V.int) (fun i σ H' => ∃ (rs : List Ru) (us : List V) (u5 u6 : Option V), σ = [some (.ref b), some (.str z), some (.ref l0), some (.ref sA), some (.ref fA), u5, u6] ∧ Fr [b, q] H H' ∧ BoxAt H' b q ∧ H' sA = some (.lst ((0 :: ss).map V.int)) ∧ H' fA = some (.lst us) ∧ DpAll K H' us (rs.map Ru.data) ∧ (∀ r ∈ rs, RuOk r) ∧ rs.length ≤ 10 + i)
    ⟨rs, us, none, none, rfl, gf, hB5, hs5, hf5, hdp, hok, by omega⟩ (fun i σ H' _ ⟨_, _, _, _, _, _, _, h, _⟩ => SqL.of h) ?_ ?_
  · rintro i x σ H' hx ⟨rs, us, u5, u6, rfl, gf, hBi, hsi, hfi, hdp, hok, hl⟩
    rw [List.getElem?_map] at hx
    obtain ⟨st, hst, rfl⟩ := Option.map_eq_some_iff.mp hx
    have mst := List.mem_of_getElem? hst
    have hil : i < (0 :: ss).length := (List.getElem?_eq_some_iff.mp hst).1
    refine ⟨_, rfl, b, q, 4, rfl, hBi, by decide, by decide, fun r3 H6 r30 r34 f8 hB6 => ⟨_, _, rfl, rfl, _, rfl, ?_⟩⟩
    have gf6 := gf.trans f8
    have hs6 := f8.keep _ _ nsA hsi
    have hf6 := f8.keep _ _ nfA hfi
    have hd6 := f8.dpAll _ _ (tupy_rus _) hdp
    refine ite2 (fun _ => ?_) (fun _ => ⟨rs, us, _, _, rfl, gf6, hB6, hs6, hf6, hd6, hok, by omega⟩)
    refine ⟨_, rfl, .inl ⟨rfl, _, SqL.of hf6⟩, _, rfl, (by show 1 ≤ sizeLine; decide), fun t0 h0 => ?_⟩
    have g0 : Fr [] H6 (upd H6 t0 (.tup [.str "any"])) := Fr.new h0
    have a0 : Dp K (upd H6 t0 (.tup [.str "any"])) (.ref t0) gAny.data := dp_word_of (SqT.of upd_same)
    refine ⟨_, rfl, _, rfl, _, rfl, z, rfl, hz.len, b, q, _, rfl, hB6.fr0 g0, by omega, by omega, fun r4 H7 r40 r41 f9 hB7 => ?_⟩
    obtain ⟨c, ec, hc⟩ := hz.at r40 r41
    refine ⟨z, r4, c, rfl, rfl, hz.len, ec, Nat.zero_le _, fun t1 h1 => ⟨(by show 2 ≤ sizeLine; decide), fun t2 h2 => ⟨(by show 4 ≤ sizeLine; decide), fun t3 h3 => ?_⟩⟩⟩
    have g1 : Fr [] H7 (upd H7 t1 (.tup [])) := Fr.new h1
    have g2 : Fr [] _ (upd (upd H7 t1 (.tup [])) t2 (.tup [.str ⟨#[c]⟩, .ref t1])) := Fr.new h2
    have g3 : Fr [] _ (upd (upd (upd H7 t1 (.tup [])) t2 (.tup [.str ⟨#[c]⟩, .ref t1])) t3 (.tup [.int st, .non, .ref t0, .ref t2])) := Fr.new h3
    have gg := (g1.trans g2).trans g3
    have a2 : Dp K _ (.ref t2) (Ge.node ⟨#[c]⟩ []).data := dp_node_of (g3.sqT (SqT.of upd_same)) ((g2.trans g3).sqT (SqT.of upd_same)) (by rw [Ge.datas_nil]; exact .nil)
    have hrule : Dp K (upd (upd (upd H7 t1 (.tup [])) t2 (.tup [.str ⟨#[c]⟩, .ref t1])) t3 (.tup [.int st, .non, .ref t0, .ref t2])) (.ref t3) (Ru.mk st .none gAny (.node ⟨#[c]⟩ [])).data :=
      .tup (SqT.of upd_same) (.cons (.int _) (.cons (by simp only [NestedKey.data]; exact .non) (.cons (gg.ge (f9.ge a0)) (.cons a2 .nil))))
    have fx : Fr [b, q] H6 (upd (upd (upd H7 t1 (.tup [])) t2 (.tup [.str ⟨#[c]⟩, .ref t1])) t3 (.tup [.int st, .non, .ref t0, .ref t2])) := (g0.mono0.trans f9).trans gg.mono0
    have hB8 := hB7.fr0 gg
    generalize upd (upd (upd H7 t1 (.tup [])) t2 (.tup [.str ⟨#[c]⟩, .ref t1])) t3 (.tup [.int st, .non, .ref t0, .ref t2]) = H8 at hrule fx hB8 ⊢
    have hf8 := fx.keep _ _ nfA hf6
    have ul : us.length = rs.length := by rw [DpAll.length hdp, List.length_map]
    have ft : Fr [fA] H8 (upd H8 fA (.lst (us ++ [.ref t3]))) := Fr.lst hf8 (by simp)
    refine ⟨fA, us, _, rfl, rfl, hf8, small1000 (by omega), rs ++ [Ru.mk st .none gAny (.node ⟨#[c]⟩ [])], us ++ [.ref t3], _, _, rfl, (gf6.trans fx).mut hfA0, hB8.upd nfA, by rw [upd_ne nAf]; exact fx.keep _ _ nsA hs6, upd_same, ?_, ?_, by simp; omega⟩
    · rw [List.map_append]
      exact DpAll.append (ft.dpAll _ _ (tupy_rus _) (fx.dpAll _ _ (tupy_rus _) hd6)) (.cons (ft.dp _ _ (tupy_ru _) hrule) .nil)
    · intro r' hr'
      rcases List.mem_append.mp hr' with h | h
      · exact hok r' h
      · rw [List.mem_singleton.mp h]
        refine ⟨(sok st mst).1, (sok st mst).2, .inl rfl, ?_, ?_, ?_, ?_, ?_, ?_⟩
        · simp only [Wf]; exact .inl rfl
        · simp only [Ge.size]; decide
        · simp only [Ge.levels]; decide
        · simp only [Wf, WfAll]; exact ⟨hc, by simp, True.intro⟩
        · simp only [Ge.size, Ge.sizes]; decide
        · simp only [Ge.levels, Ge.levelsAll]; decide
  · rintro σ H' ⟨rs, us, u5, u6, rfl, gf, hBi, hsi, hfi, hdp, hok, hl⟩
    rw [List.length_map] at hl
    exact ⟨_, rfl, k fA us rs H' gf hBi hfA0 nfA hfi hdp hok (by omega)⟩
end TT


namespace TT
open PySem PySem.Spec PyProof.Rows L2
theorem Tabs.box {PT : Addr} {H H' : Hp} {b q : Addr} (t : LamX.Tabs (TT1 PT) H) (B : BoxAt H b q) (f : Fr [b, q] H H') : LamX.Tabs (TT1 PT) H' := by
  obtain ⟨z, ns, hb, hq, _⟩ := B
  have nb : ∀ {a o}, H a = some o → (∀ xs, o ≠ .lst xs) → a ∉ [b, q] := by
    intro a o e n m
    rcases List.mem_cons.mp m with m | m
    · rw [m, hb] at e
      cases e
      exact n _ rfl
    · rw [List.mem_singleton.mp m, hq] at e
      cases e
      exact n _ rfl
  intro p hp
  obtain ⟨ps, h1, h2, h3⟩ := t p hp
  refine ⟨ps, f.keep _ _ (nb h1 fun _ z => nomatch z) h1, h2, fun pos cv hc => ?_⟩
  obtain ⟨c, e1, e2⟩ := h3 pos cv hc
  exact ⟨c, e1, f.keep _ _ (nb e2 fun _ z => by unfold LamX.CodeO at z; cases z) e2⟩
theorem Tabs.fr0 {PT : Addr} {H H' : Hp} (t : LamX.Tabs (TT1 PT) H) (f : Fr [] H H') : LamX.Tabs (TT1 PT) H' := t.ext fun b o e => f.keep b o (by simp) e
theorem wfAll_of {T : List NestedKey → Prop} {gs : List Ge} (h : ∀ g ∈ gs, Wf T g ∧ g.levels ≤ 3) : WfAll T gs ∧ Ge.levelsAll gs ≤ 3 := by
  induction gs with
  | nil => exact ⟨by simp [WfAll], by simp [Ge.levelsAll]⟩
  | cons g gs ih =>
    obtain ⟨a, b⟩ := ih fun x hx => h x (by simp [hx])
    obtain ⟨c, d⟩ := h g (by simp)
    simp only [WfAll, Ge.levelsAll]
    exact ⟨⟨c, a⟩, by omega⟩
theorem shaped_lst {gs : List Ge} (h : ∀ g ∈ gs, Wf PatTip g ∧ g.levels ≤ 3) : SeqAt.shaped (.list (Ge.datas gs)) = true := by
  obtain ⟨a, b⟩ := wfAll_of h
  have q := lay_ges patTip_lay gs a
  exact shaped_of (by simp only [PyData.canLay0]; exact q.1) (by simp only [PyData.depth]; omega)
theorem any_key (gs : List Ge) (g : Ge) : (Ge.datas gs).any (fun z => PyData.eqv z g.data) = decide (g.key ∈ gs.map Ge.key) := by
  induction gs with
  | nil => simp [Ge.datas_nil]
  | cons x gs ih =>
    rw [Ge.datas_cons, List.any_cons, ih, eqv_ge]
    simp only [List.map_cons, List.mem_cons]
    by_cases e : x.key = g.key
    · simp [e]
    · have e2 : ¬ g.key = x.key := fun z => e z.symm
      simp [e, e2]
theorem few_ints : ∀ p : List Nat, fewAll (p.map fun n => PyData.int (n : Nat)) = true
  | [] => by simp [fewAll]
  | n :: p => by simp [fewAll, fewB, few_ints p]
theorem few_sets (ps : List Ge) (hp : ps.length ≤ 200) : ∀ pl : List (List Nat × Ge), fewAll (pl.map fun x => ixData (fitIdx ps x.2 ps.length)) = true
  | [] => by simp [fewAll]
  | x :: pl => by
    have q := fitIdx_len ps x.2 ps.length
    have e : fewB (ixData (fitIdx ps x.2 ps.length)) = true := by
      simp only [ixData, fewB, few_ints, List.length_map, Bool.and_true, decide_eq_true_eq]
      omega
    rw [List.map_cons, fewAll, few_sets ps hp pl, e]
    rfl
theorem ints_depth0 : ∀ p : List Nat, PyData.depthAll (p.map fun n => PyData.int (n : Nat)) = 0
  | [] => by simp [PyData.depthAll]
  | n :: p => by simp [PyData.depthAll, PyData.depth, ints_depth0 p]
theorem sets_depth (ps : List Ge) : ∀ pl : List (List Nat × Ge), PyData.depthAll (pl.map fun x => ixData (fitIdx ps x.2 ps.length)) ≤ 1
  | [] => by simp [PyData.depthAll]
  | x :: pl => by
    have q := sets_depth ps pl
    have e : (ixData (fitIdx ps x.2 ps.length)).depth = 1 := by simp only [ixData, PyData.depth, ints_depth0]
    rw [List.map_cons, PyData.depthAll, e]
    omega
section
variable {P : Program} {w : World} {K : PySem.W.Frag} {mg : Str → Option Value} {base : Heap} {f : Addr} {fd : FuncData}
def spLaw (K : PySem.W.Frag) (PT : Addr) : Sp := fun vs H Q _ => ∃ (a : Addr) (ns : List Int), vs = [.ref a] ∧ SqL K H a (ns.map V.int) ∧ ns.length ≤ 63 ∧ LamX.Tabs (TT1 PT) H ∧ ∀ H', Q (.bl true) H'
/-- what holds from turn to turn -/
structure Stand (K : PySem.W.Frag) (PT b q bA pA : Addr) (us ws : List V) (rs : List Ru) (H : Hp) : Prop where
  box : BoxAt H b q
  bk : H bA = some (.lst us)
  nb : bA ∉ [b, q]
  rd : DpAll K H us (rs.map Ru.data)
  pk : H pA = some (.lst ws)
  np : pA ∉ [b, q]
  pd : DpAll K H ws (Ge.datas (partsAt rs))
  tb : LamX.Tabs (TT1 PT) H
theorem Stand.fr {K : PySem.W.Frag} {PT b q bA pA : Addr} {us ws : List V} {rs : List Ru} {H H' : Hp} (s : Stand K PT b q bA pA us ws rs H) (f : Fr [] H H') : Stand K PT b q bA pA us ws rs H' :=
  ⟨s.box.fr0 f, f.keep _ _ (by simp) s.bk, s.nb, f.dpAll _ _ (tupy_rus rs) s.rd, f.keep _ _ (by simp) s.pk, s.np, f.ges s.pd, Tabs.fr0 s.tb f⟩
theorem Stand.frB {K : PySem.W.Frag} {PT b q bA pA : Addr} {us ws : List V} {rs : List Ru} {H H' : Hp} (s : Stand K PT b q bA pA us ws rs H) (f : Fr [b, q] H H') (B : BoxAt H' b q) : Stand K PT b q bA pA us ws rs H' :=
  ⟨B, f.keep _ _ s.nb s.bk, s.nb, f.dpAll _ _ (tupy_rus rs) s.rd, f.keep _ _ s.np s.pk, s.np, f.ges s.pd, Tabs.box s.tb s.box f⟩
theorem Stand.ex {K : PySem.W.Frag} {PT b q bA pA : Addr} {us ws : List V} {rs : List Ru} {H H' : Hp} (s : Stand K PT b q bA pA us ws rs H) (e : Ex H H') (t : LamX.Tabs (TT1 PT) H') : Stand K PT b q bA pA us ws rs H' :=
  ⟨s.box.ex e, e.lst s.bk, s.nb, e.dpAll _ _ (tupy_rus rs) s.rd, e.lst s.pk, s.np, e.dpAll _ _ (Ge.tupy_datas _) s.pd, t⟩
theorem ok_law {PT : Addr} (F : Fun K "law" "law" s_law f fd) (T : Txt K mg) (c_law_begun : Callee P w K mg base 1 "_law_begun" P__law_begun (spBegun K)) (c_law_letters : Callee P w K mg base 2 "_law_letters" P__law_letters (spLetters K)) (c_law_book : Callee P w K mg base 7 "_law_book" P__law_book (spBook K))
    (c_law_within : Callee P w K mg base 4 "_law_within" P__law_within (spWithin K 3)) (c_law_tree : Callee P w K mg base 14 "_law_tree" P__law_tree (spTree K)) (c_law_places : Callee P w K mg base 13 "_law_places" P__law_places (spPlaces K 12))
    (c_law_fits : Callee P w K mg base 4 "_law_fits" P__law_fits (spFits K 3)) (csets_at : Callee P w K mg base 10 "sets_at" P_sets_at (spSets K PT)) (c_law_alike : Callee P w K mg base 4 "_law_alike" P__law_alike (spAlike K 3)) :
    FnOk P w K mg base CX0 15 f fd P_law (spLaw K PT) := by
  refine F.ok sc_law (fun vs H Q E h => ?_) (fun cdv A outer s H vs Q E hr h => ?_)
  · obtain ⟨a, ns, rfl, _⟩ := h
    rfl
  obtain ⟨a, ns, rfl, hS, hns, hT, k⟩ := h
  have nd := (sc_law).nd
  have hu : (A.deeper (envOfC "law" (defScope s_law) s.heap.objs.size f cdv)).units + 65 < cLine := by
    have := hr.un
    omega
  refine ⟨_, pss_cons (ps_set (i := 1) nd rfl (Or.inl rfl) (pe_own c_law_begun hr (pa_cons (pv 0) pa_nil)))
  (pss_cons (ps_set (i := 2) nd rfl (Or.inl rfl) (pe_own c_law_letters hr (pa_cons (pv 1) pa_nil)))
  (pss_cons (ps_set (i := 3) nd rfl (Or.inl rfl) (pe_own c_law_book hr (pa_cons (pv 1) (pa_cons (pv 2) pa_nil))))
  (pss_cons (ps_set (i := 4) nd rfl (Or.inr rfl) (pe_lst pa_nil))
  (pss_cons (ps_for PassesOwn.never rfl (pi_listK K (pv 3)) (pg_name (i := 5) nd rfl (Or.inl rfl))
    (pss_one (ps_for PassesOwn.never rfl (pi_listK K (pe_own c_law_within hr (pa_cons (pe_ix (ix_tupK K) (pv 5) pe_int (fun _ _ => rfl)) pa_nil))) (pg_name (i := 6) nd rfl (Or.inr rfl))
      (pss_one (ps_if (pt_cmpR (op_notInDK K hu) (pv 6) (pv 4) (by rfl))
        (pss_one (ps_expr (pe_bmK K PySem.F.plainAttrs_list PySem.F.slot_list_append PySem.F.type_list_append mt_append (pv 4) (pa_cons (pv 6) pa_nil))))
        (pss_nil))))))
  (pss_cons (ps_for PassesOwn.never rfl (pi_range1 (by rfl) T.range_ (pa_cons pe_int pa_nil)) (pg_name (i := 7) nd rfl (Or.inl rfl))
    (pss_cons (ps_set (i := 8) nd rfl (Or.inl rfl) (pe_own c_law_tree hr (pa_cons (pv 1) (pa_cons (pv 2) pa_nil))))
    (pss_cons (ps_set (i := 9) nd rfl (Or.inl rfl) (pe_lst pa_nil))
    (pss_cons (ps_for PassesOwn.never rfl (pi_listK K (pe_own c_law_places hr (pa_cons (pv 8) pa_nil))) (pg_tupK K rfl (pgs_cons (pg_name (i := 10) nd rfl (Or.inl rfl)) (pgs_cons (pg_name (i := 6) nd rfl (Or.inr rfl)) pgs_nil)))
      (pss_one (ps_expr (pe_bmK K PySem.F.plainAttrs_list PySem.F.slot_list_append PySem.F.type_list_append mt_append (pv 9) (pa_cons (pe_callTy (call_tupK K) (by rfl) T.tuple_ (by decide +kernel) (pa_cons (pe_lc (own := [("_law_k", 13)]) (g := gName 13) (by rfl) nd (pi_range1 (by rfl) T.range_ (pa_cons (pe_callB (call_lenK K) (by rfl) T.len_ PySem.boot_len (pa_cons (pv 4) pa_nil)) pa_nil)) (blkOk_by (N := N_law) (sc := defScope s_law) (own := [("_law_k", 13)]) (by decide +kernel)) (fun _ _ _ _ _ => (pg_name (i := 13) nd rfl (Or.inl rfl))) (fun _ _ _ _ _ => (pts_one (pt_val (pe_own c_law_fits hr (pa_cons (pe_ix (ix_listK K) (pv 4) (pv 13) (fun _ _ => rfl)) (pa_cons (pv 6) pa_nil)))))) (fun _ _ _ _ _ => (pv 13))) pa_nil)) pa_nil)))))
    (pss_one (ps_for PassesOwn.never rfl (pi_range1 (by rfl) T.range_ (pa_cons pe_int pa_nil)) (pg_name (i := 11) nd rfl (Or.inl rfl))
      (pss_cons (ps_set (i := 12) nd rfl (Or.inl rfl) (pe_own csets_at hr (pa_cons (pv 3) (pa_cons (pv 8) pa_nil))))
      (pss_cons (ps_if (pt_not (pt_val (pe_own c_law_alike hr (pa_cons (pv 12) (pa_cons (pv 9) pa_nil)))))
        (pss_one (ps_ret pe_bl))
        (pss_nil))
      (pss_one (ps_expr (pe_bmK K PySem.F.plainAttrs_list PySem.F.slot_list_append PySem.F.type_list_append mt_append (pv 12) (pa_cons (pe_tup pa_nil) pa_nil))))))))))))
  (pss_one (ps_ret pe_bl))))))), ?_⟩
  refine ⟨_, rfl, a, ns, rfl, hS, hns, fun b q H1 f1 hb0 hq0 hB1 => ?_⟩
  refine ⟨_, rfl, b, q, rfl, hB1, fun z H2 hz f2 hB2 => ?_⟩
  refine ⟨_, rfl, _, rfl, b, q, z, rfl, hB2, hz, fun bA us rs H3 f3 hB3 hbn nbq hbk hrd ho hn => ?_⟩
  have T3 : LamX.Tabs (TT1 PT) H3 := Tabs.box (Tabs.box (Tabs.fr0 hT f1) hB1 f2) hB2 f3
  have lu : us.length = rs.length := by rw [DpAll.length hrd, List.length_map]
  refine ⟨Nat.zero_le _, fun pA hpn => ?_⟩
  have f4 : Fr [] H3 (upd H3 pA (.lst [])) := Fr.new hpn
  have npq := hB3.nb hpn
  have hp4 : upd H3 pA (.lst []) pA = some (.lst []) := upd_same
  generalize upd H3 pA (.lst []) = H4 at f4 hp4
  have plen := parts_len ho
  have pwf := parts_wf ho
  refine ⟨_, rfl, bA, rfl, ⟨us, SqL.of (f4.keep _ _ (by simp) hbk)⟩, ?_⟩
  refine for_list (K := K) (a := bA) (xs := us) (fun i σ H' => ∃ (ws : List V) (u5 u6 : Option V), σ = [some (.ref a), some (.ref b), some (.str z), some (.ref bA), some (.ref pA), u5, u6, none, none, none, none, none, none, none] ∧ Fr [] H3 H' ∧ H' pA = some (.lst ws) ∧ DpAll K H' ws (Ge.datas (partsAt (rs.take i))))
    ⟨[], none, none, rfl, f4, hp4, by rw [List.take_zero, show partsAt [] = [] from rfl, Ge.datas_nil]; exact .nil⟩ (fun i σ H' _ ⟨_, _, _, _, ff, _⟩ => SqL.of (ff.keep _ _ (by simp) hbk)) ?_ ?_
  · rintro i y σ H' hy ⟨ws, u5, u6, rfl, ff, hp, hpd⟩
    obtain ⟨dy, hdi, hdy⟩ := DpAll.get hrd hy
    rw [List.getElem?_map] at hdi
    obtain ⟨r, hri, rfl⟩ := Option.map_eq_some_iff.mp hdi
    have ro := ho r (List.mem_of_getElem? hri)
    have hi : i < rs.length := (List.getElem?_eq_some_iff.mp hri).1
    obtain ⟨e, vs4, rfl, hs, hvs⟩ := dp_tuple (ff.dp _ _ (tupy_ru r) hdy)
    obtain ⟨v1, v2, v3, v4, rfl, h1, h2, h3, h4⟩ := dpAll_4 hvs
    have pl := ro.pl
    have psz := ro.ps
    refine ⟨_, rfl, e, _, _, v3, rfl, rfl, hs, rfl, v3, r.pat, rfl, h3, ro.pat, pl, by omega, fun l2 zs H5 f5 hl2 hl2' hz => ⟨l2, rfl, ⟨zs, SqL.of hl2'⟩, ?_⟩⟩
    have ez : zs.length = (within r.pat).length := ges_len hz
    have wl := within_len r.pat
    have pli : (partsAt (rs.take i)).length ≤ 7 * i := by
      have := parts_len (rs := rs.take i) (fun x hx => ho x (List.mem_of_mem_take hx))
      rw [List.length_take] at this
      omega
    have pwi := parts_wf (rs := rs.take i) (fun x hx => ho x (List.mem_of_mem_take hx))
    have nlp : l2 ≠ pA := fun e => by rw [e, hp] at hl2; cases hl2
    refine for_list (K := K) (a := l2) (xs := zs) (fun j σ H2 => ∃ (ys : List V) (u6 : Option V), σ = [some (.ref a), some (.ref b), some (.str z), some (.ref bA), some (.ref pA), some (.ref e), u6, none, none, none, none, none, none, none] ∧ Fr [] H3 H2 ∧ Fr [pA] H5 H2 ∧ H2 pA = some (.lst ys) ∧ DpAll K H2 ys (Ge.datas (((within r.pat).take j).foldl addU (partsAt (rs.take i)))))
      ⟨ws, _, rfl, ff.trans f5, Fr.refl _ _, f5.keep _ _ (by simp) hp, by rw [List.take_zero]; exact f5.ges hpd⟩ (fun j σ H2 _ ⟨_, _, _, _, fd', _⟩ => SqL.of (fd'.keep _ _ (by simpa using nlp) hl2')) ?_ ?_
    · rintro j x σ H2 hxj ⟨ys, u6, rfl, fa, fd', hp2, hpd2⟩
      obtain ⟨g, hg, hgz⟩ := ges_get hz hxj
      have hgz2 := fd'.ge hgz
      obtain ⟨wg, lg⟩ := within_wf ro.pat (List.mem_of_getElem? hg)
      have wacc : ∀ y ∈ ((within r.pat).take j).foldl addU (partsAt (rs.take i)), Wf PatTip y ∧ y.levels ≤ 3 := by
        intro y hy
        rcases addUs_mem hy with h | h
        · exact pwi y h
        · obtain ⟨q1, q2⟩ := within_wf ro.pat (List.mem_of_mem_take h)
          exact ⟨q1, by omega⟩
      have alen : (((within r.pat).take j).foldl addU (partsAt (rs.take i))).length ≤ 200 := by
        have q := addUs_len ((within r.pat).take j) (partsAt (rs.take i))
        rw [List.length_take] at q
        omega
      have yl : ys.length ≤ 200 := by rw [ges_len hpd2]; exact alen
      refine ⟨_, rfl, _, rfl, g.data, _, hgz2, .lst (SqL.of hp2) hpd2, shaped_ge patTip_lay wg (by omega), shaped_lst wacc, _, rfl, ?_⟩
      rw [any_key, fold_take hg]
      refine ite2 (fun c => ?_) (fun c => ?_)
      · have nin : ¬ g.key ∈ (((within r.pat).take j).foldl addU (partsAt (rs.take i))).map Ge.key := by simpa using c
        refine ⟨_, rfl, .inl ⟨rfl, _, SqL.of hp2⟩, _, rfl, pA, ys, x, rfl, rfl, hp2, small1000 (by omega), ?_⟩
        have fl : Fr [pA] H2 (upd H2 pA (.lst (ys ++ [x]))) := Fr.lst hp2 (by simp)
        refine ⟨ys ++ [x], _, rfl, fa.mut hpn, fd'.trans fl, upd_same, ?_⟩
        rw [addU, if_neg nin]
        exact ges_snoc (fl.ges hpd2) (fl.ge hgz2)
      · have hin : g.key ∈ (((within r.pat).take j).foldl addU (partsAt (rs.take i))).map Ge.key := by simpa using c
        refine ⟨ys, _, rfl, fa, fd', hp2, ?_⟩
        rw [addU, if_pos hin]
        exact hpd2
    · rintro σ H2 ⟨ys, u6, rfl, fa, fd', hp2, hpd2⟩
      rw [ez, List.take_length, ← parts_snoc hri] at hpd2
      exact ⟨ys, _, _, rfl, fa, hp2, hpd2⟩
  rintro σ H5 ⟨ws, u5, u6, rfl, f5, hp5, hpd5⟩
  rw [lu, List.take_length] at hpd5
  have st5 : Stand K PT b q bA pA us ws rs H5 := ⟨hB3.fr0 f5, f5.keep _ _ (by simp) hbk, nbq, f5.dpAll _ _ (tupy_rus rs) hrd, hp5, npq, hpd5, Tabs.fr0 T3 f5⟩
  have ew : ws.length = (partsAt rs).length := ges_len hpd5
  refine ⟨4, rfl, by decide, by decide, ?_⟩
  refine for_range (lo := 0) (n := 4) (fun i σ H' => ∃ (u5 u6 u7 u8 u9 u10 u11 u12 u13 : Option V), σ = [some (.ref a), some (.ref b), some (.str z), some (.ref bA), some (.ref pA), u5, u6, u7, u8, u9, u10, u11, u12, u13] ∧ Stand K PT b q bA pA us ws rs H') ⟨_, _, _, _, _, _, _, _, _, rfl, st5⟩ ?_ ?_
  · rintro i σ H6 hi ⟨u5, u6, u7, u8, u9, u10, u11, u12, u13, rfl, st6⟩
    refine ⟨_, rfl, _, rfl, b, q, z, rfl, st6.box, hz, fun g v H7 wg lg sg f7 hB7 hv => ?_⟩
    have st7 := st6.frB f7 hB7
    refine ⟨Nat.zero_le _, fun dA hdn => ?_⟩
    have f8 : Fr [] H7 (upd H7 dA (.lst [])) := Fr.new hdn
    have hd8 : upd H7 dA (.lst []) dA = some (.lst []) := upd_same
    generalize upd H7 dA (.lst []) = H8 at f8 hd8
    refine ⟨_, rfl, v, g, rfl, f8.ge hv, wg, lg, by omega, by omega, fun l3 xs H9 f9 hl3 hl3' hxs => ⟨l3, rfl, ⟨xs, SqL.of hl3'⟩, ?_⟩⟩
    have ex : xs.length = (places g).length := by rw [DpAll.length hxs, List.length_map]
    have gl := places_len g
    have nld : l3 ≠ dA := fun e => by rw [e, hd8] at hl3; cases hl3
    refine for_list (K := K) (a := l3) (xs := xs) (fun j σ H' => ∃ (ds : List V) (u6 u10 u13 : Option V), σ = [some (.ref a), some (.ref b), some (.str z), some (.ref bA), some (.ref pA), u5, u6, some (.int (0 + (i : Nat))), some v, some (.ref dA), u10, u11, u12, u13] ∧ Fr [] H7 H' ∧ Fr [dA] H9 H' ∧ H' dA = some (.lst ds) ∧ DpAll K H' ds (((places g).take j).map fun x => ixData (fitIdx (partsAt rs) x.2 (partsAt rs).length)))
      ⟨[], _, _, _, rfl, f8.trans f9, Fr.refl _ _, f9.keep _ _ (by simp) hd8, by simp; exact .nil⟩ (fun j σ H' _ ⟨_, _, _, _, _, _, fd', _⟩ => SqL.of (fd'.keep _ _ (by simpa using nld) hl3')) ?_ ?_
    · rintro j y σ H' hy ⟨ds, u6, u10, u13, rfl, fa, fd', hdA, hdd⟩
      obtain ⟨dy, hdy1, hdy2⟩ := DpAll.get hxs hy
      rw [List.getElem?_map] at hdy1
      obtain ⟨pl, hpl, rfl⟩ := Option.map_eq_some_iff.mp hdy1
      obtain ⟨c, e, t, rfl, hc, he, ht⟩ := dp_pl (fd'.dp _ _ (tupy_pl pl) hdy2)
      obtain ⟨wt, lt⟩ := within_place wg (List.mem_of_getElem? hpl)
      have st8 := st7.fr fa
      have hj : j < (places g).length := (List.getElem?_eq_some_iff.mp hpl).1
      have dl : ds.length ≤ 60 := by rw [DpAll.length hdd, List.length_map, List.length_take]; omega
      refine ⟨c, _, rfl, hc, rfl, _, _, rfl, _, _, rfl, rfl, ?_⟩
      refine ⟨_, rfl, .inl ⟨rfl, _, SqL.of hdA⟩, _, rfl, pA, ws, rfl, .inl (SqL.of st8.pk), _, rfl, by omega, by omega, fun D hD => ?_⟩
      have nDd : D ≠ dA := fun e => by rw [e, hdA] at hD; cases hD
      refine lc_range (lo := 0) (n := ws.length) (fun m H2 => Fr [] H' H2 ∧ H2 D = some (.lst ((fitIdx (partsAt rs) pl.2 m).map fun n => V.int (n : Nat)))) ⟨Fr.new hD, by rw [upd_same]; simp [fitIdx]⟩ ?_ ?_
      · rintro m H2 hm ⟨f2', hD2⟩
        obtain ⟨x, hx⟩ : ∃ x, ws[m]? = some x := ⟨ws[m], List.getElem?_eq_getElem hm⟩
        obtain ⟨p1, hp1, hpx⟩ := ges_get (f2'.ges st8.pd) hx
        obtain ⟨w1, l1⟩ := pwf p1 (List.mem_of_getElem? hp1)
        have ax : atI ws (0 + (m : Int)) = some x := by rw [Int.zero_add]; exact atI_nat hx
        refine ⟨rfl, _, rfl, _, rfl, pA, ws, _, x, rfl, rfl, SqL.of (f2'.keep _ _ (by simp) st8.pk), ax, _, rfl, x, t, p1, pl.2, rfl, hpx, f2'.ge ht, w1, wt, l1, by omega, fun H3' f3' => ⟨_, rfl, ?_⟩⟩
        have hD3 := f3'.keep D _ (by simp) hD2
        rw [fitIdx_succ hp1]
        cases hf : fits p1 pl.2 with
        | true =>
          refine iteT ⟨_, rfl, _, hD3, ?_, ?_⟩
          · rw [List.length_map]
            exact small1000 (by have := fitIdx_len (partsAt rs) pl.2 m; omega)
          · refine ⟨(f2'.trans f3').mut hD, ?_⟩
            rw [upd_same, if_pos rfl, List.map_append, Int.zero_add]
            rfl
        | false =>
          refine iteF ⟨f2'.trans f3', ?_⟩
          rw [if_neg (by decide)]
          exact hD3
      · rintro H2 ⟨f2', hD2⟩
        rw [ew] at hD2
        refine ⟨D, _, rfl, .inl ⟨SqL.of hD2, fun tA htA => ?_⟩⟩
        have f3' : Fr [] H2 (upd H2 tA (.tup ((fitIdx (partsAt rs) pl.2 (partsAt rs).length).map fun n => V.int (n : Nat)))) := Fr.new htA
        have f23 := f2'.trans f3'
        have hdA3 := f23.keep dA _ (by simp) hdA
        refine ⟨dA, ds, .ref tA, rfl, rfl, hdA3, small1000 (by omega), ?_⟩
        have fl : Fr [dA] (upd H2 tA (.tup ((fitIdx (partsAt rs) pl.2 (partsAt rs).length).map fun n => V.int (n : Nat)))) (upd (upd H2 tA (.tup ((fitIdx (partsAt rs) pl.2 (partsAt rs).length).map fun n => V.int (n : Nat)))) dA (.lst (ds ++ [.ref tA]))) := Fr.lst hdA3 (by simp)
        refine ⟨ds ++ [.ref tA], _, _, _, rfl, (fa.trans f23).mut hdn, (fd'.trans f23.mono0).trans fl, upd_same, ?_⟩
        rw [take_succ' hpl, List.map_append]
        exact DpAll.append (fl.dpAll _ _ (tupy_ixs (fun x => fitIdx (partsAt rs) x.2 (partsAt rs).length) _) (f23.dpAll _ _ (tupy_ixs (fun x => fitIdx (partsAt rs) x.2 (partsAt rs).length) _) hdd)) (.cons (.tup (fl.sqT (SqT.of upd_same)) (dpAll_ints _)) .nil)
    rintro σ H10 ⟨ds, u6', u10', u13', rfl, fa, fd', hdA, hdd⟩
    rw [ex, List.take_length] at hdd
    have st10 := st7.fr fa
    have hv10 := fa.ge hv
    refine ⟨2, rfl, by decide, by decide, ?_⟩
    refine for_range (lo := 0) (n := 2) (fun m σ H' => ∃ (u11 u12 : Option V), σ = [some (.ref a), some (.ref b), some (.str z), some (.ref bA), some (.ref pA), u5, u6', some (.int (0 + (i : Nat))), some v, some (.ref dA), u10', u11, u12, u13'] ∧ Ex H10 H' ∧ LamX.Tabs (TT1 PT) H') ⟨_, _, rfl, LamX.ExtN.refl _, st10.tb⟩ ?_ ?_
    · rintro m σ H11 hm ⟨u11', u12', rfl, e11, T11⟩
      have st11 := st10.ex e11 T11
      refine ⟨_, rfl, _, rfl, bA, v, us, rs, g, rfl, st11.bk, st11.rd, ho, hn, e11.ge hv10, wg, sg, lg, T11, fun l zs H12 e12 T12 hfr hl hz => ?_⟩
      have e1012 : Ex H10 H12 := LamX.ExtN.trans e11 e12
      have hdA12 := e1012.lst hdA
      have hdd12 := e1012.dpAll _ _ (tupy_ixs (fun x => fitIdx (partsAt rs) x.2 (partsAt rs).length) _) hdd
      refine ⟨_, rfl, _, rfl, .ref l, .ref dA, .list (setsData (partsAt rs) g), rfl, .lst (SqL.of hl) hz, .lst (SqL.of hdA12) hdd12, ?_, ?_, fun H13 f13 => ⟨_, rfl, iteF ?_⟩⟩
      · have := sets_depth (partsAt rs) (places g)
        simp only [PyData.depth, setsData]
        omega
      · have q := few_sets (partsAt rs) (by omega) (places g)
        simp only [fewB, setsData, q, List.length_map, Bool.and_true, decide_eq_true_eq]
        omega
      · have hl13 := f13.keep l _ (by simp) hl
        have zl : zs.length ≤ 60 := by rw [DpAll.length hz, setsData, List.length_map]; omega
        refine ⟨_, rfl, .inl ⟨rfl, _, SqL.of hl13⟩, Nat.zero_le _, fun t0 ht0 => ?_⟩
        have f14 : Fr [] H13 (upd H13 t0 (.tup [])) := Fr.new ht0
        have f1314 := f13.trans f14
        have hl14 := f14.keep l _ (by simp) hl13
        refine ⟨l, zs, .ref t0, rfl, rfl, hl14, small1000 (by omega), ?_⟩
        have fl : Fr [l] (upd H13 t0 (.tup [])) (upd (upd H13 t0 (.tup [])) l (.lst (zs ++ [.ref t0]))) := Fr.lst hl14 (by simp)
        have T14 : LamX.Tabs (TT1 PT) (upd H13 t0 (.tup [])) := Tabs.fr0 T12 f1314
        refine ⟨_, _, rfl, Ex.mut (LamX.ExtN.trans e1012 f1314.ex) (Fresh.ex e11 hfr), ?_⟩
        intro p hp
        obtain ⟨ps, h1, h2, h3⟩ := T14 p hp
        refine ⟨ps, ?_, h2, fun pos cv hc => ?_⟩
        · rw [upd_ne (fun z => by rw [z, hl14] at h1; cases h1)]
          exact h1
        · obtain ⟨c, e1, e2⟩ := h3 pos cv hc
          refine ⟨c, e1, ?_⟩
          rw [upd_ne (fun z => by rw [z, hl14] at e2; unfold LamX.CodeO at e2; cases e2)]
          exact e2
    · rintro σ H11 ⟨u11', u12', rfl, e11, T11⟩
      exact ⟨_, _, _, _, _, _, _, _, _, rfl, st10.ex e11 T11⟩
  · rintro σ H6 ⟨u5, u6, u7, u8, u9, u10, u11, u12, u13, rfl, st6⟩
    exact k H6
end
end TT

namespace TT
open PySem PySem.Spec PyProof.Rows L2
/-! ### where each def stands -/
structure At (K : PySem.W.Frag) (x : Str) (st : Stmt) (f : Addr) (fd : FuncData) : Prop where
  nm : PySem.W.nsIn K mainGlobals x = some (some (.ref f))
  F : Fun K x x st f fd
theorem at_mk {K : PySem.W.Frag} {x : Str} {st : Stmt} {f : Addr} {oc : Value} {od an : Option Addr} {osl : Array (Option Value)} {kV doc pm cdv ct : Value} (a : PySem.W.nsIn K mainGlobals x = some (some (.ref f)))
    (l : K.lookup f = some ⟨oc, od, .func (PySem.W.fnOf x x (defArgs st) (defBody st) (defScope st) .none kV doc pm an cdv ct), osl⟩) (c : PySem.W.codeIn K cdv x = true) (k : PySem.W.keepIn K (.ref f) = true) : ∃ f fd, At K x st f fd := ⟨_, _, a, fun_mk l c k⟩
abbrev AtX {K : PySem.W.Frag} {h : Heap} (_ : K.In h) (x : Str) (st : Stmt) : Prop := ∃ f fd, At K x st f fd
abbrev TxtX {K : PySem.W.Frag} {h : Heap} (_ : K.In h) (mg : Str → Option Value) : Prop := Txt K mg
theorem tup_mk {K : PySem.W.Frag} {h : Heap} {mg : Str → Option Value} (X : K.In h) (G : h.Ns mainGlobals mg) {x : Str} {a : Addr} {od : Option Addr} {its : Array Value} {n : Nat} {sl : Array (Option Value)} {us : List V} (e : PySem.W.nsIn K mainGlobals x = some (some (.ref a)))
    (l : K.lookup a = some ⟨.type "tuple", od, .seq its n, sl⟩) (z : its.size ≤ sizeLine) (v : Vals us its.toList) : ∃ a, mg x = some (.ref a) ∧ ∀ H, SqT K H a us :=
  ⟨a, PySem.W.mg_of X G e, fun H => .inr ⟨_, its, n, l, rfl, rfl, z, v⟩⟩
section
variable {l : PySem.W.OpenLaw} {w : World} {K : PySem.W.Frag} {h : Heap} {mg : Str → Option Value}
theorem txt_mk (X : K.In h) (G : h.Ns mainGlobals mg) {t_MOST_KIDS t_MOST_STATE t_MOST_RULES t_MOST_PLACES t_TREE_LEVELS t_MOST_PATTERN_PARTS t_PATTERN_LEVELS t_MOST_BUILD_PARTS t_BUILD_LEVELS t_MOST_PATH : Tok} {a_LETTERS : Addr} {d_LETTERS : Option Addr} {n_LETTERS : Nat} {s_LETTERS : Array (Option Value)} {t_LETTERS0 t_LETTERS1 t_LETTERS2 t_LETTERS3 t_LETTERS4 t_LETTERS5 : Tok} {a_ANY : Addr} {d_ANY : Option Addr} {n_ANY : Nat} {s_ANY : Array (Option Value)} {t_ANY0 : Tok} {a_LEAF : Addr} {d_LEAF : Option Addr} {n_LEAF : Nat} {s_LEAF : Array (Option Value)} {t_LEAF0 : Tok} {a_TOP : Addr} {d_TOP : Option Addr} {n_TOP : Nat} {s_TOP : Array (Option Value)} {t_TOP0 : Tok}
    (z_all : PySem.W.nsIn K mainGlobals "all" = some none)
    (z_bool : PySem.W.nsIn K mainGlobals "bool" = some none)
    (z_enumerate : PySem.W.nsIn K mainGlobals "enumerate" = some none)
    (z_int : PySem.W.nsIn K mainGlobals "int" = some none)
    (z_isinstance : PySem.W.nsIn K mainGlobals "isinstance" = some none)
    (z_len : PySem.W.nsIn K mainGlobals "len" = some none)
    (z_list : PySem.W.nsIn K mainGlobals "list" = some none)
    (z_range : PySem.W.nsIn K mainGlobals "range" = some none)
    (z_reversed : PySem.W.nsIn K mainGlobals "reversed" = some none)
    (z_str : PySem.W.nsIn K mainGlobals "str" = some none)
    (z_sum : PySem.W.nsIn K mainGlobals "sum" = some none)
    (z_tuple : PySem.W.nsIn K mainGlobals "tuple" = some none)
    (z_zip : PySem.W.nsIn K mainGlobals "zip" = some none)
    (i_MOST_KIDS : PySem.W.nsIn K mainGlobals "MOST_KIDS" = some (some (.int 3 t_MOST_KIDS)))
    (i_MOST_STATE : PySem.W.nsIn K mainGlobals "MOST_STATE" = some (some (.int 5 t_MOST_STATE)))
    (i_MOST_RULES : PySem.W.nsIn K mainGlobals "MOST_RULES" = some (some (.int 16 t_MOST_RULES)))
    (i_MOST_PLACES : PySem.W.nsIn K mainGlobals "MOST_PLACES" = some (some (.int 60 t_MOST_PLACES)))
    (i_TREE_LEVELS : PySem.W.nsIn K mainGlobals "TREE_LEVELS" = some (some (.int 12 t_TREE_LEVELS)))
    (i_MOST_PATTERN_PARTS : PySem.W.nsIn K mainGlobals "MOST_PATTERN_PARTS" = some (some (.int 7 t_MOST_PATTERN_PARTS)))
    (i_PATTERN_LEVELS : PySem.W.nsIn K mainGlobals "PATTERN_LEVELS" = some (some (.int 3 t_PATTERN_LEVELS)))
    (i_MOST_BUILD_PARTS : PySem.W.nsIn K mainGlobals "MOST_BUILD_PARTS" = some (some (.int 12 t_MOST_BUILD_PARTS)))
    (i_BUILD_LEVELS : PySem.W.nsIn K mainGlobals "BUILD_LEVELS" = some (some (.int 4 t_BUILD_LEVELS)))
    (i_MOST_PATH : PySem.W.nsIn K mainGlobals "MOST_PATH" = some (some (.int 2 t_MOST_PATH)))
    (e_LETTERS : PySem.W.nsIn K mainGlobals "LETTERS" = some (some (.ref a_LETTERS)))
    (l_LETTERS : K.lookup a_LETTERS = some ⟨.type "tuple", d_LETTERS, .seq #[.str (Str.ofString "a") t_LETTERS0, .str (Str.ofString "b") t_LETTERS1, .str (Str.ofString "c") t_LETTERS2, .str (Str.ofString "d") t_LETTERS3, .str (Str.ofString "e") t_LETTERS4, .str (Str.ofString "f") t_LETTERS5] n_LETTERS, s_LETTERS⟩)
    (e_ANY : PySem.W.nsIn K mainGlobals "ANY" = some (some (.ref a_ANY)))
    (l_ANY : K.lookup a_ANY = some ⟨.type "tuple", d_ANY, .seq #[.str (Str.ofString "any") t_ANY0] n_ANY, s_ANY⟩)
    (e_LEAF : PySem.W.nsIn K mainGlobals "LEAF" = some (some (.ref a_LEAF)))
    (l_LEAF : K.lookup a_LEAF = some ⟨.type "tuple", d_LEAF, .seq #[.str (Str.ofString "leaf") t_LEAF0] n_LEAF, s_LEAF⟩)
    (e_TOP : PySem.W.nsIn K mainGlobals "TOP" = some (some (.ref a_TOP)))
    (l_TOP : K.lookup a_TOP = some ⟨.type "tuple", d_TOP, .seq #[.str (Str.ofString "top") t_TOP0] n_TOP, s_TOP⟩) : Txt K mg where
  all_ := PySem.W.mg_none_of X G z_all
  bool_ := PySem.W.mg_none_of X G z_bool
  enumerate_ := PySem.W.mg_none_of X G z_enumerate
  int_ := PySem.W.mg_none_of X G z_int
  isinstance_ := PySem.W.mg_none_of X G z_isinstance
  len_ := PySem.W.mg_none_of X G z_len
  list_ := PySem.W.mg_none_of X G z_list
  range_ := PySem.W.mg_none_of X G z_range
  reversed_ := PySem.W.mg_none_of X G z_reversed
  str_ := PySem.W.mg_none_of X G z_str
  sum_ := PySem.W.mg_none_of X G z_sum
  tuple_ := PySem.W.mg_none_of X G z_tuple
  zip_ := PySem.W.mg_none_of X G z_zip
  LETTERS := tup_mk X G e_LETTERS l_LETTERS (by show 6 ≤ sizeLine; decide) (.cons ⟨t_LETTERS0, rfl⟩ (.cons ⟨t_LETTERS1, rfl⟩ (.cons ⟨t_LETTERS2, rfl⟩ (.cons ⟨t_LETTERS3, rfl⟩ (.cons ⟨t_LETTERS4, rfl⟩ (.cons ⟨t_LETTERS5, rfl⟩ .nil))))))
  ANY := tup_mk X G e_ANY l_ANY (by show 1 ≤ sizeLine; decide) (.cons ⟨t_ANY0, rfl⟩ .nil)
  LEAF := tup_mk X G e_LEAF l_LEAF (by show 1 ≤ sizeLine; decide) (.cons ⟨t_LEAF0, rfl⟩ .nil)
  TOP := tup_mk X G e_TOP l_TOP (by show 1 ≤ sizeLine; decide) (.cons ⟨t_TOP0, rfl⟩ .nil)
  MOST_KIDS := ⟨_, PySem.W.mg_of X G i_MOST_KIDS⟩
  MOST_STATE := ⟨_, PySem.W.mg_of X G i_MOST_STATE⟩
  MOST_RULES := ⟨_, PySem.W.mg_of X G i_MOST_RULES⟩
  MOST_PLACES := ⟨_, PySem.W.mg_of X G i_MOST_PLACES⟩
  TREE_LEVELS := ⟨_, PySem.W.mg_of X G i_TREE_LEVELS⟩
  MOST_PATTERN_PARTS := ⟨_, PySem.W.mg_of X G i_MOST_PATTERN_PARTS⟩
  PATTERN_LEVELS := ⟨_, PySem.W.mg_of X G i_PATTERN_LEVELS⟩
  MOST_BUILD_PARTS := ⟨_, PySem.W.mg_of X G i_MOST_BUILD_PARTS⟩
  BUILD_LEVELS := ⟨_, PySem.W.mg_of X G i_BUILD_LEVELS⟩
  MOST_PATH := ⟨_, PySem.W.mg_of X G i_MOST_PATH⟩
theorem law_at {fa fB c PT : Addr} {ocB : Value} {odB anB : Option Addr} {slB : Array (Option Value)} {kVB dcB pmB ctB : Value} (X : K.In h) (G : h.Ns mainGlobals mg) (hmg : mg "law" = some (.ref fa)) (T : Txt K mg)
    (A__law_begun : ∃ f fd, At K "_law_begun" s__law_begun f fd) (A__law_take : ∃ f fd, At K "_law_take" s__law_take f fd) (A__law_letters : ∃ f fd, At K "_law_letters" s__law_letters f fd) (A__law_grown : ∃ f fd, At K "_law_grown" s__law_grown f fd) (A__law_tree : ∃ f fd, At K "_law_tree" s__law_tree f fd) (A__law_within : ∃ f fd, At K "_law_within" s__law_within f fd) (A__law_fits : ∃ f fd, At K "_law_fits" s__law_fits f fd) (A__law_places : ∃ f fd, At K "_law_places" s__law_places f fd) (A__law_paths : ∃ f fd, At K "_law_paths" s__law_paths f fd) (A__law_alike : ∃ f fd, At K "_law_alike" s__law_alike f fd) (A__law_parts : ∃ f fd, At K "_law_parts" s__law_parts f fd) (A__law_pattern : ∃ f fd, At K "_law_pattern" s__law_pattern f fd) (A__law_build : ∃ f fd, At K "_law_build" s__law_build f fd) (A__law_rule : ∃ f fd, At K "_law_rule" s__law_rule f fd) (A__law_book : ∃ f fd, At K "_law_book" s__law_book f fd) (A_law : ∃ f fd, At K "law" s_law f fd) (A_is_number : ∃ f fd, At K "is_number" s_is_number f fd) (A_has_form : ∃ f fd, At K "has_form" s_has_form f fd) (A_is_bare : ∃ f fd, At K "is_bare" s_is_bare f fd) (A_kids_within : ∃ f fd, At K "kids_within" s_kids_within f fd) (A_is_path : ∃ f fd, At K "is_path" s_is_path f fd) (A_is_do : ∃ f fd, At K "is_do" s_is_do f fd) (A_is_spot : ∃ f fd, At K "is_spot" s_is_spot f fd) (A_is_within : ∃ f fd, At K "is_within" s_is_within f fd) (A_is_pattern : ∃ f fd, At K "is_pattern" s_is_pattern f fd) (A_is_rule : ∃ f fd, At K "is_rule" s_is_rule f fd) (A_check_book : ∃ f fd, At K "check_book" s_check_book f fd) (A_places_of : ∃ f fd, At K "places_of" s_places_of f fd) (A_pattern_fits : ∃ f fd, At K "pattern_fits" s_pattern_fits f fd) (A_parts_within : ∃ f fd, At K "parts_within" s_parts_within f fd) (A_parts_of : ∃ f fd, At K "parts_of" s_parts_of f fd) (A_fitting_parts : ∃ f fd, At K "fitting_parts" s_fitting_parts f fd) (A_sets_at : ∃ f fd, At K "sets_at" s_sets_at f fd)
    (aB : PySem.W.nsIn K mainGlobals "is_build" = some (some (.ref fB))) (lB : K.lookup fB = some ⟨ocB, odB, .func (PySem.W.fnOf "is_build" "is_build" (defArgs s_is_build) (defBody s_is_build) (defScope s_is_build) .none kVB dcB pmB anB (.ref c) ctB), slB⟩)
    (cB : PySem.W.codeIn K (.ref c) "is_build" = true) (kB : PySem.W.keepIn K (.ref fB) = true) (hP : PySem.W.codeHdIn K c PT = true) (nP : K.lookup PT = none) (tP : h.get? PT = some (PySem.W.tabObj #[])) :
    LamX.LawAtS l w K CX0 15 63 "_law_script" mg fa h := by
  obtain ⟨f__law_begun, fd__law_begun, A__law_begun⟩ := A__law_begun
  have m__law_begun := PySem.W.mg_of X G A__law_begun.nm
  have b__law_begun := A__law_begun.F.binds (ps := P__law_begun) fun _ _ _ _ _ _ us hl => match us, hl with | [_], _ => rfl
  obtain ⟨f__law_take, fd__law_take, A__law_take⟩ := A__law_take
  have m__law_take := PySem.W.mg_of X G A__law_take.nm
  have b__law_take := A__law_take.F.binds (ps := P__law_take) fun _ _ _ _ _ _ us hl => match us, hl with | [_, _], _ => rfl
  obtain ⟨f__law_letters, fd__law_letters, A__law_letters⟩ := A__law_letters
  have m__law_letters := PySem.W.mg_of X G A__law_letters.nm
  have b__law_letters := A__law_letters.F.binds (ps := P__law_letters) fun _ _ _ _ _ _ us hl => match us, hl with | [_], _ => rfl
  obtain ⟨f__law_grown, fd__law_grown, A__law_grown⟩ := A__law_grown
  have m__law_grown := PySem.W.mg_of X G A__law_grown.nm
  have b__law_grown := A__law_grown.F.binds (ps := P__law_grown) fun _ _ _ _ _ _ us hl => match us, hl with | [_, _, _, _], _ => rfl
  obtain ⟨f__law_tree, fd__law_tree, A__law_tree⟩ := A__law_tree
  have m__law_tree := PySem.W.mg_of X G A__law_tree.nm
  have b__law_tree := A__law_tree.F.binds (ps := P__law_tree) fun _ _ _ _ _ _ us hl => match us, hl with | [_, _], _ => rfl
  obtain ⟨f__law_within, fd__law_within, A__law_within⟩ := A__law_within
  have m__law_within := PySem.W.mg_of X G A__law_within.nm
  have b__law_within := A__law_within.F.binds (ps := P__law_within) fun _ _ _ _ _ _ us hl => match us, hl with | [_], _ => rfl
  obtain ⟨f__law_fits, fd__law_fits, A__law_fits⟩ := A__law_fits
  have m__law_fits := PySem.W.mg_of X G A__law_fits.nm
  have b__law_fits := A__law_fits.F.binds (ps := P__law_fits) fun _ _ _ _ _ _ us hl => match us, hl with | [_, _], _ => rfl
  obtain ⟨f__law_places, fd__law_places, A__law_places⟩ := A__law_places
  have m__law_places := PySem.W.mg_of X G A__law_places.nm
  have b__law_places := A__law_places.F.binds (ps := P__law_places) fun _ _ _ _ _ _ us hl => match us, hl with | [_], _ => rfl
  obtain ⟨f__law_paths, fd__law_paths, A__law_paths⟩ := A__law_paths
  have m__law_paths := PySem.W.mg_of X G A__law_paths.nm
  have b__law_paths := A__law_paths.F.binds (ps := P__law_paths) fun _ _ _ _ _ _ us hl => match us, hl with | [_], _ => rfl
  obtain ⟨f__law_alike, fd__law_alike, A__law_alike⟩ := A__law_alike
  have m__law_alike := PySem.W.mg_of X G A__law_alike.nm
  have b__law_alike := A__law_alike.F.binds (ps := P__law_alike) fun _ _ _ _ _ _ us hl => match us, hl with | [_, _], _ => rfl
  obtain ⟨f__law_parts, fd__law_parts, A__law_parts⟩ := A__law_parts
  have m__law_parts := PySem.W.mg_of X G A__law_parts.nm
  have b__law_parts := A__law_parts.F.binds (ps := P__law_parts) fun _ _ _ _ _ _ us hl => match us, hl with | [_], _ => rfl
  obtain ⟨f__law_pattern, fd__law_pattern, A__law_pattern⟩ := A__law_pattern
  have m__law_pattern := PySem.W.mg_of X G A__law_pattern.nm
  have b__law_pattern := A__law_pattern.F.binds (ps := P__law_pattern) fun _ _ _ _ _ _ us hl => match us, hl with | [_, _, _], _ => rfl
  obtain ⟨f__law_build, fd__law_build, A__law_build⟩ := A__law_build
  have m__law_build := PySem.W.mg_of X G A__law_build.nm
  have b__law_build := A__law_build.F.binds (ps := P__law_build) fun _ _ _ _ _ _ us hl => match us, hl with | [_, _, _, _, _], _ => rfl
  obtain ⟨f__law_rule, fd__law_rule, A__law_rule⟩ := A__law_rule
  have m__law_rule := PySem.W.mg_of X G A__law_rule.nm
  have b__law_rule := A__law_rule.F.binds (ps := P__law_rule) fun _ _ _ _ _ _ us hl => match us, hl with | [_, _, _], _ => rfl
  obtain ⟨f__law_book, fd__law_book, A__law_book⟩ := A__law_book
  have m__law_book := PySem.W.mg_of X G A__law_book.nm
  have b__law_book := A__law_book.F.binds (ps := P__law_book) fun _ _ _ _ _ _ us hl => match us, hl with | [_, _], _ => rfl
  obtain ⟨f_law, fd_law, A_law⟩ := A_law
  have m_law := PySem.W.mg_of X G A_law.nm
  have b_law := A_law.F.binds (ps := P_law) fun _ _ _ _ _ _ us hl => match us, hl with | [_], _ => rfl
  obtain ⟨f_is_number, fd_is_number, A_is_number⟩ := A_is_number
  have m_is_number := PySem.W.mg_of X G A_is_number.nm
  have b_is_number := A_is_number.F.binds (ps := P_is_number) fun _ _ _ _ _ _ us hl => match us, hl with | [_, _], _ => rfl
  obtain ⟨f_has_form, fd_has_form, A_has_form⟩ := A_has_form
  have m_has_form := PySem.W.mg_of X G A_has_form.nm
  have b_has_form := A_has_form.F.binds (ps := P_has_form) fun _ _ _ _ _ _ us hl => match us, hl with | [_], _ => rfl
  obtain ⟨f_is_bare, fd_is_bare, A_is_bare⟩ := A_is_bare
  have m_is_bare := PySem.W.mg_of X G A_is_bare.nm
  have b_is_bare := A_is_bare.F.binds (ps := P_is_bare) fun _ _ _ _ _ _ us hl => match us, hl with | [_], _ => rfl
  obtain ⟨f_kids_within, fd_kids_within, A_kids_within⟩ := A_kids_within
  have m_kids_within := PySem.W.mg_of X G A_kids_within.nm
  have b_kids_within := A_kids_within.F.binds (ps := P_kids_within) fun _ _ _ _ _ _ us hl => match us, hl with | [_], _ => rfl
  obtain ⟨f_is_path, fd_is_path, A_is_path⟩ := A_is_path
  have m_is_path := PySem.W.mg_of X G A_is_path.nm
  have b_is_path := A_is_path.F.binds (ps := P_is_path) fun _ _ _ _ _ _ us hl => match us, hl with | [_, _], _ => rfl
  obtain ⟨f_is_do, fd_is_do, A_is_do⟩ := A_is_do
  have m_is_do := PySem.W.mg_of X G A_is_do.nm
  have b_is_do := A_is_do.F.binds (ps := P_is_do) fun _ _ _ _ _ _ us hl => match us, hl with | [_, _], _ => rfl
  obtain ⟨f_is_spot, fd_is_spot, A_is_spot⟩ := A_is_spot
  have m_is_spot := PySem.W.mg_of X G A_is_spot.nm
  have b_is_spot := A_is_spot.F.binds (ps := P_is_spot) fun _ _ _ _ _ _ us hl => match us, hl with | [_], _ => rfl
  obtain ⟨f_is_within, fd_is_within, A_is_within⟩ := A_is_within
  have m_is_within := PySem.W.mg_of X G A_is_within.nm
  have b_is_within := A_is_within.F.binds (ps := P_is_within) fun _ _ _ _ _ _ us hl => match us, hl with | [_, _, _, _], _ => rfl
  obtain ⟨f_is_pattern, fd_is_pattern, A_is_pattern⟩ := A_is_pattern
  have m_is_pattern := PySem.W.mg_of X G A_is_pattern.nm
  have b_is_pattern := A_is_pattern.F.binds (ps := P_is_pattern) fun _ _ _ _ _ _ us hl => match us, hl with | [_], _ => rfl
  obtain ⟨f_is_rule, fd_is_rule, A_is_rule⟩ := A_is_rule
  have m_is_rule := PySem.W.mg_of X G A_is_rule.nm
  have b_is_rule := A_is_rule.F.binds (ps := P_is_rule) fun _ _ _ _ _ _ us hl => match us, hl with | [_], _ => rfl
  obtain ⟨f_check_book, fd_check_book, A_check_book⟩ := A_check_book
  have m_check_book := PySem.W.mg_of X G A_check_book.nm
  have b_check_book := A_check_book.F.binds (ps := P_check_book) fun _ _ _ _ _ _ us hl => match us, hl with | [_], _ => rfl
  obtain ⟨f_places_of, fd_places_of, A_places_of⟩ := A_places_of
  have m_places_of := PySem.W.mg_of X G A_places_of.nm
  have b_places_of := A_places_of.F.binds (ps := P_places_of) fun _ _ _ _ _ _ us hl => match us, hl with | [_], _ => rfl
  obtain ⟨f_pattern_fits, fd_pattern_fits, A_pattern_fits⟩ := A_pattern_fits
  have m_pattern_fits := PySem.W.mg_of X G A_pattern_fits.nm
  have b_pattern_fits := A_pattern_fits.F.binds (ps := P_pattern_fits) fun _ _ _ _ _ _ us hl => match us, hl with | [_, _], _ => rfl
  obtain ⟨f_parts_within, fd_parts_within, A_parts_within⟩ := A_parts_within
  have m_parts_within := PySem.W.mg_of X G A_parts_within.nm
  have b_parts_within := A_parts_within.F.binds (ps := P_parts_within) fun _ _ _ _ _ _ us hl => match us, hl with | [_], _ => rfl
  obtain ⟨f_parts_of, fd_parts_of, A_parts_of⟩ := A_parts_of
  have m_parts_of := PySem.W.mg_of X G A_parts_of.nm
  have b_parts_of := A_parts_of.F.binds (ps := P_parts_of) fun _ _ _ _ _ _ us hl => match us, hl with | [_], _ => rfl
  obtain ⟨f_fitting_parts, fd_fitting_parts, A_fitting_parts⟩ := A_fitting_parts
  have m_fitting_parts := PySem.W.mg_of X G A_fitting_parts.nm
  have b_fitting_parts := A_fitting_parts.F.binds (ps := P_fitting_parts) fun _ _ _ _ _ _ us hl => match us, hl with | [_, _], _ => rfl
  obtain ⟨f_sets_at, fd_sets_at, A_sets_at⟩ := A_sets_at
  have m_sets_at := PySem.W.mg_of X G A_sets_at.nm
  have b_sets_at := A_sets_at.F.binds (ps := P_sets_at) fun _ _ _ _ _ _ us hl => match us, hl with | [_, _], _ => rfl
  have e := hmg.symm.trans m_law
  cases e
  have m_is_build := PySem.W.mg_of X G aB
  have F_is_build := fun_mk (st := s_is_build) lB cB kB
  have b_is_build := F_is_build.binds (ps := P_is_build) fun _ _ _ _ _ _ us hl => match us, hl with | [_, _], _ => rfl
  have CH := PySem.W.codeHd_of_K X hP
  refine ⟨fd_law, [(c, PT)], spLaw K PT, ?_, ?_, ?_, ?_, ?_, ?_⟩
  · intro p hp
    rw [List.mem_singleton.mp hp]
    exact tP
  · intro p hp
    rw [List.mem_singleton.mp hp]
    exact nP
  · intro p hp
    rw [List.mem_singleton.mp hp]
    exact CH
  · obtain ⟨_, _, _, _, _, _, _, _, _, rfl, _, _⟩ := A_law.F.ex
    exact fun s u => .of_eq rfl
  · intro H a ns hl _ ht hS
    refine ⟨a, ns, rfl, hS, hl, fun p hp => ?_, fun _ => rfl⟩
    rw [List.mem_singleton.mp hp]
    exact LamX.TabS.nil (ht (c, PT) (List.mem_singleton.mpr rfl))
  intro base _ _ TBs
  have TB := TBs (c, PT) (List.mem_singleton.mpr rfl)
  have c_law_take : Callee l.prog w K mg base 1 "_law_take" P__law_take (spTake K) := ⟨f__law_take, fd__law_take, ok_take A__law_take.F, m__law_take, A__law_take.F.kp, b__law_take⟩
  have c_law_begun : Callee l.prog w K mg base 1 "_law_begun" P__law_begun (spBegun K) := ⟨f__law_begun, fd__law_begun, ok_begun A__law_begun.F T, m__law_begun, A__law_begun.F.kp, b__law_begun⟩
  have c_law_letters : Callee l.prog w K mg base 2 "_law_letters" P__law_letters (spLetters K) := ⟨f__law_letters, fd__law_letters, ok_letters A__law_letters.F T c_law_take, m__law_letters, A__law_letters.F.kp, b__law_letters⟩
  have c_law_grown : Callee l.prog w K mg base 13 "_law_grown" P__law_grown (spGrown K 12) := ⟨f__law_grown, fd__law_grown, ok_grown A__law_grown.F T c_law_take m__law_grown b__law_grown 12, m__law_grown, A__law_grown.F.kp, b__law_grown⟩
  have c_law_tree : Callee l.prog w K mg base 14 "_law_tree" P__law_tree (spTree K) := ⟨f__law_tree, fd__law_tree, ok_tree A__law_tree.F T c_law_take c_law_grown, m__law_tree, A__law_tree.F.kp, b__law_tree⟩
  have c_law_within : Callee l.prog w K mg base 4 "_law_within" P__law_within (spWithin K 3) := ⟨f__law_within, fd__law_within, ok_within A__law_within.F T m__law_within b__law_within 3, m__law_within, A__law_within.F.kp, b__law_within⟩
  have c_law_fits : Callee l.prog w K mg base 4 "_law_fits" P__law_fits (spFits K 3) := ⟨f__law_fits, fd__law_fits, ok_fits A__law_fits.F T m__law_fits b__law_fits 3, m__law_fits, A__law_fits.F.kp, b__law_fits⟩
  have c_law_places : Callee l.prog w K mg base 13 "_law_places" P__law_places (spPlaces K 12) := ⟨f__law_places, fd__law_places, ok_places A__law_places.F T m__law_places b__law_places 12, m__law_places, A__law_places.F.kp, b__law_places⟩
  have c_law_paths : Callee l.prog w K mg base 1 "_law_paths" P__law_paths (spPaths K) := ⟨f__law_paths, fd__law_paths, ok_paths A__law_paths.F T, m__law_paths, A__law_paths.F.kp, b__law_paths⟩
  have c_law_alike : Callee l.prog w K mg base 4 "_law_alike" P__law_alike (spAlike K 3) := ⟨f__law_alike, fd__law_alike, ok_alike A__law_alike.F T m__law_alike b__law_alike 3, m__law_alike, A__law_alike.F.kp, b__law_alike⟩
  have c_law_parts : Callee l.prog w K mg base 5 "_law_parts" P__law_parts (spParts K 4) := ⟨f__law_parts, fd__law_parts, ok_parts A__law_parts.F T m__law_parts b__law_parts 4, m__law_parts, A__law_parts.F.kp, b__law_parts⟩
  have c_law_pattern : Callee l.prog w K mg base 4 "_law_pattern" P__law_pattern (spPattern K 3) := ⟨f__law_pattern, fd__law_pattern, ok_pattern A__law_pattern.F T c_law_take m__law_pattern b__law_pattern 3, m__law_pattern, A__law_pattern.F.kp, b__law_pattern⟩
  have c_law_build : Callee l.prog w K mg base 5 "_law_build" P__law_build (spBuild K 4) := ⟨f__law_build, fd__law_build, ok_build A__law_build.F T c_law_take m__law_build b__law_build 4, m__law_build, A__law_build.F.kp, b__law_build⟩
  have c_law_rule : Callee l.prog w K mg base 6 "_law_rule" P__law_rule (spRule K) := ⟨f__law_rule, fd__law_rule, ok_rule A__law_rule.F T c_law_take c_law_pattern c_law_parts c_law_paths c_law_build, m__law_rule, A__law_rule.F.kp, b__law_rule⟩
  have c_law_book : Callee l.prog w K mg base 7 "_law_book" P__law_book (spBook K) := ⟨f__law_book, fd__law_book, ok_book A__law_book.F T c_law_take c_law_rule, m__law_book, A__law_book.F.kp, b__law_book⟩
  have cis_number : Callee l.prog w K mg base 1 "is_number" P_is_number (spNumber) := ⟨f_is_number, fd_is_number, ok_number A_is_number.F T, m_is_number, A_is_number.F.kp, b_is_number⟩
  have chas_form : Callee l.prog w K mg base 1 "has_form" P_has_form (spForm K) := ⟨f_has_form, fd_has_form, ok_form A_has_form.F T, m_has_form, A_has_form.F.kp, b_has_form⟩
  have cis_bare : Callee l.prog w K mg base 1 "is_bare" P_is_bare (spBare K) := ⟨f_is_bare, fd_is_bare, ok_bare A_is_bare.F T, m_is_bare, A_is_bare.F.kp, b_is_bare⟩
  have ckids_within : Callee l.prog w K mg base 2 "kids_within" P_kids_within (spKids K) := ⟨f_kids_within, fd_kids_within, ok_kids A_kids_within.F T cis_bare, m_kids_within, A_kids_within.F.kp, b_kids_within⟩
  have cis_path : Callee l.prog w K mg base 3 "is_path" P_is_path (spPath K) := ⟨f_is_path, fd_is_path, ok_path A_is_path.F T ckids_within cis_number, m_is_path, A_is_path.F.kp, b_is_path⟩
  have cis_do : Callee l.prog w K mg base 4 "is_do" P_is_do (spDo K) := ⟨f_is_do, fd_is_do, ok_do A_is_do.F T cis_number cis_path, m_is_do, A_is_do.F.kp, b_is_do⟩
  have cis_spot : Callee l.prog w K mg base 2 "is_spot" P_is_spot (spSpot K) := ⟨f_is_spot, fd_is_spot, ok_spot A_is_spot.F T cis_number, m_is_spot, A_is_spot.F.kp, b_is_spot⟩
  have cis_within : Callee l.prog w K mg base 2 "is_within" P_is_within (spWithB K cis_bare.f) := ⟨f_is_within, fd_is_within, ok_withB A_is_within.F T chas_form cis_bare, m_is_within, A_is_within.F.kp, b_is_within⟩
  have cis_pattern : Callee l.prog w K mg base 3 "is_pattern" P_is_pattern (spIsPat K) := ⟨f_is_pattern, fd_is_pattern, ok_isPat A_is_pattern.F T cis_bare.mgx cis_within, m_is_pattern, A_is_pattern.F.kp, b_is_pattern⟩
  have cis_build : Callee l.prog w K mg base 7 "is_build" P_is_build (spIsBuild K PT) := ⟨fB, _, ok_isBuild lB cB A_is_within.F m_is_within b_is_within T chas_form cis_do TB, m_is_build, kB, b_is_build⟩
  have cis_rule : Callee l.prog w K mg base 8 "is_rule" P_is_rule (spIsRule K PT) := ⟨f_is_rule, fd_is_rule, ok_isRule A_is_rule.F T cis_number cis_spot cis_pattern cis_build, m_is_rule, A_is_rule.F.kp, b_is_rule⟩
  have ccheck_book : Callee l.prog w K mg base 9 "check_book" P_check_book (spCheck K PT) := ⟨f_check_book, fd_check_book, ok_check A_check_book.F T cis_rule, m_check_book, A_check_book.F.kp, b_check_book⟩
  have cplaces_of : Callee l.prog w K mg base 2 "places_of" P_places_of (spPlacesOf l.prog w K) := ⟨f_places_of, fd_places_of, ok_placesOf A_places_of.F T chas_form, m_places_of, A_places_of.F.kp, b_places_of⟩
  have cpattern_fits : Callee l.prog w K mg base 4 "pattern_fits" P_pattern_fits (spPF K 3) := ⟨f_pattern_fits, fd_pattern_fits, ok_pfits A_pattern_fits.F T m_pattern_fits b_pattern_fits 3, m_pattern_fits, A_pattern_fits.F.kp, b_pattern_fits⟩
  have cparts_within : Callee l.prog w K mg base 6 "parts_within" P_parts_within (spPW K 3) := ⟨f_parts_within, fd_parts_within, ok_pwithin A_parts_within.F T ckids_within m_parts_within b_parts_within 3, m_parts_within, A_parts_within.F.kp, b_parts_within⟩
  have cparts_of : Callee l.prog w K mg base 7 "parts_of" P_parts_of (spPO K) := ⟨f_parts_of, fd_parts_of, ok_partsOf A_parts_of.F T cparts_within, m_parts_of, A_parts_of.F.kp, b_parts_of⟩
  have cfitting_parts : Callee l.prog w K mg base 5 "fitting_parts" P_fitting_parts (spFP K) := ⟨f_fitting_parts, fd_fitting_parts, ok_fparts A_fitting_parts.F T cpattern_fits, m_fitting_parts, A_fitting_parts.F.kp, b_fitting_parts⟩
  have csets_at : Callee l.prog w K mg base 10 "sets_at" P_sets_at (spSets K PT) := ⟨f_sets_at, fd_sets_at, ok_sets A_sets_at.F T ccheck_book cplaces_of cparts_of cfitting_parts, m_sets_at, A_sets_at.F.kp, b_sets_at⟩
  exact ok_law A_law.F T c_law_begun c_law_letters c_law_book c_law_within c_law_tree c_law_places c_law_fits csets_at c_law_alike
end
theorem walk {l : PySem.W.OpenLaw} {q : Program} {loose : List Str} {XP : (Str → Option Value) → Heap → Prop} {YP : World → Heap → Prop} {d : DefRec} {K : Params → PySem.W.Frag} (hn : l.most = some 63) (hdf : d.params.defaults = []) (hY : ∀ (w : World) (h : Heap), YP w h → (K w.params).In h)
    (F : ∀ (w : World) (mg : Str → Option Value) (fa : Addr) (h : Heap), YP w h → (K w.params).In h → h.Ns mainGlobals mg → mg d.name = some (.ref fa) → LamX.LawAtS l w (K w.params) CX0 15 63 "_law_script" mg fa h) :
    PySem.W.WalkO q loose XP YP l.row.toRowW d [] (fun f vs => PySem.call f vs) :=
  LamX.walk_ofTs (CX := fun _ => CX0) hn (by decide) hdf ⟨rfl, by decide, by decide⟩ hY F fun _ _ _ _ _ z => z
end TT

open PySem PySem.W PyProof.Rows
set_option maxRecDepth 100000 in
set_option maxHeartbeats 0 in
theorem PySem.Challenge.cw_treetellers_k07_which_parts_fit_holds : PySem.Challenge.rw_treetellers_k07_which_parts_fit.Holds := by
  w_on; o_law; k_head; (case hw => w_witness2)
  k_fill
  refine TT.walk (l := PySem.Challenge.rw_treetellers_k07_which_parts_fit) rfl rfl (fun w h Y => PySem.W.km_in_of Y) ?F
  case F =>
    intro w mg fa h Y KX G hmg
    have T : TT.TxtX KX mg := by
      refine' TT.txt_mk KX G ?z_all ?z_bool ?z_enumerate ?z_int ?z_isinstance ?z_len ?z_list ?z_range ?z_reversed ?z_str ?z_sum ?z_tuple ?z_zip ?i_MOST_KIDS ?i_MOST_STATE ?i_MOST_RULES ?i_MOST_PLACES ?i_TREE_LEVELS ?i_MOST_PATTERN_PARTS ?i_PATTERN_LEVELS ?i_MOST_BUILD_PARTS ?i_BUILD_LEVELS ?i_MOST_PATH ?e_LETTERS ?l_LETTERS ?e_ANY ?l_ANY ?e_LEAF ?l_LEAF ?e_TOP ?l_TOP
      (case z_all => k_is)
      (case z_bool => k_is)
      (case z_enumerate => k_is)
      (case z_int => k_is)
      (case z_isinstance => k_is)
      (case z_len => k_is)
      (case z_list => k_is)
      (case z_range => k_is)
      (case z_reversed => k_is)
      (case z_str => k_is)
      (case z_sum => k_is)
      (case z_tuple => k_is)
      (case z_zip => k_is)
      (case i_MOST_KIDS => k_is)
      (case i_MOST_STATE => k_is)
      (case i_MOST_RULES => k_is)
      (case i_MOST_PLACES => k_is)
      (case i_TREE_LEVELS => k_is)
      (case i_MOST_PATTERN_PARTS => k_is)
      (case i_PATTERN_LEVELS => k_is)
      (case i_MOST_BUILD_PARTS => k_is)
      (case i_BUILD_LEVELS => k_is)
      (case i_MOST_PATH => k_is)
      (case e_LETTERS => k_is)
      (case l_LETTERS => k_is)
      (case e_ANY => k_is)
      (case l_ANY => k_is)
      (case e_LEAF => k_is)
      (case l_LEAF => k_is)
      (case e_TOP => k_is)
      (case l_TOP => k_is)
    have A__law_begun : TT.AtX KX "_law_begun" TT.s__law_begun := by
      refine' TT.at_mk ?a ?l ?c ?k; (case a => k_is); (case l => k_is); (case c => k_is); (case k => k_is)
    have A__law_take : TT.AtX KX "_law_take" TT.s__law_take := by
      refine' TT.at_mk ?a ?l ?c ?k; (case a => k_is); (case l => k_is); (case c => k_is); (case k => k_is)
    have A__law_letters : TT.AtX KX "_law_letters" TT.s__law_letters := by
      refine' TT.at_mk ?a ?l ?c ?k; (case a => k_is); (case l => k_is); (case c => k_is); (case k => k_is)
    have A__law_grown : TT.AtX KX "_law_grown" TT.s__law_grown := by
      refine' TT.at_mk ?a ?l ?c ?k; (case a => k_is); (case l => k_is); (case c => k_is); (case k => k_is)
    have A__law_tree : TT.AtX KX "_law_tree" TT.s__law_tree := by
      refine' TT.at_mk ?a ?l ?c ?k; (case a => k_is); (case l => k_is); (case c => k_is); (case k => k_is)
    have A__law_within : TT.AtX KX "_law_within" TT.s__law_within := by
      refine' TT.at_mk ?a ?l ?c ?k; (case a => k_is); (case l => k_is); (case c => k_is); (case k => k_is)
    have A__law_fits : TT.AtX KX "_law_fits" TT.s__law_fits := by
      refine' TT.at_mk ?a ?l ?c ?k; (case a => k_is); (case l => k_is); (case c => k_is); (case k => k_is)
    have A__law_places : TT.AtX KX "_law_places" TT.s__law_places := by
      refine' TT.at_mk ?a ?l ?c ?k; (case a => k_is); (case l => k_is); (case c => k_is); (case k => k_is)
    have A__law_paths : TT.AtX KX "_law_paths" TT.s__law_paths := by
      refine' TT.at_mk ?a ?l ?c ?k; (case a => k_is); (case l => k_is); (case c => k_is); (case k => k_is)
    have A__law_alike : TT.AtX KX "_law_alike" TT.s__law_alike := by
      refine' TT.at_mk ?a ?l ?c ?k; (case a => k_is); (case l => k_is); (case c => k_is); (case k => k_is)
    have A__law_parts : TT.AtX KX "_law_parts" TT.s__law_parts := by
      refine' TT.at_mk ?a ?l ?c ?k; (case a => k_is); (case l => k_is); (case c => k_is); (case k => k_is)
    have A__law_pattern : TT.AtX KX "_law_pattern" TT.s__law_pattern := by
      refine' TT.at_mk ?a ?l ?c ?k; (case a => k_is); (case l => k_is); (case c => k_is); (case k => k_is)
    have A__law_build : TT.AtX KX "_law_build" TT.s__law_build := by
      refine' TT.at_mk ?a ?l ?c ?k; (case a => k_is); (case l => k_is); (case c => k_is); (case k => k_is)
    have A__law_rule : TT.AtX KX "_law_rule" TT.s__law_rule := by
      refine' TT.at_mk ?a ?l ?c ?k; (case a => k_is); (case l => k_is); (case c => k_is); (case k => k_is)
    have A__law_book : TT.AtX KX "_law_book" TT.s__law_book := by
      refine' TT.at_mk ?a ?l ?c ?k; (case a => k_is); (case l => k_is); (case c => k_is); (case k => k_is)
    have A_law : TT.AtX KX "law" TT.s_law := by
      refine' TT.at_mk ?a ?l ?c ?k; (case a => k_is); (case l => k_is); (case c => k_is); (case k => k_is)
    have A_is_number : TT.AtX KX "is_number" TT.s_is_number := by
      refine' TT.at_mk ?a ?l ?c ?k; (case a => k_is); (case l => k_is); (case c => k_is); (case k => k_is)
    have A_has_form : TT.AtX KX "has_form" TT.s_has_form := by
      refine' TT.at_mk ?a ?l ?c ?k; (case a => k_is); (case l => k_is); (case c => k_is); (case k => k_is)
    have A_is_bare : TT.AtX KX "is_bare" TT.s_is_bare := by
      refine' TT.at_mk ?a ?l ?c ?k; (case a => k_is); (case l => k_is); (case c => k_is); (case k => k_is)
    have A_kids_within : TT.AtX KX "kids_within" TT.s_kids_within := by
      refine' TT.at_mk ?a ?l ?c ?k; (case a => k_is); (case l => k_is); (case c => k_is); (case k => k_is)
    have A_is_path : TT.AtX KX "is_path" TT.s_is_path := by
      refine' TT.at_mk ?a ?l ?c ?k; (case a => k_is); (case l => k_is); (case c => k_is); (case k => k_is)
    have A_is_do : TT.AtX KX "is_do" TT.s_is_do := by
      refine' TT.at_mk ?a ?l ?c ?k; (case a => k_is); (case l => k_is); (case c => k_is); (case k => k_is)
    have A_is_spot : TT.AtX KX "is_spot" TT.s_is_spot := by
      refine' TT.at_mk ?a ?l ?c ?k; (case a => k_is); (case l => k_is); (case c => k_is); (case k => k_is)
    have A_is_within : TT.AtX KX "is_within" TT.s_is_within := by
      refine' TT.at_mk ?a ?l ?c ?k; (case a => k_is); (case l => k_is); (case c => k_is); (case k => k_is)
    have A_is_pattern : TT.AtX KX "is_pattern" TT.s_is_pattern := by
      refine' TT.at_mk ?a ?l ?c ?k; (case a => k_is); (case l => k_is); (case c => k_is); (case k => k_is)
    have A_is_rule : TT.AtX KX "is_rule" TT.s_is_rule := by
      refine' TT.at_mk ?a ?l ?c ?k; (case a => k_is); (case l => k_is); (case c => k_is); (case k => k_is)
    have A_check_book : TT.AtX KX "check_book" TT.s_check_book := by
      refine' TT.at_mk ?a ?l ?c ?k; (case a => k_is); (case l => k_is); (case c => k_is); (case k => k_is)
    have A_places_of : TT.AtX KX "places_of" TT.s_places_of := by
      refine' TT.at_mk ?a ?l ?c ?k; (case a => k_is); (case l => k_is); (case c => k_is); (case k => k_is)
    have A_pattern_fits : TT.AtX KX "pattern_fits" TT.s_pattern_fits := by
      refine' TT.at_mk ?a ?l ?c ?k; (case a => k_is); (case l => k_is); (case c => k_is); (case k => k_is)
    have A_parts_within : TT.AtX KX "parts_within" TT.s_parts_within := by
      refine' TT.at_mk ?a ?l ?c ?k; (case a => k_is); (case l => k_is); (case c => k_is); (case k => k_is)
    have A_parts_of : TT.AtX KX "parts_of" TT.s_parts_of := by
      refine' TT.at_mk ?a ?l ?c ?k; (case a => k_is); (case l => k_is); (case c => k_is); (case k => k_is)
    have A_fitting_parts : TT.AtX KX "fitting_parts" TT.s_fitting_parts := by
      refine' TT.at_mk ?a ?l ?c ?k; (case a => k_is); (case l => k_is); (case c => k_is); (case k => k_is)
    have A_sets_at : TT.AtX KX "sets_at" TT.s_sets_at := by
      refine' TT.at_mk ?a ?l ?c ?k; (case a => k_is); (case l => k_is); (case c => k_is); (case k => k_is)
    refine' TT.law_at KX G hmg T A__law_begun A__law_take A__law_letters A__law_grown A__law_tree A__law_within A__law_fits A__law_places A__law_paths A__law_alike A__law_parts A__law_pattern A__law_build A__law_rule A__law_book A_law A_is_number A_has_form A_is_bare A_kids_within A_is_path A_is_do A_is_spot A_is_within A_is_pattern A_is_rule A_check_book A_places_of A_pattern_fits A_parts_within A_parts_of A_fitting_parts A_sets_at ?aB ?lB ?cB ?kB ?hP ?nP ?tP
    (case aB => k_is)
    (case lB => k_is)
    (case cB => k_is)
    (case kB => k_is)
    (case tP => exact PySem.W.km_tabs_of Y _ (List.mem_singleton.mpr rfl))
    (case hP => kernel_rfl)
    (case nP => kernel_rfl)

